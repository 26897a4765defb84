import PyProof.Rows.All
import Wide.All
import OpenK.AllK
import Wide.FinOn
import Lean
import PyProof.EqAt
import PyProof.EqKinds
import PyProof.TupleCall
import PySem.Challenge.RW_plainglass_k13_nodes_asked
set_option Elab.async false
set_option linter.all false
set_option compiler.extract_closed false
set_option maxRecDepth 100000
namespace L2
open PySem PySem.Spec PyProof.Rows
abbrev Key:=Sum Int Str
noncomputable def uJ:Key->Value->Bool
 |.inl k,v=>Value.isInt k v
 |.inr x,v=>Value.isStrOf x v
noncomputable def KC(w:World):Key->Int
 |.inl k=>hashInt k
 |.inr x=>hashStr w x
theorem dD:∀{k:Key} {v:Value},uJ k v=true->(∃ i t,k=Sum.inl i /\ v=Value.int i t) \/ (∃ x t,k=Sum.inr x /\ v=Value.str x t)
 | .inl i,v,h=>by
   obtain⟨t,e⟩:=Value.isInt_shape (k:=i) (v:=v) h;exact .inl ⟨i,t,rfl,e⟩
 | .inr x,v,h=>by
   obtain⟨t,e⟩:=Value.isStrOf_shape (x:=x) (v:=v) h;exact .inr ⟨x,t,rfl,e⟩
theorem Az(i:Int)(t:Tok):uJ (.inl i) (.int i t)=true:=by simp[uJ,Value.isInt]
theorem A3(x:Str)(t:Tok):uJ (.inr x) (.str x t)=true:=by simp[uJ,Value.isStrOf]
theorem HF(a b:Int):decide ((Sum.inl a:Key)=Sum.inl b)=(a==b):=by
 by_cases e:a=b
 . subst e;simp
 . have h:¬ (Sum.inl a:Key)=Sum.inl b:=fun q=>e (Sum.inl.inj q)
   rw[decide_eq_false h]
   exact(beq_eq_false_iff_ne.mpr e).symm
theorem Gn(a b:Str):decide ((Sum.inr a:Key)=Sum.inr b)=decide (a=b):=by
 by_cases e:a=b
 . subst e;simp
 . have h:¬ (Sum.inr a:Key)=Sum.inr b:=fun q=>e (Sum.inr.inj q)
   rw[decide_eq_false h,decide_eq_false e]
theorem G2(a:Int)(b:Str):decide ((Sum.inl a:Key)=Sum.inr b)=false:=decide_eq_false (fun q=>nomatch q)
theorem GJ(a:Str)(b:Int):decide ((Sum.inr a:Key)=Sum.inl b)=false:=decide_eq_false (fun q=>nomatch q)
noncomputable def hZ(prog:Program)(w:World):PySem.KeyKind prog w Key where
 is:=uJ
 hash:=KC w
 inj:=fun v a b ha hb=>by
  rcases dD ha with⟨i,t,rfl,rfl⟩|⟨x,t,rfl,rfl⟩
  . rcases dD hb with⟨j,u,rfl,e⟩|⟨y,u,rfl,e⟩
    . injection e with e1 _;rw[e1]
    . exact nomatch e
  . rcases dD hb with⟨j,u,rfl,e⟩|⟨y,u,rfl,e⟩
    . exact nomatch e
    . injection e with e1 _;rw[e1]
 byValue:=fun k v h=>by
  rcases dD h with⟨i,t,rfl,rfl⟩|⟨x,t,rfl,rfl⟩<;>rfl
 pyHash:=fun hv h=>by
  rcases dD hv with⟨i,t,rfl,rfl⟩|⟨x,t,rfl,rfl⟩
  . exact wpAny_pyHash_int h
  . exact wpAny_pyHash_str h
 eqBool:=fun hu hv h=>by
  rcases dD hu with⟨i,t,rfl,rfl⟩|⟨x,t,rfl,rfl⟩
  . rcases dD hv with⟨j,u,rfl,rfl⟩|⟨y,u,rfl,rfl⟩
    . rw[HF]at h;exact wpAny_eqBool_int h
    . rw[G2]at h;exact SeqAt.EqAt.int_str i t y u _ _ _ _ h
  . rcases dD hv with⟨j,u,rfl,rfl⟩|⟨y,u,rfl,rfl⟩
    . rw[GJ]at h;exact SeqAt.EqAt.str_int x t j u _ _ _ _ h
    . rw[Gn]at h;exact wpAny_eqBool_str h
 «strs»:=fun k x t v h=>by
  rcases dD h with⟨i,u,rfl,e⟩|⟨y,u,rfl,e⟩
  . exact nomatch e
  . injection e with e1 _
    subst e1
    cases v<;>rfl
theorem xG(prog:Program)(w:World)(i:Int)(t:Tok):(hZ prog w).is (.inl i) (.int i t)=true:=Az i t
theorem xm(prog:Program)(w:World)(x:Str)(t:Tok):(hZ prog w).is (.inr x) (.str x t)=true:=A3 x t
inductive V where
 |non|bl (b:Bool)|int (i:Int)|str (x:Str)|byt (b:Array UInt8)|flt (b:UInt64)|ref (a:Addr)|ty (n:String)
 deriving DecidableEq
noncomputable def RelV:V->Value->Prop
 |.non,u=>u=Value.none
 |.bl b,u=>u=Value.bool b
 |.int i,u=>∃ t,u=Value.int i t
 |.str x,u=>∃ t,u=Value.str x t
 |.byt b,u=>∃ t,u=Value.bytes b t
 |.flt b,u=>∃ t,u=Value.float b t
 |.ref a,u=>u=Value.ref a
 |.ty n,u=>u=Value.type n
abbrev Vals:List V->List Value->Prop:=Paired RelV
theorem Vals.length{xs:List V}{us:List Value}(r:Vals xs us):xs.length=us.length:=Paired.length r
theorem Vals.get:∀{xs:List V} {us:List Value} {i:Nat} {x:V},Vals xs us->xs[i]?=some x->∃ u,us[i]?=some u /\ RelV x u
 |_,_,_,_,.nil,e=>by simp at e
 |_,_,0,_,.cons r _,e=>by simp at e;subst e;exact⟨_,rfl,r⟩
 | _,_,i+1,x,.cons _ t,e=>by
   obtain⟨u,h1,h2⟩:=Vals.get (i:=i) (x:=x) t (by simpa using e)
   exact⟨u,by simpa using h1,h2⟩
theorem Vals.set{x:V}{u:Value}(r:RelV x u):∀{xs:List V} {us:List Value} (i:Nat),Vals xs us->Vals (xs.set i x) (us.set i u)
 |_,_,_,.nil=>.nil
 |_,_,0,.cons _ t=>.cons r t
 |_,_,i+1,.cons q t=>.cons q (Vals.set r i t)
theorem Vals.append:∀{xs ys:List V} {us ws:List Value},Vals xs us->Vals ys ws->Vals (xs++ys) (us++ws)
 |_,_,_,_,.nil,s=>s
 |_,_,_,_,.cons r t,s=>.cons r (Vals.append t s)
theorem Vals.take:∀{xs:List V} {us:List Value} (n:Nat),Vals xs us->Vals (xs.take n) (us.take n)
 |_,_,0,_=>.nil
 |_,_,_+1,.nil=>.nil
 |_,_,n+1,.cons r t=>.cons r (Vals.take n t)
theorem Vals.drop:∀{xs:List V} {us:List Value} (n:Nat),Vals xs us->Vals (xs.drop n) (us.drop n)
 |_,_,0,r=>r
 |_,_,_+1,.nil=>.nil
 |_,_,n+1,.cons _ t=>Vals.drop n t
noncomputable def bB:Option V->Option Value->Prop
 |some v,some u=>RelV v u
 |none,none=>True
 |_,_=>False
noncomputable def KV{κ:Type}:List (κ×V)->List (κ×Value)->Prop:=Paired fun (p:κ×V) (q:κ×Value)=>p.1=q.1 /\ RelV p.2 q.2
noncomputable def kV:Key->V
 |.inl i=>.int i
 |.inr x=>.str x
inductive HO where
  |lst (xs:List V)
  |tup (xs:List V)
  |dK (kvs:List (Key×V))|dT (kvs:List (List Key×Addr×V))
  |set (S:Int->Bool) (n:Nat)
  |ins (C dx:Addr) (fs:List (Str×V))
  |own (x:Addr)
  |xd (fs:List (Str×V))
  |met (f x:Addr)
  |rng (lo hi:Int)
  |frz (o:Obj) (u:HO)
  |tbl (ps:Array Value)
  |ext (φ:Heap->Prop)
abbrev Hp:=Addr->Option HO
noncomputable def upd(H:Hp)(a:Addr)(o:HO):Hp:=fun b=>if b=a then some o else H b
theorem bH{H:Hp}{a:Addr}{o:HO}:upd H a o a=some o:=by unfold upd;rw[if_pos rfl]
theorem bQ{H:Hp}{a b:Addr}{o:HO}(h:b≠a):upd H a o b=H b:=by unfold upd;rw[if_neg h]
theorem E1{H:Hp}{a:Addr}{o u:HO}:upd (upd H a o) a u=upd H a u:=by
 funext b;unfold upd;split<;>rfl
theorem dy{H:Hp}{a b:Addr}{o:HO}(h:H a=some o)(h':H b=none):a≠b:=by
 intro e;subst e;rw[h]at h';cases h'
noncomputable def NoD(h:Heap)(a:Addr):Prop:=∀ o,h.get? a=some o->o.dict=none
theorem NoD.keep{h h':Heap}{a:Addr}{o:Obj}(n:NoD h a)(e:h.get? a=some o)(e':h'.get? a=some o):NoD h' a:=fun u z=>by rw[e']at z;cases z;exact n o e
theorem NoD.of{h:Heap}{a:Addr}{o:Obj}(e:h.get? a=some o)(d:o.dict=none):NoD h a:=fun u z=>by rw[e]at z;cases z;exact d
theorem NoD.new(h:Heap)(xs:Array Value):NoD (h.push { cls:=.type "tuple",data:=.seq xs }) h.objs.size:=.of (Heap.get?_push_size _ rfl) rfl
section
variable(P:Program)(w:World)
noncomputable def fH(H:Hp)(h:Heap)(a:Addr):HO->Prop
 |.lst xs=>xs.length<=sizeLine /\ ∃(its:List Value) (n:Nat),Vals xs its /\ h.get? a=some { cls:=.type "list",data:=.seq its.toArray n }
 |.tup xs=>(xs.length<=sizeLine /\ NoD h a) /\ ∃ its:List Value,Vals xs its /\ IsTup h a its.toArray
 |.dK kvs=>kvs.length<=sizeLine /\ (a==sysModules)=false /\ ∃ vs,KV kvs vs /\ h.DictOf (hZ P w) a vs
 | .dT kvs=>kvs.length <= sizeLine /\ (a == sysModules) = false /\ ∃ xs:List (List Key × Addr × Value),
    Paired (fun (p:List Key×Addr×V) (q:List Key×Addr×Value)=>p.1=q.1 /\ p.2.1=q.2.1 /\ RelV p.2.2 q.2.2) kvs xs /\
    ∃ o es ep,h.get? a=some o /\ o.ExactDict /\ o.data=.dict es ep /\ es.toList=xs.map (entryOfKey (tupleKind (hZ P w))) /\ (xs.map (·.1)).Nodup
 |.set S n=>h.SetOf (intKind P w) a S n
 | .ins C dx fs=>H dx = some (.own a) /\ fs.length <= 1000 /\ dx ≠ a /\ h.get? a = some (PySem.W.instObj C dx) /\
    ∃ mA,h.Ns1 dx mA /\ (∀ f,bB (fs.lookup f) (mA f)) /\ PySem.Within mA (fs.map (·.1))
 |.own _=>∃ o,h.get? a=some o
 |.xd fs=>∃ mA,h.Ns1 a mA /\ ∀ f,bB (fs.lookup f) (mA f)
 |.rng lo hi=>∃ t u v,h.get? a=some { cls:=.type "range",data:=.fields #[.int lo t,.int hi u,.int 1 v] }
 |.frz o u=>h.get? a=some o /\ fH H h a u
 |.tbl ps=>h.get? a=some { cls:=.none,data:=.fields ps }
 |.met f x=>h.get? a=some (PySem.W.methodObj (.ref f) (.ref x))
 |.ext φ=>φ h /\ (∃ o,h.get? a=some o) /\ ∀ h1 h2:Heap,φ h1->(∀ o,h1.get? a=some o->h2.get? a=some o)->φ h2
noncomputable def HOk(H:Hp)(h:Heap):Prop:=∀ a o,H a=some o->fH P w H h a o
end
section
variable{P:Program}{w:World}{H H':Hp}{h h':Heap}{a:Addr}{o:HO}
theorem fH.lt(x:fH P w H h a o):a<h.objs.size:=by
 cases o with
 |lst xs=>obtain⟨_,_,_,_,e⟩:=x;exact Heap.lt_size e
 |tup xs=>obtain⟨_,_,_,p⟩:=x;exact p.lt
 |dK kvs=>obtain⟨_,_,_,_,o,_,_,e,_⟩:=x;exact Heap.lt_size e
 |dT kvs=>obtain⟨_,_,_,_,o,_,_,e,_⟩:=x;exact Heap.lt_size e
 |set S n=>obtain⟨o,_,_,_,e,_⟩:=x;exact Heap.lt_size e
 |ins C dx fs=>obtain⟨_,_,_,e,_⟩:=x;exact Heap.lt_size e
 |own y=>obtain⟨_,e⟩:=x;exact Heap.lt_size e
 |xd fs=>obtain⟨_,⟨_,_,_,e,_⟩,_⟩:=x;exact Heap.lt_size e
 |rng lo hi=>obtain⟨_,_,_,e⟩:=x;exact Heap.lt_size e
 |frz ob u=>obtain⟨e,_⟩:=x;exact Heap.lt_size e
 |tbl ps=>exact Heap.lt_size (show h.get? a=some _ from x)
 |met f y=>exact Heap.lt_size (show h.get? a=some _ from x)
 |ext φ=>obtain⟨_,⟨_,e⟩,_⟩:=x;exact Heap.lt_size e
theorem fH.qR(x:fH P w H h a o)(k:∀ b u,(b=a \/ H b=some (.own a))->h.get? b=some u->h'.get? b=some u)
  (ho:∀ b,H b=some (.own a)->H' b=some (.own a)) (ht:∀ b xs,H b=some (.tup xs)->H' b=some (.tup xs)):fH P w H' h' a o:=by
 induction o with
 |lst xs=>obtain⟨z,its,n,r,e⟩:=x;exact⟨z,its,n,r,k _ _ (.inl rfl) e⟩
 |tup xs=>obtain⟨z,its,r,ob,e,c⟩:=x;exact⟨⟨z.1,z.2.keep e (k _ _ (.inl rfl) e)⟩,its,r,ob,k _ _ (.inl rfl) e,c⟩
 |dK kvs=>obtain⟨z,y,vs,r,ob,es,ep,e,c⟩:=x;exact⟨z,y,vs,r,ob,es,ep,k _ _ (.inl rfl) e,c⟩
 | dT kvs=>
   obtain⟨z,y,xs,r,ob,es,ep,e,c⟩:=x
   exact⟨z,y,xs,r,ob,es,ep,k _ _ (.inl rfl) e,c⟩
 |set S n=>obtain⟨ob,es,ep,t,e,c⟩:=x;exact⟨ob,es,ep,t,k _ _ (.inl rfl) e,c⟩
 | ins C dx fs=>
   obtain⟨d,z,ne,e,mA,⟨od,es,ep,e2,c⟩,r⟩:=x
   exact⟨ho _ d,z,ne,k _ _ (.inl rfl) e,mA,⟨od,es,ep,k _ _ (.inr d) e2,c⟩,r⟩
 |own y=>obtain⟨ob,e⟩:=x;exact⟨ob,k _ _ (.inl rfl) e⟩
 |xd fs=>obtain⟨mA,⟨od,es,ep,e,c⟩,r⟩:=x;exact⟨mA,⟨od,es,ep,k _ _ (.inl rfl) e,c⟩,r⟩
 |rng lo hi=>obtain⟨t,u,v,e⟩:=x;exact⟨t,u,v,k _ _ (.inl rfl) e⟩
 |frz ob u ih=>obtain⟨e,q⟩:=x;exact⟨k _ _ (.inl rfl) e,ih q⟩
 | tbl ps=>
   have e:h.get? a=some { cls:=.none,data:=.fields ps }:=x
   show h'.get? a=some { cls:=.none,data:=.fields ps };exact k a _ (.inl rfl) e
 | met f y=>
   have e:h.get? a=some (PySem.W.methodObj (.ref f) (.ref y)):=x
   show h'.get? a=some (PySem.W.methodObj (.ref f) (.ref y));exact k a _ (.inl rfl) e
 |ext φ=>obtain⟨p,⟨o,e⟩,st⟩:=x;exact⟨st _ _ p fun o q=>k _ _ (.inl rfl) q,⟨o,k _ _ (.inl rfl) e⟩,st⟩
theorem HOk.lt(x:HOk P w H h)(e:H a=some o):a<h.objs.size:=(x a o e).lt
theorem HOk.fresh(x:HOk P w H h)(e:h.objs.size<=a):H a=none:=by
 cases q:H a with
 |none=>rfl
 |some u=>exact absurd (Nat.lt_of_lt_of_le (x.lt q) e) (Nat.lt_irrefl _)
theorem HOk.kept(x:HOk P w H h)(k:∀ b u,h.get? b=some u->h'.get? b=some u):HOk P w H h':=fun a o e=>
 (x a o e).qR (fun b u _ q=>k b u q) (fun _ q=>q) fun _ _ q=>q
theorem HOk.laid(x:HOk P w H h)(k:∀ b u,h.get? b=some u->h'.get? b=some u)(hp:h.objs.size<=a)(new:fH P w (upd H a o) h' a o):HOk P w (upd H a o) h':=fun b u e=>by
 have hn:=x.fresh hp
 by_cases hb:b=a
 . subst hb;rw[bH]at e;cases e;exact new
 . rw[bQ hb]at e
   exact(x b u e).qR (fun c v _ q=>k c v q) (fun c q=>by rw[bQ (dy q hn)];exact q) fun c xs q=>by rw[bQ (dy q hn)];exact q
end
noncomputable def Rd(H:Hp)(a:Addr)(u:HO):Prop:=H a=some u \/ ∃ o,H a=some (.frz o u)
theorem Rd.ok{P:Program}{w:World}{H:Hp}{h:Heap}{a:Addr}{u:HO}(r:Rd H a u)(x:HOk P w H h):fH P w H h a u:=by
 rcases r with r|⟨o,r⟩
 . exact x a u r
 . obtain⟨_,q⟩:=x a _ r;exact q
noncomputable def Mut:Option HO->Prop
 |some (.lst _)=>True
 |some (.dK _)=>True
 |some (.dT _)=>True
 |some (.set _ _)=>True
 |some (.ins _ _ _)=>True
 |some (.ext _)=>True
 |_=>False
section
variable{P:Program}{w:World}{H:Hp}{h h':Heap}{x e:Addr}{o':HO}
theorem HOk.write(ok:HOk P w H h)(mu:Mut (H x))(he:e=x \/ H e=some (.own x))(k:∀ b u,b≠e->h.get? b=some u->h'.get? b=some u)(heo:∃ u,h'.get? e=some u)
  (new:fH P w (upd H x o') h' x o'):HOk P w (upd H x o') h':=fun b u q=>by
 have nown:∀ c y,H c=some (.own y)->c≠x:=fun c y r z=>by subst z;rw[r]at mu;exact mu
 have ntup:∀ c xs,H c=some (.tup xs)->c≠x:=fun c xs r z=>by subst z;rw[r]at mu;exact mu
 by_cases hb:b=x
 . subst hb;rw[bH]at q;cases q;exact new
 . rw[bQ hb]at q
   by_cases hbe:b=e
   . have q':H b = some (.own x):=by
      rcases he with z|z
      . exact absurd (hbe.trans z) hb
      . rw[hbe];exact z
     rw[q]at q';cases q';obtain⟨v,hv⟩:=heo
     exact⟨v,by rw[hbe];exact hv⟩
   . refine(ok b u q).qR (fun c v hc r=>k c v ?_ r) (fun c r=>by rw[bQ (nown c b r)];exact r) fun c xs r=>by rw[bQ (ntup c xs r)];exact r
     rcases hc with rfl|hc
     . exact hbe
     . rintro rfl
       rcases he with z|z
       . exact nown c b hc z
       . rw[hc]at z;cases z;exact hb rfl
end
structure Un(fs ex:List Addr)(H H':Hp)(h h':Heap):Prop where
 keep:∀ b o,h.get? b=some o->H b=none->b∉fs->b∉ex->h'.get? b=some o
 slot:∀ b o,h.get? b=some o->H b=none->b∈fs->b∉ex->∃ sl,h'.get? b=some { o with slots:=sl }
 free:∀ b o,h.get? b=some o->H b=none->b∉ex->H' b=none
 there:∀ b o,h.get? b=some o->b∉ex->∃ o',h'.get? b=some o'
 tups:∀ b xs,H b=some (.tup xs)->H' b=some (.tup xs)
 frzs:∀ b o u,H b=some (.frz o u)->H' b=some (.frz o u)
 tbls:∀ b ps,H b=some (.tbl ps)->∃ more,H' b=some (.tbl (ps++more))
section
variable{fs fs' ex ex':List Addr}{H H1 H2:Hp}{h h1 h2 h':Heap}{a x e:Addr}{o:HO}
theorem Un.any(u:Un fs ex H H1 h h1){b:Addr}{ob:Obj}(q:h.get? b=some ob)(n:H b=none)(hx:b∉ex):∃ sl,h1.get? b=some { ob with slots:=sl }:=by
 by_cases hb:b∈fs
 . exact u.slot b ob q n hb hx
 . exact⟨ob.slots,u.keep b ob q n hb hx⟩
theorem Un.kept(k:∀ b u,h.get? b=some u->h'.get? b=some u):Un fs ex H H h h':=
 ⟨fun b ob q _ _ _=>k b ob q,fun b ob q _ _ _=>⟨ob.slots,k b ob q⟩,fun _ _ _ n _=>n,fun b ob q _=>⟨ob,k b ob q⟩,fun _ _ q=>q,fun _ _ _ q=>q,fun _ ps q=>⟨#[],by rw[q];simp⟩⟩
theorem Un.refl:Un fs ex H H h h:=Un.kept fun _ _ q=>q
theorem Un.laid(k:∀ b u,h.get? b=some u->h'.get? b=some u)(hp:h.objs.size<=a)(hn:H a=none):Un fs ex H (upd H a o) h h' where
 keep:=fun b u q _ _ _=>k b u q
 slot:=fun b u q _ _ _=>⟨u.slots,k b u q⟩
 free:=fun b u q n _=>by rw[bQ (Nat.ne_of_lt (Nat.lt_of_lt_of_le (Heap.lt_size q) hp))];exact n
 there:=fun b u q _=>⟨u,k b u q⟩
 tups:=fun b xs q=>by rw[bQ (dy q hn)];exact q
 frzs:=fun b u xs q=>by rw[bQ (dy q hn)];exact q
 tbls:=fun b ps q=>⟨#[],by rw[bQ (dy q hn),q];simp⟩
theorem Un.write(mu:Mut (H x))(he:e=x \/ H e=some (.own x))(k:∀ b u,b≠e->h.get? b=some u->h'.get? b=some u)(heo:∃ u,h'.get? e=some u):Un fs ex H (upd H x o) h h':=by
 have hx:∀ b,H b=none->b≠x:=fun b n z=>by subst z;rw[n]at mu;exact mu
 have hb:∀ b,H b=none->b≠e:=fun b n z=>by
  subst z
  rcases he with r|r
  . exact hx b n r
  . rw[n]at r;cases r
 have hm:∀ b u,H b=some u->¬ Mut (some u)->b≠x:=fun b u q nm z=>by subst z;rw[q]at mu;exact nm mu
 refine⟨fun b u q n _ _=>k b u (hb b n) q,fun b u q n _ _=>⟨u.slots,k b u (hb b n) q⟩,fun b u q n _=>by rw[bQ (hx b n)];exact n,fun b u q _=>?_,
  fun b xs q=>by rw[bQ (hm b _ q fun z=>z)];exact q,fun b u xs q=>by rw[bQ (hm b _ q fun z=>z)];exact q,fun b ps q=>⟨#[],by rw[bQ (hm b _ q fun z=>z),q];simp⟩⟩
 by_cases hbe:b=e
 . subst hbe;exact heo
 . exact⟨u,k b u hbe q⟩
end
noncomputable def trk(h:Heap)(H:Hp):List Addr:=(List.range h.objs.size).filter fun a=>(H a).isSome
noncomputable def v3(h:Heap)(H:Hp):Heap:=PySem.W.hideAll h (trk h H)
theorem A5(h:Heap)(H:Hp):(v3 h H).objs.size=h.objs.size:=PySem.W.hideAll_size _ _
theorem Cy{h:Heap}{H:Hp}{b:Addr}{o:Obj}(e:h.get? b=some o)(n:H b=none):(v3 h H).get? b=some o:=
 PySem.W.hideAll_get _ e fun hm=>by
  have q:(H b).isSome=true:=(List.mem_filter.mp hm).2
  rw[n]at q;simp at q
theorem Eu{h:Heap}{H:Hp}{b:Addr}{o:Obj}(e:(v3 h H).get? b=some o):h.get? b=some o /\ H b=none:=by
 have e':h.get? b=some o:=PySem.W.of_hideAll (trk h H) e
 refine⟨e',?_⟩
 cases q:H b with
 |none=>rfl
 | some x=>
   have hm:b∈trk h H:=List.mem_filter.mpr ⟨List.mem_range.mpr (Heap.lt_size e'),by simp[q]⟩
   have z:(v3 h H).get? b=none:=PySem.W.hideAll_none (trk h H) hm
   rw[z]at e;cases e
noncomputable def Ew(g h:Heap)(L:Addr):List (Addr×Obj):=(List.range h.objs.size).filterMap fun a=>if a=L \/ (g.get? a).isSome=true then none else(h.get? a).map fun o=>(a,o)
noncomputable def rest(g h:Heap)(L d:Addr):List (Addr×Obj):=(Ew g h L).filter fun p=>decide (p.1≠d)
structure Mod(K:PySem.W.Frag)(mg:Str->Option Value)(base:Heap):Prop where
 kin:K.In base
 glob:base.Ns mainGlobals mg
 blt:∃ mb,base.Ns builtinsNs mb /\ ∀ x:Str,x ≠ "__name__" -> mb x=bootBuiltins x
 nolimit:base.NoLimit
structure Cx where
 prog:Program
 w:World
 K:PySem.W.Frag
 mg:Str->Option Value
 base:Heap
 A:Around
 N:List Str
 s₀:Shared
 H₀:Hp
 env:Env
 outer:List Env
 stack:List Env
 ex:List Addr
 fn:Str->Bool
 calm:Bool
 pn:List (Addr×Obj)
 xe:Value->Shared->Prop
noncomputable def frs(l:List Env):List Addr:=l.filterMap (·.frame)
noncomputable abbrev Cx.fs(X:Cx):List Addr:=frs X.outer
noncomputable def Vis(sc:Scope)(x:Str):Prop:=sc.names.lookup x=some .local \/ sc.names.lookup x=some .cell \/ sc.names.lookup x=some .free
noncomputable def Loc(sc:Scope)(x:Str):Prop:=sc.names.lookup x=some .local \/ sc.names.lookup x=some .cell
noncomputable def Look(env:Env)(h:Heap)(m:Str->Option Value)(x:Str)(u:Value):Prop:=
 (env.kindOf x=some .local /\ m x=some u) \/ ((env.kindOf x=some .cell \/ env.kindOf x=some .free) /\ ∃ c,env.cells.lookup x=some c /\ h.IsCell c (some u))
structure Cx.Ok(X:Cx):Prop where
 mod:Mod X.K X.mg X.base
 kind:X.env.scope.kind=.function
 glob:X.env.globals=mainGlobals
 blt:X.env.builtins=builtinsNs
 above:X.s₀.heap.objs.size<=X.env.locals
 inj:∀ x y c,X.env.cells.lookup x=some c->X.env.cells.lookup y=some c->x=y
 has:∀ x,(X.env.kindOf x=some .cell \/ X.env.kindOf x=some .free)->∃ c,X.env.cells.lookup x=some c
 cab:∀ x c,X.fn x=true->X.env.cells.lookup x=some c->X.s₀.heap.objs.size<=c
 hd:X.calm=true->X.A.handled=none
 frames:X.A.frames=some X.stack
 stk:X.stack=X.outer \/ (X.stack=X.env ::X.outer /\ X.env.frame=some X.env.locals)
 exf:∀ b∈X.ex,b≠X.env.locals /\ ∀ x c,X.env.cells.lookup x=some c->c≠b
 bs:∀ b o,X.base.get? b=some o->X.s₀.heap.get? b=some o /\ X.H₀ b=none
 bsz:X.base.objs.size<=X.s₀.heap.objs.size
 noex:∀ b o,X.base.get? b=some o->b∉X.ex
 exfs:∀ b∈X.ex,b∉X.fs
 sQ:X.s₀.heap.FunFrames X.base X.outer
 frf:∀ b∈X.fs,X.H₀ b=none
structure Inv(X:Cx)(pins:List (Addr×Obj))(σ:List (Option V))(H:Hp)(s:Shared):Prop where
 ok:X.Ok
 os:s.os=X.s₀.os
 bare:AllBare s.gens
 base:Un X.fs X.ex X.H₀ H X.s₀.heap s.heap
 loc:∃ m,s.heap.Ns X.env.locals m /\ ∀(i:Nat) (x:Str) (v:V),X.N[i]?=some x->σ[i]?=some (some v)->Vis X.env.scope x->∃ u,RelV v u /\ Look X.env s.heap m x u
 cell:∀ x c,X.env.cells.lookup x=some c->∃ v,s.heap.IsCell c v
 free:H X.env.locals=none
 freeC:∀ x c,X.env.cells.lookup x=some c->H c=none
 pin:∀ p∈X.pn++pins,s.heap.get? p.1=some p.2 /\ H p.1=none /\ p.1≠X.env.locals /\ p.1∉X.fs /\ ∀ v,p.2.data≠.cell v
 hok:HOk X.prog X.w H s.heap
 len:σ.length=X.N.length
section
variable{X:Cx}{pins:List (Addr×Obj)}{σ:List (Option V)}{H H':Hp}{s:Shared}{h':Heap}
theorem Cx.Ok.Ln(ok:X.Ok){b:Addr}{o:Obj}(e:X.base.get? b=some o):b∉X.fs:=fun hb=>by
 have:=(ok.sQ.mem hb).1;rw[e]at this;cases this
theorem Inv.bs(I:Inv X pins σ H s):∀ b o,X.base.get? b=some o->s.heap.get? b=some o /\ H b=none:=fun b o e=>
 ⟨I.base.keep b o (I.ok.bs b o e).1 (I.ok.bs b o e).2 (I.ok.Ln e) (I.ok.noex b o e),I.base.free b o (I.ok.bs b o e).1 (I.ok.bs b o e).2 (I.ok.noex b o e)⟩
theorem Inv.bk(I:Inv X pins σ H s):∀ b o,X.base.get? b=some o->s.heap.get? b=some o:=fun b o e=>(I.bs b o e).1
theorem Inv.mod(I:Inv X pins σ H s):Mod X.K X.mg X.base:=I.ok.mod
theorem Inv.kIn(I:Inv X pins σ H s):X.K.In s.heap:=I.ok.mod.kin.keeps I.bk
theorem Inv.nolimit(I:Inv X pins σ H s):s.heap.NoLimit:=I.ok.mod.nolimit.keeps I.bk
theorem Inv.lt(I:Inv X pins σ H s):X.env.locals<s.heap.objs.size:=let ⟨_,hn,_⟩:=I.loc;hn.lt
theorem Inv.sz(I:Inv X pins σ H s):X.s₀.heap.objs.size<=s.heap.objs.size:=Nat.le_trans I.ok.above (Nat.le_of_lt I.lt)
theorem Inv.Lk(I:Inv X pins σ H s){a:Addr}(h:s.heap.objs.size<=a):a∉X.fs:=fun hb=>by
 obtain⟨_,o,ho,_⟩:=I.ok.sQ.mem hb;exact absurd (Nat.lt_of_lt_of_le (Heap.lt_size ho) (Nat.le_trans I.sz h)) (Nat.lt_irrefl _)
theorem Inv.cne(I:Inv X pins σ H s):∀ x c,X.env.cells.lookup x=some c->c≠X.env.locals:=fun x c e z=>by
 obtain⟨v,o,ho,hd⟩:=I.cell x c e;obtain⟨m,⟨o',es,ep,ho',hd',_⟩,_⟩:=I.loc;rw[z,ho']at ho;cases ho;rw[hd']at hd;cases hd
theorem Inv.sQ(I:Inv X pins σ H s):s.heap.FunFrames X.base X.outer:=by
 have all:∀(l:List Env),(∀ b∈frs l,b∈X.fs)->X.s₀.heap.FunFrames X.base l->s.heap.FunFrames X.base l:=by
  intro l
  induction l with
  |nil=>intro _ _;trivial
  | cons env r ih=>
    intro hs hl;obtain⟨hk,⟨L,o,hf,hn,ho,hd⟩,hr⟩:=hl
    have hL:L∈X.fs:=hs L (by unfold frs;rw[List.filterMap_cons,hf];exact List.mem_cons_self)
    obtain⟨sl,e⟩:=I.base.slot L o ho (I.ok.frf L hL) hL fun z=>I.ok.exfs L z hL
    exact⟨hk,⟨L,_,hf,hn,e,hd⟩,ih (fun b hb=>hs b (by unfold frs;rw[List.filterMap_cons,hf];exact List.mem_cons_of_mem _ hb)) hr⟩
 exact all X.outer (fun _ hb=>hb) I.ok.sQ
theorem Inv.stack(I:Inv X pins σ H s):s.heap.FunFrames X.base X.stack:=by
 rcases I.ok.stk with e|⟨e,hf⟩
 . rw[e];exact I.sQ
 . rw[e];obtain⟨m,hn,_⟩:=I.loc;refine .cons (by rw[I.ok.kind];decide) hf hn ?_ I.sQ;exact Heap.get?_none_of_le (Nat.le_trans I.ok.bsz I.ok.above)
theorem Inv.vc(I:Inv X pins σ H s):∀ b∈frs X.stack,b∈X.env.locals ::X.fs:=fun b hb=>by
 rcases I.ok.stk with e|⟨e,hf⟩
 . rw[e]at hb;exact List.mem_cons_of_mem _ hb
 . rw[e]at hb;unfold frs at hb;rw[List.filterMap_cons,hf]at hb;exact hb
theorem Inv.rR(I:Inv X pins σ H s):∀ b∈frs X.stack,H b=none:=fun b hb=>by
 rcases List.mem_cons.mp (I.vc b hb)with e|hb
 . rw[e];exact I.free
 . obtain⟨_,o,ho,_⟩:=I.ok.sQ.mem hb
   exact I.base.free b o ho (I.ok.frf b hb) fun z=>I.ok.exfs b z hb
theorem Inv.step{g':Array GenState}{t':Nat}{d':Drawn}{ch:List Addr}(I:Inv X pins σ H s)
  (hch:∀ b∈ch,(b∈X.ex \/ X.s₀.heap.objs.size<=b) /\ b≠X.env.locals /\ (∀ x c,X.env.cells.lookup x=some c->c≠b) /\ ∀ p∈X.pn++pins,p.1≠b)
  (keep:∀ b o,b≠X.env.locals->b∉X.fs->b∉ch->s.heap.get? b=some o->H b=none->h'.get? b=some o)
  (slot:∀ b o,b≠X.env.locals->b∈X.fs->b∉ch->s.heap.get? b=some o->H b=none->∃ sl,h'.get? b=some { o with slots:=sl }) (free:∀ b o,b∉ch->s.heap.get? b=some o->H b=none->H' b=none)
  (there:∀ b o,b∉ch->s.heap.get? b=some o->∃ o',h'.get? b=some o')
  (tups:∀ b xs,H b=some (.tup xs)->H' b=some (.tup xs)) (frzs:∀ b o u,H b=some (.frz o u)->H' b=some (.frz o u)) (tbls:∀ b ps,H b=some (.tbl ps)->∃ more,H' b=some (.tbl (ps++more)))
  (ns:∀ m,s.heap.Ns X.env.locals m->h'.Ns X.env.locals m) (hok:HOk X.prog X.w H' h') (hg:AllBare g'):
  Inv X pins σ H' { s with heap:=h',gens:=g',drawn:=d',toks:=t' }:=by
 have neL:∀ b o,X.s₀.heap.get? b=some o->b≠X.env.locals:=fun b o e=>Nat.ne_of_lt (Nat.lt_of_lt_of_le (Heap.lt_size e) I.ok.above)
 have neC:∀ b o,X.s₀.heap.get? b=some o->b∉X.ex->b∉ch:=fun b o e hx hb=>by
  rcases(hch b hb).1 with z|z
  . exact hx z
  . exact absurd (Nat.lt_of_lt_of_le (Heap.lt_size e) z) (Nat.lt_irrefl _)
 have cellK:∀ x c,X.env.cells.lookup x=some c->∀ v,s.heap.IsCell c v->h'.IsCell c v:=fun x c e v ⟨o,ho,hd⟩=>by
  have nch:c∉ch:=fun z=>(hch c z).2.2.1 x c e rfl
  by_cases hc:c∈X.fs
  . obtain⟨sl,q⟩:=slot c o (I.cne x c e) hc nch ho (I.freeC x c e)
    exact⟨_,q,hd⟩
  . exact⟨o,keep c o (I.cne x c e) hc nch ho (I.freeC x c e),hd⟩
 refine⟨I.ok,I.os,hg,⟨fun b o e n hb hx=>?_,fun b o e n hb hx=>?_,fun b o e n hx=>?_,fun b o e hx=>?_,fun b xs e=>tups b xs (I.base.tups b xs e),fun b o xs e=>frzs b o xs (I.base.frzs b o xs e),fun b ps e=>?_⟩,?_,fun x c e=>?_,?_,fun x c e=>?_,fun p hp=>?_,hok,I.len⟩
 . exact keep b o (neL b o e) hb (neC b o e hx) (I.base.keep b o e n hb hx) (I.base.free b o e n hx)
 . obtain⟨sl,e1⟩:=I.base.slot b o e n hb hx;obtain⟨sl',e2⟩:=slot b _ (neL b o e) hb (neC b o e hx) e1 (I.base.free b o e n hx)
   exact⟨sl',e2⟩
 . obtain⟨o',e1⟩:=I.base.there b o e hx;exact free b o' (neC b o e hx) e1 (I.base.free b o e n hx)
 . obtain⟨o',e1⟩:=I.base.there b o e hx;exact there b o' (neC b o e hx) e1
 . obtain⟨m1,e1⟩:=I.base.tbls b ps e;obtain⟨m2,e2⟩:=tbls b _ e1
   exact⟨m1++m2,by rw[e2,Array.append_assoc]⟩
 . obtain⟨m,hn,hl⟩:=I.loc
   refine⟨m,ns m hn,fun i x v e1 e2 e3=>?_⟩
   obtain⟨u,r,l⟩:=hl i x v e1 e2 e3
   refine⟨u,r,?_⟩
   rcases l with l|⟨k,c,e,z⟩
   . exact .inl l
   . exact .inr ⟨k,c,e,cellK x c e _ z⟩
 . obtain⟨v,z⟩:=I.cell x c e
   exact⟨v,cellK x c e v z⟩
 . obtain⟨m,⟨o,_,_,ho,_⟩,_⟩:=I.loc;exact free _ o (fun z=>(hch _ z).2.1 rfl) ho I.free
 . obtain⟨v,o,ho,hd⟩:=I.cell x c e;exact free c o (fun z=>(hch c z).2.2.1 x c e rfl) ho (I.freeC x c e)
 . obtain⟨e,n,ne,nf,d⟩:=I.pin p hp
   have nch:p.1∉ch:=fun z=>(hch p.1 z).2.2.2 p hp rfl
   exact⟨keep p.1 p.2 ne nf nch e n,free p.1 p.2 nch e n,ne,nf,d⟩
theorem Inv.un{t':Nat}(I:Inv X pins σ H s)(u:Un X.fs [] H H' s.heap h')(hok:HOk X.prog X.w H' h'):Inv X pins σ H' { s with heap:=h',toks:=t' }:=by
 obtain⟨m,⟨o,es,ep,ho,r⟩,_⟩:=id I.loc;obtain⟨sl,hL⟩:=u.any ho I.free (by simp)
 exact I.step (g':=s.gens) (d':=s.drawn) (ch:=[]) (fun _ z=>nomatch z) (fun b o _ hb _ e n=>u.keep b o e n hb (by simp)) (fun b o _ hb _ e n=>u.slot b o e n hb (by simp)) (fun b o _ e n=>u.free b o e n (by simp)) (fun b o _ e=>u.there b o e (by simp)) u.tups u.frzs u.tbls (fun m' hm=>by
  obtain⟨o',es',ep',ho',r'⟩:=hm;rw[ho]at ho';cases ho'
  exact⟨_,es',ep',hL,r'⟩) hok I.bare
theorem Inv.call{g':Array GenState}{t':Nat}{d':Drawn}{ch:List Addr}(I:Inv X pins σ H s)(u:Un (frs X.stack) ch H H' s.heap h')(hok:HOk X.prog X.w H' h')(hg:AllBare g')
  (hch:∀ b∈ch,(b∈X.ex \/ X.s₀.heap.objs.size<=b) /\ b≠X.env.locals /\ (∀ x c,X.env.cells.lookup x=some c->c≠b) /\ ∀ p∈X.pn++pins,p.1≠b):
  Inv X pins σ H' { s with heap:=h',gens:=g',drawn:=d',toks:=t' }:=by
 obtain⟨m,⟨o,es,ep,ho,r⟩,_⟩:=id I.loc
 obtain⟨sl,hL⟩:=u.any ho I.free fun z=>(hch _ z).2.1 rfl
 exact I.step (ch:=ch) hch (fun b o hL hb hc e n=>u.keep b o e n (fun z=>(List.mem_cons.mp (I.vc b z)).elim hL hb) hc) (fun b o _ _ hc e n=>u.any e n hc) (fun b o hc e n=>u.free b o e n hc) (fun b o hc e=>u.there b o e hc) u.tups u.frzs u.tbls (fun m' hm=>by
  obtain⟨o',es',ep',ho',r'⟩:=hm;rw[ho]at ho';cases ho'
  exact⟨_,es',ep',hL,r'⟩) hok hg
theorem Inv.turned{t':Nat}{it:Addr}(I:Inv X pins σ H s)(k:∀ b o,b≠it->s.heap.get? b=some o->h'.get? b=some o)(hn:H it=none)(hL:it≠X.env.locals)
  (h1:it∈X.ex \/ X.s₀.heap.objs.size<=it) (h2:∀ x c,X.env.cells.lookup x=some c->c≠it) (h3:∀ p∈X.pn++pins,p.1≠it):Inv X pins σ H { s with heap:=h',toks:=t' }:=by
 have nit:∀ b u,H b=some u->b≠it:=fun b u e z=>by rw[z,hn]at e;cases e
 refine I.step (g':=s.gens) (d':=s.drawn) (ch:=[it]) (fun b hb=>?_) (fun b o _ _ hc e _=>k b o (fun z=>hc (by simp[z])) e) (fun b o _ _ hc e _=>⟨o.slots,k b o (fun z=>hc (by simp[z])) e⟩) (fun _ _ _ _ n=>n)
  (fun b o hc e=>⟨o,k b o (fun z=>hc (by simp[z])) e⟩) (fun _ _ e=>e) (fun _ _ _ e=>e) (fun b ps e=>⟨#[],by rw[e];simp⟩) (fun m hm=>?_) (fun b u e=>?_) I.bare
 . have e:b=it:=by simpa using hb
   subst e
   exact⟨h1,hL,h2,h3⟩
 . obtain⟨o,es,ep,ho,r⟩:=hm
   exact⟨o,es,ep,k _ o (Ne.symm hL) ho,r⟩
 . refine(I.hok b u e).qR (fun c v hc q=>k c v ?_ q) (fun _ q=>q) fun _ _ q=>q
   rcases hc with z|z
   . rw[z];exact nit b u e
   . exact nit c _ z
theorem Inv.tok(I:Inv X pins σ H s)(t:Nat):Inv X pins σ H { s with toks:=t }:=I.un (h':=s.heap) (t':=t) Un.refl I.hok
theorem Inv.kept{t':Nat}(I:Inv X pins σ H s)(k:∀ b u,s.heap.get? b=some u->h'.get? b=some u):Inv X pins σ H { s with heap:=h',toks:=t' }:=I.un (Un.kept k) (I.hok.kept k)
theorem Inv.laid{a:Addr}{o:HO}{t':Nat}(I:Inv X pins σ H s)(k:∀ b u,s.heap.get? b=some u->h'.get? b=some u)(hp:s.heap.objs.size<=a)(new:fH X.prog X.w (upd H a o) h' a o):
  Inv X pins σ (upd H a o) { s with heap:=h',toks:=t' }:=I.un (Un.laid k hp (I.hok.fresh hp)) (I.hok.laid k hp new)
theorem Inv.write{x e:Addr}{o:HO}{t':Nat}(I:Inv X pins σ H s)(mu:Mut (H x))(he:e=x \/ H e=some (.own x))(k:∀ b u,b≠e->s.heap.get? b=some u->h'.get? b=some u)(heo:∃ u,h'.get? e=some u)
  (new:fH X.prog X.w (upd H x o) h' x o):Inv X pins σ (upd H x o) { s with heap:=h',toks:=t' }:=I.un (Un.write mu he k heo) (I.hok.write mu he k heo new)
theorem Inv.zC{pins':List (Addr×Obj)}(I:Inv X pins σ H s)(h:∀ p∈pins',s.heap.get? p.1=some p.2 /\ H p.1=none /\ p.1≠X.env.locals /\ p.1∉X.fs /\ ∀ v,p.2.data≠.cell v):Inv X pins' σ H s:=
 ⟨I.ok,I.os,I.bare,I.base,I.loc,I.cell,I.free,I.freeC,fun p hp=>(List.mem_append.mp hp).elim (fun z=>I.pin p (List.mem_append_left _ z)) (h p),I.hok,I.len⟩
theorem sU{N:List Str}(hN:N.Nodup){i j:Nat}{x:Str}(a:N[i]?=some x)(b:N[j]?=some x):i=j:=by
 obtain⟨h1,e1⟩:=List.getElem?_eq_some_iff.mp a;obtain⟨h2,e2⟩:=List.getElem?_eq_some_iff.mp b
 exact(List.getElem_inj hN).mp (e1.trans e2.symm)
theorem AI{M:Model}{A:Around}{E:Value->Shared->Prop}{i:Nat}{x:Str}{v:V}{u:Value}{Q:Unit->Shared->Prop}(I:Inv X pins σ H s)(hN:X.N.Nodup)(hi:X.N[i]?=some x)(hx:Loc X.env.scope x)(r:RelV v u)
  (h:∀ s',Inv X pins (σ.set i (some v)) H s'->(∃ a,Heap.SameBut a s.heap s'.heap /\ (a=X.env.locals \/ X.env.cells.lookup x=some a))->Q () s') (hf:X.fn x=true \/ X.env.scope.names.lookup x=some .local:=by first|exact .inl rfl|exact .inr rfl|assumption):wpAny M A (storeName X.env x u) Q E s:=by
 obtain⟨m,hn,hl⟩:=id I.loc
 have hcls:(X.env.scope.kind == .class||(X.env.scope.kind == .module&&X.env.locals != X.env.globals))=false:=by rw[I.ok.kind];rfl
 have hiσ:i<σ.length:=by rw[I.len];exact(List.getElem?_eq_some_iff.mp hi).1
 have cne:=I.cne
 have tracked:∀{a:Addr} {h':Heap},(∃ o,s.heap.get? a=some o /\ H a=none)->Heap.SameBut a s.heap h'->HOk X.prog X.w H h':=fun {a h'} ha hs b ob e=>by
  obtain⟨_,_,hfree⟩:=ha
  refine(I.hok b ob e).qR (fun c w' hc q=>(hs.2 c ?_).trans q) (fun _ q=>q) fun _ _ q=>q
  rintro rfl
  rcases hc with rfl|hc
  . rw[hfree]at e;cases e
  . rw[hfree]at hc;cases hc
 rcases hx with hk|hk
 . refine wpAny_storeName_local hk hn (fun h' hn' hs=>?_) hcls;obtain⟨oL,_,_,hoL,_⟩:=id hn;refine h _ ⟨I.ok,I.os,I.bare,⟨fun b o e n hb hx=>?_,fun b o e n hb hx=>?_,I.base.free,fun b o e hx=>?_,I.base.tups,I.base.frzs,I.base.tbls⟩,⟨_,hn',fun j y v' e1 e2 e3=>?_⟩,fun y c e=>?_,I.free,I.freeC,fun p hp=>?_,tracked ⟨oL,hoL,I.free⟩ hs,by simpa using I.len⟩ ⟨_,hs,.inl rfl⟩
   . exact(hs.2 b (Nat.ne_of_lt (Nat.lt_of_lt_of_le (Heap.lt_size e) I.ok.above))).trans (I.base.keep b o e n hb hx)
   . obtain⟨sl,e1⟩:=I.base.slot b o e n hb hx
     exact⟨sl,(hs.2 b (Nat.ne_of_lt (Nat.lt_of_lt_of_le (Heap.lt_size e) I.ok.above))).trans e1⟩
   . obtain⟨o',e1⟩:=I.base.there b o e hx
     exact⟨o',(hs.2 b (Nat.ne_of_lt (Nat.lt_of_lt_of_le (Heap.lt_size e) I.ok.above))).trans e1⟩
   . by_cases hj:j=i
     . subst hj;rw[hi]at e1;cases e1;rw[List.getElem?_set_self hiσ]at e2;cases e2
       exact⟨u,r,.inl ⟨hk,by simp⟩⟩
     . rw[List.getElem?_set_ne (Ne.symm hj)]at e2;obtain⟨u',r',q⟩:=hl j y v' e1 e2 e3
       refine⟨u',r',?_⟩
       rcases q with⟨k,e⟩|⟨k,c,e,z⟩
       . refine .inl ⟨k,?_⟩
         have:y≠x:=fun e=>hj (sU hN e1 (e ▸ hi))
         simp[this,e]
       . exact .inr ⟨k,c,e,z.sameBut hs (cne y c e)⟩
   . obtain⟨w',z⟩:=I.cell y c e
     exact⟨w',z.sameBut hs (cne y c e)⟩
   . obtain⟨e,n,ne,nf,d⟩:=I.pin p hp
     exact⟨(hs.2 p.1 ne).trans e,n,ne,nf,d⟩
 . have hfn:X.fn x = true:=by
    rcases hf with z|z
    . exact z
    . rw[z]at hk;cases hk
   obtain⟨c,hc⟩:=I.ok.has x (.inl hk);obtain⟨w',z⟩:=I.cell x c hc;refine wpAny_storeName_cell I.ok.kind hk hc z (fun h' hc' hs=>?_);obtain⟨oc,hoc,hocd⟩:=id z;refine h { s with heap:=h' } ⟨I.ok,I.os,I.bare,⟨fun b o e n hb hx=>?_,fun b o e n hb hx=>?_,I.base.free,fun b o e hx=>?_,I.base.tups,I.base.frzs,I.base.tbls⟩,⟨m,hn.sameBut hs (Ne.symm (cne x c hc)),fun j y v' e1 e2 e3=>?_⟩,fun y c' e=>?_,I.free,I.freeC,fun p hp=>?_,tracked ⟨oc,hoc,I.freeC x c hc⟩ hs,by simpa using I.len⟩ ⟨c,hs,.inr hc⟩
   . exact(hs.2 b (Nat.ne_of_lt (Nat.lt_of_lt_of_le (Heap.lt_size e) (I.ok.cab x c hfn hc)))).trans (I.base.keep b o e n hb hx)
   . obtain⟨sl,e1⟩:=I.base.slot b o e n hb hx
     exact⟨sl,(hs.2 b (Nat.ne_of_lt (Nat.lt_of_lt_of_le (Heap.lt_size e) (I.ok.cab x c hfn hc)))).trans e1⟩
   . obtain⟨o',e1⟩:=I.base.there b o e hx
     exact⟨o',(hs.2 b (Nat.ne_of_lt (Nat.lt_of_lt_of_le (Heap.lt_size e) (I.ok.cab x c hfn hc)))).trans e1⟩
   . by_cases hj:j=i
     . subst hj;rw[hi]at e1;cases e1;rw[List.getElem?_set_self hiσ]at e2;cases e2
       exact⟨u,r,.inr ⟨.inl hk,c,hc,hc'⟩⟩
     . rw[List.getElem?_set_ne (Ne.symm hj)]at e2;obtain⟨u',r',q⟩:=hl j y v' e1 e2 e3
       refine⟨u',r',?_⟩
       rcases q with q|⟨k,c',e,z'⟩
       . exact .inl q
       . refine .inr ⟨k,c',e,z'.sameBut hs ?_⟩
         rintro rfl
         exact hj (sU hN e1 (I.ok.inj _ _ _ e hc ▸ hi))
   . by_cases hcc:c'=c
     . subst hcc;exact⟨_,hc'⟩
     . obtain⟨w2,z2⟩:=I.cell y c' e
       exact⟨w2,z2.sameBut hs hcc⟩
   . obtain⟨e,n,ne,nf,d⟩:=I.pin p hp
     refine⟨(hs.2 p.1 ?_).trans e,n,ne,nf,d⟩
     intro q;rw[q,hoc]at e
     have q':oc=p.2:=Option.some.inj e
     exact d w' (by rw[<- q'];exact hocd)
theorem gg{M:Model}{A:Around}{E:Value->Shared->Prop}{i:Nat}{x:Str}{v:V}{u:Value}{Q:Unit->Shared->Prop}(I:Inv X pins σ H s)(hN:X.N.Nodup)(hi:X.N[i]?=some x)(hx:Loc X.env.scope x)(r:RelV v u)
  (h:∀ s',Inv X pins (σ.set i (some v)) H s'->Q () s') (hf:X.fn x=true \/ X.env.scope.names.lookup x=some .local:=by first|exact .inl rfl|exact .inr rfl|assumption):wpAny M A (storeName X.env x u) Q E s:=
 AI I hN hi hx r (fun s' I' _=>h s' I') hf
theorem Inv.CF{s':Shared}{ch:List Addr}(I:Inv X pins σ H s)(ho:s'.os=s.os)(u:Un (frs X.stack) ch H H' s.heap s'.heap)(hok:HOk X.prog X.w H' s'.heap)(hg:AllBare s'.gens)
  (hch:∀ b∈ch,(b∈X.ex \/ X.s₀.heap.objs.size<=b) /\ b≠X.env.locals /\ (∀ x c,X.env.cells.lookup x=some c->c≠b) /\ ∀ p∈X.pn++pins,p.1≠b):Inv X pins σ H' s':=by
 obtain⟨h',g',d',t',o'⟩:=s'
 have e:o'=s.os:=ho
 subst e;exact I.call (g':=g') (t':=t') (d':=d') u hok hg hch
end
abbrev XK:=Value->Option Addr->Hp->Prop
abbrev St:=List (Option V)
abbrev VK:=V->Hp->Prop
abbrev TE:=St->Hp->VK->Prop
abbrev TT:=St->Hp->(Bool->Hp->Prop)->Prop
abbrev TA:=St->Hp->(List V->Hp->Prop)->Prop
structure Ends where
 nx:St->Hp->Prop
 rt:VK
 bk:St->Hp->Prop:=fun _ _=>False
 ct:St->Hp->Prop:=fun _ _=>False
abbrev TS:=Ends->St->Hp->Prop
noncomputable def EP(X:Cx)(pins:List (Addr×Obj))(σ:St)(Q:VK)(u:Value)(s':Shared):Prop:=∃ v H',Inv X pins σ H' s' /\ RelV v u /\ Q v H'
noncomputable def TP(X:Cx)(pins:List (Addr×Obj))(σ:St)(Q:Bool->Hp->Prop)(b:Bool)(s':Shared):Prop:=∃ H',Inv X pins σ H' s' /\ Q b H'
noncomputable def AP(X:Cx)(pins:List (Addr×Obj))(σ:St)(Q:List V->Hp->Prop)(us:List Value)(s':Shared):Prop:=∃ vs H',Inv X pins σ H' s' /\ Vals vs us /\ Q vs H'
noncomputable def SP(X:Cx)(pins:List (Addr×Obj))(D:Ends)(f:Flow)(s':Shared):Prop:=
 match f with
 |.next=>∃ σ' H',Inv X pins σ' H' s' /\ D.nx σ' H'
 |.brk=>∃ σ' H',Inv X pins σ' H' s' /\ D.bk σ' H'
 |.cont=>∃ σ' H',Inv X pins σ' H' s' /\ D.ct σ' H'
 |.ret u=>∃ v σ' H',Inv X pins σ' H' s' /\ RelV v u /\ D.rt v H'
noncomputable def PE(X:Cx)(e:Expr)(t:TE):Prop:=
 ∀(pins:List (Addr×Obj)) (s:Shared) (σ:St) (H:Hp) (Q:VK),Inv X pins σ H s->t σ H Q->wpAny (model X.prog X.w) X.A (eval e X.env) (EP X pins σ Q) X.xe s
noncomputable def PT(X:Cx)(e:Expr)(t:TT):Prop:=
 ∀(pins:List (Addr×Obj)) (s:Shared) (σ:St) (H:Hp) (Q:Bool->Hp->Prop),Inv X pins σ H s->t σ H Q->wpAny (model X.prog X.w) X.A (isTrue e X.env (eval e X.env)) (TP X pins σ Q) X.xe s
noncomputable def PW(X:Cx)(e:Expr)(t:TT):Prop:=
 ∀(whole:Sem Value) (pins:List (Addr×Obj)) (s:Shared) (σ:St) (H:Hp) (Q:Bool->Hp->Prop),Inv X pins σ H s->t σ H Q->wpAny (model X.prog X.w) X.A (isTrue e X.env whole) (TP X pins σ Q) X.xe s
theorem PW.pt{X:Cx}{e:Expr}{t:TT}(h:PW X e t):PT X e t:=h _
noncomputable def PA(X:Cx)(es:List Expr)(t:TA):Prop:=
 ∀(pos:Pos) (pins:List (Addr×Obj)) (s:Shared) (σ:St) (H:Hp) (Q:List V->Hp->Prop),Inv X pins σ H s->t σ H Q->wpAny (model X.prog X.w) X.A (spliced (backTo pos (starEach es X.env))) (AP X pins σ Q) X.xe s
noncomputable def PS(X:Cx)(st:Stmt)(t:TS):Prop:=
 ∀(pins:List (Addr×Obj)) (s:Shared) (σ:St) (H:Hp) (D:Ends),Inv X pins σ H s->t D σ H->wpAny (model X.prog X.w) X.A (exec st X.env) (SP X pins D) X.xe s
noncomputable def PSs(X:Cx)(st:List Stmt)(t:TS):Prop:=
 ∀(pins:List (Addr×Obj)) (s:Shared) (σ:St) (H:Hp) (D:Ends),Inv X pins σ H s->t D σ H->wpAny (model X.prog X.w) X.A (execs st X.env) (SP X pins D) X.xe s
theorem thn{α:Type}{t:Sem α}{Q Q':α->Shared->Prop}{M:Model}{A:Around}{E:Value->Shared->Prop}{s:Shared}(h:wpAny M A t Q E s)(hQ:∀ a s,Q a s->Q' a s):wpAny M A t Q' E s:=wpAny_mono h hQ fun _ _ x=>x
section
variable{X:Cx}
theorem bin{a b:Expr}{ta tb:TE}(ha:PE X a ta)(hb:PE X b tb){pins:List (Addr×Obj)}{s:Shared}{σ:St}{H:Hp}{R:V->V->Hp->Prop}(I:Inv X pins σ H s)(h:ta σ H fun x H1=>tb σ H1 fun y H2=>R x y H2)
  {α:Type} {Q:α->Shared->Prop} {f:Value->Value->Sem α}
  (hf:∀ v u s2 x y H2,Inv X pins σ H2 s2->RelV x v->RelV y u->R x y H2->wpAny (model X.prog X.w) X.A (f v u) Q X.xe s2):
  wpAny (model X.prog X.w) X.A (eval a X.env) (fun v s₁=>wpAny (model X.prog X.w) X.A (eval b X.env) (fun u s₂=>wpAny (model X.prog X.w) X.A (f v u) Q X.xe s₂) X.xe s₁) X.xe s:=by
 refine thn (ha pins s σ H _ I h) fun v s1 ⟨x,H1,I1,r1,q1⟩=>?_
 refine thn (hb pins s1 σ H1 _ I1 q1) fun u s2 ⟨y,H2,I2,r2,q2⟩=>?_
 exact hf v u s2 x y H2 I2 r1 r2 q2
noncomputable def yj(i:Nat):TE:=fun σ H Q=>∃ v,σ[i]?=some (some v) /\ Q v H
noncomputable def tC(v:V):TE:=fun _ H Q=>Q v H
theorem HP{i:Nat}{x:Str}{pos:Pos}(hN:X.N[i]?=some x)(hv:Vis X.env.scope x)(hd:(x==("__debug__":Str))=false:=by decide)(hcd:(x==("__classdict__":Str))=false:=by decide):PE X (.Name x pos) (yj i):=by
 intro pins s σ H Q I h;obtain⟨v,e,h⟩:=h;obtain⟨m,hn,hl⟩:=I.loc;obtain⟨u,r,l⟩:=hl i x v hN e hv
 have fin:EP X pins σ Q u s:=⟨v,H,I,r,h⟩
 rcases l with⟨hk,hm⟩|⟨hk,c,hc,hcell⟩
 . exact wpAny_Name (wpAny_loadName_local I.ok.kind hk hn hm fin) hd
 . rcases hk with hk|hk
   . exact wpAny_Name (wpAny_loadName_cell I.ok.kind hk hc hcell fin) hd
   . exact wpAny_Name (wpAny_loadName_free I.ok.kind hk hc hcell fin hcd) hd
theorem Ga{i j pos}:PE X (.Constant (.int i) j pos) (tC (.int i)):=fun _ _ _ H _ I h=>wpAny_Constant_int ⟨.int i,H,I.tok _,⟨_,rfl⟩,h⟩
theorem Ji{b j pos}:PE X (.Constant (.bool b) j pos) (tC (.bl b)):=fun _ _ _ H _ I h=>Constant_bool ⟨.bl b,H,I,rfl,h⟩
theorem Ii{j pos}:PE X (.Constant .none j pos) (tC .non):=fun _ _ _ H _ I h=>Constant_none ⟨.non,H,I,rfl,h⟩
theorem HY{x j pos}:PE X (.Constant (.str x) j pos) (tC (.str x)):=fun _ _ _ H _ I h=>Calls.Constant_str ⟨.str x,H,I.tok _,⟨_,rfl⟩,h⟩
noncomputable def Gl(X:Cx)(x:Str):Prop:=X.env.kindOf x=some .globalImplicit
theorem rY{E:Value->Shared->Prop}{pins:List (Addr×Obj)}{s:Shared}{σ:St}{H:Hp}{x:Str}{u:Value}{pos:Pos}{Q:Value->Shared->Prop}(I:Inv X pins σ H s)(hg:Gl X x)(hm:X.mg x=some u)(h:Q u s)
  (hd:(x==("__debug__":Str))=false:=by decide):wpAny (model X.prog X.w) X.A (eval (.Name x pos) X.env) Q E s:=
 Calls.Name_function_global I.ok.kind hg (Calls.loadGlobal_global (by rw[I.ok.glob];exact I.mod.glob.keeps I.bk) hm h) hd
theorem qL{E:Value->Shared->Prop}{pins:List (Addr×Obj)}{s:Shared}{σ:St}{H:Hp}{x:Str}{u:Value}{pos:Pos}{Q:Value->Shared->Prop}(I:Inv X pins σ H s)(hg:Gl X x)(hm:X.mg x=none)(hv:bootBuiltins x=some u)(h:Q u s)
  (hn:x ≠ "__name__":=by decide) (hd:(x==("__debug__":Str))=false:=by decide):wpAny (model X.prog X.w) X.A (eval (.Name x pos) X.env) Q E s:=by
 obtain⟨mb,h1,h2⟩:=I.mod.blt;exact Calls.Name_function_global I.ok.kind hg (Calls.loadGlobal_builtin (by rw[I.ok.glob];exact I.mod.glob.keeps I.bk) hm (by rw[I.ok.blt];exact h1.keeps I.bk) ((h2 x hn).trans hv) h) hd
theorem EX{x:Str}{v:V}{u:Value}{pos:Pos}(hg:Gl X x)(hm:X.mg x=some u)(r:RelV v u)(hd:(x==("__debug__":Str))=false:=by decide):PE X (.Name x pos) (tC v):=
 fun _ _ _ H _ I h=>rY I hg hm ⟨v,H,I,r,h⟩ hd
theorem D3{x:Str}{v:V}{u:Value}{pos:Pos}(hg:Gl X x)(hm:X.mg x=none)(hv:bootBuiltins x=some u)(r:RelV v u)(hn:x ≠ "__name__":=by decide)(hd:(x==("__debug__":Str))=false:=by decide):PE X (.Name x pos) (tC v):=
 fun _ _ _ H _ I h=>qL I hg hm hv ⟨v,H,I,r,h⟩ hn hd
variable{a b:Expr}{ta tb:TE}{pos:Pos}
noncomputable def PC(X:Cx)(op:CmpOp)(a b:Expr)(t:TE):Prop:=
 ∀(pins:List (Addr×Obj)) (s:Shared) (σ:St) (H:Hp) (Q:VK),Inv X pins σ H s->t σ H Q ->
   wpAny (model X.prog X.w) X.A (eval a X.env) (fun v s₁=>wpAny (model X.prog X.w) X.A (eval b X.env) (fun u s₂=>wpAny (model X.prog X.w) X.A (compareOp op v u) (EP X pins σ Q) X.xe s₂) X.xe s₁) X.xe s
theorem yc(b:Expr){op:CmpOp}(h:op≠.In)(h2:op≠.NotIn):behindInMarks op b=false:=by
 have e1:(op==CmpOp.In)=false:=by cases op<;>first|rfl|exact absurd rfl h
 have e2:(op==CmpOp.NotIn)=false:=by cases op<;>first|rfl|exact absurd rfl h2
 cases b<;>simp[behindInMarks,e1,e2]
noncomputable def tB(t:TE):TT:=fun σ H Q=>t σ H fun x H1=>∃ c,x=.bl c /\ Q c H1
theorem GB{op:CmpOp}{t:TE}(h:PC X op a b t)(h1:behindInMarks op b=false:=by first|exact yc _ (by decide) (by decide)|rfl):PT X (.Compare a [op] [b] pos) (tB t):=by
 intro pins s σ H Q I hw;refine wpAny_isTrue_Compare1 (thn (h pins s σ H _ I hw) fun v s1 h1=>thn h1 fun u s2 h2=>thn h2 fun c s3 ⟨x,H1,I1,r1,q1⟩=>?_) h1;obtain⟨d,rfl,q⟩:=q1;cases r1;exact wpAny_truthy_bool ⟨H1,I1,q⟩
variable{tA tB':TT}{rest:List Expr}
noncomputable def HJ(t u:TT):TT:=fun σ H Q=>t σ H fun c H1=>if c=true then u σ H1 Q else Q false H1
noncomputable def tOr(t u:TT):TT:=fun σ H Q=>t σ H fun c H1=>if c=true then Q true H1 else u σ H1 Q
noncomputable def G0(t:TT):TT:=fun σ H Q=>t σ H fun c H1=>Q (!c) H1
theorem Ek(ha:PT X a tA):PW X (.BoolOp .And [a] pos) tA:=by
 intro wh pins s σ H Q I h;refine isTrue_and (thn (ha pins s σ H Q I h) fun c s1 e=>?_)
 cases c with
 |true=>exact isTrue_and_nil e
 |false=>exact e
theorem G1(ha:PT X a tA):PW X (.BoolOp .Or [a] pos) tA:=by
 intro wh pins s σ H Q I h;refine isTrue_or (thn (ha pins s σ H Q I h) fun c s1 e=>?_)
 cases c with
 |false=>exact isTrue_or_nil e
 |true=>exact e
theorem Im(ha:PT X a tA)(hb:PW X (.BoolOp .And (b ::rest) pos) tB'):PW X (.BoolOp .And (a ::b ::rest) pos) (HJ tA tB'):=by
 intro wh pins s σ H Q I h;refine isTrue_and (thn (ha pins s σ H _ I h) fun c s1 ⟨H1,I1,q1⟩=>?_)
 cases c with
 |true=>exact hb wh pins s1 σ H1 Q I1 q1
 |false=>exact⟨H1,I1,q1⟩
theorem JG(ha:PT X a tA)(hb:PW X (.BoolOp .Or (b ::rest) pos) tB'):PW X (.BoolOp .Or (a ::b ::rest) pos) (tOr tA tB'):=by
 intro wh pins s σ H Q I h;refine isTrue_or (thn (ha pins s σ H _ I h) fun c s1 ⟨H1,I1,q1⟩=>?_)
 cases c with
 |true=>exact⟨H1,I1,q1⟩
 |false=>exact hb wh pins s1 σ H1 Q I1 q1
theorem Ia(ha:PT X a tA):PT X (.UnaryOp .Not a pos) (G0 tA):=by
 intro pins s σ H Q I h;exact isTrue_not (ha pins s σ H (fun c H1=>Q (!c) H1) I h)
noncomputable def BJ(ta tb:TE):TE:=fun σ H Q=>ta σ H fun x H1=>∃ c,x=.bl c /\ if c=true then tb σ H1 Q else Q (.bl false) H1
noncomputable def Dq(ta:TE):TE:=fun σ H Q=>ta σ H fun x H1=>∃ c,x=.bl c /\ Q (.bl (!c)) H1
theorem H0{op}{t:TE}(h:PE X a t):PE X (.BoolOp op [a] pos) t:=fun pins s σ H Q I hw=>BoolOp_one (h pins s σ H Q I hw)
theorem Gg(ha:PE X a ta)(hb:PE X (.BoolOp .And (b ::rest) pos) tb):PE X (.BoolOp .And (a ::b ::rest) pos) (BJ ta tb):=by
 intro pins s σ H Q I h;refine BoolOp_and (thn (ha pins s σ H _ I h) fun v s1 ⟨x,H1,I1,r1,q1⟩=>?_);obtain⟨c,rfl,q1⟩:=q1;cases r1;refine wpAny_truthy_bool ?_
 cases c with
 |true=>exact hb pins s1 σ H1 Q I1 q1
 |false=>exact⟨.bl false,H1,I1,rfl,q1⟩
theorem HD(ha:PE X a ta):PE X (.UnaryOp .Not a pos) (Dq ta):=by
 intro pins s σ H Q I h;refine UnaryOp_ (thn (ha pins s σ H _ I h) fun v s1 ⟨x,H1,I1,r1,q1⟩=>?_);obtain⟨c,rfl,q1⟩:=q1;cases r1;exact not_of (wpAny_truthy_bool ⟨.bl (!c),H1,I1,rfl,q1⟩)
noncomputable def tIf(t:TT)(ta tb:TE):TE:=fun σ H Q=>t σ H fun c H1=>if c=true then ta σ H1 Q else tb σ H1 Q
theorem Di{c:Expr}(hc:PT X c tA)(ha:PE X a ta)(hb:PE X b tb):PE X (.IfExp c a b pos) (tIf tA ta tb):=by
 intro pins s σ H Q I h;refine wpAny_IfExp (thn (hc pins s σ H _ I h) fun d s1 ⟨H1,I1,q1⟩=>?_)
 cases d with
 |true=>exact ha pins s1 σ H1 Q I1 q1
 |false=>exact hb pins s1 σ H1 Q I1 q1
end
noncomputable def SqL(K:PySem.W.Frag)(H:Hp)(a:Addr)(xs:List V):Prop:=
 Rd H a (.lst xs) \/
  ∃(o:Obj) (its:Array Value) (n:Nat),K.lookup a=some o /\ o.cls=.type "list" /\ o.dict=none /\ o.data=.seq its n /\ its.size<=sizeLine /\ Vals xs its.toList
noncomputable def SqT(K:PySem.W.Frag)(H:Hp)(a:Addr)(xs:List V):Prop:=
 Rd H a (.tup xs) \/
  ∃(o:Obj) (its:Array Value) (n:Nat),K.lookup a=some o /\ (o.cls=.type "tuple" /\ o.dict=none) /\ o.data=.seq its n /\ its.size<=sizeLine /\ Vals xs its.toList
noncomputable def Lx:Value->Option V
 |.none=>some .non
 |.bool b=>some (.bl b)
 |.int i _=>some (.int i)
 |.str x _=>some (.str x)
 |.bytes b _=>some (.byt b)
 |.float b _=>some (.flt b)
 |.ref a=>some (.ref a)
 |.type n=>some (.ty n)
 |_=>none
theorem RelV.abs{x:V}{u:Value}(r:RelV x u):Lx u=some x:=by
 cases x with
 |non=>cases r;rfl
 |bl _=>cases r;rfl
 |int _=>obtain⟨t,rfl⟩:=r;rfl
 |str _=>obtain⟨t,rfl⟩:=r;rfl
 |byt _=>obtain⟨t,rfl⟩:=r;rfl
 |flt _=>obtain⟨t,rfl⟩:=r;rfl
 |ref _=>cases r;rfl
 |ty _=>cases r;rfl
theorem RelV.inj{x y:V}{u:Value}(r:RelV x u)(q:RelV y u):x=y:=Option.some.inj (r.abs.symm.trans q.abs)
theorem Vals.inj:∀{xs ys:List V} {us:List Value},Vals xs us->Vals ys us->xs=ys
 |_,_,_,.nil,.nil=>rfl
 |_,_,_,.cons r t,.cons r' t'=>by rw[r.inj r',Vals.inj t t']
section
variable{X:Cx}{pins:List (Addr×Obj)}{σ:St}{H:Hp}{s:Shared}{a:Addr}{xs ys:List V}
theorem Inv.list(I:Inv X pins σ H s)(h:SqL X.K H a xs):∃ its:List Value,Vals xs its /\ PlainL s.heap a its.toArray /\ xs.length<=sizeLine:=by
 rcases h with h|⟨o,its,n,hk,hc,hd,hs,hz,r⟩
 . obtain⟨z,its,n,r,e⟩:=h.ok I.hok
   exact⟨its,r,⟨_,n,e,rfl,rfl,rfl⟩,z⟩
 . refine⟨its.toList,r,⟨o,n,I.kIn a o hk,hc,hd,by simpa using hs⟩,?_⟩
   have e:=r.length;simp only[Array.length_toList]at e;omega
theorem Inv.tuple(I:Inv X pins σ H s)(h:SqT X.K H a xs):∃ its:List Value,Vals xs its /\ IsTup s.heap a its.toArray /\ xs.length<=sizeLine:=by
 rcases h with h|⟨o,its,n,hk,hc,hs,hz,r⟩
 . obtain⟨z,its,r,p⟩:=h.ok I.hok
   exact⟨its,r,p,z.1⟩
 . refine⟨its.toList,r,⟨o,I.kIn a o hk,hc.1,n,by simpa using hs⟩,?_⟩
   have e:=r.length;simp only[Array.length_toList]at e;omega
theorem Inv.BZ(I:Inv X pins σ H s)(h:SqL X.K H a xs)(h':SqL X.K H a ys):xs=ys:=by
 obtain⟨its,r,⟨o,n,e,_,_,d⟩,_⟩:=I.list h;obtain⟨its',r',⟨o',n',e',_,_,d'⟩,_⟩:=I.list h';rw[e]at e';cases e';rw[d]at d'
 injection d' with d1 _
 have:its=its':=by simpa using congrArg Array.toList d1
 subst this;exact r.inj r'
end
section
variable{X:Cx}{st:Stmt}{rest:List Stmt}{t u:TS}{e:Expr}{te:TE}{pos:Pos}
noncomputable def Bt:TS:=fun D σ H=>D.nx σ H
noncomputable def HU(t u:TS):TS:=fun D σ H=>t { D with nx:=u D } σ H
theorem D5:PSs X [] Bt:=fun _ _ σ H _ I h=>wpAny_execs_nil ⟨σ,H,I,h⟩
theorem Cd(h1:PS X st t)(h2:PSs X rest u):PSs X (st ::rest) (HU t u):=by
 intro pins s σ H D I h;refine wpAny_execs_cons (thn (h1 pins s σ H { D with nx:=u D } I h) fun f s1 q=>?_)
 cases f with
 | next=>
   obtain⟨σ',H',I',q⟩:=q;exact h2 pins s1 σ' H' D I' q
 |ret v=>exact q
 |brk=>exact q
 |cont=>exact q
theorem EH(h1:PS X st t):PSs X [st] t:=by
 intro pins s σ H D I h;refine wpAny_execs_cons (thn (h1 pins s σ H D I h) fun f s1 q=>?_)
 cases f with
 |next=>exact wpAny_execs_nil q
 |ret v=>exact q
 |brk=>exact q
 |cont=>exact q
theorem Inv.quiet{pins:List (Addr×Obj)}{σ:St}{H:Hp}{s:Shared}(I:Inv X pins σ H s):interactive X.env=false:=by simp[interactive,I.ok.kind]
noncomputable def tN(te:TE):TS:=fun D σ H=>te σ H fun _ H1=>D.nx σ H1
theorem D2(he:PE X e te)(hs:swapsWith e none pos.line X.env=pure false:=by rfl):PS X (.Expr e pos) (tN te):=by
 intro pins s σ H D I h;exact wpAny_Expr_any (thn (he pins s σ H _ I h) fun v s1 ⟨x,H1,I1,r1,q1⟩=>⟨σ,H1,I1,q1⟩) I.quiet hs
noncomputable def EG(te:TE):TS:=fun D σ H=>te σ H D.rt
theorem Hl(he:PE X e te):PS X (.Return (some e) pos) (EG te):=by
 intro pins s σ H D I h;exact wpAny_Return_some (thn (he pins s σ H _ I h) fun v s1 ⟨x,H1,I1,r1,q1⟩=>⟨x,σ,H1,I1,r1,q1⟩)
noncomputable def Iv(c:TT)(t u:TS):TS:=fun D σ H=>c σ H fun b H1=>if b=true then t D σ H1 else u D σ H1
theorem Jw{c:Expr}{a b:List Stmt}{tc:TT}(hc:PT X c tc)(ha:PSs X a t)(hb:PSs X b u):PS X (.If c a b pos) (Iv tc t u):=by
 intro pins s σ H D I h;refine wpAny_If (thn (hc pins s σ H _ I h) fun d s1 ⟨H1,I1,q1⟩=>?_)
 cases d with
 |true=>exact ha pins s1 σ H1 D I1 q1
 |false=>exact hb pins s1 σ H1 D I1 q1
end
abbrev TG:=V->St->Hp->(St->Hp->Prop)->Prop
abbrev TGs:=List V->St->Hp->(St->Hp->Prop)->Prop
noncomputable def PG(X:Cx)(target:Expr)(t:TG):Prop:=
 ∀(pins:List (Addr×Obj)) (s:Shared) (σ:St) (H:Hp) (v:V) (u:Value) (Q:St->Hp->Prop),Inv X pins σ H s->RelV v u->t v σ H Q ->
   wpAny (model X.prog X.w) X.A (assign target X.env u) (fun _ s'=>∃ σ' H',Inv X pins σ' H' s' /\ Q σ' H') X.xe s
abbrev EU:=V->V->V->Hp->(Hp->Prop)->Prop
noncomputable def GI(X:Cx)(t:EU):Prop:=
 ∀(pins:List (Addr×Obj)) (s:Shared) (σ:St) (H:Hp) (o i v:V) (ov iv u:Value) (Q:Hp->Prop),Inv X pins σ H s->RelV o ov->RelV i iv->RelV v u->t o i v H Q ->
   wpAny (model X.prog X.w) X.A (setItem ov iv u) (fun _ s'=>∃ H',Inv X pins σ H' s' /\ Q H') X.xe s
abbrev TIp:=V->V->Hp->VK->Prop
noncomputable def PIp(X:Cx)(op:Operator)(t:TIp):Prop:=
 ∀(pins:List (Addr×Obj)) (s:Shared) (σ:St) (H:Hp) (x y:V) (v u:Value) (Q:VK),Inv X pins σ H s->RelV x v->RelV y u->t x y H Q ->
   wpAny (model X.prog X.w) X.A (inplaceOp op v u) (EP X pins σ Q) X.xe s
section
variable{X:Cx}{pos:Pos}
noncomputable def ir(i:Nat):TG:=fun v σ H Q=>Q (σ.set i (some v)) H
theorem Ea{i:Nat}{x:Str}(hN:X.N.Nodup)(hi:X.N[i]?=some x)(hx:Loc X.env.scope x)(hf:X.fn x=true \/ X.env.scope.names.lookup x=some .local:=by first|exact .inl rfl|exact .inr rfl|assumption):PG X (.Name x pos) (ir i):=by
 intro pins s σ H v u Q I r h;exact wpAny_assign_Name (gg I hN hi hx r (fun s' I'=>⟨_,H,I',h⟩) hf)
noncomputable def K1:TGs:=fun vs σ H Q=>vs=[] /\ Q σ H
noncomputable def Fs(t:TG)(u:TGs):TGs:=fun vs σ H Q=>∃ v r,vs=v ::r /\ t v σ H fun σ' H'=>u r σ' H' Q
noncomputable def KI(K:PySem.W.Frag)(n:Nat)(t:TGs):TG:=fun v σ H Q=>∃ a xs,v=.ref a /\ SqT K H a xs /\ xs.length=n /\ t xs σ H Q
noncomputable def HV(to ti:TE)(t:EU):TG:=fun v σ H Q=>to σ H fun o H1=>ti σ H1 fun i H2=>t o i v H2 fun H3=>Q σ H3
theorem G5{o i:Expr}{to ti:TE}{t:EU}(ho:PE X o to)(hi:PE X i ti)(hs:GI X t)
  (ha:∀ v,assign (.Subscript o i pos) X.env v=(do
    let ov <- holding [v] (eval o X.env)
    let iv <- holding [v,ov] (eval i X.env)
    standAt pos
    holding [v,ov,iv] (setItem ov iv v)
    release [v,ov,iv] []):=by intro _;rfl):PG X (.Subscript o i pos) (HV to ti t):=by
 intro pins s σ H v u Q I r h;rw[ha];refine wpAny_bind (wpAny_holding (thn (ho pins s σ H _ I h) fun ov s1 ⟨x,H1,I1,r1,q1⟩=>?_));refine wpAny_bind (wpAny_holding (thn (hi pins s1 σ H1 _ I1 q1) fun iv s2 ⟨y,H2,I2,r2,q2⟩=>?_));refine wpAny_bind (wpAny_standAt (wpAny_bind (wpAny_holding (thn (hs pins s2 σ H2 x y v ov iv u _ I2 r1 r2 r q2) fun _ s3 ⟨H3,I3,q3⟩=>?_))));exact wpAny_release ⟨σ,H3,I3,q3⟩
noncomputable def qK(te:TE)(g:TG):TS:=fun D σ H=>te σ H fun x H1=>g x σ H1 D.nx
theorem Gw{tg e:Expr}{te:TE}{g:TG}(he:PE X e te)(hg:PG X tg g)(hs:swapsWithSole [tg] e pos.line X.env=pure false:=by rfl)(hw:swappedStores [tg] e X.env=pure none:=by rfl)
  (h1:(assignEach [tg] X.env).map (·.2)=[assign tg X.env]:=by rfl):PS X (.Assign [tg] e pos) (qK te g):=by
 intro pins s σ H D I h;refine wpAny_Assign_stores (thn (he pins s σ H _ I h) fun v s1 ⟨x,H1,I1,r1,q1⟩=>?_) hs hw;rw[h1]
 exact thn (hg pins s1 σ H1 x v _ I1 r1 q1) fun _ s2 q=>q
theorem F4{i:Nat}{x:Str}{e:Expr}{te:TE}{pos':Pos}(hN:X.N.Nodup)(hi:X.N[i]?=some x)(hx:Loc X.env.scope x)(he:PE X e te)(hs:swapsWith e (some (.Name x pos')) pos.line X.env=pure false:=by rfl)(hf:X.fn x=true \/ X.env.scope.names.lookup x=some .local:=by first|exact .inl rfl|exact .inr rfl|assumption):
  PS X (.Assign [.Name x pos'] e pos) (qK te (ir i)):=by
 intro pins s σ H D I h;refine wpAny_Assign_Name (thn (he pins s σ H _ I h) fun v s1 ⟨y,H1,I1,r1,q1⟩=>?_) hs;exact gg I1 hN hi hx r1 (fun s2 I2=>⟨_,H1,I2,q1⟩) hf
noncomputable def D7(i:Nat)(te:TE)(ti:TIp):TS:=fun D σ H=>∃ x,σ[i]?=some (some x) /\ te σ H fun y H1=>ti x y H1 fun z H2=>D.nx (σ.set i (some z)) H2
theorem F8{i:Nat}{x:Str}{e:Expr}{te:TE}{op:Operator}{ti:TIp}{pos':Pos}(hN:X.N.Nodup)(hi:X.N[i]?=some x)(hx:Loc X.env.scope x)(he:PE X e te)(ho:PIp X op ti)(hf:X.fn x=true \/ X.env.scope.names.lookup x=some .local:=by first|exact .inl rfl|exact .inr rfl|assumption):
  PS X (.AugAssign (.Name x pos') op e pos) (D7 i te ti):=by
 intro pins s σ H D I h;obtain⟨v,e1,h⟩:=h;obtain⟨m,hn,hl⟩:=I.loc
 have vis:Vis X.env.scope x:=by rcases hx with k|k;exact .inl k;exact .inr (.inl k)
 obtain⟨u,r,l⟩:=hl i x v hi e1 vis;refine wpAny_AugAssign_Name ?_
 have go:wpAny (model X.prog X.w) X.A (eval e X.env) (fun w s₂=>wpAny (model X.prog X.w) X.A (inplaceOp op u w) (fun r s₃=>wpAny (model X.prog X.w) X.A (storeName X.env x r) (fun _=>SP X pins D .next) X.xe s₃) X.xe s₂) X.xe s:=by
  refine thn (he pins s σ H _ I h) fun w s1 ⟨y,H1,I1,r1,q1⟩=>?_
  refine thn (ho pins s1 σ H1 v y u w _ I1 r r1 q1) fun z s2 ⟨zv,H2,I2,r2,q2⟩=>?_
  exact gg I2 hN hi hx r2 (fun s3 I3=>⟨_,H2,I3,q2⟩) hf
 rcases l with⟨hk,hm⟩|⟨hk,c,hc,hcell⟩
 . exact wpAny_loadName_local I.ok.kind hk hn hm go
 . rcases hk with hk|hk
   . exact wpAny_loadName_cell I.ok.kind hk hc hcell go
   . rcases hx with k|k
     . have:X.env.scope.names.lookup x=some .free:=hk
       rw[k]at this;cases this
     . have:X.env.scope.names.lookup x=some .free:=hk
       rw[k]at this;cases this
noncomputable def ipI(f:Int->Int->Int):TIp:=fun x y H Q=>∃ i j,x=.int i /\ y=.int j /\ Q (.int (f i j)) H
theorem CH:PIp X .Add (ipI fun i j=>i+j):=by
 intro pins s σ H x y v u Q I r1 r2 h;obtain⟨i,j,e1,e2,q⟩:=h;subst e1;subst e2;obtain⟨t,rfl⟩:=r1;obtain⟨t',rfl⟩:=r2;exact iadd_int ⟨.int _,H,I.tok _,⟨_,rfl⟩,q⟩
end
section
variable{X:Cx}{pos:Pos}
noncomputable def yL(c:TT)(tb:TS):TS:=fun D σ H=>∃ W:Nat->St->Hp->Prop,(∃ m,W m σ H) /\ ∀ m σ H,W m σ H ->
 c σ H fun b H1=>if b=true then ∃ N:St->Hp->Prop,(∀ σ' H',N σ' H'->∃ m',m'<m /\ W m' σ' H') /\ tb { D with nx:=N,ct:=N,bk:=D.nx } σ H1 else D.nx σ H1
theorem C3{c:Expr}{body:List Stmt}{tc:TT}{tb:TS}(hp:PassesOwn (model X.prog X.w) X.A X.env X.xe)(hc:PT X c tc)(hb:PSs X body tb):PS X (.While c body [] pos) (yL tc tb):=by
 intro pins s σ H D I h;obtain⟨W,⟨m0,w0⟩,turn⟩:=h;refine wpAny_While (codeAny_whileLoop (fun n s'=>∃ σ' H',Inv X pins σ' H' s' /\ W n σ' H') ?_ m0 ⟨σ,H,I,w0⟩)
 rintro n s1 ⟨σ1,H1,I1,w1⟩
 refine wpAny_passesOwn hp (thn (hc pins s1 σ1 H1 _ I1 (turn n σ1 H1 w1)) fun b s2 ⟨H2,I2,q2⟩=>?_)
 cases b with
 | true=>
   obtain⟨N,hN,q2⟩:=q2;rw[if_pos rfl];refine wpAny_passesOwn hp (thn (hb pins s2 σ1 H2 _ I2 q2) fun f s3 q3=>?_)
   cases f with
   | next=>
     obtain⟨σ3,H3,I3,n3⟩:=q3;obtain⟨m',hm,w3⟩:=hN σ3 H3 n3
     exact⟨m',hm,σ3,H3,I3,w3⟩
   | cont=>
     obtain⟨σ3,H3,I3,n3⟩:=q3;obtain⟨m',hm,w3⟩:=hN σ3 H3 n3
     exact⟨m',hm,σ3,H3,I3,w3⟩
   |brk=>exact q3
   |ret v=>exact q3
 | false=>
   rw[if_neg Bool.false_ne_true];exact wpAny_execs_nil ⟨σ1,H2,I2,q2⟩
end
structure It where
 go:Nat->Hp->Prop
 yld:Nat->Hp->V->Hp->Prop
 stop:Nat->Hp->Prop
noncomputable def kM(X:Cx)(pins:List (Addr×Obj))(H:Hp)(b:Addr):Prop:=
 H b=none /\ b≠X.env.locals /\ b∉X.fs /\ (b∈X.ex \/ X.s₀.heap.objs.size<=b) /\ (∀ x c,X.env.cells.lookup x=some c->c≠b) /\ ∀ p∈X.pn++pins,p.1≠b
theorem Inv.Bl{X:Cx}{pins:List (Addr×Obj)}{σ:St}{H H':Hp}{s:Shared}{b:Addr}(I:Inv X pins σ H s)(hb:s.heap.objs.size<=b)(hn:H' b=none):kM X pins H' b:=by
 refine⟨hn,Nat.ne_of_gt (Nat.lt_of_lt_of_le I.lt hb),I.Lk hb,.inr (Nat.le_trans I.sz hb),fun x c e z=>?_,fun p hp z=>?_⟩
 . obtain⟨v,q⟩:=I.cell x c e;exact absurd (Nat.lt_of_lt_of_le q.lt (by rw[z];exact hb)) (Nat.lt_irrefl _)
 . exact absurd (Nat.lt_of_lt_of_le (Heap.lt_size (I.pin p hp).1) (by rw[z];exact hb)) (Nat.lt_irrefl _)
structure Turn(P:Program)(w:World)(K:PySem.W.Frag)(tg:Expr)(J:It)(fp:List Addr)(it:Addr)(tn:Nat->Heap->Prop):Prop where
 mem:it∈fp
 obj:∀ i h,tn i h->∀ b∈fp,∃ o,h.get? b=some o /\ ∀ v,o.data≠.cell v
 keep:∀ i h h',tn i h->(∀ b∈fp,∀ o,h.get? b=some o->h'.get? b=some o)->tn i h'
 item:∀(X:Cx),X.prog=P->X.w=w->X.K=K->X.calm=true->∀(i:Nat) (pins:List (Addr×Obj)) (s:Shared) (σ:St) (H:Hp) (E:Value->Shared->Prop),Inv X pins σ H s->(∀ b∈fp,kM X pins H b)->tn i s.heap->J.go i H ->
  wpAny (model P w) X.A (pyNext (.ref it)) (fun r s1=>∃ u,r=some u /\
   wpAny (model P w) X.A (letOwnedTupleGo tg (.ref it) u) (fun _ s2=>∃ x H',Inv X pins σ H' s2 /\ RelV x u /\ J.yld i H x H' /\ tn (i+1) s2.heap /\ ∀ b∈fp,H' b=none) E s1) E s
 done:∀(X:Cx),X.prog=P->X.w=w->X.K=K->X.calm=true->∀(i:Nat) (pins:List (Addr×Obj)) (s:Shared) (σ:St) (H:Hp) (E:Value->Shared->Prop),Inv X pins σ H s->(∀ b∈fp,kM X pins H b)->tn i s.heap->J.stop i H ->
  wpAny (model P w) X.A (pyNext (.ref it)) (fun r s1=>r=none /\ Inv X pins σ H s1) E s
 self:∀(A:Around) (i:Nat) (s:Shared) (Q:Value->Shared->Prop) (E:Value->Shared->Prop),tn i s.heap->Q (.ref it) s->wpAny (model P w) A (pyIter (.ref it)) Q E s
abbrev TI:=St->Hp->(It->Hp->Prop)->Prop
noncomputable def PIE(X:Cx)(pins:List (Addr×Obj))(σ:St)(tg:Expr)(R:It->Hp->Prop)(itv:Value)(s2:Shared):Prop:=
 ∃(it:Addr) (fp:List Addr) (tn:Nat->Heap->Prop) (J:It) (H':Hp),itv=.ref it /\ Inv X pins σ H' s2 /\ Turn X.prog X.w X.K tg J fp it tn /\ tn 0 s2.heap /\ (∀ b∈fp,kM X pins H' b) /\ R J H'
noncomputable def PI(X:Cx)(tg iter:Expr)(wi:TI):Prop:=
 ∀(pins:List (Addr×Obj)) (s:Shared) (σ:St) (H:Hp) (R:It->Hp->Prop),Inv X pins σ H s->wi σ H R ->
   wpAny (model X.prog X.w) X.A (eval iter X.env) (fun v s1=>wpAny (model X.prog X.w) X.A (pyIter v) (PIE X pins σ tg R) X.xe s1) X.xe s
theorem zV{M:Model}{A:Around}{E:Value->Shared->Prop}{s:Shared}{tg:Expr}{it:Addr}{u:Value}{o:Obj}{n:String}{vs:Array Value}{Q:Unit->Shared->Prop}(ho:s.heap.get? it=some o)(hc:o.cls=.type n)(hd:o.data=.fields vs)
  (hn:["enumerate","zip","dict_itemiterator","dict_reverseitemiterator","odict_iterator","itertools.zip_longest","itertools.pairwise"].contains n=false) (hQ:Q () s):wpAny M A (letOwnedTupleGo tg (.ref it) u) Q E s:=by
 unfold letOwnedTupleGo
 cases tg<;>first
  |exact wpAny_pure hQ
  | (cases u <;> first
      |exact wpAny_pure hQ
      | (refine wpAny_bind (wpAny_load ho ?_)
         rw[hc,hd];show wpAny M A (if(["enumerate","zip","dict_itemiterator","dict_reverseitemiterator","odict_iterator","itertools.zip_longest","itertools.pairwise"].contains n&&vs[0]?==some (rawInt _))=true then _ else _) Q E s;rw[if_neg (by intro h;rw[hn,Bool.false_and]at h;cases h)]
         exact wpAny_pure hQ))
noncomputable def Itl(K:PySem.W.Frag)(a:Addr):It:=
 ⟨fun i H=>∃ xs x,SqL K H a xs /\ xs[i]?=some x,fun i H x H'=>H'=H /\ ∀ xs,SqL K H a xs->xs[i]?=some x,fun i H=>∃ xs,SqL K H a xs /\ xs.length<=i⟩
noncomputable def Itr(lo:Int)(n:Nat):It:=⟨fun i _=>i<n,fun i H x H'=>H'=H /\ x=.int (lo+i),fun i _=>n<=i⟩
theorem Aw{P:Program}{w:World}{K:PySem.W.Frag}{tg:Expr}(a it:Addr):Turn P w K tg (Itl K a) [it] it (fun i h=>h.IsListIter it a i) where
 mem:=by simp
 obj:=fun i h st b hb=>by
  have e:b=it:=by simpa using hb
  subst e;obtain⟨o,e,c,d⟩:=st
  exact⟨o,e,fun v z=>by rw[d]at z;cases z⟩
 keep:=fun i h h' st k=>st.at fun o e=>k it (by simp) o e
 item:=by
  intro X hP hw hK hc i pins s σ H E I hf st hg;subst hP hw hK;obtain⟨xs,x,hq,hx⟩:=hg;obtain⟨its,rv,p,hz⟩:=I.list hq;obtain⟨u,hu,ru⟩:=rv.get hx;obtain⟨f0,f1,f2,f3,f4,f5⟩:=hf it (by simp)
  refine wpAny_pyNext_list_item st p.isList (x:=u) (by simpa using hu) fun h' st' sb=>?_
  have I1:Inv X pins σ H { s with heap:=h' }:=I.turned (t':=s.toks) (fun b o hb e=>(sb.2 b hb).trans e) f0 f1 f3 f4 f5
  obtain⟨o,e,c,d⟩:=id st'
  exact⟨u,rfl,zV (s:={ s with heap:=h' }) e c d (by decide) ⟨x,H,I1,ru,⟨rfl,fun ys hy=>by rw[I.BZ hy hq];exact hx⟩,st',fun b hb=>(hf b hb).1⟩⟩
 done:=by
  intro X hP hw hK hc i pins s σ H E I hf st hg;subst hP hw hK;obtain⟨xs,hq,hx⟩:=hg;obtain⟨its,rv,p,hz⟩:=I.list hq;obtain⟨f0,f1,f2,f3,f4,f5⟩:=hf it (by simp);have hl:=rv.length
  exact wpAny_pyNext_list_end (I.ok.hd hc) st p.isList (by simp;omega) fun h' eb=>⟨rfl,I.turned (t':=s.toks) (fun b o hb e=>eb b o hb e) f0 f1 f3 f4 f5⟩
 self:=fun _ _ _ _ _ st h=>wpAny_pyIter_listiter st h
theorem yH{P:Program}{w:World}{K:PySem.W.Frag}{tg:Expr}(it:Addr)(lo:Int)(n:Nat):Turn P w K tg (Itr lo n) [it] it (fun i h=>IsRangeIter h it (lo+(i:Nat)*1) ((n:Int) - (i:Nat)) 1) where
 mem:=by simp
 obj:=fun i h st b hb=>by
  have e:b=it:=by simpa using hb
  subst e
  exact⟨_,st,fun v z=>by
   have z':Data.fields _=Data.cell v:=z
   cases z'⟩
 keep:=fun i h h' st k=>k it (by simp) _ st
 item:=by
  intro X hP hw hK hc i pins s σ H E I hf st hg;subst hP hw hK;obtain⟨f0,f1,f2,f3,f4,f5⟩:=hf it (by simp);have W:=Walks.range (prog:=X.prog) (w:=X.w) (I.ok.hd hc) it lo 1 n
  refine W.item i s _ _ hg st fun v h' tk hv st' kk=>?_
  obtain⟨t,rfl⟩:=hv
  have I1:Inv X pins σ H { s with heap:=h',toks:=tk }:=I.turned (fun b o hb e=>kk b o (by simpa using hb) e) f0 f1 f3 f4 f5
  refine⟨_,rfl,zV (s:={ s with heap:=h',toks:=tk }) (n:="range_iterator") st' rfl rfl (by decide) ⟨.int (lo+i),H,I1,⟨t,?_⟩,⟨rfl,rfl⟩,st',fun b hb=>(hf b hb).1⟩⟩
  rw[Int.mul_one]
 done:=by
  intro X hP hw hK hc i pins s σ H E I hf st hg;subst hP hw hK;obtain⟨f0,f1,f2,f3,f4,f5⟩:=hf it (by simp)
  exact wpAny_pyNext_range_end (I.ok.hd hc) st (by have:n<=i:=hg;omega) fun h' eb=>⟨rfl,I.turned (t':=s.toks) (fun b o hb e=>eb b o hb e) f0 f1 f3 f4 f5⟩
 self:=fun _ _ _ _ _ st h=>wpAny_pyIter_rangeiter st h
section
variable{X:Cx}{tg:Expr}
noncomputable def Ah(K:PySem.W.Frag)(tl:TE):TI:=fun σ H R=>tl σ H fun x H1=>∃ a,x=.ref a /\ (∃ xs,SqL K H1 a xs) /\ R (Itl K a) H1
theorem Eb{l:Expr}{tl:TE}(hl:PE X l tl):PI X tg l (Ah X.K tl):=by
 intro pins s σ H R I h
 refine thn (hl pins s σ H _ I h) fun v s1 ⟨x,H1,I1,r1,q1⟩=>?_
 obtain⟨a,e,⟨xs,hq⟩,q⟩:=q1;subst e;cases r1;obtain⟨its,rv,p,hz⟩:=I1.list hq;refine wpAny_pyIter_list p.isList ?_
 refine⟨s1.heap.objs.size,[s1.heap.objs.size],_,_,H1,rfl,I1.kept (t':=s1.toks) fun b o e=>Heap.get?_push_of_some _ e,Aw a _,⟨_,Heap.get?_push_size _ rfl,rfl,rfl⟩,fun b hb=>?_,q⟩
 have e:b=s1.heap.objs.size:=by simpa using hb
 subst e;exact I1.Bl (Nat.le_refl _) (I1.hok.fresh (Nat.le_refl _))
theorem xZ{pins:List (Addr×Obj)}{σ:St}{H:Hp}{s:Shared}{R:It->Hp->Prop}{E:Value->Shared->Prop}{lo hi:Int}{t u v:Tok}{tk:Nat}(I:Inv X pins σ H s)(h1:-(2 ^ 62)<=lo)(h2:lo<2 ^ 62)(h3:-(2 ^ 62)<=hi)(h4:hi<2 ^ 62)
  (q:R (Itr lo (hi - lo).toNat) H):wpAny (model X.prog X.w) X.A (pyIter (.ref s.heap.objs.size)) (PIE X pins σ tg R) E { s with heap:=s.heap.push { cls:=.type "range",data:=.fields #[.int lo t,.int hi u,.int 1 v] },toks:=tk }:=by
 refine wpAny_pyIter_range (IsRange.new ..) (small_one h1 h2 h3 h4) ?_
 have I1:Inv X pins σ H { s with heap:=s.heap.push { cls:=.type "range",data:=.fields #[.int lo t,.int hi u,.int 1 v] },toks:=tk }:=I.kept fun b o e=>Heap.get?_push_of_some _ e
 refine⟨(s.heap.push { cls:=.type "range",data:=.fields #[.int lo t,.int hi u,.int 1 v] }).objs.size,[(s.heap.push { cls:=.type "range",data:=.fields #[.int lo t,.int hi u,.int 1 v] }).objs.size],_,_,H,rfl,
  I1.kept (t':=tk) fun b o e=>Heap.get?_push_of_some _ e,yH _ lo (hi - lo).toNat,?_,fun b hb=>?_,q⟩
 . have e1:lo+((0:Nat):Int)*1=lo:=by simp
   have e2:(((hi - lo).toNat:Nat):Int) - ((0:Nat):Int)=Builtin.Range.rangeSize lo hi 1:=by rw[rangeSize_one];split<;>omega
   show IsRangeIter _ _ (lo+((0:Nat):Int)*1) ((((hi - lo).toNat:Nat):Int) - ((0:Nat):Int)) 1;rw[e1,e2];exact Heap.get?_push_size _ rfl
 . have e:b=(s.heap.push { cls:=.type "range",data:=.fields #[.int lo t,.int hi u,.int 1 v] }).objs.size:=by simpa using hb
   subst e;exact I1.Bl (Nat.le_refl _) (I1.hok.fresh (Nat.le_refl _))
noncomputable def zr(ta:TA):TI:=fun σ H R=>ta σ H fun vs H1=>∃ j:Int,vs=[.int j] /\ -(2 ^ 62)<=j /\ j<2 ^ 62 /\ R (Itr 0 j.toNat) H1
noncomputable def B7(ta:TA):TI:=fun σ H R=>ta σ H fun vs H1=>∃ i j:Int,vs=[.int i,.int j] /\ (-(2 ^ 62)<=i /\ i<2 ^ 62 /\ -(2 ^ 62)<=j /\ j<2 ^ 62) /\ R (Itr i (j - i).toNat) H1
theorem Au{a:Expr}{ta:TA}{p pos:Pos}(hg:Gl X "range")(hm:X.mg "range" = none)(ha:PA X [a] ta)(hs:starEach [a] X.env=[(false,eval a X.env)]:=by rfl):PI X tg (.Call (.Name "range" p) [a] [] pos) (zr ta):=by
 intro pins s σ H R I h;refine Call_ (qL I hg hm boot_range (PyProof.Rows.callWith_type1 (thn (ha pos pins s σ H _ I h) fun us s1 ⟨vs,H1,I1,r1,q1⟩=>?_) hs rfl));obtain⟨j,e,q1,q2,q⟩:=q1;subst e
 cases r1 with
 | cons r rr=>
   cases rr;obtain⟨t,rfl⟩:=r;exact call_range_1 (xZ I1 (by omega) (by omega) q1 q2 (by simpa using q))
theorem AG{a b:Expr}{ta:TA}{p pos:Pos}(hg:Gl X "range")(hm:X.mg "range" = none)(ha:PA X [a,b] ta)(hs:starEach [a,b] X.env=[(false,eval a X.env),(false,eval b X.env)]:=by rfl)(hs2:starEach [b] X.env=[(false,eval b X.env)]:=by rfl):
  PI X tg (.Call (.Name "range" p) [a,b] [] pos) (B7 ta):=by
 intro pins s σ H R I h;refine Call_ (qL I hg hm boot_range (PyProof.Rows.callWith_type1 (thn (ha pos pins s σ H _ I h) fun us s1 ⟨vs,H1,I1,r1,q1⟩=>?_) (by rw[hs,hs2]) (by rw[hs2];rfl)));obtain⟨i,j,e,⟨q1,q2,q3,q4⟩,q⟩:=q1;subst e
 cases r1 with
 | cons r rr=>
   cases rr with
   | cons r' rr=>
     cases rr;obtain⟨t,rfl⟩:=r;obtain⟨t',rfl⟩:=r';exact call_range_2 (xZ I1 q1 q2 q3 q4 q)
noncomputable def BA(wi:TI)(g:TG)(tb:TS):TS:=fun D σ H=>wi σ H fun J H1=>∃ W:Nat->Nat->St->Hp->Prop,(∃ m,W 0 m σ H1) /\ ∀ i m σ H,W i m σ H ->
 (J.stop i H /\ D.nx σ H) \/ (J.go i H /\ ∃ N:St->Hp->Prop,(∀ σ' H',N σ' H'->∃ m',m'<m /\ W (i+1) m' σ' H') /\ ∀ x H',J.yld i H x H'->g x σ H' fun σ2 H2=>tb { D with nx:=N,ct:=N,bk:=D.nx } σ2 H2)
noncomputable def vf(fp:List Addr)(h:Heap):List (Addr×Obj):=fp.filterMap fun b=>(h.get? b).map fun o=>(b,o)
theorem cf{fp:List Addr}{h:Heap}{b:Addr}{o:Obj}(hb:b∈fp)(e:h.get? b=some o):(b,o)∈vf fp h:=List.mem_filterMap.mpr ⟨b,hb,by rw[e];rfl⟩
theorem Bb{fp:List Addr}{h:Heap}{p:Addr×Obj}(hp:p∈vf fp h):p.1∈fp /\ h.get? p.1=some p.2:=by
 obtain⟨b,hb,e⟩:=List.mem_filterMap.mp hp
 cases q:h.get? b with
 |none=>rw[q]at e;cases e
 | some o=>
   rw[q]at e
   have e':(b,o)=p:=Option.some.inj e
   subst e'
   exact⟨hb,q⟩
theorem Inv.pinned{pins:List (Addr×Obj)}{σ:St}{H:Hp}{s:Shared}{fp:List Addr}(I:Inv X pins σ H s)(hf:∀ b∈fp,kM X pins H b)(ho:∀ b∈fp,∃ o,s.heap.get? b=some o /\ ∀ v,o.data≠.cell v):Inv X (pins++vf fp s.heap) σ H s:=
 I.zC fun p hp=>(List.mem_append.mp hp).elim (fun z=>I.pin p (List.mem_append_right _ z)) fun z=>by
  obtain⟨hb,e⟩:=Bb z;obtain⟨f0,f1,f2,_⟩:=hf p.1 hb;obtain⟨o,e',d⟩:=ho p.1 hb;rw[e]at e';cases e'
  exact⟨e,f0,f1,f2,d⟩
theorem Inv.fK{pins pl:List (Addr×Obj)}{σ:St}{H:Hp}{s:Shared}(I:Inv X (pins++pl) σ H s):Inv X pins σ H s:=I.zC fun p hp=>I.pin p (List.mem_append_right _ (List.mem_append_left _ hp))
theorem Hy{iter:Expr}{body:List Stmt}{wi:TI}{g:TG}{tb:TS}{pos:Pos}(hp:PassesOwn (model X.prog X.w) X.A X.env X.xe)(hc:X.calm=true)(hi:PI X tg iter wi)(hg:PG X tg g)(hb:PSs X body tb)
  (hs:∀ x,foldedSetIterable iter X.env x=pure x:=by intro _;rfl):PS X (.For tg iter body [] pos) (BA wi g tb):=by
 intro pins s σ H D I h;refine wpAny_For (thn (hi pins s σ H _ I h) fun v s1 h1=>thn h1 fun itv s2 h2=>?_) hs;obtain⟨it,fp,tn,J,H2,e,I2,T,st2,f2,W,⟨m0,w0⟩,turn⟩:=h2;subst e
 have stat:∀{H':Hp},(∀ b∈fp,H' b=none)->∀ b∈fp,kM X pins H' b:=fun hn b hb=>⟨hn b hb,(f2 b hb).2⟩
 refine codeAny_forLoop_any (fun n s'=>∃ i σ' H',Inv X pins σ' H' s' /\ tn i s'.heap /\ (∀ b∈fp,H' b=none) /\ W i n σ' H') ?_ m0 ⟨0,σ,H2,I2,st2,fun b hb=>(f2 b hb).1,w0⟩
 rintro n s3 ⟨i,σ3,H3,I3,st3,fr3,w3⟩
 rcases turn i n σ3 H3 w3 with⟨stop,qn⟩|⟨go,N,hN,step⟩
 . refine wpAny_passesOwn hp (thn (T.done X rfl rfl rfl hc i pins s3 σ3 H3 X.xe I3 (stat fr3) st3 stop) fun r s4 ⟨hr,I4⟩=>?_);subst hr;exact wpAny_execs_nil ⟨σ3,H3,I4,qn⟩
 . refine wpAny_passesOwn hp (thn (T.item X rfl rfl rfl hc i pins s3 σ3 H3 X.xe I3 (stat fr3) st3 go) fun r s4 ⟨u,hr,h4⟩=>?_);subst hr;refine wpAny_passesOwn hp (thn h4 fun _ s5 ⟨x,H5,I5,r5,y5,st5,fr5⟩=>?_)
   have I5':=I5.pinned (stat fr5) (T.obj _ _ st5)
   refine wpAny_passesOwn hp (thn (hg _ s5 σ3 H5 x u _ I5' r5 (step x H5 y5)) fun _ s6 ⟨σ6,H6,I6,q6⟩=>?_);refine wpAny_passesOwn hp (thn (hb _ s6 σ6 H6 _ I6 q6) fun f s7 q7=>?_)
   have again:∀{σ7:St} {H7:Hp},Inv X (pins++vf fp s5.heap) σ7 H7 s7->N σ7 H7->∃ m,m<n /\ ∃ i σ' H',Inv X pins σ' H' s7 /\ tn i s7.heap /\ (∀ b∈fp,H' b=none) /\ W i m σ' H':=fun {σ7 H7} I7 n7=>by
    obtain⟨m',hm,w7⟩:=hN σ7 H7 n7
    refine⟨m',hm,i+1,σ7,H7,I7.fK,T.keep _ _ _ st5 fun b hb o e=>(I7.pin (b,o) (List.mem_append_right _ (List.mem_append_right _ (cf hb e)))).1,fun b hb=>?_,w7⟩
    obtain⟨o,e,d⟩:=T.obj _ _ st5 b hb
    exact(I7.pin (b,o) (List.mem_append_right _ (List.mem_append_right _ (cf hb e)))).2.1
   cases f with
   |next=>obtain⟨σ7,H7,I7,n7⟩:=q7;exact again I7 n7
   |cont=>obtain⟨σ7,H7,I7,n7⟩:=q7;exact again I7 n7
   |brk=>obtain⟨σ7,H7,I7,q7⟩:=q7;exact⟨σ7,H7,I7.fK,q7⟩
   |ret v=>obtain⟨x7,σ7,H7,I7,r7,q7⟩:=q7;exact⟨x7,σ7,H7,I7.fK,r7,q7⟩
end
theorem Cb{K:PySem.W.Frag}{a:Addr}{xs:List V}{g:TG}{tb:TS}{D:Ends}{σ:St}{H:Hp}(Pv:Nat->St->Hp->Prop)(h0:Pv 0 σ H)(hl:∀ i σ H,i<=xs.length->Pv i σ H->SqL K H a xs)
  (hs:∀ i x σ H,xs[i]?=some x->Pv i σ H->g x σ H fun σ2 H2=>tb { D with nx:=Pv (i+1),ct:=Pv (i+1),bk:=D.nx } σ2 H2) (hd:∀ σ H,Pv xs.length σ H->D.nx σ H):
  ∃ W:Nat->Nat->St->Hp->Prop,(∃ m,W 0 m σ H) /\ ∀ i m σ H,W i m σ H ->
    ((Itl K a).stop i H /\ D.nx σ H) \/ ((Itl K a).go i H /\ ∃ N:St->Hp->Prop,(∀ σ' H',N σ' H'->∃ m',m'<m /\ W (i+1) m' σ' H') /\ ∀ x H',(Itl K a).yld i H x H'->g x σ H' fun σ2 H2=>tb { D with nx:=N,ct:=N,bk:=D.nx } σ2 H2):=by
 refine⟨fun i m σ H=>m=xs.length - i /\ i<=xs.length /\ Pv i σ H,⟨xs.length,by simp,Nat.zero_le _,h0⟩,?_⟩
 rintro i m σ H ⟨rfl,hi,p⟩
 have q:=hl i σ H hi p
 by_cases hlt:i<xs.length
 . refine .inr ⟨⟨xs,xs[i],q,by simp[hlt]⟩,Pv (i+1),fun σ' H' p'=>⟨xs.length - (i+1),by omega,rfl,hlt,p'⟩,fun x H' y=>?_⟩;obtain⟨e,y⟩:=y;subst e;exact hs i x σ _ (y xs q) p
 . have e:i=xs.length:=by omega
   subst e;exact .inl ⟨⟨xs,q,Nat.le_refl _⟩,hd σ H p⟩
theorem AR{lo:Int}{n:Nat}{g:TG}{tb:TS}{D:Ends}{σ:St}{H:Hp}(Pv:Nat->St->Hp->Prop)(h0:Pv 0 σ H)
  (hs:∀ i σ H,i<n->Pv i σ H->g (.int (lo+i)) σ H fun σ2 H2=>tb { D with nx:=Pv (i+1),ct:=Pv (i+1),bk:=D.nx } σ2 H2) (hd:∀ σ H,Pv n σ H->D.nx σ H):
  ∃ W:Nat->Nat->St->Hp->Prop,(∃ m,W 0 m σ H) /\ ∀ i m σ H,W i m σ H ->
    ((Itr lo n).stop i H /\ D.nx σ H) \/ ((Itr lo n).go i H /\ ∃ N:St->Hp->Prop,(∀ σ' H',N σ' H'->∃ m',m'<m /\ W (i+1) m' σ' H') /\ ∀ x H',(Itr lo n).yld i H x H'->g x σ H' fun σ2 H2=>tb { D with nx:=N,ct:=N,bk:=D.nx } σ2 H2):=by
 refine⟨fun i m σ H=>m=n - i /\ i<=n /\ Pv i σ H,⟨n,by simp,Nat.zero_le _,h0⟩,?_⟩
 rintro i m σ H ⟨rfl,hi,p⟩
 by_cases hlt:i<n
 . refine .inr ⟨hlt,Pv (i+1),fun σ' H' p'=>⟨n - (i+1),by omega,rfl,hlt,p'⟩,fun x H' y=>?_⟩;obtain⟨e,y⟩:=y;subst e y;exact hs i σ _ hlt p
 . have e:i=n:=by omega
   subst e;exact .inl ⟨Nat.le_refl _,hd σ H p⟩
abbrev R2:=V->V->Hp->VK->Prop
noncomputable def OpR(X:Cx)(f:Value->Value->Sem Value)(r:R2):Prop:=
 ∀(pins:List (Addr×Obj)) (s:Shared) (σ:St) (H:Hp) (x y:V) (v u:Value) (Q:VK),Inv X pins σ H s->RelV x v->RelV y u->r x y H Q ->
   wpAny (model X.prog X.w) X.A (f v u) (EP X pins σ Q) X.xe s
noncomputable def UnR(X:Cx)(f:Value->Sem Value)(r:V->Hp->VK->Prop):Prop:=
 ∀(pins:List (Addr×Obj)) (s:Shared) (σ:St) (H:Hp) (x:V) (v:Value) (Q:VK),Inv X pins σ H s->RelV x v->r x H Q ->
   wpAny (model X.prog X.w) X.A (f v) (EP X pins σ Q) X.xe s
noncomputable def kb(X:Cx)(f:Value)(r:List V->Hp->VK->Prop):Prop:=
 ∀(pins:List (Addr×Obj)) (s:Shared) (σ:St) (H:Hp) (xs:List V) (us:List Value) (Q:VK),Inv X pins σ H s->Vals xs us->r xs H Q ->
   wpAny (model X.prog X.w) X.A (call f us) (EP X pins σ Q) X.xe s
noncomputable def K3(X:Cx)(r:V->Hp->(Bool->Hp->Prop)->Prop):Prop:=
 ∀(pins:List (Addr×Obj)) (s:Shared) (σ:St) (H:Hp) (x:V) (v:Value) (Q:Bool->Hp->Prop),Inv X pins σ H s->RelV x v->r x H Q ->
   wpAny (model X.prog X.w) X.A (truthy v) (TP X pins σ Q) X.xe s
noncomputable def tOp(r:R2)(ta tb:TE):TE:=fun σ H Q=>ta σ H fun x H1=>tb σ H1 fun y H2=>r x y H2 Q
noncomputable def tUn(r:V->Hp->VK->Prop)(ta:TE):TE:=fun σ H Q=>ta σ H fun x H1=>r x H1 Q
noncomputable def rI(C:Int->Int->Prop)(g:Int->Int->V):R2:=fun x y H Q=>∃ i j,x=.int i /\ y=.int j /\ C i j /\ Q (g i j) H
noncomputable def rI0(g:Int->Int->V):R2:=fun x y H Q=>∃ i j,x=.int i /\ y=.int j /\ Q (g i j) H
noncomputable def rU(g:Int->V):V->Hp->VK->Prop:=fun x H Q=>∃ i,x=.int i /\ Q (g i) H
section
variable{X:Cx}{a b c:Expr}{ta tb tc:TE}{pos:Pos}
theorem Ha(ha:PE X a ta)(hb:PE X b tb){pins:List (Addr×Obj)}{s:Shared}{σ:St}{H:Hp}{R:V->V->Hp->Prop}(I:Inv X pins σ H s)
  (h:ta σ H fun x H1=>tb σ H1 fun y H2=>R x y H2) {Q:Value->Shared->Prop} {f:Value->Value->Sem Value}
  (hf:∀ v u s2 x y H2,Inv X pins σ H2 s2->RelV x v->RelV y u->R x y H2->wpAny (model X.prog X.w) X.A (f v u) Q X.xe s2):
  wpAny (model X.prog X.w) X.A (eval a X.env) (fun v s₁=>wpAny (model X.prog X.w) X.A (eval b X.env) (fun u s₂=>wpAny (model X.prog X.w) X.A (f v u) Q X.xe s₂) X.xe s₁) X.xe s:=by
 refine thn (ha pins s σ H _ I h) fun v s1 ⟨x,H1,I1,r1,q1⟩=>?_
 refine thn (hb pins s1 σ H1 _ I1 q1) fun u s2 ⟨y,H2,I2,r2,q2⟩=>?_
 exact hf v u s2 x y H2 I2 r1 r2 q2
theorem IW{op:Operator}{r:R2}(ho:OpR X (binaryOp op) r)(ha:PE X a ta)(hb:PE X b tb):PE X (.BinOp a op b pos) (tOp r ta tb):=by
 intro pins s σ H Q I h;exact wpAny_BinOp (Ha ha hb I h fun v u s2 x y H2 I2 rx ry q=>ho pins s2 σ H2 x y v u Q I2 rx ry q)
theorem JB{op:UnaryOp}{r:V->Hp->VK->Prop}(ho:UnR X (unaryOp op) r)(ha:PE X a ta):PE X (.UnaryOp op a pos) (tUn r ta):=by
 intro pins s σ H Q I h;exact UnaryOp_ (thn (ha pins s σ H _ I h) fun v s1 ⟨x,H1,I1,r1,q1⟩=>ho pins s1 σ H1 x v Q I1 r1 q1)
theorem opI{f:Value->Value->Sem Value}{C:Int->Int->Prop}{g:Int->Int->Int}
  (rule:∀(i j:Int) (t u:Tok) (s:Shared) (Q:Value->Shared->Prop) (E:Value->Shared->Prop),C i j->Q (.int (g i j) s.toks) { s with toks:=s.toks+1 }->wpAny (model X.prog X.w) X.A (f (.int i t) (.int j u)) Q E s):
  OpR X f (rI C fun i j=>.int (g i j)):=by
 intro pins s σ H x y v u Q I rx ry h;obtain⟨i,j,rfl,rfl,hc,q⟩:=h;obtain⟨t,rfl⟩:=rx;obtain⟨t',rfl⟩:=ry;exact rule i j t t' s _ _ hc ⟨.int (g i j),H,I.tok _,⟨_,rfl⟩,q⟩
theorem Jb{f:Value->Value->Sem Value}{g:Int->Int->Int}
  (rule:∀(i j:Int) (t u:Tok) (s:Shared) (Q:Value->Shared->Prop) (E:Value->Shared->Prop),Q (.int (g i j) s.toks) { s with toks:=s.toks+1 }->wpAny (model X.prog X.w) X.A (f (.int i t) (.int j u)) Q E s):
  OpR X f (rI0 fun i j=>.int (g i j)):=by
 intro pins s σ H x y v u Q I rx ry h;obtain⟨i,j,rfl,rfl,q⟩:=h;obtain⟨t,rfl⟩:=rx;obtain⟨t',rfl⟩:=ry;exact rule i j t t' s _ _ ⟨.int (g i j),H,I.tok _,⟨_,rfl⟩,q⟩
theorem DW{f:Value->Value->Sem Value}{g:Int->Int->Bool}
  (rule:∀(i j:Int) (t u:Tok) (s:Shared) (Q:Value->Shared->Prop) (E:Value->Shared->Prop),Q (.bool (g i j)) s->wpAny (model X.prog X.w) X.A (f (.int i t) (.int j u)) Q E s):
  OpR X f (rI0 fun i j=>.bl (g i j)):=by
 intro pins s σ H x y v u Q I rx ry h;obtain⟨i,j,rfl,rfl,q⟩:=h;obtain⟨t,rfl⟩:=rx;obtain⟨t',rfl⟩:=ry;exact rule i j t t' s _ _ ⟨.bl (g i j),H,I,rfl,q⟩
noncomputable def Hw(i j:Int):Prop:=0<j /\ j<1073741824
noncomputable def Ck(i j:Int):Prop:=(-(2 ^ 64)<i /\ i<2 ^ 64) \/ (-(2 ^ 64)<j /\ j<2 ^ 64)
theorem Ck.ok{i j:Int}(h:Ck i j):IntMulOk i j:=by
 rcases h with⟨h1,h2⟩|⟨h1,h2⟩
 . exact .of_left (intBits_le_64 h1 h2)
 . exact .of_right (intBits_le_64 h1 h2)
theorem aU:OpR X (binaryOp .Add) (rI0 fun i j=>.int (i+j)):=Jb fun _ _ _ _ _ _ _ q=>add_int q
theorem gd:OpR X (binaryOp .Sub) (rI0 fun i j=>.int (i - j)):=Jb fun _ _ _ _ _ _ _ q=>sub_int q
theorem kG:OpR X (binaryOp .Mult) (rI Ck fun i j=>.int (i*j)):=opI fun _ _ _ _ _ _ _ hc q=>mul_int q hc.ok
theorem bu:OpR X (binaryOp .FloorDiv) (rI Hw fun i j=>.int (i/j)):=opI fun i j _ _ _ _ _ hc q=>by
 have h1:(0:Int)<j:=hc.1
 have h2:j<1073741824:=hc.2
 exact floordiv_int (by omega) (by rw[Int.fdiv_eq_ediv_of_nonneg i (by omega)];exact q) (.inl (PyProof.noPylong_small (by omega)))
theorem ba:OpR X (binaryOp .Mod) (rI (fun _ j=>0<j) fun i j=>.int (i%j)):=opI fun i j _ _ _ _ _ hc q=>by
 have h1:(0:Int)<j:=hc
 exact mod_int' (by omega) (by rw[Int.fmod_eq_emod_of_nonneg i (by omega)];exact q)
theorem unI{f:Value->Sem Value}{g:Int->Int}
  (rule:∀(i:Int) (t:Tok) (s:Shared) (Q:Value->Shared->Prop) (E:Value->Shared->Prop),Q (.int (g i) s.toks) { s with toks:=s.toks+1 }->wpAny (model X.prog X.w) X.A (f (.int i t)) Q E s):
  UnR X f (rU fun i=>.int (g i)):=by
 intro pins s σ H x v Q I rx h;obtain⟨i,rfl,q⟩:=h;obtain⟨t,rfl⟩:=rx;exact rule i t s _ _ ⟨.int (g i),H,I.tok _,⟨_,rfl⟩,q⟩
theorem eC:UnR X (unaryOp .USub) (rU fun i=>.int (-i)):=unI fun _ _ _ _ _ q=>neg_int q
end
noncomputable def GW:V->V->Bool
 |.non,.non=>true|.non,.int _=>true|.int _,.non=>true|.non,.bl _=>true|.bl _,.non=>true|.non,.str _=>true|.str _,.non=>true
 |.int _,.int _=>true|.bl _,.bl _=>true|.str _,.str _=>true|.byt _,.byt _=>true
 |.int _,.str _=>true|.str _,.int _=>true|.bl _,.str _=>true|.str _,.bl _=>true
 |_,_=>false
noncomputable def rEq:R2:=fun x y H Q=>GW x y=true /\ Q (.bl (decide (x=y))) H
noncomputable def rNe:R2:=fun x y H Q=>GW x y=true /\ Q (.bl (!decide (x=y))) H
theorem zM{i j:Int}:decide (V.int i=V.int j)=(i==j):=by
 rw[Bool.eq_iff_iff];simp
theorem Bw{i j:Bool}:decide (V.bl i=V.bl j)=(i==j):=by
 rw[Bool.eq_iff_iff];simp
theorem zw{i j:Str}:decide (V.str i=V.str j)=(i==j):=by
 rw[Bool.eq_iff_iff];simp
theorem Aa{i j:Array UInt8}:decide (V.byt i=V.byt j)=(i.toList==j.toList):=by
 rw[Bool.eq_iff_iff];cases i;cases j;simp
section
variable{X:Cx}{a b c:Expr}{ta tb tc:TE}{pos:Pos}
theorem cq{pins:List (Addr×Obj)}{σ:St}{H:Hp}{s:Shared}{Q:VK}{k k':Bool}(I:Inv X pins σ H s)(q:Q (.bl k) H)(e:k=k'):EP X pins σ Q (.bool k') s:=by
 subst e
 exact⟨.bl k,H,I,rfl,q⟩
theorem b6:OpR X (compareOp .Eq) rEq:=by
 intro pins s σ H x y v u Q I rx ry h;obtain⟨hs,q⟩:=h
 cases x with
 | non=>
   cases rx
   cases y with
   |non=>cases ry;exact PySem.EqNone.eq_none_none (cq I q (by simp))
   |bl j=>cases ry;exact PySem.EqNone.eq_none_bool (cq I q (by simp))
   |int j=>obtain⟨t',rfl⟩:=ry;exact PySem.EqNone.eq_none_int (cq I q (by simp))
   |str j=>obtain⟨t',rfl⟩:=ry;exact PySem.EqNone.eq_none_str (cq I q (by simp))
   |_=>exact absurd (show false=true from hs) Bool.false_ne_true
 | bl i=>
   cases rx
   cases y with
   |non=>cases ry;exact PySem.EqNone.eq_bool_none (cq I q (by simp))
   |bl j=>cases ry;exact eq_bool (cq I q Bw)
   |str j=>obtain⟨t',rfl⟩:=ry;exact PySem.EqMixed.eq_bool_str (cq I q (by simp))
   |_=>exact absurd (show false=true from hs) Bool.false_ne_true
 | int i=>
   obtain⟨t,rfl⟩:=rx
   cases y with
   |non=>cases ry;exact PySem.EqNone.eq_int_none (cq I q (by simp))
   |int j=>obtain⟨t',rfl⟩:=ry;exact eq_int (cq I q zM)
   |str j=>obtain⟨t',rfl⟩:=ry;exact PySem.EqMixed.eq_int_str (cq I q (by simp))
   |_=>exact absurd (show false=true from hs) Bool.false_ne_true
 | str i=>
   obtain⟨t,rfl⟩:=rx
   cases y with
   |non=>cases ry;exact PySem.EqNone.eq_str_none (cq I q (by simp))
   |bl j=>cases ry;exact PySem.EqMixed.eq_str_bool (cq I q (by simp))
   |int j=>obtain⟨t',rfl⟩:=ry;exact PySem.EqMixed.eq_str_int (cq I q (by simp))
   |str j=>obtain⟨t',rfl⟩:=ry;exact eq_str (cq I q zw)
   |_=>exact absurd (show false=true from hs) Bool.false_ne_true
 | byt i=>
   obtain⟨t,rfl⟩:=rx
   cases y with
   |byt j=>obtain⟨t',rfl⟩:=ry;exact PySem.W.eq_bytes (cq I q Aa)
   |_=>exact absurd (show false=true from hs) Bool.false_ne_true
 |_=>cases y<;>exact absurd (show false=true from hs) Bool.false_ne_true
theorem uB:OpR X (compareOp .NotEq) rNe:=by
 intro pins s σ H x y v u Q I rx ry h;obtain⟨hs,q⟩:=h
 cases x with
 | non=>
   cases rx
   cases y with
   |non=>cases ry;exact PySem.EqNone.ne_none_none (cq I q (by simp))
   |bl j=>cases ry;exact PySem.EqNone.ne_none_bool (cq I q (by simp))
   |int j=>obtain⟨t',rfl⟩:=ry;exact PySem.EqNone.ne_none_int (cq I q (by simp))
   |str j=>obtain⟨t',rfl⟩:=ry;exact PySem.EqNone.ne_none_str (cq I q (by simp))
   |_=>exact absurd (show false=true from hs) Bool.false_ne_true
 | bl i=>
   cases rx
   cases y with
   |non=>cases ry;exact PySem.EqNone.ne_bool_none (cq I q (by simp))
   |bl j=>cases ry;exact ne_bool (cq I q (congrArg not Bw))
   |str j=>obtain⟨t',rfl⟩:=ry;exact PySem.EqMixed.ne_bool_str (cq I q (by simp))
   |_=>exact absurd (show false=true from hs) Bool.false_ne_true
 | int i=>
   obtain⟨t,rfl⟩:=rx
   cases y with
   |non=>cases ry;exact PySem.EqNone.ne_int_none (cq I q (by simp))
   |int j=>obtain⟨t',rfl⟩:=ry;exact ne_int (cq I q (congrArg not zM))
   |str j=>obtain⟨t',rfl⟩:=ry;exact PySem.EqMixed.ne_int_str (cq I q (by simp))
   |_=>exact absurd (show false=true from hs) Bool.false_ne_true
 | str i=>
   obtain⟨t,rfl⟩:=rx
   cases y with
   |non=>cases ry;exact PySem.EqNone.ne_str_none (cq I q (by simp))
   |bl j=>cases ry;exact PySem.EqMixed.ne_str_bool (cq I q (by simp))
   |int j=>obtain⟨t',rfl⟩:=ry;exact PySem.EqMixed.ne_str_int (cq I q (by simp))
   |str j=>obtain⟨t',rfl⟩:=ry;exact ne_str (cq I q (congrArg not zw))
   |_=>exact absurd (show false=true from hs) Bool.false_ne_true
 | byt i=>
   obtain⟨t,rfl⟩:=rx
   cases y with
   |byt j=>obtain⟨t',rfl⟩:=ry;exact PySem.W.ne_bytes (cq I q (congrArg not Aa))
   |_=>exact absurd (show false=true from hs) Bool.false_ne_true
 |_=>cases y<;>exact absurd (show false=true from hs) Bool.false_ne_true
theorem iW:OpR X (compareOp .Lt) (rI0 fun i j=>.bl (decide (i<j))):=DW fun _ _ _ _ _ _ _ q=>lt_int q
theorem jg:OpR X (compareOp .LtE) (rI0 fun i j=>.bl (decide (i<=j))):=DW fun _ _ _ _ _ _ _ q=>le_int q
theorem uA:OpR X (compareOp .Gt) (rI0 fun i j=>.bl (decide (j<i))):=DW fun _ _ _ _ _ _ _ q=>gt_int q
theorem Cc:OpR X (compareOp .GtE) (rI0 fun i j=>.bl (decide (j<=i))):=DW fun _ _ _ _ _ _ _ q=>ge_int q
theorem GC:OpR X (compareOp .Is) (fun x y H Q=>y=.non /\ Q (.bl (decide (x=.non))) H):=by
 intro pins s σ H x y v u Q I rx ry h;obtain⟨rfl,q⟩:=h;cases ry;refine is_none_gen (cq I q ?_)
 cases x<;>first
  |(cases rx;rfl)
  |(obtain⟨t,rfl⟩:=rx;rfl)
theorem jd(b:Expr){op:CmpOp}(h:op≠.In:=by decide)(h2:op≠.NotIn:=by decide):behindInMarks op b=false:=by
 have e1:(op==CmpOp.In)=false:=by cases op<;>first|rfl|exact absurd rfl h
 have e2:(op==CmpOp.NotIn)=false:=by cases op<;>first|rfl|exact absurd rfl h2
 cases b<;>simp[behindInMarks,e1,e2]
theorem EV{op:CmpOp}{r:R2}(ho:OpR X (compareOp op) r)(ha:PE X a ta)(hb:PE X b tb)(hm:behindInMarks op b=false):PE X (.Compare a [op] [b] pos) (tOp r ta tb):=by
 intro pins s σ H Q I h;exact wpAny_Compare1 (Ha ha hb I h fun v u s2 x y H2 I2 rx ry q=>ho pins s2 σ H2 x y v u Q I2 rx ry q) hm
noncomputable def uC(t:TE):TT:=fun σ H Q=>t σ H fun x H'=>∃ k,x=.bl k /\ Q k H'
theorem DZ{op:CmpOp}{r:R2}(ho:OpR X (compareOp op) r)(ha:PE X a ta)(hb:PE X b tb)(hm:behindInMarks op b=false):PT X (.Compare a [op] [b] pos) (uC (tOp r ta tb)):=by
 intro pins s σ H Q I h
 refine wpAny_isTrue_Compare1 (thn (ha pins s σ H _ I h) fun v s1 ⟨x,H1,I1,r1,q1⟩=>thn (hb pins s1 σ H1 _ I1 q1) fun u s2 ⟨y,H2,I2,r2,q2⟩=>
  thn (ho pins s2 σ H2 x y v u _ I2 r1 r2 q2) fun c s3 ⟨z,H3,I3,r3,k,e,q3⟩=>?_) hm
 subst e;cases r3;exact wpAny_truthy_bool ⟨H3,I3,q3⟩
noncomputable def sP(r r':R2)(ta tb tc:TE):TE:=fun σ H Q=>ta σ H fun x H1=>tb σ H1 fun y H2=>r x y H2 fun z H3=>∃ k,z=.bl k /\
 (if k=true then tc σ H3 fun w' H4=>r' y w' H4 Q else Q (.bl false) H3)
theorem BK{op op':CmpOp}{r r':R2}(ho:OpR X (compareOp op) r)(ho':OpR X (compareOp op') r')(ha:PE X a ta)(hb:PE X b tb)(hc:PE X c tc)
  (hm:lastMarks [op,op'] [b,c]=false:=by with_unfolding_all rfl):PE X (.Compare a [op,op'] [b,c] pos) (sP r r' ta tb tc):=by
 intro pins s σ H Q I h
 refine Compare_chain (thn (ha pins s σ H _ I h) fun v s1 ⟨x,H1,I1,r1,q1⟩=>chain_link (thn (hb pins s1 σ H1 _ I1 q1) fun u s2 ⟨y,H2,I2,r2,q2⟩=>
  thn (ho pins s2 σ H2 x y v u _ I2 r1 r2 q2) fun d s3 ⟨z,H3,I3,r3,k,e,q3⟩=>?_)) hm
 subst e;cases r3;refine wpAny_truthy_bool ?_
 cases k with
 |false=>exact ite_ff ⟨.bl false,H3,I3,rfl,q3⟩
 |true=>exact ite_tt (chain_last (thn (hc pins s3 σ H3 _ I3 q3) fun w' s4 ⟨z',H4,I4,r4,q4⟩=>ho' pins s4 σ H4 y z' u w' Q I4 r2 r4 q4))
theorem Dt{op op':CmpOp}{r r':R2}(ho:OpR X (compareOp op) r)(ho':OpR X (compareOp op') r')(ha:PE X a ta)(hb:PE X b tb)(hc:PE X c tc)
  (hm:lastMarks [op,op'] [b,c]=false:=by with_unfolding_all rfl):PT X (.Compare a [op,op'] [b,c] pos) (uC (sP r r' ta tb tc)):=by
 intro pins s σ H Q I h
 refine isTrue_chain (thn (ha pins s σ H _ I h) fun v s1 ⟨x,H1,I1,r1,q1⟩=>test_link (thn (hb pins s1 σ H1 _ I1 q1) fun u s2 ⟨y,H2,I2,r2,q2⟩=>
  thn (ho pins s2 σ H2 x y v u _ I2 r1 r2 q2) fun d s3 ⟨z,H3,I3,r3,k,e,q3⟩=>?_)) hm
 subst e;cases r3;refine wpAny_truthy_bool ?_
 cases k with
 | false=>
   obtain⟨k',e',q'⟩:=q3
   cases e'
   exact ite_ff ⟨H3,I3,q'⟩
 | true=>
   refine ite_tt (test_last (thn (hc pins s3 σ H3 _ I3 q3) fun w' s4 ⟨z',H4,I4,r4,q4⟩=>thn (ho' pins s4 σ H4 y z' u w' _ I4 r2 r4 q4) fun d' s5 ⟨z2,H5,I5,r5,k2,e2,q5⟩=>?_));subst e2;cases r5;exact wpAny_truthy_bool ⟨H5,I5,q5⟩
noncomputable def AQ(K:PySem.W.Frag)(x:V)(H:Hp)(k:Bool):Prop:=
 match x with
 |.non=>k=false
 |.bl b=>k=b
 |.int i=>k=(i != 0)
 |.str y=>y.length<=sizeLine /\ k=((y.length:Int) != 0)
 |.byt y=>y.size<=sizeLine /\ k=((y.size:Int) != 0)
 |.ref p=>(∃ xs,SqL K H p xs /\ k=!xs.isEmpty) \/ (∃ xs,SqT K H p xs /\ k=!xs.isEmpty) \/ ∃ kvs,H p=some (.dK kvs) /\ k=!kvs.isEmpty
 |_=>False
theorem yu{κ:Type}{kvs:List (κ×V)}{vs:List (κ×Value)}(r:KV kvs vs):(!vs.isEmpty)=!kvs.isEmpty:=by
 cases r<;>rfl
theorem sR{xs:List V}{its:List Value}(r:Vals xs its):(!its.toArray.isEmpty)=!xs.isEmpty:=by
 cases r<;>simp
theorem sL:(sizeLine:Nat)<2 ^ 63:=by rw[sizeLine_eq];decide
theorem Hj:K3 X (fun x H Q=>∃ k,AQ X.K x H k /\ Q k H):=by
 intro pins s σ H x v Q I rx h;obtain⟨k,e,q⟩:=h;have hl:=sL
 have hs:sizeLine=16777216:=sizeLine_eq
 cases x with
 | non=>
   cases rx
   have e':k=false:=e
   subst e';exact truthy_none ⟨H,I,q⟩
 | bl b=>
   cases rx
   have e':k=b:=e
   subst e';exact wpAny_truthy_bool ⟨H,I,q⟩
 | int i=>
   obtain⟨t,rfl⟩:=rx
   have e':k=(i != 0):=e
   subst e';exact PySem.P.truthy_int ⟨H,I,q⟩
 | str y=>
   obtain⟨t,rfl⟩:=rx
   obtain⟨hy,e'⟩:y.length<=sizeLine /\ k=((y.length:Int) != 0):=e
   subst e';exact PySem.P.truthy_str (by omega) ⟨H,I.tok _,q⟩
 | byt y=>
   obtain⟨t,rfl⟩:=rx
   obtain⟨hy,e'⟩:y.size<=sizeLine /\ k=((y.size:Int) != 0):=e
   subst e';exact PySem.W.truthy_bytes (by omega) ⟨H,I.tok _,q⟩
 | ref p=>
   cases rx
   have e':(∃ xs,SqL X.K H p xs /\ k=!xs.isEmpty) \/ (∃ xs,SqT X.K H p xs /\ k=!xs.isEmpty) \/ ∃ kvs,H p=some (.dK kvs) /\ k=!kvs.isEmpty:=e
   rcases e' with⟨xs,hx,e'⟩|⟨xs,hx,e'⟩|⟨kvs,hx,e'⟩
   . subst e';obtain⟨its,r,pl,hz⟩:=I.list hx;have hlen:=r.length;exact wpAny_truthy_list pl.isList (by simp only[List.size_toArray];omega) ⟨H,I.tok _,by rw[sR r];exact q⟩
   . subst e';obtain⟨its,r,pl,hz⟩:=I.tuple hx;have hlen:=r.length;exact truthy_tuple pl (by simp only[List.size_toArray];omega) ⟨H,I.tok _,by rw[sR r];exact q⟩
   . subst e'
     obtain⟨hz,hS,vs,r,m⟩:kvs.length<=sizeLine /\ (p==sysModules)=false /\ ∃ vs,KV kvs vs /\ s.heap.DictOf (hZ X.prog X.w) p vs:=I.hok p _ hx
     have hlen:kvs.length=vs.length:=Paired.length r
     exact wpAny_truthy_dict hS m (by omega) ⟨H,I.tok _,by rw[yu r];exact q⟩
 |_=>exact(show False from e).elim
theorem Ds(ha:PE X a ta)(he:∀ whole,isTrue a X.env whole=(do let v <- whole;standAt a.pos;holding [v] (truthy v))):
  PT X a (fun σ H Q=>ta σ H fun x H'=>∃ k,AQ X.K x H' k /\ Q k H'):=by
 intro pins s σ H Q I h;exact isTrue_plain (thn (ha pins s σ H _ I h) fun v s1 ⟨x,H1,I1,r1,q1⟩=>Hj pins s1 σ H1 x v Q I1 r1 q1) (he _)
theorem vals1{x:V}{us:List Value}(r:Vals [x] us):∃ u,us=[u] /\ RelV x u:=by
 cases r with
 |cons r1 r2=>cases r2;exact⟨_,rfl,r1⟩
theorem oa:kb X (.type "int") (fun xs H Q=>(∃ i,xs=[.int i] /\ Q (.int i) H) \/ ∃ k,xs=[.bl k] /\ Q (.int (if k then 1 else 0)) H):=by
 intro pins s σ H xs us Q I r h
 rcases h with⟨i,rfl,q⟩|⟨k,rfl,q⟩
 . obtain⟨u,rfl,t,rfl⟩:=vals1 r;exact call_int_int ⟨.int i,H,I,⟨_,rfl⟩,q⟩
 . obtain⟨u,rfl,r1⟩:=vals1 r;cases r1;exact call_int_bool ⟨.int (if k then 1 else 0),H,I.tok _,⟨_,rfl⟩,q⟩
theorem pI:kb X (.type "str") (fun xs H Q=>∃ i,xs=[.int i] /\ i.natAbs.log2<1920 /\ Q (.str (toString i)) H):=by
 intro pins s σ H xs us Q I r h;obtain⟨i,rfl,hz,q⟩:=h;obtain⟨u,rfl,t,rfl⟩:=vals1 r;exact PySem.P.str_of_int hz ⟨.str _,H,I.tok _,⟨_,rfl⟩,q⟩
theorem Dh:kb X (.builtin "ord") (fun xs H Q=>∃ x,xs=[.str x] /\ x.length=1 /\ Q (.int (x.cps.getD 0 0:Nat)) H):=by
 intro pins s σ H xs us Q I r h;obtain⟨x,rfl,hz,q⟩:=h;obtain⟨u,rfl,t,rfl⟩:=vals1 r;exact ord_of_one hz ⟨.int _,H,I.tok _,⟨_,rfl⟩,q⟩
end
theorem bB.some_of{v:V}{o:Option Value}(r:bB (some v) o):∃ u,o=some u /\ RelV v u:=by
 cases o with
 |none=>exact(show False from r).elim
 |some u=>exact⟨u,rfl,r⟩
structure jM(k:Nat)(A:Around):Prop where
 hd:A.handled=none
 dp:A.depth+3*k+5<recursionLimit
 un:A.units+16*k+200<cLine
theorem jM.mono{j k:Nat}{A:Around}(r:jM k A)(h:j<=k):jM j A:=⟨r.hd,by have:=r.dp;omega,by have:=r.un;omega⟩
theorem jM.deeper{k:Nat}{A:Around}(r:jM (k+1) A)(env:Env):jM k (A.deeper env):=
 ⟨r.hd,by have:=r.dp;show A.depth+1+3*k+5<_;omega,by have:=r.un;show A.units+3+16*k+200<_;omega⟩
theorem jM.depth{k:Nat}{A:Around}(r:jM k A):A.depth<recursionLimit:=by have:=r.dp;omega
theorem jM.units{k:Nat}{A:Around}(r:jM k A):A.units+64<cLine:=by have:=r.un;omega
noncomputable def lx:TA:=fun _ H Q=>Q [] H
noncomputable def eS(ta:TE)(tr:TA):TA:=fun σ H Q=>ta σ H fun x H1=>tr σ H1 fun xs H2=>Q (x ::xs) H2
section
variable{X:Cx}{e:Expr}{es:List Expr}{te:TE}{t:TA}{pos:Pos}
theorem Gd:PA X [] lx:=fun _ _ _ _ H Q I h=>Calls.spliced_nil ⟨[],H,I,.nil,h⟩
theorem Eh(ha:PE X e te)(hr:PA X es t)(hs:starEach (e ::es) X.env=(false,eval e X.env) ::starEach es X.env:=by rfl):PA X (e ::es) (eS te t):=by
 intro pos pins s σ H Q I h;rw[hs];show wpAny _ _ (spliced ((false,eval e X.env) ::backTo pos (starEach es X.env))) _ _ s;refine Calls.spliced_cons (thn (ha pins s σ H _ I h) fun u s1 ⟨x,H1,I1,r1,q1⟩=>?_)
 exact thn (hr pos pins s1 σ H1 _ I1 q1) fun us s2 ⟨xs,H2,I2,r2,q2⟩=>⟨x ::xs,H2,I2,.cons r1 r2,q2⟩
noncomputable def GX(t:TA):TE:=fun σ H Q=>t σ H fun xs H1=>xs.length<=sizeLine /\ ∀ p,H1 p=none->Q (.ref p) (upd H1 p (.tup xs))
noncomputable def DR(t:TA):TE:=fun σ H Q=>t σ H fun xs H1=>xs.length<=sizeLine /\ ∀ p,H1 p=none->Q (.ref p) (upd H1 p (.lst xs))
theorem HH{x1}(h:PA X es t):PE X (.Tuple es x1 pos) (GX t):=by
 intro pins s σ H Q I hq;refine wpAny_Tuple_spliced (thn (h pos pins s σ H _ I hq) fun us s1 ⟨xs,H1,I1,r,z,q⟩=>⟨by rw[<- r.length];exact z,?_⟩)
 have hf:H1 s1.heap.objs.size=none:=I1.hok.fresh (Nat.le_refl _)
 refine⟨.ref s1.heap.objs.size,upd H1 s1.heap.objs.size (.tup xs),I1.laid (t':=s1.toks) (fun b u e=>Heap.get?_push_of_some _ e) (Nat.le_refl _) ?_,rfl,q _ hf⟩
 exact⟨⟨z,.new _ _⟩,us,r,⟨_,Heap.get?_push_size _ rfl,rfl,_,rfl⟩⟩
theorem Hh(h:PA X es t):PE X (.List es pos) (DR t):=by
 intro pins s σ H Q I hq;refine wpAny_List_spliced (thn (h pos pins s σ H _ I hq) fun us s1 ⟨xs,H1,I1,r,z,q⟩=>⟨by rw[<- r.length];exact z,?_⟩)
 have hf:H1 s1.heap.objs.size=none:=I1.hok.fresh (Nat.le_refl _)
 refine⟨.ref s1.heap.objs.size,upd H1 s1.heap.objs.size (.lst xs),I1.laid (t':=s1.toks) (fun b u e=>Heap.get?_push_of_some _ e) (Nat.le_refl _) ?_,rfl,q _ hf⟩
 exact⟨z,us,0,r,Heap.get?_push_size _ rfl⟩
end
abbrev Sp:=List V->Hp->VK->XK->Prop
abbrev CXT:=List Env->Hp->Shared->XK->Value->Shared->Prop
structure E5(P:Program)(w:World)(K:PySem.W.Frag)(mg:Str->Option Value)(base:Heap)(A:Around)(outer:List Env)(s:Shared)(H:Hp):Prop where
 frames:A.frames=some outer
 mod:Mod K mg base
 bs:∀ b o,base.get? b=some o->s.heap.get? b=some o /\ H b=none
 bsz:base.objs.size<=s.heap.objs.size
 sQ:s.heap.FunFrames base outer
 frf:∀ b∈frs outer,H b=none
 hok:HOk P w H s.heap
 bare:AllBare s.gens
noncomputable def CE(outer:List Env)(P:Program)(w:World)(H:Hp)(s:Shared)(Q:VK)(u:Value)(s':Shared):Prop:=
 ∃ v H',s'.os=s.os /\ AllBare s'.gens /\ Un (frs outer) [] H H' s.heap s'.heap /\ HOk P w H' s'.heap /\ RelV v u /\ Q v H'
noncomputable def CR(CX:CXT)(outer:List Env)(P:Program)(w:World)(H:Hp)(s:Shared)(Q:VK)(E:XK)(r:Result)(s':Shared):Prop:=
 match r with
 |.ok (.ret u)=>CE outer P w H s Q u s'
 |.ok _=>False
 |.error e=>CX outer H s E e s'
structure cD(P:Program)(w:World)(K:PySem.W.Frag)(mg:Str->Option Value)(base:Heap)(CX:CXT)(k:Nat)(f:Addr)(fd:FuncData)(ps:List Str)(sp:Sp):Prop where
 len:∀ vs H Q E,sp vs H Q E->vs.length=ps.length
 run:∀(A:Around) (outer:List Env) (s:Shared) (H:Hp) (args:Args) (us:List Value) (vs:List V) (Q:VK) (E:XK),jM k A->E5 P w K mg base A outer s H->BindsTo s fd args (ps.zip us)->Vals vs us->sp vs H Q E ->
  codeAny (model P w) A (.call (.ref f) args) (CR CX outer P w H s Q E) s
theorem cD.mono{P:Program}{w:World}{K:PySem.W.Frag}{mg:Str->Option Value}{base:Heap}{CX:CXT}{j k:Nat}{f:Addr}{fd:FuncData}{ps:List Str}{sp:Sp}(F:cD P w K mg base CX j f fd ps sp)(h:j<=k):
  cD P w K mg base CX k f fd ps sp:=⟨F.len,fun A outer s H args us vs Q E hr=>F.run A outer s H args us vs Q E (hr.mono h)⟩
theorem cD.imp{P:Program}{w:World}{K:PySem.W.Frag}{mg:Str->Option Value}{base:Heap}{CX:CXT}{k:Nat}{f:Addr}{fd:FuncData}{ps:List Str}{sp sp':Sp}(F:cD P w K mg base CX k f fd ps sp)
  (h:∀ vs H Q E,sp' vs H Q E->sp vs H Q E):cD P w K mg base CX k f fd ps sp':=
 ⟨fun vs H Q E q=>F.len vs H Q E (h _ _ _ _ q),fun A outer s H args us vs Q E hr he hb hv hs=>F.run A outer s H args us vs Q E hr he hb hv (h _ _ _ _ hs)⟩
section
variable{X:Cx}{pins:List (Addr×Obj)}{σ:St}{H:Hp}{s s':Shared}
theorem Inv.KW(I:Inv X pins σ H s):E5 X.prog X.w X.K X.mg X.base X.A X.stack s H:=
 ⟨I.ok.frames,I.ok.mod,I.bs,Nat.le_trans I.ok.bsz I.sz,I.stack,I.rR,I.hok,I.bare⟩
theorem Inv.after{Q:VK}{u:Value}(I:Inv X pins σ H s)(h:CE X.stack X.prog X.w H s Q u s'):EP X pins σ Q u s':=by
 obtain⟨v,H',os,bare,un,hok,r,q⟩:=h;obtain⟨hh,g,d,t,os'⟩:=s'
 obtain rfl:os'=s.os:=os
 exact⟨v,H',I.call (h':=hh) (g':=g) (d':=d) (t':=t) (ch:=[]) un hok bare (fun b z=>absurd z (by simp)),r,q⟩
end
noncomputable def Binds(K:PySem.W.Frag)(fd:FuncData)(ps:List Str)(ds:List Value):Prop:=
 ∀(s:Shared) (us:List Value),K.In s.heap->(us++ds).length=ps.length->BindsTo s fd ⟨us,[]⟩ (ps.zip (us++ds))
theorem Binds.all{K:PySem.W.Frag}{fd:FuncData}{ps:List Str}(h:∀ us:List Value,us.length=ps.length->bindArgs fd ⟨us,[]⟩=pure (ps.zip us)):Binds K fd ps []:=fun s us _ hl=>by
 rw[List.append_nil]at hl ⊢
 exact .of_eq (h us hl)
noncomputable def PK(X:Cx)(kws:List Keyword)(t:TA):Prop:=
 ∀(pos:Pos) (pins:List (Addr×Obj)) (s:Shared) (σ:St) (H:Hp) (Q:List V->Hp->Prop),Inv X pins σ H s->t σ H Q->wpAny (model X.prog X.w) X.A (evalAll ((backToKw pos (keywordEach kws X.env)).map (·.2))) (AP X pins σ Q) X.xe s
structure aW(N P:List Str)(sc:Scope):Prop where
 kind:sc.kind=.function
 co:sc.isCoroutine=false
 gen:sc.isGenerator=false
 nd:N.Nodup
 pre:N.take P.length=P
 par:∀ x∈P,sc.names.lookup x=some .local \/ sc.names.lookup x=some .cell
 nofree:∀ y∈sc.names,y.2≠.free
theorem ux{kindOf:Str->Option NameKind}{x:Str}:∀{binds:List (Str×Value)} {m:Str->Option Value},(∀ v,(x,v)∉binds)->bindL kindOf binds m x=m x
 |[],_,_=>rfl
 | (n,v) ::r,m,h=>by
   unfold bindL;rw[ux fun w hw=>h w (List.mem_cons_of_mem _ hw)];split
   . have:x≠n:=by rintro rfl;exact h v List.mem_cons_self
     simp[this]
   . rfl
theorem uY{kindOf:Str->Option NameKind}{x:Str}:∀{binds:List (Str×Value)} {m:Str->Option Value},(∀ v,(x,v)∉binds)->bindC kindOf binds m x=m x
 |[],_,_=>rfl
 | (n,v) ::r,m,h=>by
   unfold bindC;rw[uY fun w hw=>h w (List.mem_cons_of_mem _ hw)];split
   . rfl
   . have:x≠n:=by rintro rfl;exact h v List.mem_cons_self
     simp[this]
theorem u3{kindOf:Str->Option NameKind}{x:Str}{v:Value}:∀{P:List Str} {vs:List Value} {i:Nat} {m:Str->Option Value},P.Nodup->P[i]?=some x->vs[i]?=some v->kindOf x=some .local ->
  bindL kindOf (P.zip vs) m x=some v
 |[],_,_,_,_,h,_,_=>by simp at h
 |_ ::_,[],_,_,_,_,h,_=>by simp at h
 | p ::P,w ::vs,0,m,nd,h1,h2,hk=>by
   simp at h1 h2;subst h1;subst h2;show bindL kindOf ((p,w) ::P.zip vs) m p=_;unfold bindL;rw[ux fun v hv=>(List.nodup_cons.mp nd).1 (List.of_mem_zip hv).1,if_pos hk];simp
 | p ::P,w ::vs,i+1,m,nd,h1,h2,hk=>by
   show bindL kindOf ((p,w) ::P.zip vs) m x=_;unfold bindL;exact u3 (i:=i) (List.nodup_cons.mp nd).2 (by simpa using h1) (by simpa using h2) hk
theorem u0{kindOf:Str->Option NameKind}{x:Str}{v:Value}:∀{P:List Str} {vs:List Value} {i:Nat} {m:Str->Option Value},P.Nodup->P[i]?=some x->vs[i]?=some v->kindOf x≠some .local ->
  bindC kindOf (P.zip vs) m x=some v
 |[],_,_,_,_,h,_,_=>by simp at h
 |_ ::_,[],_,_,_,_,h,_=>by simp at h
 | p ::P,w ::vs,0,m,nd,h1,h2,hk=>by
   simp at h1 h2;subst h1;subst h2;show bindC kindOf ((p,w) ::P.zip vs) m p=_;unfold bindC;rw[uY fun v hv=>(List.nodup_cons.mp nd).1 (List.of_mem_zip hv).1,if_neg hk];simp
 | p ::P,w ::vs,i+1,m,nd,h1,h2,hk=>by
   show bindC kindOf ((p,w) ::P.zip vs) m x=_;unfold bindC;exact u0 (i:=i) (List.nodup_cons.mp nd).2 (by simpa using h1) (by simpa using h2) hk
noncomputable def start(N:List Str)(vs:List V):St:=vs.map some++List.replicate (N.length - vs.length) none
noncomputable def qI(CX:CXT)(P:Program)(w:World)(K:PySem.W.Frag)(mg:Str->Option Value)(base:Heap)(N:List Str)(qual:Str)(scope:Scope)(f:Addr)(cd:Value)(A:Around)(outer:List Env)(s:Shared)(H:Hp)(E:XK):Cx where
 prog:=P
 w:=w
 K:=K
 mg:=mg
 base:=base
 A:=A.deeper (envOfC qual scope s.heap.objs.size f cd)
 N:=N
 s₀:=s
 H₀:=H
 env:=envOfC qual scope s.heap.objs.size f cd
 outer:=outer
 stack:=envOfC qual scope s.heap.objs.size f cd ::outer
 ex:=[]
 calm:=true
 fn:=fun _=>true
 pn:=[]
 xe:=fun e s'=>wpAny (model P w) (A.deeper (envOfC qual scope s.heap.objs.size f cd)) (leaving (envOfC qual scope s.heap.objs.size f cd) e) (fun _ s''=>CX outer H s E e s'') (fun e' s''=>CX outer H s E e' s'') s'
theorem xq{sc:Scope}{n:Nat}{x:Str}(h:sc.names.lookup x=some .cell):∃ c,(cellsFrom n sc.names []).lookup x=some c:=by
 have q:=PySem.W.cellsFrom_some sc.names n [] (.inl h);exact Option.isSome_iff_exists.mp q
theorem AY{CX:CXT}{P:Program}{w:World}{K:PySem.W.Frag}{mg:Str->Option Value}{base:Heap}{N ps:List Str}{qual:Str}{scope:Scope}{f:Addr}{cd:Value}{A:Around}{outer:List Env}{s s1:Shared}{H:Hp}{E:XK}{us:List Value}{vs:List V}
  (S:aW N ps scope) (hd:A.handled=none) (e0:E5 P w K mg base A outer s H) (hl:vs.length=ps.length) (r:Vals vs us)
  (x:InCallC s s.heap.objs.size (bindL (envOfC qual scope s.heap.objs.size f cd).kindOf (ps.zip us) fun _=>none) (cellsFrom (s.heap.objs.size+1) scope.names []) (bindC (envOfC qual scope s.heap.objs.size f cd).kindOf (ps.zip us) fun _=>none) s1):
  Inv (qI CX P w K mg base N qual scope f cd A outer s H E) [] (start N vs) H s1:=by
 have hpl:ps.length<=N.length:=by have:=congrArg List.length S.pre;rw[List.length_take]at this;omega
 obtain⟨h1,tk,rfl,hk⟩:=x.done
 have noA:∀ b:Addr,b∉(qI CX P w K mg base N qual scope f cd A outer s H E).ex:=fun b z=>absurd (show b∈([]:List Addr) from z) (by simp)
 refine⟨⟨e0.mod,S.kind,rfl,rfl,Nat.le_refl _,fun y z c h1 h2=>?_,fun y hy=>?_,fun y c _ h=>?_,fun _=>hd,Around.frames_deeper e0.frames,.inr ⟨rfl,rfl⟩,fun b z=>absurd z (noA b),e0.bs,e0.bsz,fun b _ _=>noA b,fun b z=>absurd z (noA b),e0.sQ,e0.frf⟩,
  rfl,e0.bare,Un.kept hk,⟨_,x.toInCall.ns,fun i y v h1 h2 h3=>?_⟩,fun y c h=>⟨_,x.cell y c h⟩,e0.hok.fresh (Nat.le_refl _),fun y c h=>?_,fun p hp=>absurd (show p∈([]:List (Addr×Obj)) from hp) (by simp),e0.hok.kept hk,?_⟩
 . exact name_of_addr x.apart (PySem.mem_of_lookup h1) (PySem.mem_of_lookup h2)
 . have hy:scope.names.lookup y=some .cell \/ scope.names.lookup y=some .free:=hy
   rcases hy with hy|hy
   . exact xq hy
   . exact absurd rfl (S.nofree _ (PySem.mem_of_lookup hy))
 . exact Nat.le_of_lt (x.above y c (PySem.mem_of_lookup h))
 . have hi:i < vs.length:=by
    unfold start at h2
    by_cases hi:i<vs.length
    . exact hi
    . rw[List.getElem?_append_right (by simpa using hi)]at h2;rw[List.getElem?_replicate]at h2
      split at h2<;>cases h2
   have ha:vs[i]?=some v:=by
    unfold start at h2;rw[List.getElem?_append_left (by simpa using hi),List.getElem?_map]at h2
    cases e:vs[i]? with
    |none=>rw[e]at h2;cases h2
    |some a=>rw[e]at h2;cases h2;rfl
   obtain⟨u,hu,rv⟩:=r.get ha
   have hp:ps[i]?=some y:=by
    rw[<- S.pre,List.getElem?_take_of_lt (by omega)];exact h1
   have ndP:ps.Nodup:=by rw[<- S.pre];exact S.nd.sublist (List.take_sublist _ _)
   refine⟨u,rv,?_⟩
   rcases S.par y (List.mem_of_getElem? hp)with k|k
   . exact .inl ⟨k,u3 ndP hp hu k⟩
   . obtain⟨c,e⟩:=xq (n:=s.heap.objs.size+1) k;refine .inr ⟨.inl k,c,e,?_⟩;have q:=x.cell y c e;rw[u0 ndP hp hu (by show scope.names.lookup y≠_;rw[k];decide)]at q;exact q
 . exact e0.hok.fresh (Nat.le_of_lt (x.above y c (PySem.mem_of_lookup h)))
 . unfold start;show _=N.length;rw[List.length_append,List.length_map,List.length_replicate];omega
theorem IQ{CX:CXT}{P:Program}{w:World}{K:PySem.W.Frag}{mg:Str->Option Value}{base:Heap}{k:Nat}{f:Addr}{name qual:Str}{params:Arguments}{body:List Stmt}{scope:Scope}{dV kV doc pm cdv ct oc:Value}{an od:Option Addr}
  {osl:Array (Option Value)} {N ps:List Str} {sp:Sp} (lk:K.lookup f=some ⟨oc,od,.func (PySem.W.fnOf name qual params body scope dV kV doc pm an cdv ct),osl⟩) (hcd:PySem.W.codeIn K cdv qual=true) (S:aW N ps scope)
  (len:∀ vs H Q E,sp vs H Q E->vs.length=ps.length)
  (hbody:∀(A:Around) (outer:List Env) (s:Shared) (H:Hp) (vs:List V) (Q:VK) (E:XK),jM k (A.deeper (envOfC qual scope s.heap.objs.size f cdv))->sp vs H Q E ->
    ∃ t,PSs (qI CX P w K mg base N qual scope f cdv A outer s H E) body t /\ t { nx:=fun _ H'=>Q .non H',rt:=Q } (start N vs) H):
  cD P w K mg base CX (k+1) f (PySem.W.fnOf name qual params body scope dV kV doc pm an cdv ct) ps sp:=by
 refine⟨len,fun A outer s H args us vs Q E hr e0 hb r hsp=>?_⟩
 have hl:=len _ _ _ _ hsp
 have KX:K.In s.heap:=e0.mod.kin.keeps fun b o e=>(e0.bs b o e).1
 have lim:s.heap.NoLimit:=e0.mod.nolimit.keeps fun b o e=>(e0.bs b o e).1
 have hkind:∀ y∈ps.zip us,scope.names.lookup y.1=some .local \/ (scope.names.lookup y.1=some .cell /\ ((cellsFrom (s.heap.objs.size+1) scope.names []).lookup y.1).isSome=true):=fun ⟨n,v⟩ hy=>by
  rcases S.par n (List.of_mem_zip hy).1 with q|q
  . exact .inl q
  . exact .inr ⟨q,PySem.W.cellsFrom_some _ _ _ (.inl q)⟩
 refine codeAny_call_function hr.depth (KX _ _ lk) rfl S.co S.gen rfl (PySem.W.codeRec_of KX hcd) (hb _ _ _ _ ?_)
 refine wpAny_newFunctionEnv_cells S.kind hkind fun env he s1 x=>?_
 subst he
 refine⟨lim.keeps x.toInCall.keep,codeAny_func ?_⟩
 obtain⟨t,ht,hq⟩:=hbody A outer s H vs Q E (hr.deeper _) hsp
 have I:Inv (qI CX P w K mg base N qual scope f cdv A outer s H E) [] (start N vs) H s1:=AY S hr.hd e0 hl r x
 refine wpAny_mono (ht [] s1 (start N vs) H _ I hq) (fun fl s' hs=>?_) fun e s' hs=>hs
 have fin:∀{σ':St} {H':Hp} {v:V} {u:Value},Inv (qI CX P w K mg base N qual scope f cdv A outer s H E) [] σ' H' s'->RelV v u->Q v H'->CE outer P w H s Q u s':=
  fun {σ' H' v u} J rv q=>⟨v,H',J.os,J.bare,J.base,J.hok,rv,q⟩
 cases fl with
 | ret u=>
   obtain⟨v,σ',H',J,rv,q⟩:=hs;exact fin J rv q
 | next=>
   obtain⟨σ',H',J,q⟩:=hs;exact fin (v:=V.non) (u:=Value.none) J rfl q
 | brk=>
   obtain⟨_,_,_,q⟩:=hs;exact False.elim q
 | cont=>
   obtain⟨_,_,_,q⟩:=hs;exact False.elim q
section
variable{X:Cx}{x:Str}{p pos:Pos}{e:Expr}{es:List Expr}{t:TA}{id T:String}{r:List V->Hp->VK->Prop}
noncomputable def tCB(r:List V->Hp->VK->Prop)(t:TA):TE:=fun σ H Q=>t σ H fun vs H1=>r vs H1 Q
theorem Cw(hc:kb X (.builtin id) r)(hg:Gl X x)(hm:X.mg x=none)(hv:bootBuiltins x=some (.builtin id))(ha:PA X (e ::es) t)(hn:x ≠ "__name__":=by decide)(hdb:(x==("__debug__":Str))=false:=by decide)
  (he:starEach (e ::es) X.env=(false,eval e X.env) ::starEach es X.env:=by rfl) (hpl:(backTo pos (starEach es X.env)).any (·.1)=false:=by rfl):PE X (.Call (.Name x p) (e ::es) [] pos) (tCB r t):=by
 intro pins s σ H Q I h;refine wpAny_Call_Name_kw (qL I hg hm hv ?_ hn hdb);exact PyProof.Rows.callWith_builtin1 (thn (ha pos pins s σ H _ I h) fun us s1 ⟨vs,H1,I1,r1,q1⟩=>hc pins s1 σ H1 vs us Q I1 r1 q1) he hpl
theorem AM(hc:kb X (.type T) r)(hg:Gl X x)(hm:X.mg x=none)(hv:bootBuiltins x=some (.type T))(ha:PA X (e ::es) t)(hn:x ≠ "__name__":=by decide)(hdb:(x==("__debug__":Str))=false:=by decide)
  (he:starEach (e ::es) X.env=(false,eval e X.env) ::starEach es X.env:=by rfl) (hpl:(backTo pos (starEach es X.env)).any (·.1)=false:=by rfl):PE X (.Call (.Name x p) (e ::es) [] pos) (tCB r t):=by
 intro pins s σ H Q I h;refine wpAny_Call_Name_kw (qL I hg hm hv ?_ hn hdb);exact PyProof.Rows.callWith_type1 (thn (ha pos pins s σ H _ I h) fun us s1 ⟨vs,H1,I1,r1,q1⟩=>hc pins s1 σ H1 vs us Q I1 r1 q1) he hpl
end
end L2
namespace HT
open PySem PyProof.Rows
section
open PySem.SeqAt
open PySem.AutoSeq1 (wpAny_loadPart')
open PySem.MeetsSeq PySem.MeetsSeq2 PySem.MeetsSeq3
end
section
variable{prog:Program}{w:World}{A:Around}{E:Value->Shared->Prop}{s:Shared}
noncomputable def sIx(n d:Nat):Option Int->Nat
 |none=>d
 |some v=>if v<0 then(v+(n:Int)).toNat else min v.toNat n
end
end HT
namespace L2
open PySem PySem.Spec PyProof.Rows
abbrev TO:=St->Hp->(Option Int->Hp->Prop)->Prop
noncomputable def PO(X:Cx)(e:Option Expr)(t:TO):Prop:=
 ∀(pins:List (Addr×Obj)) (s:Shared) (σ:St) (H:Hp) (Q:Option Int->Hp->Prop),Inv X pins σ H s->t σ H Q ->
   wpAny (model X.prog X.w) X.A (evalPart e X.env) (fun u s'=>∃ o H',Inv X pins σ H' s' /\ IsPart u o /\ Q o H') X.xe s
noncomputable def vk:TO:=fun _ H Q=>Q none H
noncomputable def BD(t:TE):TO:=fun σ H Q=>t σ H fun x H1=>∃ i,x=.int i /\ Q (some i) H1
section
variable{X:Cx}{e:Expr}{te:TE}{lo hi:Option Expr}{tl th:TO}{pos p2:Pos}
theorem DL:PO X none vk:=by
 intro pins s σ H Q I h;rw[evalPart_none];exact wpAny_pure ⟨none,H,I,.none,h⟩
theorem EY(h:PE X e te):PO X (some e) (BD te):=by
 intro pins s σ H Q I hw;rw[evalPart_some]
 refine thn (h pins s σ H _ I hw) fun u s1 ⟨x,H1,I1,r1,q1⟩=>?_
 obtain⟨i,rfl,q⟩:=q1;obtain⟨t,rfl⟩:=r1
 exact⟨some i,H1,I1,.int i t,q⟩
noncomputable def SlR(X:Cx)(r:V->Option Int->Option Int->Hp->VK->Prop):Prop:=
 ∀(pins:List (Addr×Obj)) (s:Shared) (σ:St) (H:Hp) (x:V) (v vl vu:Value) (lo hi:Option Int) (sl:Addr) (Q:VK),Inv X pins σ H s->RelV x v->s.heap.IsSliceOf sl vl vu .none->IsPart vl lo->IsPart vu hi->r x lo hi H Q ->
   ∃ T id,typeLookup (.type T) "__getitem__" = pure (some (.builtin id)) /\ s.TypeIs v T /\ wpAny (model X.prog X.w) X.A (getItem v (.ref sl)) (EP X pins σ Q) X.xe s
noncomputable def tSl(r:V->Option Int->Option Int->Hp->VK->Prop)(te:TE)(tl th:TO):TE:=fun σ H Q=>te σ H fun x H1=>tl σ H1 fun l H2=>th σ H2 fun u H3=>r x l u H3 Q
theorem Dk{r:V->Option Int->Option Int->Hp->VK->Prop}(hr:SlR X r)(he:PE X e te)(hl:PO X lo tl)(hu:PO X hi th):PE X (.Subscript e (.Slice lo hi none p2) pos) (tSl r te tl th):=by
 intro pins s σ H Q I h;refine Subscript_ (thn (he pins s σ H _ I h) fun v s1 ⟨x,H1,I1,r1,q1⟩=>?_);refine wpAny_Slice (thn (hl pins s1 σ H1 _ I1 q1) fun vl s2 ⟨l,H2,I2,pl,q2⟩=>thn (hu pins s2 σ H2 _ I2 q2) fun vu s3 ⟨u,H3,I3,pu,q3⟩=>?_);rw[evalPart_none];refine wpAny_pure ?_
 have I4:Inv X pins σ H3 { s3 with heap:=s3.heap.push { cls:=.type "slice",data:=.fields #[vl,vu,.none] } }:=I3.kept (t':=s3.toks) fun b ob q=>Heap.get?_push_of_some _ q
 obtain⟨T,id,hT,ht,hg⟩:=hr pins { s3 with heap:=s3.heap.push { cls:=.type "slice",data:=.fields #[vl,vu,.none] } } σ H3 x v vl vu l u s3.heap.objs.size Q I4 r1 (Heap.IsSliceOf.new ..) pl pu q3;show wpAny (model X.prog X.w) X.A (subscriptTail e (.Slice lo hi none p2) v (.ref s3.heap.objs.size)) (EP X pins σ Q) X.xe { s3 with heap:=s3.heap.push { cls:=.type "slice",data:=.fields #[vl,vu,.none] } };exact tail_any (ops:=[.ref s3.heap.objs.size,v]) ht hT hg (by with_unfolding_all rfl)
noncomputable def A4(xs:List V)(lo hi:Option Int):List V:=(xs.drop (HT.sIx xs.length 0 lo)).take (HT.sIx xs.length xs.length hi - HT.sIx xs.length 0 lo)
theorem w6(xs:List V)(lo hi:Option Int):(A4 xs lo hi).length<=xs.length:=by
 unfold A4;rw[List.length_take,List.length_drop];omega
end
noncomputable def ixN(n:Nat)(i:Int):Option Nat:=if 0<=i then(if i<n then some i.toNat else none)else if -(n:Int)<=i then some (i+n).toNat else none
noncomputable def atI{α:Type}(xs:List α)(i:Int):Option α:=(ixN xs.length i).bind fun j=>xs[j]?
theorem zt{n:Nat}{i:Int}{j:Nat}(h:ixN n i=some j):seqIndex? i n=some j /\ j<n /\ -(n:Int)<=i /\ i<n:=by
 unfold ixN at h
 by_cases h0:0<=i
 . rw[if_pos h0]at h
   by_cases h1:i<n
   . rw[if_pos h1]at h
     have e:i.toNat=j:=Option.some.inj h
     exact⟨by rw[seqIndex_of h0 h1,e],by omega,by omega,h1⟩
   . rw[if_neg h1]at h;cases h
 . rw[if_neg h0]at h
   by_cases h1:-(n:Int)<=i
   . rw[if_pos h1]at h
     have e:(i+n).toNat=j:=Option.some.inj h
     exact⟨by rw[seqIndex_neg (by omega) h1,e],by omega,h1,by omega⟩
   . rw[if_neg h1]at h;cases h
theorem Ad{α:Type}{xs:List α}{i:Int}{v:α}(h:atI xs i=some v):∃ j,seqIndex? i xs.length=some j /\ xs[j]?=some v /\ j<xs.length /\ -(xs.length:Int)<=i /\ i<xs.length:=by
 unfold atI at h
 cases e:ixN xs.length i with
 |none=>rw[e]at h;cases h
 | some j=>
   rw[e]at h;obtain⟨h1,h2,h3,h4⟩:=zt e
   exact⟨j,h1,h,h2,h3,h4⟩
noncomputable def wq(b:Expr):Prop:=∀ o i,subscripted b false o i=operate [o,i] (getItem o i)
noncomputable def IxR(X:Cx)(r:R2):Prop:=
 ∀(value slice:Expr) (pins:List (Addr×Obj)) (s:Shared) (σ:St) (H:Hp) (x y:V) (v u:Value) (Q:VK),Inv X pins σ H s->RelV x v->RelV y u->r x y H Q ->
   subscripted slice false v u=operate [v,u] (getItem v u)->wpAny (model X.prog X.w) X.A (subscriptTail value slice v u) (EP X pins σ Q) X.xe s
noncomputable def MtR(X:Cx)(id:String)(r:V->List V->Hp->VK->Prop):Prop:=
 ∀(pins:List (Addr×Obj)) (s:Shared) (σ:St) (H:Hp) (x:V) (xs:List V) (v:Value) (us:List Value) (Q:VK),Inv X pins σ H s->RelV x v->Vals xs us->r x xs H Q ->
   wpAny (model X.prog X.w) X.A (call (.builtin id) (v ::us)) (EP X pins σ Q) X.xe s
section
variable{X:Cx}{a b:Expr}{ta tb:TE}{pos:Pos}
theorem Jy{r:R2}(hr:IxR X r)(ha:PE X a ta)(hb:PE X b tb)(hs:wq b):PE X (.Subscript a b pos) (tOp r ta tb):=by
 intro pins s σ H Q I h;exact Subscript_ (Ha ha hb I h fun v u s2 x y H2 I2 rx ry q=>hr a b pins s2 σ H2 x y v u Q I2 rx ry q (hs _ _))
noncomputable def EW(K:PySem.W.Frag):R2:=fun x y H Q=>∃ p xs i v,x=.ref p /\ y=.int i /\ SqL K H p xs /\ atI xs i=some v /\ Q v H
noncomputable def Jn(K:PySem.W.Frag):R2:=fun x y H Q=>∃ p xs i v,x=.ref p /\ y=.int i /\ SqT K H p xs /\ atI xs i=some v /\ Q v H
theorem aH:IxR X (EW X.K):=by
 intro value slice pins s σ H x y v u Q I rx ry h hs;obtain⟨p,xs,i,z,rfl,rfl,hq,he,q⟩:=h;cases rx;obtain⟨t,rfl⟩:=ry;obtain⟨its,r,pl,hz⟩:=I.list hq;obtain⟨j,h1,h2,h3,h4,h5⟩:=Ad he;obtain⟨w,ew,rw'⟩:=r.get h2;have hl:=r.length;have hn:=sL
 have fin:EP X pins σ Q w s:=⟨z,H,I,rw',q⟩
 by_cases h0:0<=i
 . have hj:i.toNat = j:=by
    rw[seqIndex_of h0 h5]at h1;exact Option.some.inj h1
   exact item_listR pl.isList h0 (by omega) (by rw[hj];simpa using ew) fin hs
 . have hj:(i + (its.toArray.size:Int)).toNat = j:=by
    rw[seqIndex_neg (by omega) h4]at h1;rw[List.size_toArray,<- hl];exact Option.some.inj h1
   exact subscriptTail_builtinR (x:=w) pl.isList.typeIs slot_list_getitem.lookup
    (wpAny_getItem_list_neg (Q:=fun r s'=>r=w /\ EP X pins σ Q r s') pl.isList (by omega) (by rw[List.size_toArray]<;>omega) (by omega) (by rw[hj];simpa using ew) ⟨rfl,fin⟩) hs
theorem bI:IxR X (Jn X.K):=by
 intro value slice pins s σ H x y v u Q I rx ry h hs;obtain⟨p,xs,i,z,rfl,rfl,hq,he,q⟩:=h;cases rx;obtain⟨t,rfl⟩:=ry;obtain⟨its,r,pl,hz⟩:=I.tuple hq;obtain⟨j,h1,h2,h3,h4,h5⟩:=Ad he;obtain⟨w,ew,rw'⟩:=r.get h2;have hl:=r.length;have hn:=sL
 have fin:EP X pins σ Q w s:=⟨z,H,I,rw',q⟩
 exact subscriptTail_builtinR (x:=w) pl.typeIs slot_tuple_getitem.lookup
  (getItem_tuple (j:=j) (Q:=fun r s'=>r=w /\ EP X pins σ Q r s') pl (by omega) (by omega) (by rw[List.size_toArray,<- hl];exact h1) (by simpa using ew) ⟨rfl,fin⟩) hs
theorem yR(its:List Value)(n j:Nat)(u:Value):Obj.mapSeq (·.setIfInBounds j u) { cls:=.type "list",data:=.seq its.toArray n }={ cls:=.type "list",data:=.seq (its.set j u).toArray n }:=by
 simp[Obj.mapSeq]
theorem Inv.lst{pins:List (Addr×Obj)}{σ:St}{H:Hp}{s:Shared}{p:Addr}{xs:List V}(I:Inv X pins σ H s)(h:H p=some (.lst xs)):
  ∃(its:List Value) (n:Nat),Vals xs its /\ s.heap.get? p=some { cls:=.type "list",data:=.seq its.toArray n } /\ xs.length<=sizeLine:=by
 obtain⟨z,its,n,r,e⟩:=I.hok p _ h
 exact⟨its,n,r,e,z⟩
theorem Inv.GL{pins:List (Addr×Obj)}{σ:St}{H:Hp}{s:Shared}{p:Addr}{xs ys:List V}{its its':List Value}{n n':Nat}{f:Obj->Obj}(I:Inv X pins σ H s)(h:H p=some (.lst xs))
  (ho:s.heap.get? p=some { cls:=.type "list",data:=.seq its.toArray n }) (hf:f { cls:=.type "list",data:=.seq its.toArray n }={ cls:=.type "list",data:=.seq its'.toArray n' }) (r:Vals ys its') (hz:ys.length<=sizeLine) (t:Nat):
  Inv X pins σ (upd H p (.lst ys)) { s with heap:=s.heap.update p f,toks:=t }:=by
 have e:(s.heap.update p f).get? p=some { cls:=.type "list",data:=.seq its'.toArray n' }:=by
  rw[Heap.get?_update_self f ho (by rw[hf]<;>rfl),hf]
 refine I.write (x:=p) (e:=p) (by rw[h];trivial) (.inl rfl) (fun b u hb q=>(Heap.get?_update_other _ _ (Ne.symm hb)).trans q) ⟨_,e⟩ ?_
 exact⟨hz,its',n',r,e⟩
noncomputable def FY:V->V->V->Hp->(Hp->Prop)->Prop:=fun o i v H Q=>∃ p xs k j,o=.ref p /\ i=.int k /\ H p=some (.lst xs) /\ ixN xs.length k=some j /\ Q (upd H p (.lst (xs.set j v)))
theorem set_list:GI X FY:=by
 intro pins s σ H o i v ov iv u Q I ro ri rv h;obtain⟨p,xs,k,j,rfl,rfl,hp,hj,q⟩:=h;cases ro;obtain⟨t,rfl⟩:=ri;obtain⟨its,n,r,ho,hz⟩:=I.lst hp;obtain⟨h1,h2,h3,h4⟩:=zt hj;have hl:=r.length;have hn:=sL
 have I':Inv X pins σ (upd H p (.lst (xs.set j v))) { s with heap:=s.heap.update p (Obj.mapSeq (·.setIfInBounds j u)) }:=
  I.GL hp ho (yR its n j u) (r.set rv j) (by rw[List.length_set];exact hz) s.toks
 by_cases h0:0<=k
 . have hk:k.toNat = j:=by
    rw[seqIndex_of h0 h4]at h1;exact Option.some.inj h1
   exact PySem.W.ki_setAt ho h0 (by omega) (by rw[List.size_toArray,<- hl];exact h4) (by rw[hk];exact⟨_,I',q⟩)
 . have hk:(k + (its.toArray.size:Int)).toNat = j:=by
    rw[seqIndex_neg (by omega) h3]at h1;rw[List.size_toArray,<- hl];exact Option.some.inj h1
   exact PySem.W.ki_setBack ho (by omega) (by rw[List.size_toArray,<- hl];exact h3) (by omega) (by rw[hk];exact⟨_,I',q⟩)
theorem wm(lo hi:Option Int)(n:Nat):(sliceBounds lo hi none n).1=((HT.sIx n 0 lo:Nat):Int) /\ (sliceBounds lo hi none n).2.1=((HT.sIx n n hi:Nat):Int) /\ (sliceBounds lo hi none n).2.2=1:=by
 refine⟨?_,?_,rfl⟩
 . cases lo with
   |none=>simp[sliceBounds,HT.sIx]
   | some i=>
     simp only[sliceBounds,HT.sIx,Option.getD_none,show(1:Int)>0 by decide,if_true]
     by_cases h:i<0
     . simp only[h,if_true]<;>omega
     . simp only[h,if_false]<;>omega
 . cases hi with
   |none=>simp[sliceBounds,HT.sIx]
   | some i=>
     simp only[sliceBounds,HT.sIx,Option.getD_none,show(1:Int)>0 by decide,if_true]
     by_cases h:i<0
     . simp only[h,if_true]<;>omega
     . simp only[h,if_false]<;>omega
theorem uw(its:List Value)(lo hi:Option Int):slicePick its.toArray lo hi none=((its.drop (HT.sIx its.length 0 lo)).take (HT.sIx its.length its.length hi - HT.sIx its.length 0 lo)).toArray:=by
 obtain⟨h1,h2,h3⟩:=wm lo hi its.toArray.size;unfold slicePick;rw[h1,h2,h3]
 simp only[sliceRange_one,pick_run,List.size_toArray]<;>rfl
noncomputable def IP(K:PySem.W.Frag):V->Option Int->Option Int->Hp->VK->Prop:=fun x lo hi H Q=>∃ a xs,x=.ref a /\ SqL K H a xs /\ ∀ p,H p=none->Q (.ref p) (upd H p (.lst (A4 xs lo hi)))
theorem sC:SlR X (IP X.K):=by
 intro pins s σ H x v vl vu lo hi sl Q I rx hs pl pu h;obtain⟨a,xs,rfl,hx,q⟩:=h;cases rx;obtain⟨its,r,ht,hz⟩:=I.list hx;have hlen:=r.length
 refine⟨"list",_,slot_list_getitem.lookup,ht.isList.typeIs,?_⟩
 refine wpAny_getItem_list_slice ht.isList hs pl pu .none (by simp) ?_ (by rw[List.size_toArray]<;>omega);rw[uw,<- hlen]
 refine⟨.ref s.heap.objs.size,_,I.laid (t':=s.toks) (o:=.lst (A4 xs lo hi)) (fun b ob q=>Heap.get?_push_of_some _ q) (Nat.le_refl _) ?_,rfl,q _ (I.hok.fresh (Nat.le_refl _))⟩
 exact⟨Nat.le_trans (w6 xs lo hi) hz,_,0,(r.drop (HT.sIx xs.length 0 lo)).take (HT.sIx xs.length xs.length hi - HT.sIx xs.length 0 lo),Heap.get?_push_size _ rfl⟩
noncomputable def oR:V->Bool
 |.non=>true
 |.bl _=>true
 |.int _=>true
 |.str _=>true
 |_=>false
noncomputable def eqV:V->V->Bool
 |.non,.non=>true
 |.bl a,.bl b=>a==b
 |.bl a,.int b=>(if a then 1 else 0)==b
 |.int a,.bl b=>a==(if b then 1 else 0)
 |.int a,.int b=>a==b
 |.str a,.str b=>a==b
 |_,_=>false
theorem HW{A:Around}{s:Shared}{y x:V}{u v:Value}(ry:RelV y u)(rx:RelV x v)(fy:oR y=true)(fx:oR x=true):SeqAt.EqAt A s u v (eqV y x):=by
 cases y with
 | non=>
   cases ry
   cases x with
   |non=>cases rx;exact SeqAt.EqAt.same _
   |bl b=>cases rx;exact SeqAt.EqAt.none_bool b
   |int b=>obtain⟨t,rfl⟩:=rx;exact SeqAt.EqAt.none_int b t
   |str b=>obtain⟨t,rfl⟩:=rx;exact SeqAt.EqAt.none_str b t
   |_=>exact absurd (show false=true from fx) Bool.false_ne_true
 | bl a=>
   cases ry
   cases x with
   |non=>cases rx;exact SeqAt.EqAt.bool_none a
   |bl b=>cases rx;exact SeqAt.EqAt.bool_bool a b
   |int b=>obtain⟨t,rfl⟩:=rx;exact SeqAt.EqAt.bool_int a b t
   |str b=>obtain⟨t,rfl⟩:=rx;exact SeqAt.EqAt.bool_str a b t
   |_=>exact absurd (show false=true from fx) Bool.false_ne_true
 | int a=>
   obtain⟨t',rfl⟩:=ry
   cases x with
   |non=>cases rx;exact SeqAt.EqAt.int_none a t'
   |bl b=>cases rx;exact SeqAt.EqAt.int_bool a t' b
   |int b=>obtain⟨t,rfl⟩:=rx;exact SeqAt.EqAt.int_int a t' b t
   |str b=>obtain⟨t,rfl⟩:=rx;exact SeqAt.EqAt.int_str a t' b t
   |_=>exact absurd (show false=true from fx) Bool.false_ne_true
 | str a=>
   obtain⟨t',rfl⟩:=ry
   cases x with
   |non=>cases rx;exact SeqAt.EqAt.str_none a t'
   |bl b=>cases rx;exact SeqAt.EqAt.str_bool a t' b
   |int b=>obtain⟨t,rfl⟩:=rx;exact SeqAt.EqAt.str_int a t' b t
   |str b=>obtain⟨t,rfl⟩:=rx;exact SeqAt.EqAt.str_str a t' b t
   |_=>exact absurd (show false=true from fx) Bool.false_ne_true
 |_=>exact absurd (show false=true from fy) Bool.false_ne_true
noncomputable def eqU(x:V)(u:Value):Bool:=match u with
 |.none=>eqV .non x
 |.bool b=>eqV (.bl b) x
 |.int i _=>eqV (.int i) x
 |.str z _=>eqV (.str z) x
 |_=>false
theorem Bx{x y:V}{u:Value}(r:RelV y u)(f:oR y=true):eqU x u=eqV y x:=by
 cases y with
 |non=>cases r;rfl
 |bl b=>cases r;rfl
 |int i=>obtain⟨t,rfl⟩:=r;rfl
 |str z=>obtain⟨t,rfl⟩:=r;rfl
 |_=>exact absurd (show false=true from f) Bool.false_ne_true
theorem qd{x:V}:∀{xs:List V} {us:List Value},Vals xs us->xs.all oR=true->us.any (eqU x)=xs.any fun y=>eqV y x
 |_,_,.nil,_=>rfl
 | y ::xs,u ::us,.cons r t,f=>by
   rw[List.all_cons,Bool.and_eq_true]at f;rw[List.any_cons,List.any_cons,Bx r f.1,qd t f.2]
theorem mS{A:Around}{s:Shared}{x:V}{v:Value}(rx:RelV x v)(fx:oR x=true):∀{xs:List V} {us:List Value},Vals xs us->xs.all oR=true->∀ u∈us,SeqAt.EqAt A s u v (eqU x u)
 |_,_,.nil,_=>fun u hu=>by cases hu
 | y ::xs,u ::us,.cons r t,f=>fun u' hu=>by
   rw[List.all_cons,Bool.and_eq_true]at f
   rcases List.mem_cons.mp hu with rfl|hu
   . rw[Bx r f.1];exact HW r rx f.1 fx
   . exact mS rx fx t f.2 u' hu
noncomputable def inV(x:V)(xs:List V):Bool:=xs.any fun y=>eqV y x
noncomputable def rIn(K:PySem.W.Frag)(neg:Bool):R2:=fun x y H Q=>∃ p xs,y=.ref p /\ (SqL K H p xs \/ SqT K H p xs) /\ oR x=true /\ xs.all oR=true /\ Q (.bl (if neg then !inV x xs else inV x xs)) H
theorem Ba:OpR X (compareOp .In) (rIn X.K false):=by
 intro pins s σ H x y v u Q I rx ry h;obtain⟨p,xs,rfl,hq,fx,fs,q⟩:=h;cases ry
 rcases hq with hq|hq
 . obtain⟨its,r,pl,hz⟩:=I.list hq;refine SeqAt.in_listAt (eqU x) pl.isList (fun w hw=>mS rx fx r fs w (by simpa using hw)) ⟨.bl _,H,I,rfl,?_⟩;rw[show its.toArray.any (eqU x)=its.any (eqU x) by simp,qd r fs];exact q
 . obtain⟨its,r,pl,hz⟩:=I.tuple hq;refine SeqAt.in_tupleAt (eqU x) pl (fun w hw=>mS rx fx r fs w (by simpa using hw)) ⟨.bl _,H,I,rfl,?_⟩;rw[show its.toArray.any (eqU x)=its.any (eqU x) by simp,qd r fs];exact q
theorem vM:OpR X (compareOp .NotIn) (rIn X.K true):=by
 intro pins s σ H x y v u Q I rx ry h;obtain⟨p,xs,rfl,hq,fx,fs,q⟩:=h;cases ry
 rcases hq with hq|hq
 . obtain⟨its,r,pl,hz⟩:=I.list hq;refine SeqAt.notIn_listAt (eqU x) pl.isList (fun w hw=>mS rx fx r fs w (by simpa using hw)) ⟨.bl _,H,I,rfl,?_⟩;rw[show its.toArray.any (eqU x)=its.any (eqU x) by simp,qd r fs];exact q
 . obtain⟨its,r,pl,hz⟩:=I.tuple hq;refine SeqAt.notIn_tupleAt (eqU x) pl (fun w hw=>mS rx fx r fs w (by simpa using hw)) ⟨.bl _,H,I,rfl,?_⟩;rw[show its.toArray.any (eqU x)=its.any (eqU x) by simp,qd r fs];exact q
theorem vC:kb X (.builtin "len") (fun xs H Q=>∃ p ys,xs=[.ref p] /\ (SqL X.K H p ys \/ SqT X.K H p ys) /\ Q (.int ys.length) H):=by
 intro pins s σ H xs us Q I r h;obtain⟨p,ys,rfl,hq,q⟩:=h;obtain⟨u,rfl,rx⟩:=vals1 r;cases rx;have hn:=sL
 rcases hq with hq|hq
 . obtain⟨its,r',pl,hz⟩:=I.list hq;have hlen:=r'.length;exact Calls.call_len_list pl.isList (by simp only[List.size_toArray]<;>omega) ⟨.int ys.length,H,I.tok _,⟨s.toks+1,by rw[List.size_toArray,hlen]⟩,q⟩
 . obtain⟨its,r',pl,hz⟩:=I.tuple hq;have hlen:=r'.length;exact len_tuple pl (by simp only[List.size_toArray]<;>omega) ⟨.int ys.length,H,I.tok _,⟨s.toks+1,by rw[List.size_toArray,hlen]⟩,q⟩
theorem mE:kb X (.type "list") (fun xs H Q=>∃ p ys,xs=[.ref p] /\ (SqL X.K H p ys \/ SqT X.K H p ys) /\ ∀ l,H l=none->Q (.ref l) (upd H l (.lst ys))):=by
 intro pins s σ H xs us Q I r h;obtain⟨p,ys,rfl,hq,q⟩:=h;obtain⟨u,rfl,rx⟩:=vals1 r;cases rx
 have fin:∀(its:List Value),Vals ys its->ys.length<=sizeLine->∀(h':Heap) (c':Nat),(∀ b o',s.heap.get? b=some o'->h'.get? b=some o') ->
   h'.get? s.heap.objs.size=some { cls:=.type "list",dict:=none,data:=.seq its.toArray c',slots:=#[] }->EP X pins σ Q (.ref s.heap.objs.size) { s with heap:=h' }:=fun its r' hz h' c' kp e=>
  ⟨.ref s.heap.objs.size,_,I.laid (t':=s.toks) kp (Nat.le_refl _) (show fH X.prog X.w _ h' _ (.lst ys) from⟨hz,its,c',r',e⟩),rfl,q _ (I.hok.fresh (Nat.le_refl _))⟩
 rcases hq with hq|hq
 . obtain⟨its,r',pl,hz⟩:=I.list hq;have hlen:=r'.length;obtain⟨o,ho,hc,n,hd⟩:=pl.isList;exact call_list_seq p (.inl rfl) ho hc hd (fun h' c' kp e=>fin its r' hz h' c' kp e) (by simp only[List.size_toArray]<;>omega)
 . obtain⟨its,r',pl,hz⟩:=I.tuple hq;have hlen:=r'.length;obtain⟨o,ho,hc,n,hd⟩:=pl;exact call_list_seq p (.inr rfl) ho hc hd (fun h' c' kp e=>fin its r' hz h' c' kp e) (by simp only[List.size_toArray]<;>omega)
theorem iS:kb X (.type "tuple") (fun xs H Q=>∃ p ys,xs=[.ref p] /\ ((SqL X.K H p ys /\ ∀ l,H l=none->Q (.ref l) (upd H l (.tup ys))) \/ (SqT X.K H p ys /\ Q (.ref p) H))):=by
 intro pins s σ H xs us Q I r h;obtain⟨p,ys,rfl,h⟩:=h;obtain⟨u,rfl,rx⟩:=vals1 r;cases rx
 rcases h with⟨hq,q⟩|⟨hq,q⟩
 . obtain⟨its,r',pl,hz⟩:=I.list hq;have hlen:=r'.length;refine call_tuple_list pl.isList (fun h' kp=>?_) (by simp only[List.size_toArray]<;>omega)
   have I1:Inv X pins σ H { s with heap:=h' }:=I.kept (t':=s.toks) kp
   have I2:Inv X pins σ (upd H h'.objs.size (.tup ys)) { s with heap:=h'.push { cls:=.type "tuple",data:=.seq its.toArray } }:=
    I1.laid (t':=s.toks) (fun b o e=>Heap.get?_push_of_some _ e) (Nat.le_refl _) (show fH X.prog X.w _ _ _ (.tup ys) from⟨⟨hz,.new _ _⟩,its,r',IsTup.new _ _⟩)
   exact⟨.ref h'.objs.size,_,I2,rfl,q _ (I1.hok.fresh (Nat.le_refl _))⟩
 . obtain⟨its,r',pl,hz⟩:=I.tuple hq;exact call_tuple_same pl ⟨.ref p,H,I,rfl,q⟩
noncomputable def tyV(K:PySem.W.Frag)(T:String)(x:V)(H:Hp):Prop:=match x with
 |.str _=>T = "str"
 |.int _=>T = "int"
 | .ref p=>(T = "list" /\ ∃ xs,SqL K H p xs) \/ (T = "tuple" /\ ∃ o,K.lookup p = some o /\ o.cls = .type "tuple" /\ o.dict = none) \/
    (T = "dict" /\ ((∃ kvs,H p=some (.dK kvs)) \/ ∃ kvs,H p=some (.dT kvs))) \/ (T = "set" /\ ∃ S n,H p=some (.set S n))
 |_=>False
theorem BO{pins:List (Addr×Obj)}{σ:St}{H:Hp}{s:Shared}{T:String}{x:V}{v:Value}(I:Inv X pins σ H s)(r:RelV x v)(ty:tyV X.K T x H):
  s.TypeIs v T /\ ∀ a,v=.ref a->∃ ob,s.heap.get? a=some ob /\ ob.dict=none:=by
 cases x with
 | str z=>
   obtain⟨t,rfl⟩:=r
   cases(show T = "str" from ty)
   exact⟨typeIs_str s z t,fun _ e=>nomatch e⟩
 | int i=>
   obtain⟨t,rfl⟩:=r
   cases(show T = "int" from ty)
   exact⟨typeIs_int s i t,fun _ e=>nomatch e⟩
 | ref p=>
   cases r
   rcases ty with⟨rfl,xs,hq⟩|⟨rfl,o,hk,hc,hd⟩|⟨rfl,hk⟩|⟨rfl,S,n,hk⟩
   . obtain⟨its,_,pl,_⟩:=I.list hq
     refine⟨pl.isList.typeIs,fun a e=>?_⟩
     cases e;obtain⟨o,n,e,c,hd,_⟩:=pl
     exact⟨o,e,hd⟩
   . refine⟨⟨o,I.kIn p o hk,hc⟩,fun a e=>?_⟩
     cases e
     exact⟨o,I.kIn _ o hk,hd⟩
   . have z:∃ o,s.heap.get? p = some o /\ o.ExactDict:=by
      rcases hk with⟨kvs,hk⟩|⟨kvs,hk⟩
      . obtain⟨_,_,_,_,o,_,_,e,ex,_⟩:=I.hok p _ hk
        exact⟨o,e,ex⟩
      . obtain⟨_,_,_,_,o,_,_,e,ex,_⟩:=I.hok p _ hk
        exact⟨o,e,ex⟩
     obtain⟨o,e,ex⟩:=z
     refine⟨⟨o,e,ex.1⟩,fun a e2=>?_⟩
     cases e2
     exact⟨o,e,ex.2.1⟩
   . obtain⟨o,_,_,_,e,ex,_⟩:=I.hok p _ hk
     refine⟨⟨o,e,ex.1⟩,fun a e2=>?_⟩
     cases e2
     exact⟨o,e,ex.2.1⟩
 |_=>exact False.elim ty
noncomputable def HN(K:PySem.W.Frag)(T:String)(r:V->List V->Hp->VK->Prop)(to:TE):TE:=fun σ H Q=>to σ H fun x H1=>tyV K T x H1 /\ r x [] H1 Q
noncomputable def tBM(K:PySem.W.Frag)(T:String)(r:V->List V->Hp->VK->Prop)(to:TE)(t:TA):TE:=fun σ H Q=>to σ H fun x H1=>tyV K T x H1 /\ t σ H1 fun xs H2=>r x xs H2 Q
variable{o e:Expr}{es:List Expr}{to:TE}{t:TA}{name:Str}{apos cpos:Pos}{T id:String}{r:V->List V->Hp->VK->Prop}
theorem GP(pa:PlainAttrs T)(slot:Slot T name id)(hty:typeOf (.builtin id)=pure (.type "method_descriptor"))(hm:MtR X id r)(ho:PE X o to)
  (hbase:attributeBase o name X.env (eval o X.env)=eval o X.env:=by rfl) (hline:(apos.endLine==cpos.line)=true:=by rfl):PE X (.Call (.Attribute o name apos) [] [] cpos) (HN X.K T r to):=by
 intro pins s σ H Q I h;refine wpAny_Call_method0_late hbase hline (thn (ho pins s σ H _ I h) fun v s1 ⟨x,H1,I1,r1,ty,q1⟩=>?_);obtain⟨h1,h2⟩:=BO I1 r1 ty
 exact⟨T,id,pa,slot,hty,h1,h2,Calls.callWith_builtin rfl (PySem.evalArgs_none (hm pins s1 σ H1 x [] v [] Q I1 r1 .nil q1))⟩
theorem IX(pa:PlainAttrs T)(slot:Slot T name id)(hty:typeOf (.builtin id)=pure (.type "method_descriptor"))(hm:MtR X id r)(ho:PE X o to)(ha:PA X (e ::es) t)
  (hbase:attributeBase o name X.env (eval o X.env)=eval o X.env:=by rfl)
  (hfew:((backTo cpos (starEach (e ::es) X.env)).all (fun x=>!x.1)&&(backToKw cpos (keywordEach [] X.env)).all (fun x=>x.1.isSome)
    && decide ((e ::es).length+([]:List Keyword).length+(if([]:List Keyword).isEmpty then 0 else 1)<30))=true:=by rfl)
  (hline:(apos.endLine==cpos.line)=true:=by rfl) (hs:starEach (e ::es) X.env=(false,eval e X.env) ::starEach es X.env:=by rfl) (hplain:(backTo cpos (starEach es X.env)).any (·.1)=false:=by rfl):
  PE X (.Call (.Attribute o name apos) (e ::es) [] cpos) (tBM X.K T r to t):=by
 intro pins s σ H Q I h;refine wpAny_Call_method_late hbase hfew hline rfl (thn (ho pins s σ H _ I h) fun v s1 ⟨x,H1,I1,r1,ty,q1⟩=>?_);obtain⟨h1,h2⟩:=BO I1 r1 ty
 refine⟨T,id,pa,slot,hty,h1,h2,?_⟩
 have hA:=ha cpos pins s1 σ H1 _ I1 q1
 rw[hs]at hA ⊢
 refine Calls.callWith_builtin (by show(false||(backTo cpos (starEach es X.env)).any (·.1))=false;rw[hplain]<;>rfl) (Calls.evalArgs_plain ?_)
 exact thn hA fun us s2 ⟨vs,H2,I2,r2,q2⟩=>hm pins s2 σ H2 x vs v us Q I2 r1 r2 q2
end
noncomputable def MtM(X:Cx)(id:String)(r:V->List V->Hp->VK->Prop):Prop:=
 ∀(pins:List (Addr×Obj)) (s:Shared) (σ:St) (H:Hp) (x:V) (xs:List V) (v:Value) (us:List Value) (Q:VK),Inv X pins σ H s->RelV x v->Vals xs us->r x xs H Q ->
   wpAny (model X.prog X.w) X.A (call (.builtin id) (v ::us)) (EP X pins σ Q) X.xe s
theorem Vals.one:∀{x:V} {us:List Value},Vals [x] us->∃ u,us=[u] /\ RelV x u
 |_,_,.cons r .nil=>⟨_,rfl,r⟩
theorem Vals.two:∀{x y:V} {us:List Value},Vals [x,y] us->∃ u v,us=[u,v] /\ RelV x u /\ RelV y v
 |_,_,_,.cons r (.cons q .nil)=>⟨_,_,rfl,r,q⟩
theorem Vals.zero:∀{us:List Value},Vals [] us->us=[]
 |_,.nil=>rfl
theorem Vals.dropLast{xs:List V}{us:List Value}(h:Vals xs us):Vals xs.dropLast us.dropLast:=by
 induction h with
 |nil=>exact .nil
 | cons r t ih=>
   cases t with
   |nil=>exact .nil
   |cons q t'=>exact .cons r ih
theorem Vals.eraseIdx:∀{xs:List V} {us:List Value} (i:Nat),Vals xs us->Vals (xs.eraseIdx i) (us.eraseIdx i)
 |_,_,_,.nil=>.nil
 |_,_,0,.cons _ t=>t
 |_,_,i+1,.cons r t=>.cons r (Vals.eraseIdx i t)
theorem zh{α:Type}(l:List α):l.eraseIdx (l.length - 1)=l.dropLast:=by
 induction l with
 |nil=>rfl
 | cons a r ih=>
   cases r with
   |nil=>rfl
   | cons b r=>
     have e:(a ::b ::r).length - 1=((b ::r).length - 1)+1:=by
      have h1:(a ::b ::r).length=r.length+2:=rfl
      have h2:(b ::r).length=r.length+1:=rfl
      omega
     rw[e,List.eraseIdx_cons_succ,ih]
     all_goals rfl
section
variable{X:Cx}{pins:List (Addr×Obj)}{σ:St}{H:Hp}{s:Shared}{l b:Addr}{xs ys zs:List V}
theorem Inv.HX{its its':List Value}{n:Nat}{f:Array Value->Array Value}{t':Nat}(I:Inv X pins σ H s)(hH:H l=some (.lst xs))
  (e:s.heap.get? l=some { cls:=.type "list",data:=.seq its.toArray n }) (hf:f its.toArray=its'.toArray) (hv:Vals ys its') (hz:ys.length<=sizeLine):
  Inv X pins σ (upd H l (.lst ys)) { s with heap:=s.heap.update l (Obj.mapSeq f),toks:=t' }:=by
 have q:=PySem.IsL.update e f;rw[hf]at q;refine I.write (x:=l) (e:=l) (by rw[hH];exact trivial) (.inl rfl) (fun b' u hb hu=>(Heap.get?_update_other s.heap (Obj.mapSeq f) (Ne.symm hb)).trans hu) ⟨_,q⟩ ?_
 exact⟨hz,its',_,hv,q⟩
theorem Inv.CD{its:List Value}{t':Nat}(I:Inv X pins σ H s)(hv:Vals ys its)(hz:ys.length<=sizeLine):
  Inv X pins σ (upd H s.heap.objs.size (.lst ys)) { s with heap:=s.heap.push { cls:=.type "list",data:=.seq its.toArray },toks:=t' }:=
 I.laid (fun _ _ q=>Heap.get?_push_of_some _ q) (Nat.le_refl _) ⟨hz,its,0,hv,Heap.get?_push_size _ rfl⟩
theorem Inv.fresh(I:Inv X pins σ H s):H s.heap.objs.size=none:=I.hok.fresh (Nat.le_refl _)
theorem Inv.Gk(I:Inv X pins σ H s)(hH:H l=some (.lst xs)):xs.length<=sizeLine /\ ∃(its:List Value) (n:Nat),Vals xs its /\ xs.length=its.length /\ s.heap.get? l=some { cls:=.type "list",data:=.seq its.toArray n }:=by
 obtain⟨z,its,n,r,e⟩:=I.hok l _ hH
 exact⟨z,its,n,r,r.length,e⟩
theorem CL{n:Nat}(h:n<=sizeLine):Builtin.List.listTooLong n=false:=by
 unfold Builtin.List.listTooLong;exact decide_eq_false (by omega)
end
section
variable{X:Cx}
noncomputable def vv:V->List V->Hp->VK->Prop:=fun x vs H Q=>∃ l xs y,x=.ref l /\ vs=[y] /\ H l=some (.lst xs) /\ xs.length<sizeLine /\ Q .non (upd H l (.lst (xs++[y])))
theorem bx:MtM X "list.append" vv:=by
 intro pins s σ H x vs v us Q I rx rv h;obtain⟨l,xs,y,rfl,rfl,hH,hz,q⟩:=h;cases rx;obtain⟨u,rfl,ru⟩:=rv.one;obtain⟨z,its,n,r,hl,e⟩:=I.Gk hH;refine call_meets F.slot_list_append ⟨_,e,rfl⟩ F.entry_list_append (F.args_list_append_2 _ _) (PySem.list_append l its.toArray n u (by rw[List.size_toArray];omega)) ⟨e,?_⟩
 refine⟨.non,_,I.HX (its':=its++[u]) hH e (by simp) (r.append (.cons ru .nil)) ?_,rfl,q⟩
 rw[List.length_append,List.length_singleton];omega
noncomputable def IJ:V->List V->Hp->VK->Prop:=fun x vs H Q=>∃ l xs y,x=.ref l /\ vs=[] /\ H l=some (.lst xs) /\ xs[xs.length - 1]?=some y /\ Q y (upd H l (.lst xs.dropLast))
theorem HG:MtM X "list.pop" IJ:=by
 intro pins s σ H x vs v us Q I rx rv h;obtain⟨l,xs,y,rfl,rfl,hH,hy,q⟩:=h;cases rx;have hus:=rv.zero;subst hus;obtain⟨z,its,n,r,hl,e⟩:=I.Gk hH;obtain⟨u,hu,ru⟩:=r.get hy
 have hy':its.toArray[its.toArray.size - 1]?=some u:=by
  show its.toArray[its.length - 1]?=some u;rw[<- Array.getElem?_toList,<- hl];exact hu
 refine call_meets F.slot_list_pop ⟨_,e,rfl⟩ F.entry_list_pop (F.args_list_pop_1 _) (MeetsSeq.list_pop_last l its.toArray n u hy' (by rw[List.size_toArray];omega)) ⟨e,?_⟩
 refine⟨y,_,I.HX (its':=its.dropLast) hH e ?_ r.dropLast ?_,ru,q⟩
 . show its.toArray.eraseIdxIfInBounds (its.toArray.size - 1)=its.dropLast.toArray;rw[List.size_toArray,List.eraseIdxIfInBounds_toArray,zh]
 . rw[List.length_dropLast];omega
end
section
variable{prog:Program}{w:World}{A:Around}{E:Value->Shared->Prop}{s:Shared}
set_option maxRecDepth 100000 in
end
end L2
namespace Att
open PySem PySem.W PySem.Calls PyProof.Rows
theorem rH{P:Params}{h:Heap}:∀(ns:List Int) (vs:List Value),WellAll P h vs (ns.map WData.int)->IntsAre vs ns:=by
 intro ns
 induction ns with
 | nil=>
   intro vs w;rw[List.map_nil]at w;cases w;exact .nil
 | cons n ns ih=>
   intro vs w;rw[List.map_cons]at w
   cases w with
   | cons a b=>
     cases a;exact .cons _ _ (ih _ b)
theorem AB{l:OpenLaw}{n:Nat}(hn:l.most=some n){P:Params}{h:Heap}{args:List WData}{vals:List Value}
  (hpre:l.row.toRowW.claim.pre args=true) (hwl:WellAll P h vals args):
  ∃ a vs ns,vals=[Value.ref a] /\ args=[WData.list (ns.map WData.int)] /\ h.get? a=some { cls:=.type "list",data:=.seq vs.toArray } /\ IntsAre vs ns /\ ns.length<=n:=by
 have hsh:WShape.hasAll [] args [.list .int]=true:=(pre_splitW hpre).1
 have hc:l.pre.holds [] { args:=args }=true:=(pre_splitW hpre).2
 obtain⟨d,r,rfl,h1,h2⟩:=hasAllW_cons hsh
 obtain rfl:=hasAllW_nil h2
 obtain⟨xs,rfl,h3⟩:=hasW_list h1;obtain⟨ns,rfl⟩:=items_int h3
 have hlen:ns.length<=n:=by
  unfold OpenLaw.pre at hc
  have h4:(WTm.not (.lt (.lit (.int (n:Int))) (.len (.arg 0)))).holds [] { args:=[.list (ns.map .int)] }=true:=by
   have h4:=(holds_andW hc).1;rw[hn]at h4;exact h4
  have h5:=condW_of h4 (w_not (w_lt w_lit (w_len_list (w_arg rfl))));rw[List.length_map]at h5
  refine Nat.le_of_not_lt fun q=>?_
  have q':(n:Int)<((ns.length:Nat):Int):=by omega
  first
   |(rw[decide_eq_true q']at h5;exact absurd h5 (by decide))
   |(simp at h5;omega)
 cases hwl with
 | cons w1 w2=>
   cases w2
   cases w1 with
   |list ho hall=>exact⟨_,_,ns,rfl,rfl,ho,rH ns _ hall,hlen⟩
theorem As(l:OpenLaw)(args:List WData):l.row.toRowW.claim.post args (.bool true) args=true:=
 postW_of (r:=l.row.toRowW) (X:=(true==true))
  (show WShape.has [] (.bool true) .bool=true by first|rfl|decide|simp[WShape.has,WShape.arms,WShape.armsAll])
  (show(WTm.eq .res (.lit (.bool true))).value [] { args:=args,res:=some (.bool true),after:=args }=some (.bool (true==true)) from w_eq_bool (w_res rfl) w_lit) rfl
theorem xg{l:OpenLaw}{n:Nat}{q:Program}{loose:List Str}{XP:(Str->Option Value)->Heap->Prop}{YP:World->Heap->Prop}{d:DefRec}
  (hn:l.most=some n) (hdf:d.params.defaults=[])
  (call:∀(w:World) (s₀ s₁:Shared) (mg mb:Str->Option Value) (fa:Addr) (o:Obj) (pm cd doc:Value) (a:Addr) (vs:List Value) (ns:List Int),
    Ground q loose [] XP w s₀ mg mb s₁.heap->YP w s₁.heap ->
    s₁.heap.get? fa=some o->o.data=.func (docDef d.name d.params d.body d.scope pm cd doc)->s₁.heap.CodeRec cd d.name->mg d.name=some (.ref fa) ->
    s₁.heap.get? a=some { cls:=.type "list",data:=.seq vs.toArray }->IntsAre vs ns->ns.length<=n->s₁.gens=#[] ->
    codeAny (model l.prog w) callerA (.call (.ref fa) ⟨[.ref a],[]⟩) (fun r s'=>r=.ok (.ret (.bool true)) /\ OldK s₁.heap s'.heap /\ s'.os=s₁.os /\ AllBare s'.gens) s₁):
  WalkO q loose XP YP l.row.toRowW d [] (fun f vs=>PySem.call f vs):=by
 intro w s₀ s₁ mg mb G Y fa o pm cd doc dV kV ho hd hcd hD hmg hg args vals as hpre hlay hrd hwl hlo
 obtain rfl:dV=.none:=Dflts.none hD hdf
 obtain rfl:kV=.none:=Dflts.noKw hD
 obtain⟨a,vs,ns,rfl,rfl,hobj,hints,hlen⟩:=AB hn hpre hwl;refine enter_call (codeAny_mono (call w s₀ s₁ mg mb fa o pm cd doc a vs ns G Y ho (fd_plain hd) hcd hmg hobj hints hlen hg) fun r s' hq=>?_);obtain⟨rfl,h2,h3,h4⟩:=hq
 exact⟨.inl ⟨.bool true,.bool true,[],rfl,fun _=>rfl,.bool true,As l _,fun _=>⟨List.Pairwise.nil,fun _ hm=>(nomatch hm)⟩⟩,h2,h3,h4⟩
end Att
namespace L2
open PySem PySem.Spec PyProof.Rows
theorem uV:∀{vs:List Value} {ns:List Int},IntsAre vs ns->Vals (ns.map V.int) vs
 |_,_,.nil=>.nil
 |_,_,.cons n t h=>.cons ⟨t,rfl⟩ (uV h)
noncomputable def Hz(H:Hp):Prop:=∀ b,H b=none \/ ∃ o xs,H b=some (.frz o (.lst xs))
theorem CB{P:Program}{w:World}{K:PySem.W.Frag}{mg mb:Str->Option Value}{CX:CXT}{k:Nat}{fa a:Addr}{fd:FuncData}{x:Str}{sp:Sp}{s₁:Shared}{vs:List Value}{ns:List Int}
  (KX:K.In s₁.heap) (hns:s₁.heap.Ns mainGlobals mg) (hb:s₁.heap.Ns builtinsNs mb) (hbb:∀ x:Str,x ≠ "__name__" -> mb x=bootBuiltins x) (hlim:s₁.heap.NoLimit) (hg:s₁.gens=#[])
  (ha:s₁.heap.get? a=some { cls:=.type "list",data:=.seq vs.toArray }) (hi:IntsAre vs ns) (hl:ns.length<=sizeLine) (hr:jM k callerA)
  (F:∀ base:Heap,K.In base->base.Ns mainGlobals mg->cD P w K mg base CX k fa fd [x] sp) (hbind:∀(s:Shared) (u:Value),BindsTo s fd ⟨[u],[]⟩ [(x,u)])
  (hsp:∀ H:Hp,Hz H->SqL K H a (ns.map V.int)->sp [.ref a] H (fun v _=>v=.bl true) fun _ _ _=>False)
  (hCX:∀ H e s',CX [] H s₁ (fun _ _ _=>False) e s'->False):
  codeAny (model P w) callerA (.call (.ref fa) ⟨[.ref a],[]⟩) (fun r s'=>r=.ok (.ret (.bool true)) /\ OldK s₁.heap s'.heap /\ s'.os=s₁.os /\ AllBare s'.gens) s₁:=by
 have rv:=uV hi;have lenV:=hi.length
 have core:∀ H:Hp,Hz H->SqL K H a (ns.map V.int)->HOk P w H s₁.heap->(∀ b,H b≠none->b=a)->(H a≠none->K.lookup a=none) ->
   codeAny (model P w) callerA (.call (.ref fa) ⟨[.ref a],[]⟩) (fun r s'=>r=.ok (.ret (.bool true)) /\ OldK s₁.heap s'.heap /\ s'.os=s₁.os /\ AllBare s'.gens) s₁:=by
  intro H hO hS hok hA hK
  have base_of:∀{b:Addr} {o:Obj},s₁.heap.get? b=some o->H b=none->(v3 s₁.heap H).get? b=some o:=fun e n=>Cy e n
  have noA:∀{b:Addr} {o:Obj} {es:Array DictEntry} {ep:Nat},s₁.heap.get? b=some o->o.data=.dict es ep->H b=none:=fun {b o es ep} e d=>by
   cases q:H b with
   |none=>rfl
   | some u=>
     have e':b=a:=hA b (by rw[q];simp)
     subst e';rw[ha]at e;cases e
     have d':Data.seq vs.toArray _=Data.dict es ep:=d
     cases d'
  have nsK:∀{b:Addr} {m:Str->Option Value},s₁.heap.Ns b m->(v3 s₁.heap H).Ns b m:=fun {b m} ⟨o,es,ep,e,d,r⟩=>⟨o,es,ep,base_of e (noA e d),d,r⟩
  have hKb:K.In (v3 s₁.heap H):=fun b o e=>base_of (KX b o e) (by
   cases q:H b with
   |none=>rfl
   | some u=>
     have e':b=a:=hA b (by rw[q];simp)
     subst e'
     rw[hK (by rw[q];simp)]at e;cases e)
  have hM:Mod K mg (v3 s₁.heap H):=⟨hKb,nsK hns,⟨mb,nsK hb,hbb⟩,let ⟨mc,h1,h2⟩:=hlim;⟨mc,nsK h1,h2⟩⟩
  have e0:E5 P w K mg (v3 s₁.heap H) callerA [] s₁ H:=⟨rfl,hM,fun b o e=>Eu e,Nat.le_of_eq (A5 _ _),trivial,fun b hb=>absurd (show b∈([]:List Addr) from hb) (by simp),hok,.of_eq hg⟩
  refine codeAny_mono ((F _ hKb (nsK hns)).run callerA [] s₁ H ⟨[.ref a],[]⟩ [.ref a] [.ref a] _ _ hr e0 (hbind s₁ (.ref a)) (.cons rfl .nil) (hsp H hO hS)) fun r s' h=>?_
  cases r with
  |error e=>exact(hCX H e s' h).elim
  | ok fl=>
    cases fl with
    |next=>exact False.elim h
    |brk=>exact False.elim h
    |cont=>exact False.elim h
    | ret u=>
      obtain⟨v,H',os,bare,un,hok',r',q⟩:=h
      have q':v=.bl true:=q
      subst q'
      obtain rfl:u=Value.bool true:=r'
      refine⟨rfl,OldK.of_keep fun b o e=>?_,os,bare⟩
      cases q:H b with
      |none=>exact un.keep b o e q (by intro z;exact absurd (show b∈([]:List Addr) from z) (by simp)) (by simp)
      | some u=>
        rcases hO b with z|⟨ob,xs,z⟩
        . rw[q]at z;cases z
        . have z2:=un.frzs b ob _ z;obtain⟨e1,_⟩:=hok b _ z;obtain⟨e2,_⟩:=hok' b _ z2;rw[e]at e1;cases e1;exact e2
 cases hk:K.lookup a with
 | some o=>
   have e:=KX a o hk;rw[ha]at e;cases e
   refine core (fun _=>none) (fun _=>.inl rfl) (.inr ⟨_,vs.toArray,_,hk,rfl,rfl,rfl,by rw[List.size_toArray,lenV];exact hl,by simpa using rv⟩) (fun b u z=>by have z':(none:Option HO)=some u:=z;cases z') (fun b z=>absurd rfl z) fun z=>absurd rfl z
 | none=>
   refine core (fun b=>if b=a then some (.frz { cls:=.type "list",data:=.seq vs.toArray } (.lst (ns.map V.int)))else none) (fun b=>?_) (.inl (.inr ⟨{ cls:=.type "list",data:=.seq vs.toArray },if_pos rfl⟩)) (fun b u z=>?_) (fun b z=>?_) fun _=>hk
   . by_cases hb:b=a
     . exact .inr ⟨_,_,if_pos hb⟩
     . exact .inl (if_neg hb)
   . by_cases hb:b=a
     . have z':=(if_pos hb).symm.trans z
       cases z'
       subst hb
       exact⟨ha,by rw[List.length_map];exact hl,vs,_,rv,ha⟩
     . have z':=(if_neg hb).symm.trans z
       cases z'
   . by_cases hb:b=a
     . exact hb
     . exact absurd (if_neg hb) z
abbrev KOf{K:PySem.W.Frag}{h:Heap}(_:K.In h):PySem.W.Frag:=K
theorem Dw{l:PySem.W.OpenLaw}{n k:Nat}{q:Program}{loose:List Str}{XP:(Str->Option Value)->Heap->Prop}{YP:World->Heap->Prop}{d:DefRec}{K:Params->PySem.W.Frag}{CX:World->CXT}{sp:World->Sp}{x:Str}
  (hn:l.most=some n) (hn2:n<=sizeLine) (hdf:d.params.defaults=[]) (hr:jM k callerA)
  (hY:∀(w:World) (h:Heap),YP w h->(K w.params).In h)
  (F:∀(w:World) (mg:Str->Option Value) (fa:Addr) (h:Heap),(K w.params).In h->h.Ns mainGlobals mg->mg d.name=some (.ref fa) ->
    ∃ fd:FuncData,(∀(s:Shared) (u:Value),BindsTo s fd ⟨[u],[]⟩ [(x,u)]) /\
      ∀ base:Heap,(K w.params).In base->base.Ns mainGlobals mg->cD l.prog w (K w.params) mg base (CX w) k fa fd [x] (sp w))
  (hsp:∀(w:World) (H:Hp) (a:Addr) (ns:List Int),ns.length<=n->Hz H->SqL (K w.params) H a (ns.map V.int)->sp w [.ref a] H (fun v _=>v=.bl true) fun _ _ _=>False)
  (hCX:∀(w:World) (H:Hp) (s:Shared) (e:Value) (s':Shared),CX w [] H s (fun _ _ _=>False) e s'->False):
  PySem.W.WalkO q loose XP YP l.row.toRowW d [] (fun f vs=>PySem.call f vs):=by
 refine Att.xg hn hdf fun w s₀ s₁ mg mb fa o pm cd doc a vs ns G Y ho hd hcd hmg hobj hints hlen hg=>?_
 have KX:=hY w _ Y;obtain⟨fd,hb,hF⟩:=F w mg fa _ KX G.T.g hmg
 exact CB KX G.T.g G.T.b G.T.builtins G.T.nolimit hg hobj hints (Nat.le_trans hlen hn2) hr hF hb (fun H hO hS=>hsp w H a ns hlen hO hS) fun H e s'=>hCX w H s₁ e s'
noncomputable def fU(s:Stmt):Arguments:=match s with
 |.FunctionDef _ a _ _ _ _ _ _ _ _=>a
 |_=>{ posonlyargs:=[],args:=[],vararg:=none,kwonlyargs:=[],kw_defaults:=[],kwarg:=none,defaults:=[] }
noncomputable def dH(s:Stmt):List Stmt:=match s with
 |.FunctionDef _ _ b _ _ _ _ _ _ _=>b
 |_=>[]
noncomputable def aC(s:Stmt):Scope:=match s with
 |.FunctionDef _ _ _ _ _ _ sc _ _ _=>sc
 |_=>{ kind:=.function,names:=[],isGenerator:=false,isCoroutine:=false }
structure Fun(K:PySem.W.Frag)(x qual:Str)(st:Stmt)(f:Addr)(fd:FuncData):Prop where
 ex:∃(oc:Value) (od:Option Addr) (kV doc pm:Value) (an:Option Addr) (cdv ct:Value) (osl:Array (Option Value)),
  fd=PySem.W.fnOf x qual (fU st) (dH st) (aC st) .none kV doc pm an cdv ct /\ K.lookup f=some ⟨oc,od,.func fd,osl⟩ /\ PySem.W.codeIn K cdv qual=true
 kp:PySem.W.keepIn K (.ref f)=true
section
variable{P:Program}{w:World}{K:PySem.W.Frag}{mg:Str->Option Value}{base:Heap}
theorem Fun.binds{x qual:Str}{st:Stmt}{f:Addr}{fd:FuncData}{ps:List Str}(F:Fun K x qual st f fd)
  (h:∀(kV doc pm:Value) (an:Option Addr) (cdv ct:Value) (us:List Value),us.length=ps.length->bindArgs (PySem.W.fnOf x qual (fU st) (dH st) (aC st) .none kV doc pm an cdv ct) ⟨us,[]⟩=pure (ps.zip us)):Binds K fd ps []:=by
 obtain⟨oc,od,kV,doc,pm,an,cdv,ct,osl,rfl,lk,hcd⟩:=F.ex;exact .all (h kV doc pm an cdv ct)
theorem Ie{x qual:Str}{st:Stmt}{f:Addr}{oc:Value}{od an:Option Addr}{osl:Array (Option Value)}{kV doc pm cdv ct:Value}(l:K.lookup f=some ⟨oc,od,.func (PySem.W.fnOf x qual (fU st) (dH st) (aC st) .none kV doc pm an cdv ct),osl⟩)
  (c:PySem.W.codeIn K cdv qual=true) (k:PySem.W.keepIn K (.ref f)=true):Fun K x qual st f (PySem.W.fnOf x qual (fU st) (dH st) (aC st) .none kV doc pm an cdv ct):=⟨⟨oc,od,kV,doc,pm,an,cdv,ct,osl,rfl,l,c⟩,k⟩
end
theorem E8{A:Around}{k:Nat}(hr:jM k A):A.units+1<cLine:=Nat.lt_of_le_of_lt (Nat.add_le_add_left (by decide:1<=64) _) hr.units
section
variable{X:Cx}
theorem pv(i:Nat){x:Str}{pos:Pos}(hN:X.N[i]?=some x:=by rfl)(hv:Vis X.env.scope x:=by first|exact Or.inl rfl|exact Or.inr (Or.inl rfl)|exact Or.inr (Or.inr rfl))(hd:(x==("__debug__":Str))=false:=by decide)
  (hcd:(x==("__classdict__":Str))=false:=by decide):PE X (.Name x pos) (yj i):=HP hN hv hd hcd
end
theorem wa{A B:Prop}(h:B):if false=true then A else B:=by
 rw[if_neg Bool.false_ne_true];exact h
theorem vd{A B:Prop}(h:A):if true=true then A else B:=by
 rw[if_pos rfl];exact h
noncomputable def aD(H H':Hp):Prop:=∀ b o,H b=some o->H' b=some o
theorem aD.refl(H:Hp):aD H H:=fun _ _ h=>h
theorem aD.trans{H H1 H2:Hp}(a:aD H H1)(b:aD H1 H2):aD H H2:=fun c o h=>b c o (a c o h)
theorem aD.free{H H':Hp}(e:aD H H'){l:Addr}(h:H' l=Option.none):H l=Option.none:=by
 cases q:H l with
 |none=>rfl
 | some o=>
   rw[e l o q]at h;cases h
theorem aD.seq{K:PySem.W.Frag}{H H':Hp}{a:Addr}{xs:List V}(e:aD H H')(h:SqL K H a xs):SqL K H' a xs:=by
 rcases h with(h|⟨o,h⟩)|h
 . exact .inl (.inl (e _ _ h))
 . exact .inl (.inr ⟨o,e _ _ h⟩)
 . exact .inr h
section
variable{κ:Type}[DecidableEq κ]
noncomputable def mj(kvs:List (κ×V))(k:κ):Option V:=(kvs.find? fun kv=>decide (kv.1=k)).map (·.2)
noncomputable def putK(kvs:List (κ×V))(k:κ)(v:V):List (κ×V):=
 if(kvs.any fun kv=>decide (kv.1=k))=true then kvs.map (fun kv=>if kv.1=k then(kv.1,v)else kv)else kvs++[(k,v)]
theorem xW{p:κ×V}{r:List (κ×V)}{k:κ}(e:p.1=k):mj (p ::r) k=some p.2:=by simp[mj,List.find?_cons,e]
theorem yk{p:κ×V}{r:List (κ×V)}{k:κ}(e:¬ p.1=k):mj (p ::r) k=mj r k:=by simp[mj,List.find?_cons,e]
theorem xI(k:κ):∀ kvs:List (κ×V),(kvs.any fun kv=>decide (kv.1=k))=(mj kvs k).isSome
 |[]=>rfl
 | p ::r=>by
   rw[List.any_cons]
   by_cases e:p.1=k
   . simp only[xW e,decide_eq_true e,Bool.true_or,Option.isSome_some]
   . rw[yk e,decide_eq_false e,Bool.false_or];exact xI k r
theorem xT(kvs:List (κ×V))(k:κ)(v:V):(putK kvs k v).length<=kvs.length+1:=by
 unfold putK;split
 . rw[List.length_map];omega
 . rw[List.length_append,List.length_cons,List.length_nil];omega
theorem Cm{kvs:List (κ×V)}{k:κ}(v:V)(h:mj kvs k=none):putK kvs k v=kvs++[(k,v)]:=by
 unfold putK;rw[xI,h];exact if_neg (by decide)
theorem bB.AL{o:Option V}{u:Option Value}(r:bB o u):o.isSome=u.isSome:=by
 cases o with
 | none=>cases u with
   |none=>rfl
   |some _=>exact(show False from r).elim
 | some _=>cases u with
   |none=>exact(show False from r).elim
   |some _=>rfl
theorem bB.getD{o:Option V}{u:Option Value}{d:V}{d':Value}(r:bB o u)(rd:RelV d d'):RelV (o.getD d) (u.getD d'):=by
 cases o with
 | none=>cases u with
   |none=>exact rd
   |some _=>exact(show False from r).elim
 | some _=>cases u with
   |none=>exact(show False from r).elim
   |some _=>exact r
theorem KV.val{kvs:List (κ×V)}{vs:List (κ×Value)}(r:KV kvs vs)(k:κ):bB (mj kvs k) (valueAt vs k):=by
 unfold KV at r
 induction r with
 |nil=>exact True.intro
 | @cons p q ps qs h t ih=>
   obtain⟨h1,h2⟩:=h
   by_cases e:p.1=k
   . have e':q.1=k:=h1.symm.trans e
     have b:valueAt (q ::qs) k=some q.2:=by simp[valueAt,List.find?_cons,e']
     rw[xW e,b];exact h2
   . have e':¬ q.1=k:=fun z=>e (h1.trans z)
     have b:valueAt (q ::qs) k=valueAt qs k:=by simp[valueAt,List.find?_cons,e']
     rw[yk e,b];exact ih
theorem KV.any{kvs:List (κ×V)}{vs:List (κ×Value)}(r:KV kvs vs)(k:κ):(kvs.any fun kv=>decide (kv.1=k))=vs.any fun kv=>decide (kv.1=k):=by
 unfold KV at r
 induction r with
 |nil=>rfl
 |cons h t ih=>rw[List.any_cons,List.any_cons,ih,h.1]
theorem KV.Ld{kvs:List (κ×V)}{vs:List (κ×Value)}(r:KV kvs vs)(k:κ){y:V}{u:Value}(ry:RelV y u):
  KV (kvs.map fun kv=>if kv.1=k then(kv.1,y)else kv) (vs.map fun kv=>if kv.1=k then(kv.1,u)else kv):=by
 unfold KV at r ⊢
 induction r with
 |nil=>exact .nil
 | @cons p q ps qs h t ih=>
   rw[List.map_cons,List.map_cons];refine .cons ?_ ih;obtain⟨h1,h2⟩:=h
   by_cases e:p.1=k
   . rw[if_pos e,if_pos (h1.symm.trans e)];exact⟨h1,ry⟩
   . rw[if_neg e,if_neg (fun z=>e (h1.trans z))];exact⟨h1,h2⟩
theorem KV.put{kvs:List (κ×V)}{vs:List (κ×Value)}(r:KV kvs vs)(k:κ){y:V}{u:Value}(ry:RelV y u):KV (putK kvs k y) (stored vs k u):=by
 unfold putK stored;rw[r.any k]
 by_cases e:(vs.any fun kv=>decide (kv.1=k))=true
 . rw[if_pos e,if_pos e];exact r.Ld k ry
 . rw[if_neg e,if_neg e];exact Paired.snoc r ⟨rfl,ry⟩
end
theorem BB{P:Program}{w:World}{k:Key}{u:Value}(r:RelV (kV k) u):(hZ P w).is k u=true:=by
 cases k with
 |inl i=>obtain⟨t,e⟩:=(show ∃ t,u=Value.int i t from r);subst e;exact xG P w i t
 |inr x=>obtain⟨t,e⟩:=(show ∃ t,u=Value.str x t from r);subst e;exact xm P w x t
section
variable{P:Program}{w:World}{H:Hp}{h:Heap}{a:Addr}
theorem IY{u:HO}(ok:HOk P w H h)(e:Rd H a u):fH P w H h a u:=e.ok ok
theorem Ak{kvs:List (Key×V)}(ok:HOk P w H h)(e:Rd H a (.dK kvs)):kvs.length<=sizeLine /\ (a==sysModules)=false /\ ∃ vs,KV kvs vs /\ h.DictOf (hZ P w) a vs:=
 show fH P w H h a (.dK kvs) from IY ok e
theorem Jf{kvs:List (Key×V)}(ok:HOk P w H h)(e:H a=some (.dK kvs)):kvs.length<=sizeLine /\ (a==sysModules)=false /\ ∃ vs,KV kvs vs /\ h.DictOf (hZ P w) a vs:=Ak ok (.inl e)
end
noncomputable def wC(H:Hp)(a:Addr)(y:V)(r:Option V):Prop:=
 ∃ kvs k,Rd H a (.dK kvs) /\ y=kV k /\ r=mj kvs k
theorem wC.k{H:Hp}{a:Addr}{kvs:List (Key×V)}{k:Key}(e:H a=some (.dK kvs)):wC H a (kV k) (mj kvs k):=⟨kvs,k,.inl e,rfl,rfl⟩
section
variable{X:Cx}{pins:List (Addr×Obj)}{σ:St}{H:Hp}{s:Shared}{a:Addr}{y v:V}{u r:Value}{o:Option V}{A:Around}{E:Value->Shared->Prop}
theorem Inv.big(I:Inv X pins σ H s):sysModules<s.heap.objs.size:=by
 have h:mainGlobals<s.heap.objs.size:=(I.mod.glob.keeps I.bk).lt
 exact Nat.lt_trans (by decide) h
theorem Bh{Q:Value->Shared->Prop}(hu:A.units+1<cLine)(I:Inv X pins σ H s)(g:wC H a y (some v))(ry:RelV y u)(h:∀ w' s',Inv X pins σ H s'->RelV v w'->Q w' s'):
  wpAny (model X.prog X.w) A (getItem (.ref a) u) Q E s:=by
 rcases g with⟨kvs,k,e,ey,l⟩
 . subst ey;obtain⟨z,hd,vs,rel,dd⟩:=Ak I.hok e;obtain⟨w',hw,rw'⟩:=bB.some_of (v:=v) (o:=valueAt vs k) (by rw[l];exact rel.val k);exact wpAny_getItem_of (BB ry) dd.mapOf hw (h w' _ (I.tok _) rw')
theorem Lo{Q:Value->Shared->Prop}(hu:A.units+1<cLine)(I:Inv X pins σ H s)(g:wC H a y o)(ry:RelV y u)(h:∀ s',Inv X pins σ H s'->Q (.bool o.isSome) s'):
  wpAny (model X.prog X.w) A (compareOp .In u (.ref a)) Q E s:=by
 rcases g with⟨kvs,k,e,ey,l⟩
 . subst ey;obtain⟨z,hd,vs,rel,dd⟩:=Ak I.hok e;refine wpAny_in_of (BB ry) hd dd.mapOf ?_;rw[<- (rel.val k).AL,<- l];exact h _ (I.tok _)
theorem Dx{h':Heap}{t':Nat}{ob:HO}(I:Inv X pins σ H s)(mu:Mut (H a))(hs:Heap.SameBut a s.heap h')(he:∃ q,h'.get? a=some q)(new:fH X.prog X.w (upd H a ob) h' a ob):
  Inv X pins σ (upd H a ob) { s with heap:=h',toks:=t' }:=
 I.write (x:=a) (e:=a) mu (.inl rfl) (fun b q hb z=>(hs.2 b hb).trans z) he new
theorem Gi{P:Program}{w:World}{H':Hp}{h':Heap}{kvs:List (Key×V)}{vs:List (Key×Value)}(z:kvs.length<=sizeLine)(hd:(a==sysModules)=false)(rel:KV kvs vs)(dd:h'.DictOf (hZ P w) a vs):
  fH P w H' h' a (.dK kvs):=⟨z,hd,vs,rel,dd⟩
end
noncomputable def Hk(i:Expr):Prop:=∀ ov iv,subscripted i false ov iv=operate [ov,iv] (getItem ov iv)
theorem DP{prog:Program}{w:World}{A:Around}{E:Value->Shared->Prop}{s:Shared}{env:Env}{value slice:Expr}{pos:Pos}{T id:String}{Q:Value->Shared->Prop}
  (hl:typeLookup (.type T) "__getitem__" = pure (some (.builtin id))) (hs:Hk slice)
  (h:wpAny (model prog w) A (eval value env) (fun o s₁=>wpAny (model prog w) A (eval slice env) (fun i s₂=>s₂.TypeIs o T /\ wpAny (model prog w) A (getItem o i) Q E s₂) E s₁) E s):
  wpAny (model prog w) A (eval (.Subscript value slice pos) env) Q E s:=by
 refine Subscript_ (wpAny_mono h (fun o s₁ h₁=>wpAny_mono h₁ (fun i s₂ h₂=>?_) fun _ _ x=>x) fun _ _ x=>x);obtain⟨hT,h₂⟩:=h₂;unfold subscriptTail;refine wpAny_bind ?_;rw[getitemInPython_of_ne hT.not_modules];refine wpAny_bind (wpAny_specialOf hT hl ?_)
 have fin:wpAny (model prog w) A (subscripted slice false o i) (fun r s₃=>wpAny (model prog w) A (letTemporaryGo value o r >>= fun _=>pure r) Q E s₃) E s₂:=by
  rw[hs o i];exact wpAny_operating (wpAny_mono h₂ (fun r s₃ h₃=>wpAny_bind (wpAny_letTemporaryGo (wpAny_pure h₃))) fun _ _ x=>x)
 first
  |exact wpAny_pure (wpAny_bind fin)
  |exact wpAny_bind (wpAny_pure (wpAny_bind fin))
  |exact wpAny_bind fin
theorem xX{X:Cx}{pins:List (Addr×Obj)}{σ:St}{H:Hp}{s:Shared}{a:Addr}{y:V}{o:Option V}(I:Inv X pins σ H s)(g:wC H a y o):s.TypeIs (.ref a) "dict":=by
 rcases g with⟨kvs,k,e,_,_⟩
 . obtain⟨_,_,vs,_,dd⟩:=Ak I.hok e;exact dd.typeIs
noncomputable def Dr(td ty:TE):TE:=fun σ H Q=>td σ H fun x H1=>ty σ H1 fun y H2=>∃ a v,x=.ref a /\ wC H2 a y (some v) /\ Q v H2
noncomputable def GH(ty td:TE):TE:=fun σ H Q=>ty σ H fun y H1=>td σ H1 fun x H2=>∃ a o,x=.ref a /\ wC H2 a y o /\ Q (.bl o.isSome) H2
section
variable{X:Cx}{o i e value:Expr}{pos pos' tpos:Pos}{td ty tv:TE}
theorem ET(hu:X.A.units+1<cLine)(ho:PE X o td)(hi:PE X i ty)(hs:Hk i):PE X (.Subscript o i pos) (Dr td ty):=by
 intro pins s σ H Q I h;refine DP PySem.F.slot_dict_getitem.lookup hs (thn (ho pins s σ H _ I h) fun u s1 ⟨x,H1,I1,rx,q1⟩=>thn (hi pins s1 σ H1 _ I1 q1) fun iv s2 ⟨y,H2,I2,ry,a,v,ex,g,q2⟩=>?_);subst ex
 obtain rfl:u=Value.ref a:=rx
 exact⟨xX I2 g,Bh hu I2 g ry fun w' s3 I3 rw'=>⟨v,H2,I3,rw',q2⟩⟩
theorem GQ(hu:X.A.units+1<cLine)(hi:PE X i ty)(ho:PE X o td):PC X .In i o (GH ty td):=by
 intro pins s σ H Q I h
 refine thn (hi pins s σ H _ I h) fun iv s1 ⟨y,H1,I1,ry,q1⟩=>thn (ho pins s1 σ H1 _ I1 q1) fun u s2 ⟨x,H2,I2,rx,a,ov,ex,g,q2⟩=>?_
 subst ex
 obtain rfl:u=Value.ref a:=rx
 exact Lo hu I2 g ry fun s3 I3=>⟨.bl ov.isSome,H2,I3,rfl,q2⟩
end
theorem CQ{P:Program}{w:World}{H:Hp}(h:Heap)(hb:sysModules<h.objs.size):fH P w H (h.push { cls:=.type "dict",data:=.dict #[] }) h.objs.size (.dK []):=
 ⟨Nat.zero_le _,beq_eq_false_iff_ne.mpr (Ne.symm (Nat.ne_of_lt hb)),[],.nil,Heap.DictOf.new h⟩
noncomputable def wy:List (TE×TE)->St->Hp->(List (V×V)->Hp->Prop)->Prop
 |[],_,H,Q=>Q [] H
 |(tk,tv) ::r,σ,H,Q=>tk σ H fun x H1=>tv σ H1 fun y H2=>wy r σ H2 fun ps H3=>Q ((x,y) ::ps) H3
abbrev VV:List (V×V)->List (Value×Value)->Prop:=Paired fun p q=>RelV p.1 q.1 /\ RelV p.2 q.2
noncomputable def PPs(X:Cx)(pos:Pos)(keys:List (Option Expr))(values:List Expr)(trs:List (TE×TE)):Prop:=
 ∀(pins:List (Addr×Obj)) (s:Shared) (σ:St) (H:Hp) (Q:List (V×V)->Hp->Prop),Inv X pins σ H s->wy trs σ H Q ->
   wpAny (model X.prog X.w) X.A (evalPairs (pairTrees keys values X.env pos)) (fun vs s'=>∃ ps H',Inv X pins σ H' s' /\ VV ps vs /\ Q ps H') X.xe s
theorem Dy{X:Cx}{pos:Pos}:PPs X pos [] [] []:=fun pins s σ H Q I h=>pairTrees_nil_walk ⟨[],H,I,.nil,h⟩
theorem B2{X:Cx}{pos:Pos}{k v:Expr}{ks:List (Option Expr)}{vs:List Expr}{tk tv:TE}{trs:List (TE×TE)}(hk:PE X k tk)(hv:PE X v tv)(hr:PPs X pos ks vs trs):
  PPs X pos (some k ::ks) (v ::vs) ((tk,tv) ::trs):=fun pins s σ H Q I h=>
 pairTrees_cons_walk (thn (hk pins s σ H _ I h) fun u s1 ⟨x,H1,I1,rx,q1⟩=>thn (hv pins s1 σ H1 _ I1 q1) fun w2 s2 ⟨y,H2,I2,ry,q2⟩=>
  thn (hr pins s2 σ H2 _ I2 q2) fun ws s3 ⟨ps,H3,I3,rel,q3⟩=>⟨(x,y) ::ps,H3,I3,.cons ⟨rx,ry⟩ rel,q3⟩)
noncomputable def mU(kvs more:List (Key×V)):List (Key×V):=more.foldl (fun acc kv=>putK acc kv.1 kv.2) kvs
theorem KV.merge:∀{more:List (Key×V)} {rs:List (Key×Value)} {kvs:List (Key×V)} {vs:List (Key×Value)},KV more rs->KV kvs vs->KV (mU kvs more) (merged vs rs):=by
 intro more rs kvs vs r;unfold KV at r
 induction r generalizing kvs vs with
 |nil=>intro q;exact q
 | @cons p q ps qs h t ih=>
   intro r0
   have e:KV (putK kvs p.1 p.2) (stored vs q.1 q.2):=by
    have:=r0.put p.1 h.2;rw[<- h.1];exact this
   exact ih e
theorem oF:∀(more kvs:List (Key×V)),(mU kvs more).length<=kvs.length+more.length
 |[],kvs=>by show kvs.length<=kvs.length+0;omega
 | p ::r,kvs=>by
   have h1:=oF r (putK kvs p.1 p.2);have h2:=xT kvs p.1 p.2
   show(mU (putK kvs p.1 p.2) r).length<=_
   rw[List.length_cons];omega
theorem ui{P:Program}{w:World}:∀{kvs:List (Key×V)} {ws:List (Value×Value)},VV (kvs.map fun kv=>(kV kv.1,kv.2)) ws->∃ rs,Carries (hZ P w) ws rs /\ KV kvs rs
 |[],_,r=>by rw[List.map_nil]at r;cases r;exact⟨[],True.intro,.nil⟩
 | p ::kvs,_,r=>by
   rw[List.map_cons]at r
   cases r with
   | @cons a b as bs h t=>
     obtain⟨rs,c,q⟩:=ui (P:=P) (w:=w) t;obtain⟨b1,b2⟩:=b
     exact⟨(p.1,b2) ::rs,⟨BB h.1,rfl,c⟩,.cons ⟨rfl,h.2⟩ q⟩
noncomputable def Cf(trs:List (TE×TE)):TE:=fun σ H Q=>∀ p,H p=none->wy trs σ (upd H p (.dK [])) fun ps H2=>H2 p=some (.dK []) /\ ∃ kvs:List (Key×V),ps=kvs.map (fun kv=>(kV kv.1,kv.2)) /\ kvs.length<=15 /\ Q (.ref p) (upd H2 p (.dK (mU [] kvs)))
theorem DH{X:Cx}{pos:Pos}{keys:List (Option Expr)}{values:List Expr}{trs:List (TE×TE)}(h:PPs X pos keys values trs)(hall:keys.all (·.isSome)=true)(hl:keys.length=values.length)(h0:keys≠[])
  (h15:keys.length<=15):PE X (.Dict keys values pos) (Cf trs):=by
 intro pins s σ H Q I q;have hn:=I.hok.fresh (Nat.le_refl s.heap.objs.size);have I1:=I.laid (a:=s.heap.objs.size) (o:=.dK []) (h':=s.heap.push { cls:=.type "dict",data:=.dict #[] }) (t':=s.toks) (fun _ _ q=>Heap.get?_push_of_some _ q) (Nat.le_refl _) (CQ s.heap I.big);refine wpAny_Dict_walk (knd:=hZ X.prog X.w) hall hl h0 h15 (thn (h pins _ σ _ _ I1 (q _ hn)) fun ws s2 ⟨ps,H2,I2,rel,e,kvs,ep,lk,q2⟩=>?_);subst ep;obtain⟨rs,c,rk⟩:=ui (P:=X.prog) (w:=X.w) rel;obtain⟨z,hd,vs0,r0,dd⟩:=Jf I2.hok e;cases r0
 refine⟨rs,c,dd,fun h' dd' hs=>⟨.ref s.heap.objs.size,_,?_,rfl,q2⟩⟩
 have hz:(mU [] kvs).length<=sizeLine:=by
  have h1:=oF kvs [];rw[List.length_nil]at h1;rw[sizeLine_eq];omega
 have he:∃ q,h'.get? s.heap.objs.size=some q:=let ⟨q,_,_,hq,_⟩:=dd';⟨q,hq⟩
 exact Dx I2 (by rw[e];exact True.intro) hs he (Gi hz hd (rk.merge .nil) dd')
end L2
set_option maxHeartbeats 4000000
namespace L2.E
open PySem PySem.Spec PyProof.Rows
noncomputable def B1(a C:Addr)(dx:Option Addr)(h:Heap):Prop:=∃ o vs,h.get? a=some o /\ o.cls=.ref C /\ o.dict=dx /\ o.data=.fields vs /\ vs.size=6
noncomputable def TbO(T:Addr)(h:Heap):Prop:=∃ o ts,h.get? T=some o /\ o.data=.fields ts /\ 3<ts.size
noncomputable abbrev qO(a C:Addr)(dx:Option Addr):HO:=.ext (B1 a C dx)
noncomputable abbrev oTb(T:Addr):HO:=.ext (TbO T)
theorem BN(x:B1 a C dx h):fH P w H h a (qO a C dx):=by
 refine⟨x,let ⟨o,_,e,_⟩:=x;⟨o,e⟩,fun h1 h2 p k=>?_⟩
 obtain⟨o,vs,e,r⟩:=p
 exact⟨o,vs,k o e,r⟩
theorem Fj(x:TbO T h):fH P w H h T (oTb T):=by
 refine⟨x,let ⟨o,_,e,_⟩:=x;⟨o,e⟩,fun h1 h2 p k=>?_⟩
 obtain⟨o,vs,e,r⟩:=p
 exact⟨o,vs,k o e,r⟩
theorem B4(h:H a=some o):upd H a o=H:=by
 funext b
 unfold upd;split
 . rename_i e;rw[e,h]
 . rfl
structure Fly(H:Hp)(h:Heap)(a C:Addr)(dx:Option Addr):Prop where
 exc:H a=some (qO a C dx)
 tb:∃ o vs,h.get? a=some o /\ o.data=.fields vs /\ (vs[1]?=some Value.none \/ ∃ T,vs[1]?=some (.ref T) /\ H T=some (oTb T) /\ T≠a)
structure wb(H:Hp)(h:Heap)(a C:Addr)(dx:Option Addr):Prop where
 exc:H a=some (qO a C dx)
 tb:∃ o vs T,h.get? a=some o /\ o.data=.fields vs /\ vs[1]?=some (.ref T) /\ H T=some (oTb T) /\ T≠a
theorem wb.fly(F:wb H h a C dx):Fly H h a C dx:=
 let ⟨o,vs,T,e1,e2,e3,e4,e5⟩:=F.tb
 ⟨F.exc,o,vs,e1,e2,.inr ⟨T,e3,e4,e5⟩⟩
section
variable{X:Cx}{pins:List (Addr×Obj)}{σ:St}{H:Hp}{s:Shared}{a C:Addr}{dx:Option Addr}
theorem Dl(I:Inv X pins σ H s)(k:Heap.SlotsOnly (frs X.stack) s.heap h₁):Un (frs X.stack) [] H H s.heap h₁ where
 keep:=fun b o e _ hb _=>(k.2.1 b hb).trans e
 slot:=fun b o e _ _ _=>k.2.2 b o e
 free:=fun _ _ _ n _=>n
 there:=fun b o e _=>let ⟨_,q⟩:=k.2.2 b o e;⟨_,q⟩
 tups:=fun _ _ q=>q
 frzs:=fun _ _ _ q=>q
 tbls:=fun _ ps q=>⟨#[],by rw[q];simp⟩
theorem AA(I:Inv X pins σ H s)(k:Heap.SlotsOnly (frs X.stack) s.heap h₁):HOk X.prog X.w H h₁:=fun b o e=>by
 have nf:∀ c u,H c=some u->c∉frs X.stack:=fun c u q z=>by rw[I.rR c z]at q;cases q
 refine(I.hok b o e).qR (fun c v hc q=>(k.2.1 c ?_).trans q) (fun _ q=>q) fun _ _ q=>q
 rcases hc with z|z
 . rw[z];exact nf b o e
 . exact nf c _ z
theorem D9(I:Inv X pins σ H s)(e:H a=some (qO a C dx)):
  Inv X pins σ H { s with heap:=s.heap.update a (Obj.mapFields (·.setIfInBounds i v)) }:=by
 obtain⟨⟨o,vs,ho,hc,hd,hf,hz⟩,_,_⟩:=I.hok a _ e;have hs:=Heap.get?_update_self (Obj.mapFields (·.setIfInBounds i v)) ho (Obj.isFreed_of_fields (Obj.data_mapFields hf _))
 have q:=I.write (x:=a) (e:=a) (o:=qO a C dx) (t':=s.toks) (h':=s.heap.update a (Obj.mapFields (·.setIfInBounds i v))) (by rw[e];trivial) (.inl rfl)
  (fun b u hb q=>(Heap.get?_update_other _ _ (Ne.symm hb)).trans q) ⟨_,hs⟩ (BN ⟨_,_,hs,by rw[Obj.cls_mapFields];exact hc,by obtain⟨c,d,dt,sl⟩:=o;cases dt<;>exact hd,Obj.data_mapFields hf _,by simpa using hz⟩)
 rw[B4 e]at q;exact q
theorem Ce(I:Inv X pins σ H s)(e:H T=some (oTb T)):
  Inv X pins σ H { s with heap:=s.heap.update T (Obj.mapFields (·.setIfInBounds i v)) }:=by
 obtain⟨⟨o,vs,ho,hf,hz⟩,_,_⟩:=I.hok T _ e;have hs:=Heap.get?_update_self (Obj.mapFields (·.setIfInBounds i v)) ho (Obj.isFreed_of_fields (Obj.data_mapFields hf _))
 have q:=I.write (x:=T) (e:=T) (o:=oTb T) (t':=s.toks) (h':=s.heap.update T (Obj.mapFields (·.setIfInBounds i v))) (by rw[e];trivial) (.inl rfl)
  (fun b u hb q=>(Heap.get?_update_other _ _ (Ne.symm hb)).trans q) ⟨_,hs⟩ (Fj ⟨_,_,hs,Obj.data_mapFields hf _,by simpa using hz⟩)
 rw[B4 e]at q;exact q
theorem xR{Q:Unit->Shared->Prop}{E:Value->Shared->Prop}(I:Inv X pins σ H s)(hst:X.stack=X.env ::X.outer)(hf:X.env.frame=some L)(e:H a=some (qO a C dx))
  (h:∀ s' H',Inv X pins σ H' s'->aD H H'->wb H' s'.heap a C dx->Q () s'):
  wpAny (model X.prog X.w) X.A (do let fr <- frameOf X.env;let pl <- entryPlaceOf L had;let b <- EntryCells.newEntry head fr .none (rawInt L) .none pl;setField (.ref a) 1 b) Q E s:=by
 have hfr:X.A.frames=some (X.env ::X.outer):=by rw[<- hst];exact I.ok.frames
 have hl:s.heap.FunFrames X.base (X.env ::X.outer):=by rw[<- hst];exact I.stack
 refine wpAny_bind (wpAny_frameOf_fun hfr hl hf fun h₁ k₁=>?_)
 have k₁':Heap.SlotsOnly (frs X.stack) s.heap h₁:=by rw[hst];exact k₁
 have I₁:=I.call (g':=s.gens) (t':=s.toks) (d':=s.drawn) (ch:=[]) (Dl I k₁') (AA I k₁') I.bare (fun b z=>absurd z (by simp));refine wpAny_bind (wpAny_entryPlaceOf fun pl hpl=>?_);unfold EntryCells.newEntry newFields;refine wpAny_bind (wpAny_newObj_type ?_ (hpl.sizeOk5 _ _ _ _ _))
 have big:3<([head,.ref L,.none,rawInt L,.none]++(if pl.isEmpty then List.replicate 6 Value.none else pl)).toArray.size:=by
  rw[List.size_toArray,List.length_append];show 3<5+_;omega
 have new:=Heap.get?_push_size h₁ (o:={ cls:=.type "traceback",dict:=none,data:=.fields ([head,.ref L,.none,rawInt L,.none]++(if pl.isEmpty then List.replicate 6 Value.none else pl)).toArray }) rfl
 have fr:H h₁.objs.size=none:=I₁.hok.fresh (Nat.le_refl _)
 have ne:h₁.objs.size≠a:=fun z=>by rw[z,e]at fr;cases fr
 have I₂:=I₁.laid (a:=h₁.objs.size) (o:=oTb h₁.objs.size) (t':=s.toks) (fun b u q=>Heap.get?_push_of_some _ q) (Nat.le_refl _) (Fj ⟨_,_,new,rfl,big⟩)
 have g:aD H (upd H h₁.objs.size (oTb h₁.objs.size)):=fun b u q=>by rw[bQ (dy q fr)];exact q
 obtain⟨⟨o,vs,ho,hc,hd,hv,hz⟩,_,_⟩:=I₂.hok a _ (g _ _ e);refine wpAny_setField ho hv (by omega) ?_;refine h _ _ (D9 I₂ (g _ _ e)) g ⟨g _ _ e,_,_,h₁.objs.size,Heap.get?_update_self _ ho (Obj.isFreed_of_fields (Obj.data_mapFields hv _)),Obj.data_mapFields hv _,by simp[hz],bH,ne⟩
theorem vG{Q:Unit->Shared->Prop}{E:Value->Shared->Prop}(I:Inv X pins σ H s)(hst:X.stack=X.env ::X.outer /\ X.env.frame=some X.env.locals)(F:Fly H s.heap a C dx)
  (h:∀ s' H',Inv X pins σ H' s'->aD H H'->wb H' s'.heap a C dx->Q () s'):wpAny (model X.prog X.w) X.A (noteFrame (.ref a) X.env) Q E s:=by
 obtain⟨o,vs,ho,hv,hw⟩:=F.tb;unfold noteFrame;simp only[hst.2]
 rcases hw with h1|⟨T,h1,hT,ne⟩
 . refine wpAny_bind (wpAny_field ho hv h1 ?_);rw[if_neg (by decide)];exact xR I hst.1 hst.2 F.exc h
 . obtain⟨⟨oT,ts,hoT,hdT,hz⟩,_,_⟩:=I.hok T _ hT;refine wpAny_bind (wpAny_field ho hv h1 ?_);rw[if_pos (show(Value.ref T != Value.none)=true from by simp)]
   have h3:ts[3]?=some ts[3]:=by simp[hz]
   refine wpAny_bind (wpAny_field hoT hdT h3 ?_)
   by_cases c:(ts[3]==rawInt X.env.locals)=true
   . rw[if_pos c];exact wpAny_pure (h s H I (aD.refl H) ⟨F.exc,o,vs,T,ho,hv,h1,hT,ne⟩)
   . rw[if_neg c];refine wpAny_bind (wpAny_setField hoT hdT hz ?_);exact xR (Ce I hT) hst.1 hst.2 F.exc h
theorem jw{Q:Unit->Shared->Prop}{E:Value->Shared->Prop}(I:Inv X pins σ H s)(F:wb H s.heap a C dx)
  (h:∀ s',Inv X pins σ H s'->wb H s'.heap a C dx->Q () s'):wpAny (model X.prog X.w) X.A (setFlight (.ref a) x) Q E s:=by
 obtain⟨o,vs,T,ho,hv,h1,hT,ne⟩:=F.tb;unfold setFlight;obtain⟨⟨oT,ts,hoT,hdT,hz⟩,_,_⟩:=I.hok T _ hT;refine wpAny_bind (wpAny_field ho hv h1 ?_);rw[if_pos (show(Value.ref T != Value.none)=true from by simp)];refine wpAny_setField hoT hdT hz ?_;exact h _ (Ce I hT) ⟨F.exc,o,vs,T,(Heap.get?_update_other _ _ ne).trans ho,hv,h1,hT,ne⟩
theorem zS{α:Type}{Q:α->Shared->Prop}{E:Value->Shared->Prop}(I:Inv X pins σ H s)(F:wb H s.heap a C dx)
  (h:∀ s',Inv X pins σ H s'->wb H s'.heap a C dx->E (.ref a) s'):wpAny (model X.prog X.w) X.A (PySem.passOn what (.ref a) X.env:Sem α) Q E s:=by
 obtain⟨o,vs,T,ho,hv,h1,hT,ne⟩:=id F.tb;unfold PySem.passOn;refine wpAny_bind (wpAny_field ho hv h1 ?_);rw[if_neg (show ¬ (Value.ref T==Value.none)=true from by simp)];exact wpAny_bind (jw I F fun s' I' F'=>wpAny_throw (h s' I' F'))
end
noncomputable def CXE(P:Program)(w:World):CXT:=fun outer H s E e s'=>∃ a C dx H',e=.ref a /\ s'.os=s.os /\ AllBare s'.gens /\ Un (frs outer) [] H H' s.heap s'.heap /\ HOk P w H' s'.heap /\ Fly H' s'.heap a C dx /\ E (.ref C) (some a) H'
abbrev XW:=Value->Option Addr->St->Hp->Prop
noncomputable def Thr(X:Cx)(W:XW):Prop:=∀(pins:List (Addr×Obj)) (σ:St) (H:Hp) (s:Shared) (a C:Addr) (dx:Option Addr),Inv X pins σ H s->Fly H s.heap a C dx->W (.ref C) (some a) σ H->X.xe (.ref a) s
section
variable{CX:CXT}{P:Program}{w:World}{K:PySem.W.Frag}{mg:Str->Option Value}{base:Heap}{N:List Str}{qual:Str}{scope:Scope}{f:Addr}{cd:Value}{A:Around}{outer:List Env}{s₀:Shared}{H₀:Hp}{E:XK}
theorem aF:Thr (qI (CXE P w) P w K mg base N qual scope f cd A outer s₀ H₀ E) (fun C a _ H=>∀ H',aD H H'->E C a H'):=by
 intro pins σ H s a C dx I F hw;show wpAny _ _ (leaving _ _) _ _ s;unfold leaving;refine wpAny_bind (vG I ⟨rfl,rfl⟩ F fun s1 H1 I1 g1 F1=>?_)
 refine jw I1 F1 fun s2 I2 F2=>?_
 exact⟨a,C,dx,H1,rfl,I2.os,I2.bare,I2.base,I2.hok,F2.fly,hw H1 g1⟩
theorem dg:PassesOwn (model P w) (qI (CXE P w) P w K mg base N qual scope f cd A outer s₀ H₀ E).A (qI (CXE P w) P w K mg base N qual scope f cd A outer s₀ H₀ E).env (qI (CXE P w) P w K mg base N qual scope f cd A outer s₀ H₀ E).xe:=by
 show PassesOwn (model P w) (A.deeper (envOfC qual scope s₀.heap.objs.size f cd)) (envOfC qual scope s₀.heap.objs.size f cd) (fun e s'=>wpAny (model P w) (A.deeper (envOfC qual scope s₀.heap.objs.size f cd)) (leaving (envOfC qual scope s₀.heap.objs.size f cd) e) (fun _ s''=>CXE P w outer H₀ s₀ E e s'') (fun e' s''=>CXE P w outer H₀ s₀ E e' s'') s')
 passes_own
end
section
variable{X:Cx}{k:Nat}{f:Addr}{fd:FuncData}{ps:List Str}{sp:Sp}{dvs:List V}{ds:List Value}{W:XW}{x m:Str}{p pos apos:Pos}{e o:Expr}{es:List Expr}{ta:TE}{t:TA}
noncomputable def tD(sp:Sp)(dvs:List V)(W:XW)(t:TA):TE:=fun σ H Q=>t σ H fun vs H1=>sp (vs++dvs) H1 Q fun C a H'=>W C a σ H'
theorem E7{pins:List (Addr×Obj)}(F:cD X.prog X.w X.K X.mg X.base (CXE X.prog X.w) k f fd ps sp)(hr:jM k X.A)(hb:Binds X.K fd ps ds)(hd:Vals dvs ds)(hx:Thr X W)
  (I:Inv X pins σ H s) (r:Vals vs us) (h:sp (vs++dvs) H Q fun C a H'=>W C a σ H'):wpAny (model X.prog X.w) X.A (call (.ref f) us) (EP X pins σ Q) X.xe s:=by
 have r2:Vals (vs++dvs) (us++ds):=r.append hd
 have hl:(us++ds).length=ps.length:=by rw[<- r2.length];exact F.len _ _ _ _ h
 refine wpAny_call (codeAny_mono (F.run X.A X.stack s H ⟨us,[]⟩ (us++ds) (vs++dvs) Q _ hr I.KW (hb s us I.kIn hl) r2 h) fun r s' hq=>?_)
 cases r with
 | error e=>
   obtain⟨a,C,dx,H',rfl,ho,bare,un,hok,fl,hw⟩:=hq;exact hx pins σ H' s' a C dx (I.CF ho un hok bare fun b z=>absurd z (by simp)) fl hw
 | ok fl=>
   cases fl with
   |ret u=>exact I.after hq
   |next=>exact False.elim hq
   |brk=>exact False.elim hq
   |cont=>exact False.elim hq
theorem C8(F:cD X.prog X.w X.K X.mg X.base (CXE X.prog X.w) k f fd ps sp)(hr:jM k X.A)(hg:Gl X x)(hm:X.mg x=some (.ref f))(hk:PySem.W.keepIn X.K (.ref f)=true)(hb:Binds X.K fd ps ds)(hd:Vals dvs ds)(hx:Thr X W)
  (ha:PA X (e ::es) t) (hdb:(x==("__debug__":Str))=false:=by decide) (he:starEach (e ::es) X.env=(false,eval e X.env) ::starEach es X.env:=by rfl) (hpl:(backTo pos (starEach es X.env)).any (·.1)=false:=by rfl):
  PE X (.Call (.Name x p) (e ::es) [] pos) (tD sp dvs W t):=by
 intro pins s σ H Q I h;refine wpAny_Call_Name_kw (rY I hg hm ?_ hdb);refine PySem.W.callWith_K (h₀:=X.base) I.ok.mod.kin hk (thn (ha pos pins s σ H _ I h) fun us s1 ⟨vs,H1,I1,r,q⟩=>⟨I1.kIn,?_⟩) he hpl;exact E7 F hr hb hd hx I1 r q
end
theorem Cr{P:Program}{w:World}{H:Hp}{h:Heap}{a:Addr}{o:HO}(x:fH P w H h a o):∃ u,h.get? a=some u:=by
 cases o with
 |lst xs=>obtain⟨_,_,_,_,e⟩:=x;exact⟨_,e⟩
 |tup xs=>obtain⟨_,_,_,u,e,_⟩:=x;exact⟨_,e⟩
 |dK kvs=>obtain⟨_,_,_,_,o,_,_,e,_⟩:=x;exact⟨_,e⟩
 |dT kvs=>obtain⟨_,_,_,_,o,_,_,e,_⟩:=x;exact⟨_,e⟩
 |set S n=>obtain⟨o,_,_,_,e,_⟩:=x;exact⟨_,e⟩
 |ins C dx fs=>obtain⟨_,_,_,e,_⟩:=x;exact⟨_,e⟩
 |own y=>exact x
 |xd fs=>obtain⟨_,⟨_,_,_,e,_⟩,_⟩:=x;exact⟨_,e⟩
 |rng lo hi=>obtain⟨_,_,_,e⟩:=x;exact⟨_,e⟩
 |frz ob u=>obtain⟨e,_⟩:=x;exact⟨_,e⟩
 |tbl ps=>exact⟨_,x⟩
 |met f y=>exact⟨_,x⟩
 |ext φ=>exact x.2.1
section
variable{X:Cx}{pins:List (Addr×Obj)}{σ:St}{H:Hp}{s:Shared}{h':Heap}{a:Addr}{o:HO}
theorem zN(I:Inv X pins σ H s)(hn:s.heap.get? a=none):H a=none:=by
 cases q:H a with
 |none=>rfl
 | some u=>
   obtain⟨v,e⟩:=Cr (I.hok a u q);rw[hn]at e;cases e
theorem Jg(I:Inv X pins σ H s)(k:∀ b u,s.heap.get? b=some u->h'.get? b=some u)(hn:s.heap.get? a=none)(new:fH X.prog X.w (upd H a o) h' a o):
  Inv X pins σ (upd H a o) { s with heap:=h' }:=by
 have fr:=zN I hn
 have ne:∀ b u,s.heap.get? b=some u->b≠a:=fun b u q z=>by rw[z,hn]at q;cases q
 have un:Un X.fs [] H (upd H a o) s.heap h':=⟨fun b u q _ _ _=>k b u q,fun b u q _ _ _=>⟨u.slots,k b u q⟩,fun b u q n _=>by rw[bQ (ne b u q)];exact n,fun b u q _=>⟨u,k b u q⟩,
  fun b xs q=>by rw[bQ (dy q fr)];exact q,fun b u xs q=>by rw[bQ (dy q fr)];exact q,fun b ps q=>⟨#[],by rw[bQ (dy q fr),q];simp⟩⟩
 refine I.un (t':=s.toks) un fun b u q=>?_
 by_cases hb:b=a
 . subst hb;rw[bH]at q;cases q;exact new
 . rw[bQ hb]at q
   exact(I.hok b u q).qR (fun c v _ z=>k c v z) (fun c z=>by rw[bQ (dy z fr)];exact z) fun c xs z=>by rw[bQ (dy z fr)];exact z
end
noncomputable def yN(C:Addr)(W:XW)(t:TA):TS:=fun D σ H=>t σ H fun vs H1=>vs.length<=sizeLine /\ ∀ a,H1 a=none->W (.ref C) (some a) σ (upd H1 a (qO a C none))
theorem DY{K:PySem.W.Frag}{h₀:Heap}{mg:Str->Option Value}{x:Str}{C:Addr}{bmB:List Value}{newId:String}(X:K.In h₀)(e:mg x=some (.ref C))(q:PySem.W.excIn K C bmB newId=true):
  OwnCls x C bmB newId mg h₀:=by
 refine⟨e,?_⟩
 unfold PySem.W.excIn at q;split at q
 next dd cd sl ho=>
  split at q
  next C' bm k0 k1 k2 k3 n k5 hm hs=>
   simp only[Bool.and_eq_true,beq_iff_eq,Bool.not_eq_true']at q;obtain⟨⟨⟨⟨⟨e1,e2⟩,del⟩,ht⟩,ok⟩,ini⟩:=q;subst e1 e2
   cases cd with
   | mk nm bs mro ns qn hd sn sub ab col dl=>
     dsimp only at hm del ok ini
     subst hm del
     have z:sl=#[k0,k1,k2,k3,some (.builtin n),k5]:=by cases sl;simp only at hs;rw[hs]
     subst z
     exact⟨bm,ns,nm,qn,bs,hd,sn,sub,ab,col,dd,k0,k1,k2,k3,k5,_,X _ _ ho,.of_isNs (PySem.W.isNs_of_in X ok),PySem.W.nsMap_none_of_in X ok ini,PySem.W.tail_of_in X ht⟩
  next=>cases q
 next=>cases q
theorem E0{X:Cx}{pins:List (Addr×Obj)}{σ:St}{H:Hp}{s:Shared}{h':Heap}{e C:Addr}{us:List Value}(I:Inv X pins σ H s)(hm:Heap.MadeExcOf s.heap h' e (.ref C) us):
  H e=none /\ Inv X pins σ (upd H e (qO e C none)) { s with heap:=h' } /\ Fly (upd H e (qO e C none)) h' e C none:=by
 obtain⟨t,he,_,_⟩:=hm.there
 refine⟨zN I hm.new,Jg I hm.keeps hm.new (BN ⟨_,_,he,rfl,rfl,rfl,rfl⟩),bH,_,_,he,rfl,.inl rfl⟩
section
variable{X:Cx}{x:Str}{np cpos pos:Pos}{e₀:Expr}{rest:List Expr}{t:TA}{W:XW}{C:Addr}{B newId initId:String}{bm:List Value}
theorem CJ(hT:Thr X W)(hh:X.A.handled=none)(FB:ExcBaseFacts B newId initId bm)(hg:Gl X x)(hm:X.mg x=some (.ref C))(hC:PySem.W.excIn X.K C bm newId=true)(ha:PA X (e₀ ::rest) t)
  (he:starEach (e₀ ::rest) X.env=(false,eval e₀ X.env) ::starEach rest X.env:=by rfl) (hpl:(backTo cpos (starEach rest X.env)).any (·.1)=false:=by rfl) (hd:(x==("__debug__":Str))=false:=by decide):
  PS X (.Raise (some (.Call (.Name x np) (e₀ ::rest) [] cpos)) none pos) (yN C W t):=by
 intro pins s σ H D I h;have O:=DY I.mod.kin hm hC;obtain⟨tl,N,nm,q,bs,hdct,sn,sub,ab,col,dd,k0,k1,k2,k3,k5,mN,hc,hN,hni,T⟩:=O.obj
 refine wpAny_Raise_call_subT (nm:=nm) (q:=q) (N:=N) (bs:=bs) (hdct:=hdct) (sn:=sn) (sub:=sub)
  (ab:=ab) (col:=col) (dd:=dd) (k0:=k0) (k1:=k1) (k2:=k2) (k3:=k3) (k5:=k5) (mN:=mN) FB (T.hasType FB.hasBase) hh ?_ hni (rY I hg hm ⟨rfl,?_⟩ hd)
 . rw[he]
   show(false||(backTo cpos (starEach rest X.env)).any (·.1))=false
   rw[hpl];rfl
 . have hsp:=ha cpos pins s σ H _ I h
   rw[he]at hsp ⊢
   refine Calls.evalArgs_plain (wpAny_mono hsp (fun us s2 ⟨vs,H2,I2,r,z,w⟩=>⟨rfl,by rw[<- r.length];exact z,I2.bk _ _ hc,hN.keeps I2.bk,T.keeps I2.bk,fun h' e hm=>?_⟩) fun _ _ y=>y);obtain⟨f1,f2,f3⟩:=E0 I2 hm;exact hT pins σ _ _ e C none f2 f3 (w e f1)
end
noncomputable abbrev hand(X:Cx)(a:Addr):Cx:={ X with A:=X.A.mark (some (.ref a)),calm:=false,xe:=fun _ _=>False }
theorem vK{X:Cx}{pins:List (Addr×Obj)}{σ:St}{H:Hp}{s:Shared}(I:Inv X pins σ H s)(a:Addr):Inv (hand X a) pins σ H s:=
 ⟨⟨I.ok.mod,I.ok.kind,I.ok.glob,I.ok.blt,I.ok.above,I.ok.inj,I.ok.has,I.ok.cab,fun z=>absurd z Bool.false_ne_true,I.ok.frames,I.ok.stk,I.ok.exf,I.ok.bs,I.ok.bsz,I.ok.noex,I.ok.exfs,I.ok.sQ,I.ok.frf⟩,I.os,I.bare,I.base,I.loc,I.cell,I.free,I.freeC,I.pin,I.hok,I.len⟩
theorem qr{X:Cx}{pins:List (Addr×Obj)}{σ:St}{H:Hp}{s:Shared}{a:Addr}(ok:X.Ok)(I:Inv (hand X a) pins σ H s):Inv X pins σ H s:=
 ⟨ok,I.os,I.bare,I.base,I.loc,I.cell,I.free,I.freeC,I.pin,I.hok,I.len⟩
noncomputable abbrev nB(X:Cx)(pn:List (Addr×Obj))(xe:Value->Shared->Prop):Cx:={ X with pn:=pn,xe:=xe }
theorem CI{X:Cx}{pins:List (Addr×Obj)}{σ:St}{H:Hp}{s:Shared}(I:Inv X pins σ H s)(xe:Value->Shared->Prop):Inv (nB X (X.pn++pins) xe) [] σ H s:=
 ⟨⟨I.ok.mod,I.ok.kind,I.ok.glob,I.ok.blt,I.ok.above,I.ok.inj,I.ok.has,I.ok.cab,I.ok.hd,I.ok.frames,I.ok.stk,I.ok.exf,I.ok.bs,I.ok.bsz,I.ok.noex,I.ok.exfs,I.ok.sQ,I.ok.frf⟩,I.os,I.bare,I.base,I.loc,I.cell,I.free,I.freeC,fun p hp=>I.pin p (by simpa using hp),I.hok,I.len⟩
theorem n5{X:Cx}{pins pins':List (Addr×Obj)}{σ:St}{H:Hp}{s:Shared}{xe:Value->Shared->Prop}(ok:X.Ok)(I:Inv (nB X (X.pn++pins) xe) pins' σ H s):Inv X pins σ H s:=
 ⟨ok,I.os,I.bare,I.base,I.loc,I.cell,I.free,I.freeC,fun p hp=>I.pin p (List.mem_append_left _ hp),I.hok,I.len⟩
noncomputable def oj(K:PySem.W.Frag)(C:Addr)(bm:List Value):Prop:=bm.contains (.type "BaseException")=true /\ ∃ nm q N bs hdct sn sub ab col dd k0 k1 k2 k3 k5 newId,K.lookup C=some (excClassObj nm q C N bs bm hdct sn sub ab col dd k0 k1 k2 k3 k5 newId)
noncomputable def q8(K:PySem.W.Frag)(T C:Addr)(b:Bool):Prop:=∃ bmC bmT,oj K C bmC /\ oj K T bmT /\ (Value.ref C ::bmC).contains (.ref T)=b
theorem yt{M:Model}{A:Around}{E:Value->Shared->Prop}{K:PySem.W.Frag}{s:Shared}{a C T:Addr}{dx:Option Addr}{b:Bool}{Q:Bool->Shared->Prop}(X:K.In s.heap)(e:B1 a C dx s.heap)(t:q8 K T C b)(hq:Q b s):
  wpAny M A (excMatches (.ref a) (.ref T)) Q E s:=by
 obtain⟨bmC,bmT,⟨bC,nm,q,N,bs,hdct,sn,sub,ab,col,dd,k0,k1,k2,k3,k5,nid,lC⟩,⟨bT,nm',q',N',bs',hdct',sn',sub',ab',col',dd',k0',k1',k2',k3',k5',nid',lT⟩,hb⟩:=t;obtain⟨o,vs,he,hcls,_⟩:=e;have hC:=X _ _ lC;have hT:=X _ _ lT;obtain⟨hp,g,d,tk,os⟩:=s;have f:=tc_notTuple
 have cB:(Value.ref T ::bmT).contains (.type "BaseException")=true:=by rw[List.contains_cons,bT,Bool.or_true]
 unfold excMatches
 repeat (first
  |(with_reducible refine wpAny_loadPart_at he ?_;rw[hcls])
  |with_reducible refine wpAny_loadPart_at hT ?_
  |(with_reducible refine wpAny_isSubtype_exc hC ?_;rw[hb])
  |(with_reducible refine wpAny_isSubtype_exc hT ?_;rw[cB])
  |wp_step)
 cases b<;>(wp_walk;exact hq)
theorem EZ{X:Cx}{pins:List (Addr×Obj)}{σ:St}{H:Hp}{s:Shared}{h':Heap}{t':Nat}{i:Nat}{n:Str}{m:Str->Option Value}{v:Option Value}(I:Inv X pins σ H s)(hN:X.N.Nodup)(hi:X.N[i]?=some n)
  (hl:∀(j:Nat) (x:Str) (v:V),X.N[j]?=some x->σ[j]?=some (some v)->Vis X.env.scope x->∃ u,RelV v u /\ Look X.env s.heap m x u)
  (hs:Heap.SameBut X.env.locals s.heap h') (hn:h'.Ns X.env.locals (fun x=>if x=n then v else m x)):Inv X pins (σ.set i none) H { s with heap:=h',toks:=t' }:=by
 have cne:=I.cne
 refine⟨I.ok,I.os,I.bare,⟨fun b o e k hb hx=>?_,fun b o e k hb hx=>?_,I.base.free,fun b o e hx=>?_,I.base.tups,I.base.frzs,I.base.tbls⟩,⟨_,hn,fun j y w e1 e2 e3=>?_⟩,fun y c e=>?_,I.free,I.freeC,fun p hp=>?_,fun b ob e=>?_,by simpa using I.len⟩
 . exact(hs.2 b (Nat.ne_of_lt (Nat.lt_of_lt_of_le (Heap.lt_size e) I.ok.above))).trans (I.base.keep b o e k hb hx)
 . obtain⟨sl,z⟩:=I.base.slot b o e k hb hx
   exact⟨sl,(hs.2 b (Nat.ne_of_lt (Nat.lt_of_lt_of_le (Heap.lt_size e) I.ok.above))).trans z⟩
 . obtain⟨o',z⟩:=I.base.there b o e hx
   exact⟨o',(hs.2 b (Nat.ne_of_lt (Nat.lt_of_lt_of_le (Heap.lt_size e) I.ok.above))).trans z⟩
 . by_cases hj:j=i
   . subst hj;rw[List.getElem?_set]at e2;split at e2
     . split at e2<;>cases e2
     . exact absurd rfl ‹_›
   . rw[List.getElem?_set_ne (Ne.symm hj)]at e2;obtain⟨u,r,q⟩:=hl j y w e1 e2 e3
     refine⟨u,r,?_⟩
     rcases q with⟨k,e⟩|⟨k,c,e,z⟩
     . refine .inl ⟨k,?_⟩
       have:y≠n:=fun z=>hj (sU hN e1 (z ▸ hi))
       simp[this,e]
     . exact .inr ⟨k,c,e,z.sameBut hs (cne y c e)⟩
 . obtain⟨w,z⟩:=I.cell y c e
   exact⟨w,z.sameBut hs (cne y c e)⟩
 . obtain⟨e,k,ne,nf,d⟩:=I.pin p hp
   exact⟨(hs.2 p.1 ne).trans e,k,ne,nf,d⟩
 . refine(I.hok b ob e).qR (fun c w hc q=>(hs.2 c ?_).trans q) (fun _ q=>q) fun _ _ q=>q
   rintro rfl
   rcases hc with z|z
   . rw[<- z,I.free]at e;cases e
   . rw[I.free]at z;cases z
noncomputable def IT(i:Option Nat)(a:Option Addr)(σ:St):St:=match i,a with
 |some j,some b=>σ.set j (some (.ref b))
 |_,_=>σ
noncomputable def BG(i:Option Nat)(σ:St):St:=match i with
 |some j=>σ.set j none
 |none=>σ
noncomputable def Dg(i:Option Nat)(D:Ends):Ends:={ nx:=fun σ H=>D.nx (BG i σ) H,rt:=D.rt,bk:=fun σ H=>D.bk (BG i σ) H,ct:=fun σ H=>D.ct (BG i σ) H }
noncomputable def Hs(K:PySem.W.Frag)(T:Addr)(ts:TS)(i:Option Nat)(W₀:XW)(D:Ends):XW:=fun C a σ H=>∀ H',aD H H'->∃ c b,C=.ref c /\ q8 K T c b /\ if b=true then ts (Dg i D) (IT i a σ) H' else W₀ C a σ H'
noncomputable def AZ(K:PySem.W.Frag)(tb:XW->TS)(T:Addr)(ts:TS)(i:Option Nat)(W₀:XW):TS:=fun D σ H=>tb (Hs K T ts i W₀ D) D σ H
section
variable{X:Cx}{x n:Str}{np hpos pos:Pos}{body suite:List Stmt}{b₀:Stmt}{tb:XW->TS}{ts:TS}{T:Addr}{W₀:XW}
theorem zY{a:Addr}{pins:List (Addr×Obj)}{D:Ends}{f:Flow}{s:Shared}(ok:X.Ok)(h:SP (hand X a) pins D f s):SP X pins D f s:=by
 cases f with
 |next=>obtain⟨σ',H',I,q⟩:=h;exact⟨σ',H',qr ok I,q⟩
 |brk=>obtain⟨σ',H',I,q⟩:=h;exact⟨σ',H',qr ok I,q⟩
 |cont=>obtain⟨σ',H',I,q⟩:=h;exact⟨σ',H',qr ok I,q⟩
 |ret u=>obtain⟨v,σ',H',I,r,q⟩:=h;exact⟨v,σ',H',qr ok I,r,q⟩
theorem BX{pins pins':List (Addr×Obj)}{xe:Value->Shared->Prop}{D:Ends}{f:Flow}{s:Shared}(ok:X.Ok)(h:SP (nB X (X.pn++pins) xe) pins' D f s):SP X pins D f s:=by
 cases f with
 |next=>obtain⟨σ',H',I,q⟩:=h;exact⟨σ',H',n5 ok I,q⟩
 |brk=>obtain⟨σ',H',I,q⟩:=h;exact⟨σ',H',n5 ok I,q⟩
 |cont=>obtain⟨σ',H',I,q⟩:=h;exact⟨σ',H',n5 ok I,q⟩
 |ret u=>obtain⟨v,σ',H',I,r,q⟩:=h;exact⟨v,σ',H',n5 ok I,r,q⟩
theorem uP{pins:List (Addr×Obj)}{σ:St}{H:Hp}{s:Shared}{a C:Addr}{dx:Option Addr}{b:Bool}{R:Result->Shared->Prop}(I:Inv X pins σ H s)(F:wb H s.heap a C dx)(hg:Gl X x)(hm:X.mg x=some (.ref T))(hk:q8 X.K T C b)
  (hd:(x==("__debug__":Str))=false) (h:R (.ok (if b then .brk else .next)) s):codeAny (model X.prog X.w) (X.A.mark (some (.ref a))) (.handlers (.ref a) [.ExceptHandler (some (.Name x np)) none [] hpos] X.env) R s:=by
 refine codeAny_handlers_test (rY (X:=hand X a) (vK I a) hg hm ?_ hd);obtain⟨e,_,_⟩:=I.hok a _ F.exc;exact yt I.kIn e hk h
theorem GS(hst:X.stack=X.env ::X.outer /\ X.env.frame=some X.env.locals)(hb:∀ pn xe W,Thr (nB X pn xe) W->PassesOwn (model X.prog X.w) X.A X.env xe->PSs (nB X pn xe) body (tb W))(hg:Gl X x)(hm:X.mg x=some (.ref T))
  (hs:∀ a,PSs (hand X a) (b₀ ::suite) ts) (hX:Thr X W₀) (hd:(x==("__debug__":Str))=false:=by decide):
  PS X (.Try body [.ExceptHandler (some (.Name x np)) none (b₀ ::suite) hpos] [] [] pos) (AZ X.K tb T ts none W₀):=by
 intro pins s σ H D I h;refine wpAny_Try_except ?_
 refine wpAny_mono (hb (X.pn++pins) _ (Hs X.K T ts none W₀ D) ?_ PassesOwn.looking [] s σ H D (CI I _) h) (fun f s1 h1=>?_) fun _ _ z=>z
 . intro pins' σ' H' s' a C dx I' F' hw
   refine vG (n5 (pins:=pins) I.ok I') hst F' fun s1 H1 I1 g1 F1=>?_
   refine jw I1 F1 fun s2 I2 F2=>?_
   obtain⟨c,b,hc,hk,q⟩:=hw H1 g1;cases hc;refine wpAny_handleBy_cons (uP I2 F2 hg hm hk hd ?_) (by intro z;cases z)
   cases b with
   | true=>
     refine codeAny_handlers_suite (jw (X:=hand X a) (vK I2 a) F2 fun s3 I3 F3=>?_)
     refine wpAny_mono (hs a pins s3 σ' H1 D I3 q) (fun f s4 h4=>zY I.ok h4) fun _ _ z=>False.elim z
   | false=>
     refine wpAny_handleBy_nil (zS I2 F2 fun s3 I3 F3=>?_);exact hX pins σ' H1 s3 a C dx I3 F3.fly q
 . have z:=BX I.ok h1
   cases f with
   |next=>exact wpAny_execs_nil z
   |brk=>exact z
   |cont=>exact z
   |ret u=>exact z
theorem Bo{i:Nat}(hst:X.stack=X.env ::X.outer /\ X.env.frame=some X.env.locals)(hN:X.N.Nodup)(hi:X.N[i]?=some n)(hl:X.env.scope.names.lookup n=some .local)(hb:∀ pn xe W,Thr (nB X pn xe) W->PassesOwn (model X.prog X.w) X.A X.env xe->PSs (nB X pn xe) body (tb W))
  (hg:Gl X x) (hm:X.mg x=some (.ref T)) (hs:∀ a,PSs (hand X a) (b₀ ::suite) ts) (hX:Thr X W₀) (hd:(x==("__debug__":Str))=false:=by decide):
  PS X (.Try body [.ExceptHandler (some (.Name x np)) (some n) (b₀ ::suite) hpos] [] [] pos) (AZ X.K tb T ts (some i) W₀):=by
 intro pins s σ H D I h
 have hcls:(X.env.scope.kind == .class||(X.env.scope.kind == .module&&X.env.locals != X.env.globals))=false:=by rw[I.ok.kind];rfl
 have fin:∀{σ' H' s'},Inv X pins σ' H' s'->∀{Q:Unit->Shared->Prop} {E:Value->Shared->Prop},(∀ s'',Inv X pins (σ'.set i none) H' s''->Q () s'')->wpAny (model X.prog X.w) X.A (do bindName X.env n .none;unbindBehindTheSuite X.env n hpos) Q E s':=fun {σ' H' s'} J {Q E} k=>by
  obtain⟨m,hn,hlk⟩:=id J.loc
  exact wpAny_nameGoes_keeps hl hn hcls fun h2 v hn2 hs2=>k _ (EZ J hN hi hlk hs2 hn2)
 refine wpAny_Try_except ?_
 refine wpAny_mono (hb (X.pn++pins) _ (Hs X.K T ts (some i) W₀ D) ?_ PassesOwn.looking [] s σ H D (CI I _) h) (fun f s1 h1=>?_) fun _ _ z=>z
 . intro pins' σ' H' s' a C dx I' F' hw
   refine vG (n5 (pins:=pins) I.ok I') hst F' fun s1 H1 I1 g1 F1=>?_
   refine jw I1 F1 fun s2 I2 F2=>?_
   obtain⟨c,b,hc,hk,q⟩:=hw H1 g1;cases hc;refine wpAny_handleBy_cons (uP I2 F2 hg hm hk hd ?_) (by intro z;cases z)
   cases b with
   | true=>
     refine codeAny_handlers_suite_as (jw (X:=hand X a) (vK I2 a) F2 fun s3 I3 F3=>?_);refine gg (X:=hand X a) (v:=.ref a) I3 hN hi (.inl hl) rfl (fun s4 I4=>?_) (.inr hl)
     refine wpAny_mono (hs a pins s4 _ H1 (Dg (some i) D) I4 q) (fun f s5 h5=>?_) fun _ _ z=>False.elim z
     have z:=zY I.ok h5;show wpAny _ _ _ _ _ s5
     cases f with
     |next=>obtain⟨σ6,H6,J,r⟩:=z;exact fin J fun s7 J7=>⟨_,_,J7,r⟩
     |brk=>obtain⟨σ6,H6,J,r⟩:=z;exact fin J fun s7 J7=>⟨_,_,J7,r⟩
     |cont=>obtain⟨σ6,H6,J,r⟩:=z;exact fin J fun s7 J7=>⟨_,_,J7,r⟩
     |ret u=>obtain⟨v,σ6,H6,J,rv,r⟩:=z;exact fin J fun s7 J7=>⟨v,_,_,J7,rv,r⟩
   | false=>
     refine wpAny_handleBy_nil (zS I2 F2 fun s3 I3 F3=>?_);exact hX pins σ' H1 s3 a C dx I3 F3.fly q
 . have z:=BX I.ok h1
   cases f with
   |next=>exact wpAny_execs_nil z
   |brk=>exact z
   |cont=>exact z
   |ret u=>exact z
end
noncomputable abbrev blk(X:Cx)(scope:Scope)(cl:List (Str×Addr))(N:List Str)(C:Addr)(s₀:Shared)(H₀:Hp)(ex:List Addr):Cx:=
 { prog:=X.prog,w:=X.w,K:=X.K,mg:=X.mg,base:=X.base,A:=X.A,N:=N,s₀:=s₀,H₀:=H₀,env:=compEnvC scope cl C X.env,outer:=X.stack,stack:=X.stack,ex:=ex,fn:=fun _=>false,calm:=X.calm,pn:=[],xe:=fun _ _=>False }
theorem y3:Thr X (fun _ _ _ _=>False):=fun _ _ _ _ _ _ _ _ _ h=>h.elim
structure lS(X:Cx)(scope:Scope)(cl:List (Str×Addr))(M:List Str)(ι:List Nat)(x:Str):Prop where
 clos:closureFor scope X.env=pure cl
 kind:scope.kind=.function
 nocell:(scope.names.all fun p=>p.2 != .cell)=true
 locs:(scope.names.all fun p=>p.2 != .local||scope.names.lookup p.1==some .local)=true
 var:scope.names.lookup x=some .local
 names:M.map some=ι.map fun i=>X.N[i]?
 cells:M.map (fun y=>scope.names.lookup y)=M.map fun _=>some .free
 kinds:M.map X.env.kindOf=M.map fun _=>some .cell
 same:M.map (fun y=>cl.lookup y)=M.map fun y=>X.env.cells.lookup y
 sub:cl.map (fun p=>X.env.cells.lookup p.1)=cl.map fun p=>some p.2
 all:(scope.names.all fun p=>!(p.2 == .free)||(cl.lookup p.1).isSome)=true
 nd:(M++[x]).Nodup
theorem nG{α β:Type}{f g:α->β}{l:List α}(h:l.map f=l.map g){a:α}(ha:a∈l):f a=g a:=by
 induction l with
 |nil=>cases ha
 | cons b r ih=>
   rw[List.map_cons,List.map_cons]at h
   injection h with h1 h2
   rcases List.mem_cons.mp ha with z|z
   . rw[z];exact h1
   . exact ih h2 z
theorem pS{scope:Scope}(h:scope.names.lookup y=some .free):(relabel scope env).names.lookup y=some .cell \/ (relabel scope env).names.lookup y=some .free:=by
 unfold relabel;dsimp only;generalize scope.names=l at h
 induction l with
 |nil=>cases h
 | cons p r ih=>
   obtain⟨n,k⟩:=p;rw[List.lookup_cons]at h;rw[List.map_cons]
   by_cases e:(y==n)=true
   . rw[e]at h
     have hk:k=.free:=Option.some.inj h
     subst hk;dsimp only;split
     . rw[List.lookup_cons,e];exact .inl rfl
     . rw[List.lookup_cons,e];exact .inr rfl
   . have e':(y==n)=false:=by simpa using e
     rw[e']at h;dsimp only;split
     . rw[List.lookup_cons,e'];exact ih h
     . rw[List.lookup_cons,e'];exact ih h
theorem wN{scope:Scope}(hc:(scope.names.all fun p=>p.2 != .cell)=true)(h:(relabel scope env).names.lookup y=some .cell \/ (relabel scope env).names.lookup y=some .free):∃ p∈scope.names,p.1=y /\ p.2=.free:=by
 unfold relabel at h
 dsimp only at h
 generalize scope.names=l at h hc
 induction l with
 |nil=>rcases h with h|h<;>cases h
 | cons p r ih=>
   obtain⟨n,k⟩:=p;rw[List.all_cons,Bool.and_eq_true]at hc;rw[List.map_cons]at h
   by_cases e:(y==n)=true
   . refine⟨(n,k),List.mem_cons_self,(beq_iff_eq.mp e).symm,?_⟩
     dsimp only at h ⊢
     split at h
     . rename_i c;simp only[Bool.and_eq_true,beq_iff_eq]at c;exact c.1.1
     . rw[List.lookup_cons,e]at h
       have hk:(k != NameKind.cell)=true:=hc.1
       rcases h with h|h
       . have:k=.cell:=Option.some.inj h
         subst this;exact absurd hk (by decide)
       . exact Option.some.inj h
   . have e':(y==n)=false:=by simpa using e
     have h':(List.map (fun x=>match x with|(n,k)=>if(k==NameKind.free&&env.scope.kind==ScopeKind.function&&env.kindOf n==some NameKind.cell)=true then(n,NameKind.cell)else(n,k)) r).lookup y=some .cell \/
       (List.map (fun x=>match x with|(n,k)=>if(k==NameKind.free&&env.scope.kind==ScopeKind.function&&env.kindOf n==some NameKind.cell)=true then(n,NameKind.cell)else(n,k)) r).lookup y=some .free:=by
      dsimp only at h
      split at h
      . rw[List.lookup_cons,e']at h;exact h
      . rw[List.lookup_cons,e']at h;exact h
     obtain⟨q,hq,z⟩:=ih h' hc.2
     exact⟨q,List.mem_cons_of_mem _ hq,z⟩
noncomputable def pick(ι:List Nat)(σ:St):St:=ι.map fun i=>(σ[i]?).join
noncomputable def tH(wi:TI)(ι:List Nat)(te:TE):TE:=fun σ H Q=>wi σ H fun J H1=>∀ D,H1 D=none->∃ W:Nat->Nat->List V->Hp->Prop,(∃ m,W 0 m [] (upd H1 D (.lst []))) /\ ∀ i m ys H,W i m ys H ->
 H D=some (.lst ys) /\ ((J.stop i H /\ Q (.ref D) H) \/ (J.go i H /\ ∀ x H',J.yld i H x H'->te (pick ι σ++[some x]) H' fun y H2=>H2 D=some (.lst ys) /\ ys.length<sizeLine /\ ∃ m',m'<m /\ W (i+1) m' (ys++[y]) (upd H2 D (.lst (ys++[y])))))
section
variable{X:Cx}{scope:Scope}{cl:List (Str×Addr)}{M:List Str}{ι:List Nat}{x:Str}
theorem lS.tT(S:lS X scope cl M ι x)(h:cl.lookup y=some c):X.env.cells.lookup y=some c:=nG S.sub (PySem.mem_of_lookup h)
theorem yK{pins:List (Addr×Obj)}{s:Shared}{h₁:Heap}(S:lS X scope cl M ι x)(I:Inv X pins σ H s)(hex:∀ b∈ex,kM X pins H b /\ b<s.heap.objs.size)(hn:h₁.Ns s.heap.objs.size (fun _=>none))
  (hk:∀ b o,s.heap.get? b=some o->h₁.get? b=some o):Inv (blk X scope cl (M++[x]) s.heap.objs.size s H ex) [] (pick ι σ++[none]) H { s with heap:=h₁,toks:=t' }:=by
 have noM:∀ b:Addr,b∈ex->b≠s.heap.objs.size:=fun b hb=>Nat.ne_of_lt (hex b hb).2
 have fsx:∀ b∈ex,b∉frs X.stack:=fun b hb z=>by
  obtain⟨⟨_,f1,f2,_⟩,_⟩:=hex b hb
  rcases List.mem_cons.mp (I.vc b z)with e|e
  . exact f1 e
  . exact f2 e
 have base0:∀ b o,X.base.get? b=some o->b∉ex:=fun b o e z=>by
  obtain⟨⟨_,_,_,f3,_⟩,_⟩:=hex b z
  rcases f3 with f|f
  . exact I.ok.noex b o e f
  . exact absurd (Nat.lt_of_lt_of_le (Heap.lt_size e) (Nat.le_trans I.ok.bsz f)) (Nat.lt_irrefl _)
 refine⟨⟨I.ok.mod,S.kind,I.ok.glob,I.ok.blt,Nat.le_refl _,fun y z c h1 h2=>I.ok.inj y z c (S.tT h1) (S.tT h2),fun y hy=>?_,fun y c z=>absurd z Bool.false_ne_true,I.ok.hd,I.ok.frames,.inl rfl,
  fun b hb=>⟨noM b hb,fun y c h z=>(hex b hb).1.2.2.2.2.1 y c (S.tT h) z⟩,I.bs,Nat.le_trans I.ok.bsz I.sz,base0,fsx,I.stack,I.rR⟩,
  rfl,I.bare,Un.kept hk,⟨_,hn,fun i y v e1 e2 e3=>?_⟩,fun y c h=>?_,I.fresh,fun y c h=>?_,fun p hp=>absurd (show p∈([]:List (Addr×Obj)) from hp) (by simp),I.hok.kept hk,?_⟩
 . obtain⟨p,hp,rfl,hpf⟩:=wN S.nocell hy;have q:=List.all_eq_true.mp S.all p hp;rw[hpf]at q
   have q':(cl.lookup p.1).isSome=true:=by
    cases e:(cl.lookup p.1).isSome with
    |true=>rfl
    |false=>rw[e]at q;exact absurd q (by decide)
   exact Option.isSome_iff_exists.mp q'
 . have hiM:i < M.length:=by
    by_cases hlt:i<M.length
    . exact hlt
    . exfalso
      have hl:(pick ι σ).length=M.length:=by
       have q:=congrArg List.length S.names;rw[List.length_map,List.length_map]at q;unfold pick;rw[List.length_map,q]
      rw[List.getElem?_append_right (by omega),hl]at e2
      have:i - M.length=0 \/ 1<=i - M.length:=by omega
      rcases this with z|z
      . rw[z]at e2;cases e2
      . rw[List.getElem?_eq_none (by simpa using z)]at e2;cases e2
   have hl:ι.length=M.length:=by
    have q:=congrArg List.length S.names;rw[List.length_map,List.length_map]at q;exact q.symm
   rw[List.getElem?_append_left hiM]at e1
   have hyM:y∈M:=List.mem_of_getElem? e1
   have e2':((σ[ι[i]]?).join)=some v:=by
    rw[List.getElem?_append_left (by unfold pick;rw[List.length_map];omega)]at e2;unfold pick at e2;rw[List.getElem?_map,List.getElem?_eq_getElem (by omega)]at e2;exact Option.some.inj e2
   have e4:σ[ι[i]]?=some (some v):=by
    cases q:σ[ι[i]]? with
    |none=>rw[q]at e2';cases e2'
    |some w=>rw[q]at e2';exact congrArg some e2'
   have e5:X.N[ι[i]]?=some y:=by
    have q:=congrArg (fun l=>l[i]?) S.names;rw[List.getElem?_map,List.getElem?_map,e1,List.getElem?_eq_getElem (by omega)]at q
    exact(Option.some.inj q).symm
   have kc:X.env.kindOf y=some .cell:=nG S.kinds hyM
   obtain⟨m,hm,hl⟩:=I.loc;obtain⟨u,r,q⟩:=hl _ y v e5 e4 (.inr (.inl kc))
   refine⟨u,r,.inr ⟨?_,?_⟩⟩
   . exact pS (nG S.cells hyM)
   . rcases q with⟨k,_⟩|⟨_,c,e,o,ho,hd⟩
     . rw[kc]at k;cases k
     . exact⟨c,(nG S.same hyM).trans e,o,hk _ _ ho,hd⟩
 . obtain⟨v,o,ho,hd⟩:=I.cell y c (S.tT h)
   exact⟨v,o,hk _ _ ho,hd⟩
 . exact I.freeC y c (S.tT h)
 . have q:=congrArg List.length S.names;rw[List.length_map,List.length_map]at q
   show(pick ι σ++[none]).length=(M++[x]).length
   unfold pick;rw[List.length_append,List.length_append,List.length_map,q];rfl
theorem wM{pins:List (Addr×Obj)}{s s':Shared}(I:Inv X pins σ H s)(hC:C=s.heap.objs.size)(hex:∀ b∈ex,kM X pins H b)(J:Inv (blk X scope cl N C s H ex) [] σ' H' s')
  (hs:Heap.SameBut C s'.heap h'):Inv X pins σ H' { s' with heap:=h' }:=by
 subst hC
 have K:Inv X pins σ H' s':=I.CF (ch:=ex) J.os J.base J.hok J.bare fun b hb=>by
  obtain⟨_,f1,_,f3,f4,f5⟩:=hex b hb
  exact⟨f3,f1,f4,f5⟩
 refine K.turned (t':=s'.toks) (it:=s.heap.objs.size) (fun b o hb e=>(hs.2 b hb).trans e) J.free (Nat.ne_of_gt I.lt) (.inr I.sz) (fun y c e z=>?_) (fun p hp z=>?_)
 . obtain⟨v,q⟩:=I.cell y c e;exact absurd (z ▸ q.lt) (Nat.lt_irrefl _)
 . exact absurd (z ▸ Heap.lt_size (I.pin p hp).1) (Nat.lt_irrefl _)
theorem uM(elt target iter:Expr)(scope:Scope)(pos:Pos)(it acc:Value)(env:Env):
  compTurn (.ListComp elt [⟨target,iter,[],0⟩] scope pos) 0 it acc env=(do
   standAt iter.pos
   match <- pyNext it with
   |none=>pure (.done .next)
   | some v=>do
     letOwnedTupleGo target it v
     assign target env v
     (do let x <- eval elt env;let _ <- call (.builtin "list.append") [acc,x];pure ())
     again (.compLoop (.ListComp elt [⟨target,iter,[],0⟩] scope pos) 0 it acc env)):=by rfl
theorem EL(S:lS X scope cl M ι x)(hc:X.calm=true)(hi:PI X (.Name x px) iter wi)(he:∀ C s₀ H₀ ex,PE (blk X scope cl (M++[x]) C s₀ H₀ ex) elt te)
  (hs:∀ v,foldedSetIterable iter X.env v=pure v:=by intro _;rfl):PE X (.ListComp elt [⟨.Name x px,iter,[],0⟩] scope pos) (tH wi ι te):=by
 intro pins s σ H Q I h;rw[eval_ListComp];refine wpAny_comprehension_free (use:=none) rfl hs S.clos S.kind (fun y hy hl=>?_) (wpAny_mono (hi pins s σ H _ I h) (fun v s1 h1=>wpAny_mono h1 (fun itv s2 h2=>?_) fun _ _ z=>z) fun _ _ z=>z)
 . have q:=List.all_eq_true.mp S.locs y hy;rw[hl]at q
   simpa using q
 obtain⟨it,fp,tn,J,H2,rfl,I2,T,st2,f2,hW⟩:=h2;have I3:=I2.CD (ys:=[]) (its:=[]) (t':=s2.toks) .nil (Nat.zero_le _);obtain⟨W,⟨m0,w0⟩,turn⟩:=hW s2.heap.objs.size I2.fresh
 have fpo:∀ b∈fp,b<s2.heap.objs.size:=fun b hb=>let ⟨_,e,_⟩:=T.obj _ _ st2 b hb;Heap.lt_size e
 have f3:∀ b∈fp,kM X pins (upd H2 s2.heap.objs.size (.lst [])) b:=fun b hb=>by
  obtain⟨q0,q⟩:=f2 b hb
  exact⟨by rw[bQ (Nat.ne_of_lt (fpo b hb))];exact q0,q⟩
 show wpAny _ _ (newObj (.type "list") _ none) _ _ s2;refine wpAny_newObj_type (wpAny_newFunctionEnv (fun y hy=>?_) (by intro y hy;simp at hy) (fun h₁ hn₁ sb₁=>?_) S.kind)
 . have q:=List.all_eq_true.mp S.nocell y hy
   simpa using q
 have hsz:(s2.heap.push { cls:=.type "list",dict:=none,data:=.seq ([]:List Value).toArray }).objs.size=s2.heap.objs.size+1:=Heap.size_push ..
 have hk₁:∀ b o,(s2.heap.push { cls:=.type "list",dict:=none,data:=.seq ([]:List Value).toArray }).get? b=some o->h₁.get? b=some o:=fun b o e=>
  (sb₁.2 b (Nat.ne_of_lt (Heap.lt_size e))).trans (Heap.get?_push_of_some _ e)
 have J0:=yK (t':=s2.toks+([]:List (Str×Value)).length) S I3 (ex:=fp) (fun b hb=>⟨f3 b hb,Nat.lt_of_lt_of_le (fpo b hb) (by rw[hsz];exact Nat.le_succ _)⟩) hn₁ hk₁
 have old:∀ b∈fp,∀ o,s2.heap.get? b=some o->h₁.get? b=some o:=fun b _ o e=>hk₁ b o (Heap.get?_push_of_some _ e)
 have st₁:tn 0 h₁:=T.keep _ _ _ st2 old
 have loop:codeAny (model X.prog X.w) X.A (.compLoop (.ListComp elt [⟨.Name x px,iter,[],0⟩] scope pos) 0 (.ref it) (.ref s2.heap.objs.size) (compEnvC scope cl (s2.heap.objs.size+1) X.env))
   (compPost (model X.prog X.w) X.A X.xe none (EP X pins σ Q) (.ref s2.heap.objs.size) (s2.heap.objs.size+1)) { s2 with heap:=h₁,toks:=s2.toks+([]:List (Str×Value)).length }:=by
  rw[hsz]at J0
  refine codeAny_loop rfl (fun n s'=>∃ i H' ys v,Inv (blk X scope cl (M++[x]) (s2.heap.objs.size+1) { s2 with heap:=s2.heap.push { cls:=.type "list",data:=.seq ([]:List Value).toArray },toks:=s2.toks } (upd H2 s2.heap.objs.size (.lst [])) fp) [] (pick ι σ++[v]) H' s' /\ tn i s'.heap /\ (∀ b∈fp,H' b=none) /\ W i n ys H')
   (fun n s' hI=>?_) m0 ⟨0,_,[],none,J0,st₁,fun b hb=>(f3 b hb).1,w0⟩
  obtain⟨i,H',ys,v,J',st',fr',w'⟩:=hI;obtain⟨hD,alt⟩:=turn i n ys H' w'
  have fpY:∀{G:Hp},(∀ b∈fp,G b=none)->∀ b∈fp,kM (blk X scope cl (M++[x]) (s2.heap.objs.size+1) { s2 with heap:=s2.heap.push { cls:=.type "list",data:=.seq ([]:List Value).toArray },toks:=s2.toks } (upd H2 s2.heap.objs.size (.lst [])) fp) [] G b:=fun hG b hb=>
   ⟨hG b hb,(J'.ok.exf b hb).1,J'.ok.exfs b hb,.inl hb,(J'.ok.exf b hb).2,fun p hp=>absurd (show p∈([]:List (Addr×Obj)) from hp) (by simp)⟩
  show wpAny _ _ ((compTurn _ 0 (.ref it) (.ref s2.heap.objs.size) (compEnvC scope cl (s2.heap.objs.size+1) X.env)).onRaise _) _ _ s';refine wpAny_noted (wpAny_noRaise ?_);rw[uM];refine wpAny_bind (wpAny_standAt (wpAny_bind ?_))
  rcases alt with⟨stop,qn⟩|⟨go,step⟩
  . refine thn (T.done (blk X scope cl (M++[x]) (s2.heap.objs.size+1) _ _ fp) rfl rfl rfl hc i [] s' _ H' _ J' (fpY fr') st' stop) fun r s4 ⟨hr,J4⟩=>?_
    subst hr;refine wpAny_pure ?_;obtain⟨m,hm,_⟩:=id J4.loc
    refine⟨m,hm,fun h' sb=>⟨.ref s2.heap.objs.size,H',wM I3 hsz.symm f3 J4 sb,rfl,qn⟩⟩
  . refine thn (T.item (blk X scope cl (M++[x]) (s2.heap.objs.size+1) _ _ fp) rfl rfl rfl hc i [] s' _ H' _ J' (fpY fr') st' go) fun r s4 ⟨u,hr,h4⟩=>?_
    subst hr;refine wpAny_bind (thn h4 fun _ s5 ⟨z,H5,J5,r5,y5,st5,fr5⟩=>?_)
    have J5':=J5.pinned (fpY fr5) (T.obj _ _ st5)
    have hxN:(M++[x])[M.length]?=some x:=by simp
    refine wpAny_bind ?_;refine wpAny_assign_Name ?_;refine gg (X:=blk X scope cl (M++[x]) (s2.heap.objs.size+1) _ _ fp) (i:=M.length) (v:=z) J5' S.nd hxN (.inl (lookup_relabel_local S.var)) r5 (fun s6 J6=>?_) (.inr (lookup_relabel_local S.var))
    have hlp:(pick ι σ).length=M.length:=by
     have q:=congrArg List.length S.names;rw[List.length_map,List.length_map]at q;unfold pick;rw[List.length_map,q]
    have hset:(pick ι σ++[v]).set M.length (some z)=pick ι σ++[some z]:=by
     rw[<- hlp,List.set_append_right _ _ (Nat.le_refl _),Nat.sub_self];rfl
    rw[hset]at J6;refine wpAny_bind (wpAny_bind (thn (he _ _ _ _ _ s6 _ H5 _ J6 (step z H5 y5)) fun yv s7 ⟨y,H7,J7,r7,hD7,hz7,m',hm',w7⟩=>?_));refine wpAny_bind (thn (bx (X:=blk X scope cl (M++[x]) (s2.heap.objs.size+1) _ _ fp) _ s7 _ H7 (.ref s2.heap.objs.size) [y] (.ref s2.heap.objs.size) [yv] (fun _ G=>G=upd H7 s2.heap.objs.size (.lst (ys++[y]))) J7 rfl (.cons r7 .nil) ⟨_,_,y,rfl,rfl,hD7,hz7,rfl⟩) fun _ s8 ⟨_,H8,J8,_,e8⟩=>?_);subst e8;refine wpAny_pure (wpAny_pure ⟨rfl,m',hm',i+1,_,_,some z,J8.fK,?_,fun b hb=>?_,w7⟩)
    . exact T.keep _ _ _ st5 fun b hb o e=>(J8.pin (b,o) (List.mem_append_right _ (List.mem_append_right _ (cf hb e)))).1
    . obtain⟨o,e,d⟩:=T.obj _ _ st5 b hb
      exact(J8.pin (b,o) (List.mem_append_right _ (List.mem_append_right _ (cf hb e)))).2.1
 rw[hsz]at *;exact codeAny_compStart_list loop (T.self X.A 0 _ _ _ st₁ loop)
end
section
variable{X:Cx}
noncomputable def IsV(K:PySem.W.Frag)(T:String)(x:V)(H:Hp)(b:Bool):Prop:=match x with
 |.int _=>(T = "int" /\ b=true) \/ (T = "bool" /\ b=false) \/ (T = "list" /\ b=false) \/ (T = "tuple" /\ b=false) \/ (T = "str" /\ b=false)
 |.bl _=>(T = "int" /\ b=true) \/ (T = "bool" /\ b=true) \/ (T = "list" /\ b=false) \/ (T = "tuple" /\ b=false) \/ (T = "str" /\ b=false)
 |.non=>(T = "int" /\ b=false) \/ (T = "bool" /\ b=false) \/ (T = "list" /\ b=false) \/ (T = "tuple" /\ b=false) \/ (T = "str" /\ b=false)
 |.str _=>(T = "int" /\ b=false) \/ (T = "bool" /\ b=false) \/ (T = "list" /\ b=false) \/ (T = "tuple" /\ b=false) \/ (T = "str" /\ b=true)
 | .ref p=>((∃ xs,SqL K H p xs) /\ ((T = "int" /\ b = false) \/ (T = "bool" /\ b = false) \/ (T = "list" /\ b = true) \/ (T = "tuple" /\ b = false) \/ (T = "str" /\ b = false))) \/
    ((∃ xs,SqT K H p xs) /\ ((T = "int" /\ b=false) \/ (T = "bool" /\ b=false) \/ (T = "list" /\ b=false) \/ (T = "tuple" /\ b=true) \/ (T = "str" /\ b=false)))
 |_=>False
theorem tO:kb X (.builtin "isinstance") (fun xs H Q=>∃ x T b,xs=[x,.ty T] /\ IsV X.K T x H b /\ Q (.bl b) H):=by
 intro pins s σ H vs us Q I rv h;obtain⟨x,T,b,rfl,hv,q⟩:=h;obtain⟨u,v,rfl,ru,rT⟩:=rv.two;cases rT
 cases x with
 | int i=>
   obtain⟨t,rfl⟩:=ru
   rcases hv with⟨rfl,rfl⟩|⟨rfl,rfl⟩|⟨rfl,rfl⟩|⟨rfl,rfl⟩|⟨rfl,rfl⟩
   . exact IsiPair.int_int ⟨.bl _,H,I,rfl,q⟩
   . exact IsiPair.int_bool ⟨.bl _,H,I.tok _,rfl,q⟩
   . exact IsiPair.int_list ⟨.bl _,H,I.tok _,rfl,q⟩
   . exact IsiPair.int_tuple ⟨.bl _,H,I.tok _,rfl,q⟩
   . exact IsiPair.int_str ⟨.bl _,H,I.tok _,rfl,q⟩
 | bl i=>
   cases ru
   rcases hv with⟨rfl,rfl⟩|⟨rfl,rfl⟩|⟨rfl,rfl⟩|⟨rfl,rfl⟩|⟨rfl,rfl⟩
   . exact IsiPair.bool_int ⟨.bl _,H,I,rfl,q⟩
   . exact IsiPair.bool_bool ⟨.bl _,H,I,rfl,q⟩
   . exact IsiPair.bool_list ⟨.bl _,H,I.tok _,rfl,q⟩
   . exact IsiPair.bool_tuple ⟨.bl _,H,I.tok _,rfl,q⟩
   . exact IsiPair.bool_str ⟨.bl _,H,I.tok _,rfl,q⟩
 | non=>
   cases ru
   rcases hv with⟨rfl,rfl⟩|⟨rfl,rfl⟩|⟨rfl,rfl⟩|⟨rfl,rfl⟩|⟨rfl,rfl⟩
   . exact IsiPair.NoneType_int ⟨.bl _,H,I.tok _,rfl,q⟩
   . exact IsiPair.NoneType_bool ⟨.bl _,H,I.tok _,rfl,q⟩
   . exact IsiPair.NoneType_list ⟨.bl _,H,I.tok _,rfl,q⟩
   . exact IsiPair.NoneType_tuple ⟨.bl _,H,I.tok _,rfl,q⟩
   . exact IsiPair.NoneType_str ⟨.bl _,H,I.tok _,rfl,q⟩
 | str i=>
   obtain⟨t,rfl⟩:=ru
   rcases hv with⟨rfl,rfl⟩|⟨rfl,rfl⟩|⟨rfl,rfl⟩|⟨rfl,rfl⟩|⟨rfl,rfl⟩
   . exact IsiPair.str_int ⟨.bl _,H,I.tok _,rfl,q⟩
   . exact IsiPair.str_bool ⟨.bl _,H,I.tok _,rfl,q⟩
   . exact IsiPair.str_list ⟨.bl _,H,I.tok _,rfl,q⟩
   . exact IsiPair.str_tuple ⟨.bl _,H,I.tok _,rfl,q⟩
   . exact IsiPair.str_str ⟨.bl _,H,I,rfl,q⟩
 | ref p=>
   cases ru
   rcases hv with⟨⟨xs,hS⟩,hv⟩|⟨⟨xs,hS⟩,hv⟩
   . obtain⟨its,r,pl,hz⟩:=I.list hS;obtain⟨o,e,c,_⟩:=pl.isList
     rcases hv with⟨rfl,rfl⟩|⟨rfl,rfl⟩|⟨rfl,rfl⟩|⟨rfl,rfl⟩|⟨rfl,rfl⟩
     . exact IsiPair.list_int e c ⟨.bl _,H,I.tok _,rfl,q⟩
     . exact IsiPair.list_bool e c ⟨.bl _,H,I.tok _,rfl,q⟩
     . exact IsiPair.list_list e c ⟨.bl _,H,I,rfl,q⟩
     . exact IsiPair.list_tuple e c ⟨.bl _,H,I.tok _,rfl,q⟩
     . exact IsiPair.list_str e c ⟨.bl _,H,I.tok _,rfl,q⟩
   . obtain⟨its,r,pl,hz⟩:=I.tuple hS;obtain⟨o,e,c,_⟩:=pl
     rcases hv with⟨rfl,rfl⟩|⟨rfl,rfl⟩|⟨rfl,rfl⟩|⟨rfl,rfl⟩|⟨rfl,rfl⟩
     . exact IsiPair.tuple_int e c ⟨.bl _,H,I.tok _,rfl,q⟩
     . exact IsiPair.tuple_bool e c ⟨.bl _,H,I.tok _,rfl,q⟩
     . exact IsiPair.tuple_list e c ⟨.bl _,H,I.tok _,rfl,q⟩
     . exact IsiPair.tuple_tuple e c ⟨.bl _,H,I,rfl,q⟩
     . exact IsiPair.tuple_str e c ⟨.bl _,H,I.tok _,rfl,q⟩
 |_=>exact hv.elim
theorem Ex:typeOf (.type "ValueError")=pure (.type "type"):=by kernel_rfl
theorem boot_bool:bootBuiltins "bool" = some (.type "bool"):=by decide +kernel
theorem boot_isinstance:bootBuiltins "isinstance" = some (.builtin "isinstance"):=by decide +kernel
theorem boot_all:bootBuiltins "all" = some (.builtin "all"):=by decide +kernel
theorem boot_tuple:bootBuiltins "tuple" = some (.type "tuple"):=by decide +kernel
theorem boot_list:bootBuiltins "list" = some (.type "list"):=by decide +kernel
theorem boot_int:bootBuiltins "int" = some (.type "int"):=by decide +kernel
theorem boot_str:bootBuiltins "str" = some (.type "str"):=by decide +kernel
theorem boot_len:bootBuiltins "len" = some (.builtin "len"):=by decide +kernel
theorem sW{prog:Program}{w:World}{A:Around}{E:Value->Shared->Prop}{K:PySem.W.Frag}{s:Shared}{a C:Addr}{T:Value}{dx:Option Addr}{bm:List Value}{k:Value}{dep:Int}{tk:Tok}{Q:Fin->Shared->Prop}(hk:k=.int dep tk)(X:K.In s.heap)(e:B1 a C dx s.heap)
  (hC:oj K C bm) (hty:(∃ n,T=.type n /\ typeOf (.type n)=pure (.type "type")) \/ ∃ B bmB,T=.ref B /\ oj K B bmB) (hb:(Value.ref C ::bm).contains T=true) (hq:Q (.done (.ret (.bool true))) s):
  wpAny (model prog w) A (Builtin.«isinstance.nested» ⟨[.ref a,T,k],[]⟩) Q E s:=by
 subst hk;obtain⟨_,nm,q,N,bs,hdct,sn,sub,ab,col,dd,k0,k1,k2,k3,k5,nid,lC⟩:=hC;obtain⟨o,vs,he,hcls,_⟩:=e;have hC:=X _ _ lC;obtain⟨hp,g,d,tks,os⟩:=s
 by_cases same:(Value.ref C==T)=true
 . rcases hty with⟨n,rfl,hty⟩|⟨B,bmB,rfl,_⟩
   . cases same
   . repeat (first
      |(with_reducible refine wpAny_loadPart_at he ?_;rw[hcls])
      |assumption
      |wp_step)
     all_goals first|assumption|exact hq
 . have same':(Value.ref C==T)=false:=by simpa using same
   rcases hty with⟨n,rfl,hty⟩|⟨B,bmB,rfl,⟨_,nm',q',N',bs',hdct',sn',sub',ab',col',dd',k0',k1',k2',k3',k5',nid',lB⟩⟩
   . repeat (first
      |(with_reducible refine wpAny_loadPart_at he ?_;rw[hcls])
      |(with_reducible refine wpAny_isSubtype_exc hC ?_;rw[hb])
      |assumption
      |wp_step)
     all_goals first|assumption|exact hq
   . have hB:=X _ _ lB
     repeat (first
      |(with_reducible refine wpAny_loadPart_at he ?_;rw[hcls])
      |with_reducible refine wpAny_loadPart_at hB ?_
      |(with_reducible refine wpAny_isSubtype_exc hC ?_;rw[hb])
      |assumption
      |wp_step)
     all_goals first|assumption|exact hq
theorem BM:kb X (.builtin "isinstance") (fun xs H Q=>∃ a T C dx bm,xs=[.ref a,T] /\ H a=some (qO a C dx) /\ oj X.K C bm /\ ((∃ B bmB,T=.ref B /\ oj X.K B bmB /\ (Value.ref C ::bm).contains (.ref B)=true) \/ (T=.ty "ValueError" /\ bm.contains (.type "ValueError")=true)) /\ Q (.bl true) H):=by
 intro pins s σ H vs us Q I rv h;obtain⟨a,T,C,dx,bm,rfl,ha,hC,hT,q⟩:=h;obtain⟨u,v,rfl,ru,rT⟩:=rv.two;cases ru;obtain⟨e,_,_⟩:=I.hok a _ ha
 rcases hT with⟨B,bmB,rfl,hB,hb⟩|⟨rfl,hb⟩
 . cases rT;refine call_isinstance (S:=fun _ R s'=>s'=s /\ R (.ok (.ret (.bool true))) s) (fun prog w A R s' hs=>?_) ⟨rfl,?_⟩
   . obtain⟨rfl,hs⟩:=hs;exact isinstance_outer (sW rfl I.kIn e hC (.inr ⟨B,bmB,rfl,hB⟩) hb hs) (by intro z;cases z)
   . exact⟨.bl _,H,I,rfl,q⟩
 . cases rT;refine call_isinstance (S:=fun _ R s'=>s'=s /\ R (.ok (.ret (.bool true))) s) (fun prog w A R s' hs=>?_) ⟨rfl,?_⟩
   . obtain⟨rfl,hs⟩:=hs;exact isinstance_outer (sW rfl I.kIn e hC (.inl ⟨_,rfl,Ex⟩) (by rw[List.contains_cons,hb,Bool.or_true]) hs) (by intro z;cases z)
   . exact⟨.bl _,H,I,rfl,q⟩
end
section
variable{P:Program}{w:World}{K:PySem.W.Frag}{mg:Str->Option Value}{base:Heap}
theorem okX{x qual:Str}{st:Stmt}{f:Addr}{fd:FuncData}{N ps:List Str}{k:Nat}{sp:Sp}(F:Fun K x qual st f fd)(S:aW N ps (aC st))(len:∀ vs H Q E,sp vs H Q E->vs.length=ps.length)
  (hbody:∀(cdv:Value) (A:Around) (outer:List Env) (s:Shared) (H:Hp) (vs:List V) (Q:VK) (E:XK),jM k (A.deeper (envOfC qual (aC st) s.heap.objs.size f cdv))->sp vs H Q E ->
    ∃ t,PSs (qI (CXE P w) P w K mg base N qual (aC st) f cdv A outer s H E) (dH st) t /\ t { nx:=fun _ H'=>Q .non H',rt:=Q } (start N vs) H):cD P w K mg base (CXE P w) (k+1) f fd ps sp:=by
 obtain⟨oc,od,kV,doc,pm,an,cdv,ct,osl,rfl,lk,hcd⟩:=F.ex
 exact IQ lk hcd S len fun A outer s H vs Q E hr hsp=>hbody cdv A outer s H vs Q E hr hsp
end
theorem SqL.new{K:PySem.W.Frag}{H:Hp}{p:Addr}{xs:List V}(h:H p=some (.lst xs)):SqL K H p xs:=.inl (.inl h)
theorem SqT.new{K:PySem.W.Frag}{H:Hp}{p:Addr}{xs:List V}(h:H p=some (.tup xs)):SqT K H p xs:=.inl (.inl h)
theorem DM{H:Hp}{p q:Addr}{o:HO}(h:H q=some o)(n:H p=none):q≠p:=fun z=>by rw[z,n]at h;cases h
theorem _root_.L2.aD.upd{H H':Hp}{p:Addr}{o:HO}(e:aD H H')(n:H p=none):aD H (upd H' p o):=fun b u h=>by
 rw[bQ (DM h n)];exact e b u h
theorem _root_.L2.aD.new{H:Hp}{p:Addr}{o:HO}(n:H p=none):aD H (L2.upd H p o):=(aD.refl H).upd n
abbrev Goes(H:Hp)(E:XK)(C:Addr)(dx:Option Addr):Prop:=∀ H' a,aD H H'->H' a=some (qO a C dx)->E (.ref C) (some a) H'
theorem takes{K:PySem.W.Frag}{T C:Addr}{b:Bool}{bmC bmT:List Value}(h1:oj K C bmC)(h2:oj K T bmT)(h:(Value.ref C ::bmC).contains (.ref T)=b):q8 K T C b:=⟨bmC,bmT,h1,h2,h⟩
section
variable{X:Cx}
noncomputable def FC(K:PySem.W.Frag):R2:=fun x y H Q=>∃ l b xs zs,x=.ref l /\ y=.ref b /\ SqL K H l xs /\ SqL K H b zs /\ xs.length+zs.length<=sizeLine /\ ∀ p,H p=none->Q (.ref p) (upd H p (.lst (xs++zs)))
theorem iM:OpR X (binaryOp .Add) (FC X.K):=by
 intro pins s σ H x y v u Q I rx ry h;obtain⟨l,b,xs,zs,rfl,rfl,hH,hB,hz,q⟩:=h;cases rx;cases ry;obtain⟨its,r,pl,_⟩:=I.list hH;obtain⟨its2,r2,pl2,_⟩:=I.list hB;obtain⟨⟨cls,dd,data,sl⟩,ho,hc,n,hd⟩:=pl.isList;obtain⟨⟨cls2,dd2,data2,sl2⟩,ho2,hc2,n2,hd2⟩:=pl2.isList;simp only at hc hd hc2 hd2;subst hc hd hc2 hd2
 have hsz:its.toArray.size+its2.toArray.size<=sizeLine:=by rw[List.size_toArray,List.size_toArray,<- r.length,<- r2.length];exact hz
 refine concat_meets ⟨_,ho,rfl⟩ ⟨_,ho2,rfl⟩ noFill_list_add seq_list_add PySem.F.slot_list_add PySem.F.entry_list_add (PySem.F.args_list_add_2 _ _) (list_addW l b its.toArray its2.toArray n n2 dd dd2 sl sl2 hsz) ⟨ho,ho2,?_⟩
 have ea:its.toArray++its2.toArray=(its++its2).toArray:=by simp
 rw[ea]
 exact⟨.ref _,_,I.CD (t':=s.toks) (r.append r2) (by rw[List.length_append];exact hz),rfl,q _ I.fresh⟩
theorem Ax:kb X (.builtin "all") (fun xs H Q=>∃(p:Addr) (bs:List Bool),xs=[.ref p] /\ SqL X.K H p (bs.map V.bl) /\ X.A.handled=none /\ Q (.bl (bs.all id)) H):=by
 intro pins s σ H vs us Q I rv h;obtain⟨p,bs,rfl,hp,hh,q⟩:=h;obtain⟨u,rfl,ru⟩:=rv.one;cases ru;obtain⟨its,r,pl,_⟩:=I.list hp;have hl:=r.length
 have isl:s.heap.IsList p its.toArray:=pl.isList
 obtain⟨o,e,_⟩:=id isl;refine call_all_walk (wpAny_pyIter_list isl ?_)
 have ne:p≠s.heap.objs.size:=Nat.ne_of_lt (Heap.lt_size e)
 have tv:∀(i:Nat) (v:Value),its.toArray[i]?=some v->∃ b,bs[i]?=some b /\ v=Value.bool b:=fun i v hv=>by
  have hv':its[i]?=some v:=by simpa using hv
  have hi:i<its.length:=(List.getElem?_eq_some_iff.mp hv').1
  rw[<- hl,List.length_map]at hi
  have hx:(bs.map V.bl)[i]?=some (V.bl bs[i]):=by simp[hi]
  obtain⟨u,hu,ru⟩:=r.get hx;rw[hv']at hu;cases hu
  exact⟨bs[i],by simp[hi],ru⟩
 refine⟨s.heap.objs.size,_,_,_,_,_,(fun i=>(bs[i]?).getD false),rfl,Walks.list (A:=X.A.in1) hh s.heap.objs.size p ne its.toArray,⟨⟨_,Heap.get?_push_size _ rfl,rfl,rfl⟩,isl.at fun o e=>Heap.get?_push_of_some _ e⟩,fun i v s' Q' E' hP hQ=>?_,fun h' tk hk=>?_⟩
 . obtain⟨b,hb,rfl⟩:=tv i v hP
   have hQ':Q' ((bs[i]?).getD false) s':=hQ
   rw[hb]at hQ';exact wpAny_truthy_bool hQ'
 . have en:its.toArray.size=bs.length:=by rw[List.size_toArray,<- hl,List.length_map]
   have eb:(List.range its.toArray.size).all (fun i=>(bs[i]?).getD false)=bs.all id:=by
    rw[en];rw[Bool.eq_iff_iff,List.all_eq_true,List.all_eq_true];constructor
    . intro hA b hb;obtain⟨i,hi,rfl⟩:=List.mem_iff_getElem.mp hb;have:=hA i (by simpa using hi)
      simpa [hi]using this
    . intro hA i hi
      have hi':i<bs.length:=by simpa using hi
      have:=hA bs[i] (List.getElem_mem hi')
      simpa [hi']using this
   rw[eb]
   refine⟨.bl _,H,I.kept (h':=h') (t':=tk) fun b o e'=>hk b o ?_ (Heap.get?_push_of_some _ e'),rfl,q⟩
   have lt:=Heap.lt_size e';intro z
   have z':b=s.heap.objs.size:=by simpa using z
   exact absurd (z' ▸ lt) (Nat.lt_irrefl _)
end
noncomputable def isStar:Expr->Bool
 |.Starred ..=>true
 |_=>false
theorem AW{e:Expr}{es:List Expr}{env:Env}(h:isStar e=false):starEach (e ::es) env=(false,eval e env) ::starEach es env:=by
 cases e<;>first|rfl|cases h
theorem BV{X:Cx}{e:Expr}{es:List Expr}{te:TE}{t:TA}(ha:PE X e te)(hr:PA X es t)(hs:isStar e=false:=by rfl):PA X (e ::es) (eS te t):=Eh ha hr (AW hs)
end L2.E
namespace L2.P
open PySem
noncomputable def ixP(n:Nat)(i:Int):Option Nat:=if 0<=i then(if i<n then some i.toNat else none)else if -(n:Int)<=i then some (i+n).toNat else none
noncomputable def atP{α:Type}(xs:List α)(i:Int):Option α:=(ixP xs.length i).bind fun j=>xs[j]?
noncomputable def rK(n d:Nat):Option Int->Nat
 |none=>d
 |some v=>if v<0 then(v+(n:Int)).toNat else min v.toNat n
inductive PV where
 |non|bl (b:Bool)|int (i:Int)|str (s:Str)|lst (xs:List PV)|tup (xs:List PV)
inductive OV where
 | sh (x:PV)|ol (ts:List OV)|ob (c:String) (ks:List Str) (ts:List OV)
   |di (kvs:List (Int×PV))|dt (kvs:List (List Int×PV))
inductive Sl where
 | sh (x:PV)|ow (xs:List PV)|ex (c:String) (fs:List (Str×PV))
   |tr (io:Bool) (t:OV)|bo (t:OV)
abbrev ah:=List (Option Sl)
inductive RV where
 |sh (x:PV)|fr (xs:List PV)|al (xs:List PV)
noncomputable def RV.pv:RV->PV
 |.sh x=>x
 |.fr xs=>.lst xs
 |.al xs=>.lst xs
abbrev XF:=List (Str×PV)
inductive OE where
 |ok (r:RV)|exc (c:String) (fs:XF)|bad
inductive OT where
 |ok (b:Bool)|exc (c:String) (fs:XF)|bad
inductive OA where
 |ok (xs:List PV)|exc (c:String) (fs:XF)|bad
inductive OS where
 |nx (ρ:ah)|rt (ρ:ah) (r:RV)|bk (ρ:ah)|ct (ρ:ah)|exc (ρ:ah) (c:String) (fs:XF)|bad
noncomputable def OE.bind:OE->(RV->OE)->OE
 |.ok r,f=>f r
 |.exc c fs,_=>.exc c fs
 |.bad,_=>.bad
noncomputable def OE.eV:OE->(RV->OT)->OT
 |.ok r,f=>f r
 |.exc c fs,_=>.exc c fs
 |.bad,_=>.bad
noncomputable def OE.eH:OE->(RV->OA)->OA
 |.ok r,f=>f r
 |.exc c fs,_=>.exc c fs
 |.bad,_=>.bad
noncomputable def OE.bY(ρ:ah):OE->(RV->OS)->OS
 |.ok r,f=>f r
 |.exc c fs,_=>.exc ρ c fs
 |.bad,_=>.bad
noncomputable def OT.bind:OT->(Bool->OE)->OE
 |.ok r,f=>f r
 |.exc c fs,_=>.exc c fs
 |.bad,_=>.bad
noncomputable def OT.eV:OT->(Bool->OT)->OT
 |.ok r,f=>f r
 |.exc c fs,_=>.exc c fs
 |.bad,_=>.bad
noncomputable def OT.bY(ρ:ah):OT->(Bool->OS)->OS
 |.ok r,f=>f r
 |.exc c fs,_=>.exc ρ c fs
 |.bad,_=>.bad
noncomputable def OA.bind:OA->(List PV->OE)->OE
 |.ok r,f=>f r
 |.exc c fs,_=>.exc c fs
 |.bad,_=>.bad
noncomputable def OA.eH:OA->(List PV->OA)->OA
 |.ok r,f=>f r
 |.exc c fs,_=>.exc c fs
 |.bad,_=>.bad
noncomputable def OA.bY(ρ:ah):OA->(List PV->OS)->OS
 |.ok r,f=>f r
 |.exc c fs,_=>.exc ρ c fs
 |.bad,_=>.bad
noncomputable def ak(i:Nat):ah->OE:=fun ρ=>match ρ[i]? with
 |some (some (.sh x))=>.ok (.sh x)
 |some (some (.ow xs))=>.ok (.al xs)
 |_=>.bad
noncomputable def mC(x:PV):ah->OE:=fun _=>.ok (.sh x)
noncomputable def oE:Option RV->OE
 |some r=>.ok r
 |none=>.bad
noncomputable def mOp(g:PV->PV->Option RV)(ma mb:ah->OE):ah->OE:=fun ρ=>(ma ρ).bind fun a=>(mb ρ).bind fun b=>oE (g a.pv b.pv)
noncomputable def gI(C:Int->Int->Bool)(f:Int->Int->PV):PV->PV->Option RV
 |.int i,.int j=>if C i j then some (.sh (f i j))else none
 |_,_=>none
noncomputable def bR:=gI (fun _ _=>true) fun i j=>.int (i+j)
noncomputable def lZ:=gI (fun _ _=>true) fun i j=>.int (i - j)
noncomputable def rO:=gI (fun i j=>(decide (-(2 ^ 64)<i)&&decide (i<2 ^ 64))||(decide (-(2 ^ 64)<j)&&decide (j<2 ^ 64))) fun i j=>.int (i*j)
noncomputable def cG:=gI (fun _ j=>decide (0<j)&&decide (j<1073741824)) fun i j=>.int (i/j)
noncomputable def bM:=gI (fun _ j=>decide (0<j)) fun i j=>.int (i%j)
noncomputable def gLt:=gI (fun _ _=>true) fun i j=>.bl (decide (i<j))
noncomputable def gLe:=gI (fun _ _=>true) fun i j=>.bl (decide (i<=j))
noncomputable def gGt:=gI (fun _ _=>true) fun i j=>.bl (decide (j<i))
noncomputable def gGe:=gI (fun _ _=>true) fun i j=>.bl (decide (j<=i))
noncomputable def eqS:PV->PV->Option Bool
 |.non,.non=>some true|.non,.int _=>some false|.int _,.non=>some false|.non,.bl _=>some false|.bl _,.non=>some false|.non,.str _=>some false|.str _,.non=>some false
 |.int a,.int b=>some (decide (a=b))|.bl a,.bl b=>some (decide (a=b))|.str a,.str b=>some (decide (a=b))
 |.int _,.str _=>some false|.str _,.int _=>some false|.bl _,.str _=>some false|.str _,.bl _=>some false
 |_,_=>none
noncomputable def gEq:PV->PV->Option RV:=fun x y=>(eqS x y).map fun b=>.sh (.bl b)
noncomputable def gNe:PV->PV->Option RV:=fun x y=>(eqS x y).map fun b=>.sh (.bl (!b))
noncomputable def lG:RV->Option PV
 |.sh x=>some x
 |.fr xs=>some (.lst xs)
 |.al _=>none
noncomputable def aL:ah->OA:=fun _=>.ok []
noncomputable def aq(me:ah->OE)(mr:ah->OA):ah->OA:=fun ρ=>(me ρ).eH fun r=>match lG r with
 |some x=>(mr ρ).eH fun xs=>.ok (x ::xs)
 |none=>.bad
noncomputable def lim:Nat:=16777216
noncomputable def cN(ma:ah->OA):ah->OE:=fun ρ=>(ma ρ).bind fun xs=>if xs.length<=lim then .ok (.fr xs)else .bad
noncomputable def gq(ma:ah->OA):ah->OE:=fun ρ=>(ma ρ).bind fun xs=>if xs.length<=lim then .ok (.sh (.tup xs))else .bad
noncomputable def aX(f:List PV->OE)(ma:ah->OA):ah->OE:=fun ρ=>(ma ρ).bind f
noncomputable def mUn(g:PV->Option RV)(ma:ah->OE):ah->OE:=fun ρ=>(ma ρ).bind fun a=>oE (g a.pv)
noncomputable def eM:PV->Option RV
 |.int i=>some (.sh (.int (-i)))
 |_=>none
noncomputable def kn:PV->Option RV
 |.lst xs=>some (.sh (.int xs.length))
 |.tup xs=>some (.sh (.int xs.length))
 |_=>none
noncomputable def kT:PV->Option RV
 |.int i=>some (.sh (.int i))
 |.bl b=>some (.sh (.int (if b then 1 else 0)))
 |_=>none
noncomputable def ia:PV->Option RV
 |.lst xs=>some (.fr xs)
 |.tup xs=>some (.fr xs)
 |_=>none
noncomputable def cV:PV->PV->Option RV
 |.lst xs,.int i=>(atP xs i).map .sh
 |_,_=>none
noncomputable def cC:PV->PV->Option RV
 |.tup xs,.int i=>(atP xs i).map .sh
 |_,_=>none
noncomputable def oq:PV->PV->Option RV
 |.lst xs,.lst ys=>if xs.length+ys.length<=lim then some (.fr (xs++ys))else none
 |_,_=>none
noncomputable def og:List PV->Option (List Bool)
 |[]=>some []
 |.bl i ::r=>(og r).map (i ::·)
 |_ ::_=>none
noncomputable def Gv:PV->Option RV
 |.lst xs=>(og xs).map fun bs=>.sh (.bl (bs.all id))
 |_=>none
noncomputable def isP(T:String):PV->Option Bool
 |.int _=>if T = "int" then some true else if T = "bool" \/ T = "list" \/ T = "tuple" \/ T = "str" then some false else none
 |.bl _=>if T = "int" \/ T = "bool" then some true else if T = "list" \/ T = "tuple" \/ T = "str" then some false else none
 |.non=>if T = "int" \/ T = "bool" \/ T = "list" \/ T = "tuple" \/ T = "str" then some false else none
 |.str _=>if T = "str" then some true else if T = "int" \/ T = "bool" \/ T = "list" \/ T = "tuple" then some false else none
 |.lst _=>if T = "list" then some true else if T = "int" \/ T = "bool" \/ T = "tuple" \/ T = "str" then some false else none
 |.tup _=>if T = "tuple" then some true else if T = "int" \/ T = "bool" \/ T = "list" \/ T = "str" then some false else none
noncomputable def mIs(T:String)(ma:ah->OE):ah->OE:=mUn (fun x=>(isP T x).map fun b=>.sh (.bl b)) ma
noncomputable def uh:PV->Option Bool
 |.non=>some false
 |.bl b=>some b
 |.int i=>some (i != 0)
 |.lst xs=>some (!xs.isEmpty)
 |.tup xs=>some (!xs.isEmpty)
 |.str _=>none
noncomputable def oT:Option Bool->OT
 |some b=>.ok b
 |none=>.bad
noncomputable def cO(ma:ah->OE):ah->OT:=fun ρ=>(ma ρ).eV fun r=>oT (uh r.pv)
noncomputable def aE(ma:ah->OE):ah->OT:=fun ρ=>(ma ρ).eV fun r=>match r.pv with
 |.bl b=>.ok b
 |_=>.bad
noncomputable def oM(m:ah->OT):ah->OT:=fun ρ=>(m ρ).eV fun b=>.ok (!b)
noncomputable def dJ(m n:ah->OT):ah->OT:=fun ρ=>(m ρ).eV fun b=>if b=true then n ρ else .ok false
noncomputable def pH(m n:ah->OT):ah->OT:=fun ρ=>(m ρ).eV fun b=>if b=true then .ok true else n ρ
noncomputable def uK(m n:ah->OE):ah->OE:=fun ρ=>(m ρ).bind fun r=>match r.pv with
 |.bl b=>if b=true then n ρ else .ok (.sh (.bl false))
 |_=>.bad
noncomputable def BL(m:ah->OE):ah->OE:=fun ρ=>(m ρ).bind fun r=>match r.pv with
 |.bl b=>.ok (.sh (.bl (!b)))
 |_=>.bad
noncomputable def jF(c:ah->OT)(m n:ah->OE):ah->OE:=fun ρ=>(c ρ).bind fun b=>if b=true then m ρ else n ρ
noncomputable def g9(g g':PV->PV->Option RV)(ma mb mc:ah->OE):ah->OE:=fun ρ=>(ma ρ).bind fun a=>(mb ρ).bind fun b=>(oE (g a.pv b.pv)).bind fun r=>match r.pv with
 |.bl k=>if k=true then(mc ρ).bind fun c=>oE (g' b.pv c.pv)else .ok (.sh (.bl false))
 |_=>.bad
noncomputable def OS.andThen:OS->(ah->OS)->OS
 |.nx ρ,k=>k ρ
 |o,_=>o
noncomputable def OS.turn:OS->(ah->OS)->OS
 |.nx ρ,k=>k ρ
 |.ct ρ,k=>k ρ
 |.bk ρ,_=>.nx ρ
 |o,_=>o
noncomputable def aA(a b:ah->OS):ah->OS:=fun ρ=>(a ρ).andThen b
noncomputable def aT:ah->OS:=fun ρ=>.nx ρ
noncomputable def Dj:RV->Option Sl
 |.sh x=>some (.sh x)
 |.fr xs=>some (.ow xs)
 |.al _=>none
noncomputable def aN(i:Nat)(me:ah->OE):ah->OS:=fun ρ=>(me ρ).bY ρ fun r=>match Dj r with
 |some s=>.nx (ρ.set i (some s))
 |none=>.bad
noncomputable def bj(c:ah->OT)(m n:ah->OS):ah->OS:=fun ρ=>(c ρ).bY ρ fun b=>if b=true then m ρ else n ρ
noncomputable def b0(me:ah->OE):ah->OS:=fun ρ=>(me ρ).bY ρ fun r=>match r with
 |.al _=>.bad
 |r=>.rt ρ r
noncomputable def dB(i:Nat):ah->OS:=fun ρ=>match ρ[i]? with
 |some (some (.sh x))=>.rt ρ (.sh x)
 |some (some (.ow xs))=>.rt (ρ.set i none) (.fr xs)
 |_=>.bad
noncomputable def fT(i:Nat)(ρ:ah):ah:=match ρ[i]? with
 |some (some (.ow xs))=>ρ.set i (some (.sh (.lst xs)))
 |_=>ρ
noncomputable def cL(i:Nat)(me:ah->OE):ah->OS:=fun ρ=>match ρ[i]? with
 | some (some (.ow xs))=>(me ρ).bY ρ fun r=>match lG r with
   |some y=>if xs.length<lim then .nx (ρ.set i (some (.ow (xs++[y]))))else .bad
   |none=>.bad
 |_=>.bad
noncomputable def dZ(i:Nat)(mb:ah->OS):List PV->ah->OS
 |[],ρ=>.nx ρ
 |x ::xs,ρ=>(mb (ρ.set i (some (.sh x)))).turn (dZ i mb xs)
noncomputable def Bz:RV->Option (List PV)
 |.sh (.lst xs)=>some xs
 |.fr xs=>some xs
 |_=>none
noncomputable def mK(i:Nat)(ml:ah->OE)(mb:ah->OS):ah->OS:=fun ρ=>(ml ρ).bY ρ fun r=>match Bz r with
 |some xs=>dZ i mb xs ρ
 |none=>.bad
noncomputable def cz(n:Nat):List PV:=(List.range n).map fun k:Nat=>PV.int (k:Int)
noncomputable def oJ(i:Nat)(me:ah->OE)(mb:ah->OS):ah->OS:=fun ρ=>(me ρ).bY ρ fun r=>match r.pv with
 |.int j=>if -(2 ^ 62)<=j /\ j<2 ^ 62 then dZ i mb (cz j.toNat) ρ else .bad
 |_=>.bad
noncomputable def cu(mc:ah->OT)(mb:ah->OS):Nat->ah->OS
 |0,_=>.bad
 |n+1,ρ=>(mc ρ).bY ρ fun b=>if b=true then(mb ρ).turn (cu mc mb n)else .nx ρ
noncomputable def tV:PV->Option Int
 |.int i=>some i
 |_=>none
noncomputable def oB(m:ah->OE):ah->OE:=fun ρ=>(m ρ).bind fun r=>match r.pv with
 |.int i=>.ok (.sh (.int i))
 |_=>.bad
noncomputable def tj(xs:List PV)(lo hi:Option Int):List PV:=(xs.drop (rK xs.length 0 lo)).take (rK xs.length xs.length hi - rK xs.length 0 lo)
noncomputable def GV(x:PV)(lo hi:Option Int):Option RV:=match x with
 |.lst xs=>some (.fr (tj xs lo hi))
 |_=>none
noncomputable def yS(ma ml mh:ah->OE):ah->OE:=fun ρ=>(ma ρ).bind fun a=>(ml ρ).bind fun l=>(mh ρ).bind fun h=>oE (GV a.pv (tV l.pv) (tV h.pv))
noncomputable def cp(ι:List Nat)(ρ:ah):ah:=ι.map fun i=>(ρ[i]?).join
noncomputable def cS(me:ah->OE)(ρ:ah):List PV->OA
 |[]=>.ok []
 | x ::xs=>(me (ρ++[some (.sh x)])).eH fun r=>match lG r with
   |some y=>(cS me ρ xs).eH fun ys=>.ok (y ::ys)
   |none=>.bad
noncomputable def noX:OA->OE
 |.ok xs=>if xs.length<=lim then .ok (.fr xs)else .bad
 |_=>.bad
noncomputable def qD(ml:ah->OE)(ι:List Nat)(me:ah->OE):ah->OE:=fun ρ=>(ml ρ).bind fun r=>match r.pv with
 |.lst xs=>noX (cS me (cp ι ρ) xs)
 |_=>.bad
noncomputable def vo(mn:ah->OE)(ι:List Nat)(me:ah->OE):ah->OE:=fun ρ=>(mn ρ).bind fun r=>match r.pv with
 |.int j=>if -(2 ^ 62)<=j /\ j<2 ^ 62 then noX (cS me (cp ι ρ) (cz j.toNat))else .bad
 |_=>.bad
noncomputable def vT(c:String)(ma:ah->OA):ah->OS:=fun ρ=>(ma ρ).bY ρ fun xs=>if xs.length<=lim then .exc ρ c []else .bad
noncomputable def rB:OS->OS
 |.exc _ _ _=>.bad
 |o=>o
noncomputable def D4(mb:ah->OS)(takes:String->Option Bool)(ms:ah->OS):ah->OS:=fun ρ=>match mb ρ with
 | .exc ρ' c fs=>(match takes c with
   |some true=>rB (ms ρ')
   |some false=>.exc ρ' c fs
   |none=>.bad)
 |o=>o
noncomputable def Hb(i:Nat):OS->OS
 |.nx ρ=>.nx (ρ.set i none)
 |.bk ρ=>.bk (ρ.set i none)
 |.ct ρ=>.ct (ρ.set i none)
 |o=>o
noncomputable def v5(i:Nat)(mb:ah->OS)(takes:String->Option Bool)(ms:ah->OS):ah->OS:=fun ρ=>match mb ρ with
 | .exc ρ' c fs=>(match takes c with
   |some true=>Hb i (rB (ms (ρ'.set i (some (.ex c fs)))))
   |some false=>.exc ρ' c fs
   |none=>.bad)
 |o=>o
noncomputable def D6(i:Nat)(under:String->Bool):ah->OE:=fun ρ=>match ρ[i]? with
 |some (some (.ex c _))=>if under c=true then .ok (.sh (.bl true))else .bad
 |_=>.bad
noncomputable def fin:OS->OE
 |.nx _=>.ok (.sh .non)
 |.rt _ (.al _)=>.bad
 |.rt _ r=>.ok r
 |.exc _ c fs=>.exc c fs
 |_=>.bad
noncomputable def jG(n:Nat)(xs:List PV):ah:=xs.map (fun x=>some (.sh x))++List.replicate (n - xs.length) none
noncomputable def fnP(np n:Nat)(m:ah->OS):List PV->OE:=fun xs=>if xs.length=np then fin (m (jG n xs))else .bad
noncomputable def fuel:Nat:=100000
noncomputable def cK(i:Nat)(m:ah->OS):ah->OS:=fun ρ=>m (fT i ρ)
noncomputable def Bi(i:Nat)(g:PV->PV->Option RV)(me:ah->OE):ah->OS:=fun ρ=>match ρ[i]? with
 | some (some (.sh x))=>(me ρ).bY ρ fun r=>match g x r.pv with
   |some (.sh z)=>.nx (ρ.set i (some (.sh z)))
   |_=>.bad
 |_=>.bad
noncomputable def vn:PV->Bool
 |.non=>true
 |_=>false
noncomputable def CO:PV->PV->Option RV
 |x,.non=>some (.sh (.bl (vn x)))
 |_,_=>none
@[simp] theorem Hc(i:Nat)(ρ:ah):ak i ρ=(match ρ[i]? with
  |some (some (.sh x))=>.ok (.sh x)
  |some (some (.ow xs))=>.ok (.al xs)
  |_=>.bad):=rfl
@[simp] theorem Jt(g:PV->PV->Option RV)(ma mb:ah->OE)(ρ:ah):mOp g ma mb ρ=((ma ρ).bind fun a=>(mb ρ).bind fun b=>oE (g a.pv b.pv)):=rfl
@[simp] theorem Ks(me:ah->OE)(mr:ah->OA)(ρ:ah):aq me mr ρ=((me ρ).eH fun r=>match lG r with
  |some x=>(mr ρ).eH fun xs=>.ok (x ::xs)
  |none=>.bad):=rfl
@[simp] theorem HQ(ma:ah->OA)(ρ:ah):cN ma ρ=((ma ρ).bind fun xs=>if xs.length<=lim then .ok (.fr xs)else .bad):=rfl
@[simp] theorem K5(ma:ah->OA)(ρ:ah):gq ma ρ=((ma ρ).bind fun xs=>if xs.length<=lim then .ok (.sh (.tup xs))else .bad):=rfl
@[simp] theorem Kn(f:List PV->OE)(ma:ah->OA)(ρ:ah):aX f ma ρ=((ma ρ).bind f):=rfl
@[simp] theorem LM(g:PV->Option RV)(ma:ah->OE)(ρ:ah):mUn g ma ρ=((ma ρ).bind fun a=>oE (g a.pv)):=rfl
@[simp] theorem II(ma:ah->OE)(ρ:ah):cO ma ρ=((ma ρ).eV fun r=>oT (uh r.pv)):=rfl
@[simp] theorem Kk(ma:ah->OE)(ρ:ah):aE ma ρ=((ma ρ).eV fun r=>match r.pv with
  |.bl b=>.ok b
  |_=>.bad):=rfl
@[simp] theorem JM(m:ah->OT)(ρ:ah):oM m ρ=((m ρ).eV fun b=>.ok (!b)):=rfl
@[simp] theorem Kl(m n:ah->OT)(ρ:ah):dJ m n ρ=((m ρ).eV fun b=>if b=true then n ρ else .ok false):=rfl
@[simp] theorem Ls(m n:ah->OT)(ρ:ah):pH m n ρ=((m ρ).eV fun b=>if b=true then .ok true else n ρ):=rfl
@[simp] theorem Kh(m n:ah->OE)(ρ:ah):uK m n ρ=((m ρ).bind fun r=>match r.pv with
  |.bl b=>if b=true then n ρ else .ok (.sh (.bl false))
  |_=>.bad):=rfl
@[simp] theorem Kt(m:ah->OE)(ρ:ah):BL m ρ=((m ρ).bind fun r=>match r.pv with
  |.bl b=>.ok (.sh (.bl (!b)))
  |_=>.bad):=rfl
@[simp] theorem KQ(c:ah->OT)(m n:ah->OE)(ρ:ah):jF c m n ρ=((c ρ).bind fun b=>if b=true then m ρ else n ρ):=rfl
@[simp] theorem Js(g g':PV->PV->Option RV)(ma mb mc:ah->OE)(ρ:ah):g9 g g' ma mb mc ρ=((ma ρ).bind fun a=>(mb ρ).bind fun b=>(oE (g a.pv b.pv)).bind fun r=>match r.pv with
  |.bl k=>if k=true then(mc ρ).bind fun c=>oE (g' b.pv c.pv)else .ok (.sh (.bl false))
  |_=>.bad):=rfl
@[simp] theorem qF(a b:ah->OS)(ρ:ah):aA a b ρ=((a ρ).andThen b):=rfl
@[simp] theorem DG(ρ:ah):aT  ρ=(.nx ρ):=rfl
@[simp] theorem yQ(i:Nat)(me:ah->OE)(ρ:ah):aN i me ρ=((me ρ).bY ρ fun r=>match Dj r with
  |some s=>.nx (ρ.set i (some s))
  |none=>.bad):=rfl
@[simp] theorem BS(c:ah->OT)(m n:ah->OS)(ρ:ah):bj c m n ρ=((c ρ).bY ρ fun b=>if b=true then m ρ else n ρ):=rfl
@[simp] theorem Ly(me:ah->OE)(ρ:ah):b0 me ρ=((me ρ).bY ρ fun r=>match r with
  |.al _=>.bad
  |r=>.rt ρ r):=rfl
@[simp] theorem IE(i:Nat)(ρ:ah):dB i ρ=(match ρ[i]? with
  |some (some (.sh x))=>.rt ρ (.sh x)
  |some (some (.ow xs))=>.rt (ρ.set i none) (.fr xs)
  |_=>.bad):=rfl
@[simp] theorem Iz(i:Nat)(me:ah->OE)(ρ:ah):cL i me ρ=(match ρ[i]? with
  | some (some (.ow xs))=>(me ρ).bY ρ fun r=>match lG r with
    |some y=>if xs.length<lim then .nx (ρ.set i (some (.ow (xs++[y]))))else .bad
    |none=>.bad
  |_=>.bad):=rfl
@[simp] theorem JK(i:Nat)(ml:ah->OE)(mb:ah->OS)(ρ:ah):mK i ml mb ρ=((ml ρ).bY ρ fun r=>match Bz r with
  |some xs=>dZ i mb xs ρ
  |none=>.bad):=rfl
@[simp] theorem Kr(i:Nat)(me:ah->OE)(mb:ah->OS)(ρ:ah):oJ i me mb ρ=((me ρ).bY ρ fun r=>match r.pv with
  |.int j=>if -(2 ^ 62)<=j /\ j<2 ^ 62 then dZ i mb (cz j.toNat) ρ else .bad
  |_=>.bad):=rfl
@[simp] theorem Kj(m:ah->OE)(ρ:ah):oB m ρ=((m ρ).bind fun r=>match r.pv with
  |.int i=>.ok (.sh (.int i))
  |_=>.bad):=rfl
@[simp] theorem KJ(ma ml mh:ah->OE)(ρ:ah):yS ma ml mh ρ=((ma ρ).bind fun a=>(ml ρ).bind fun l=>(mh ρ).bind fun h=>oE (GV a.pv (tV l.pv) (tV h.pv))):=rfl
@[simp] theorem IM(ml:ah->OE)(ι:List Nat)(me:ah->OE)(ρ:ah):qD ml ι me ρ=((ml ρ).bind fun r=>match r.pv with
  |.lst xs=>noX (cS me (cp ι ρ) xs)
  |_=>.bad):=rfl
@[simp] theorem IK(mn:ah->OE)(ι:List Nat)(me:ah->OE)(ρ:ah):vo mn ι me ρ=((mn ρ).bind fun r=>match r.pv with
  |.int j=>if -(2 ^ 62)<=j /\ j<2 ^ 62 then noX (cS me (cp ι ρ) (cz j.toNat))else .bad
  |_=>.bad):=rfl
@[simp] theorem JC(c:String)(ma:ah->OA)(ρ:ah):vT c ma ρ=((ma ρ).bY ρ fun xs=>if xs.length<=lim then .exc ρ c []else .bad):=rfl
@[simp] theorem Lr(mb:ah->OS)(takes:String->Option Bool)(ms:ah->OS)(ρ:ah):D4 mb takes ms ρ=(match mb ρ with
  | .exc ρ' c fs=>(match takes c with
    |some true=>rB (ms ρ')
    |some false=>.exc ρ' c fs
    |none=>.bad)
  |o=>o):=rfl
@[simp] theorem Jv(i:Nat)(mb:ah->OS)(takes:String->Option Bool)(ms:ah->OS)(ρ:ah):v5 i mb takes ms ρ=(match mb ρ with
  | .exc ρ' c fs=>(match takes c with
    |some true=>Hb i (rB (ms (ρ'.set i (some (.ex c fs)))))
    |some false=>.exc ρ' c fs
    |none=>.bad)
  |o=>o):=rfl
@[simp] theorem Lm(i:Nat)(under:String->Bool)(ρ:ah):D6 i under ρ=(match ρ[i]? with
  |some (some (.ex c _))=>if under c=true then .ok (.sh (.bl true))else .bad
  |_=>.bad):=rfl
@[simp] theorem Iy(i:Nat)(m:ah->OS)(ρ:ah):cK i m ρ=(m (fT i ρ)):=rfl
@[simp] theorem KH(i:Nat)(g:PV->PV->Option RV)(me:ah->OE)(ρ:ah):Bi i g me ρ=(match ρ[i]? with
  | some (some (.sh x))=>(me ρ).bY ρ fun r=>match g x r.pv with
    |some (.sh z)=>.nx (ρ.set i (some (.sh z)))
    |_=>.bad
  |_=>.bad):=rfl
@[simp] theorem L5(x:PV)(ρ:ah):mC x ρ=.ok (.sh x):=rfl
@[simp] theorem Ir(ρ:ah):aL ρ=.ok []:=rfl
@[simp] theorem AO(r:RV)(f:RV->OE):OE.bind (.ok r) f=f r:=rfl
@[simp] theorem F6(c:String)(fs:XF)(f:RV->OE):OE.bind (.exc c fs) f=.exc c fs:=rfl
@[simp] theorem Io{p:Prop}[Decidable p](x y:OE)(f:RV->OE):OE.bind (if p then x else y) f=if p then OE.bind x f else OE.bind y f:=by split<;>rfl
@[simp] theorem G8(r:RV)(f:RV->OT):OE.eV (.ok r) f=f r:=rfl
@[simp] theorem FU(c:String)(fs:XF)(f:RV->OT):OE.eV (.exc c fs) f=.exc c fs:=rfl
@[simp] theorem FL{p:Prop}[Decidable p](x y:OE)(f:RV->OT):OE.eV (if p then x else y) f=if p then OE.eV x f else OE.eV y f:=by split<;>rfl
@[simp] theorem yY(r:RV)(f:RV->OA):OE.eH (.ok r) f=f r:=rfl
@[simp] theorem Ff(c:String)(fs:XF)(f:RV->OA):OE.eH (.exc c fs) f=.exc c fs:=rfl
@[simp] theorem Fg{p:Prop}[Decidable p](x y:OE)(f:RV->OA):OE.eH (if p then x else y) f=if p then OE.eH x f else OE.eH y f:=by split<;>rfl
@[simp] theorem IC(r:Bool)(f:Bool->OE):OT.bind (.ok r) f=f r:=rfl
@[simp] theorem Ge(c:String)(fs:XF)(f:Bool->OE):OT.bind (.exc c fs) f=.exc c fs:=rfl
@[simp] theorem GN{p:Prop}[Decidable p](x y:OT)(f:Bool->OE):OT.bind (if p then x else y) f=if p then OT.bind x f else OT.bind y f:=by split<;>rfl
@[simp] theorem GY(r:Bool)(f:Bool->OT):OT.eV (.ok r) f=f r:=rfl
@[simp] theorem FD(c:String)(fs:XF)(f:Bool->OT):OT.eV (.exc c fs) f=.exc c fs:=rfl
@[simp] theorem Fl{p:Prop}[Decidable p](x y:OT)(f:Bool->OT):OT.eV (if p then x else y) f=if p then OT.eV x f else OT.eV y f:=by split<;>rfl
@[simp] theorem AK(r:List PV)(f:List PV->OE):OA.bind (.ok r) f=f r:=rfl
@[simp] theorem Ib(c:String)(fs:XF)(f:List PV->OE):OA.bind (.exc c fs) f=.exc c fs:=rfl
@[simp] theorem Hv{p:Prop}[Decidable p](x y:OA)(f:List PV->OE):OA.bind (if p then x else y) f=if p then OA.bind x f else OA.bind y f:=by split<;>rfl
@[simp] theorem HE(r:List PV)(f:List PV->OA):OA.eH (.ok r) f=f r:=rfl
@[simp] theorem FT(c:String)(fs:XF)(f:List PV->OA):OA.eH (.exc c fs) f=.exc c fs:=rfl
@[simp] theorem F0{p:Prop}[Decidable p](x y:OA)(f:List PV->OA):OA.eH (if p then x else y) f=if p then OA.eH x f else OA.eH y f:=by split<;>rfl
@[simp] theorem o8(ρ:ah)(r:RV)(f:RV->OS):OE.bY ρ (.ok r) f=f r:=rfl
@[simp] theorem Ft(ρ:ah)(c:String)(fs:XF)(f:RV->OS):OE.bY ρ (.exc c fs) f=.exc ρ c fs:=rfl
@[simp] theorem FV{p:Prop}[Decidable p](ρ:ah)(x y:OE)(f:RV->OS):OE.bY ρ (if p then x else y) f=if p then OE.bY ρ x f else OE.bY ρ y f:=by split<;>rfl
@[simp] theorem gJ(ρ:ah)(r:Bool)(f:Bool->OS):OT.bY ρ (.ok r) f=f r:=rfl
@[simp] theorem FI(ρ:ah)(c:String)(fs:XF)(f:Bool->OS):OT.bY ρ (.exc c fs) f=.exc ρ c fs:=rfl
@[simp] theorem FH{p:Prop}[Decidable p](ρ:ah)(x y:OT)(f:Bool->OS):OT.bY ρ (if p then x else y) f=if p then OT.bY ρ x f else OT.bY ρ y f:=by split<;>rfl
@[simp] theorem Gm(ρ:ah)(r:List PV)(f:List PV->OS):OA.bY ρ (.ok r) f=f r:=rfl
@[simp] theorem Fv(ρ:ah)(c:String)(fs:XF)(f:List PV->OS):OA.bY ρ (.exc c fs) f=.exc ρ c fs:=rfl
@[simp] theorem FJ{p:Prop}[Decidable p](ρ:ah)(x y:OA)(f:List PV->OS):OA.bY ρ (if p then x else y) f=if p then OA.bY ρ x f else OA.bY ρ y f:=by split<;>rfl
@[simp] theorem mI(ρ:ah)(k:ah->OS):(OS.nx ρ).andThen k=k ρ:=rfl
@[simp] theorem dG(ρ:ah)(k:ah->OS):(OS.nx ρ).turn k=k ρ:=rfl
@[simp] theorem Ht(ρ:ah)(k:ah->OS):(OS.bk ρ).andThen k=OS.bk ρ:=rfl
@[simp] theorem Ki(ρ:ah)(k:ah->OS):(OS.bk ρ).turn k=.nx ρ:=rfl
@[simp] theorem Il(ρ:ah)(k:ah->OS):(OS.ct ρ).andThen k=OS.ct ρ:=rfl
@[simp] theorem Ko(ρ:ah)(k:ah->OS):(OS.ct ρ).turn k=k ρ:=rfl
@[simp] theorem Gq(ρ:ah)(r:RV)(k:ah->OS):(OS.rt ρ r).andThen k=OS.rt ρ r:=rfl
@[simp] theorem Kf(ρ:ah)(r:RV)(k:ah->OS):(OS.rt ρ r).turn k=OS.rt ρ r:=rfl
@[simp] theorem Fq(ρ:ah)(c:String)(fs:XF)(k:ah->OS):(OS.exc ρ c fs).andThen k=OS.exc ρ c fs:=rfl
@[simp] theorem IH(ρ:ah)(c:String)(fs:XF)(k:ah->OS):(OS.exc ρ c fs).turn k=OS.exc ρ c fs:=rfl
@[simp] theorem FA{p:Prop}[Decidable p](x y:OS)(k:ah->OS):OS.andThen (if p then x else y) k=if p then x.andThen k else y.andThen k:=by split<;>rfl
@[simp] theorem IG{p:Prop}[Decidable p](x y:OS)(k:ah->OS):OS.turn (if p then x else y) k=if p then x.turn k else y.turn k:=by split<;>rfl
@[simp] theorem KG(ρ:ah):fin (.nx ρ)=.ok (.sh .non):=rfl
@[simp] theorem Lc(ρ:ah)(x:PV):fin (.rt ρ (.sh x))=.ok (.sh x):=rfl
@[simp] theorem Ll(ρ:ah)(x:List PV):fin (.rt ρ (.fr x))=.ok (.fr x):=rfl
@[simp] theorem JI(ρ:ah)(c:String)(fs:XF):fin (.exc ρ c fs)=.exc c fs:=rfl
@[simp] theorem JZ{p:Prop}[Decidable p](x y:OS):fin (if p then x else y)=if p then fin x else fin y:=by split<;>rfl
@[simp] theorem LG(x:PV):RV.pv (.sh x)=x:=rfl
@[simp] theorem Ju(x:List PV):RV.pv (.fr x)=.lst x:=rfl
@[simp] theorem I0(x:List PV):RV.pv (.al x)=.lst x:=rfl
@[simp] theorem DE(r:RV):oE (some r)=.ok r:=rfl
@[simp] theorem Kd(r:Bool):oT (some r)=.ok r:=rfl
@[simp] theorem IA(i:Nat)(mb:ah->OS)(ρ:ah):dZ i mb [] ρ=.nx ρ:=rfl
@[simp] theorem dv(i:Nat)(mb:ah->OS)(x:PV)(xs:List PV)(ρ:ah):dZ i mb (x ::xs) ρ=(mb (ρ.set i (some (.sh x)))).turn (dZ i mb xs):=rfl
@[simp] theorem Lu(i j:Int):bR (.int i) (.int j)=some (.sh (.int (i+j))):=rfl
@[simp] theorem KL(i j:Int):lZ (.int i) (.int j)=some (.sh (.int (i - j))):=rfl
@[simp] theorem KO(i j:Int):rO (.int i) (.int j)=if((decide (-(2 ^ 64)<i)&&decide (i<2 ^ 64))||(decide (-(2 ^ 64)<j)&&decide (j<2 ^ 64)))=true then some (.sh (.int (i*j)))else none:=rfl
@[simp] theorem K6(i j:Int):cG (.int i) (.int j)=if(decide (0<j)&&decide (j<1073741824))=true then some (.sh (.int (i/j)))else none:=rfl
@[simp] theorem Li(i j:Int):bM (.int i) (.int j)=if decide (0<j)=true then some (.sh (.int (i%j)))else none:=rfl
@[simp] theorem LU(i j:Int):gLt (.int i) (.int j)=some (.sh (.bl (decide (i<j)))):=rfl
@[simp] theorem LL(i j:Int):gLe (.int i) (.int j)=some (.sh (.bl (decide (i<=j)))):=rfl
@[simp] theorem L4(i j:Int):gGt (.int i) (.int j)=some (.sh (.bl (decide (j<i)))):=rfl
@[simp] theorem LH(i j:Int):gGe (.int i) (.int j)=some (.sh (.bl (decide (j<=i)))):=rfl
@[simp] theorem LZ(i j:Int):gEq (.int i) (.int j)=some (.sh (.bl (decide (i=j)))):=rfl
@[simp] theorem LP(i j:Int):gNe (.int i) (.int j)=some (.sh (.bl (!decide (i=j)))):=rfl
@[simp] theorem LX(i j:Bool):gEq (.bl i) (.bl j)=some (.sh (.bl (decide (i=j)))):=rfl
@[simp] theorem LQ(i j:Bool):gNe (.bl i) (.bl j)=some (.sh (.bl (!decide (i=j)))):=rfl
@[simp] theorem KY(xs:List PV):kn (.lst xs)=some (.sh (.int xs.length)):=rfl
@[simp] theorem K2(xs:List PV):kn (.tup xs)=some (.sh (.int xs.length)):=rfl
@[simp] theorem Lw(xs:List PV)(i:Int):cV (.lst xs) (.int i)=(atP xs i).map .sh:=rfl
@[simp] theorem Lg(xs:List PV)(i:Int):cC (.tup xs) (.int i)=(atP xs i).map .sh:=rfl
@[simp] theorem HA(xs ys:List PV):oq (.lst xs) (.lst ys)=if xs.length+ys.length<=lim then some (.fr (xs++ys))else none:=rfl
@[simp] theorem Lh{p:Prop}[Decidable p](x y:Option RV):oE (if p then x else y)=if p then oE x else oE y:=by split<;>rfl
@[simp] theorem Lq(b:Bool):uh (.bl b)=some b:=rfl
@[simp] theorem K0(i:Int):uh (.int i)=some (i != 0):=rfl
@[simp] theorem Le(xs:List PV):uh (.lst xs)=some (!xs.isEmpty):=rfl
@[simp] theorem LC(xs:List PV):uh (.tup xs)=some (!xs.isEmpty):=rfl
@[simp] theorem Lb:uh .non=some false:=rfl
@[simp] theorem ID(i:Int):isP "int" (.int i)=some true:=rfl
@[simp] theorem Hn(i:Int):isP "bool" (.int i)=some false:=rfl
@[simp] theorem HR(i:Bool):isP "bool" (.bl i)=some true:=rfl
@[simp] theorem HI(xs:List PV):isP "list" (.lst xs)=some true:=rfl
@[simp] theorem IB(xs:List PV):ia (.lst xs)=some (.fr xs):=rfl
@[simp] theorem Iw(xs:List PV):ia (.tup xs)=some (.fr xs):=rfl
@[simp] theorem Kz(xs:List PV)(lo hi:Option Int):GV (.lst xs) lo hi=some (.fr (tj xs lo hi)):=rfl
@[simp] theorem JW:tV .non=none:=rfl
@[simp] theorem Kb(i:Int):tV (.int i)=some i:=rfl
@[simp] theorem KP(i:Int):eM (.int i)=some (.sh (.int (-i))):=rfl
@[simp] theorem JN(i:Int):kT (.int i)=some (.sh (.int i)):=rfl
@[simp] theorem Ke(i:Bool):kT (.bl i)=some (.sh (.int (if i then 1 else 0))):=rfl
@[simp] theorem Kv(x:PV):lG (.sh x)=some x:=rfl
@[simp] theorem Kc(x:List PV):lG (.fr x)=some (.lst x):=rfl
@[simp] theorem Km(x:PV):Dj (.sh x)=some (.sh x):=rfl
@[simp] theorem EO(x:List PV):Dj (.fr x)=some (.ow x):=rfl
@[simp] theorem zT(np n:Nat)(m:ah->OS)(xs:List PV):fnP np n m xs=if xs.length=np then fin (m (jG n xs))else .bad:=rfl
@[simp] theorem qt(n:Nat)(xs:List PV):jG n xs=xs.map (fun x=>some (.sh x))++List.replicate (n - xs.length) none:=rfl
@[simp] theorem Lp(xs:List PV):Bz (.sh (.lst xs))=some xs:=rfl
@[simp] theorem Ka(xs:List PV):Bz (.fr xs)=some xs:=rfl
@[simp] theorem KZ(x:PV):CO x .non=some (.sh (.bl (vn x))):=rfl
@[simp] theorem K9(xs:List PV):noX (.ok xs)=if xs.length<=lim then .ok (.fr xs)else .bad:=rfl
@[simp] theorem HS(me:ah->OE)(ρ:ah):cS me ρ []=.ok []:=rfl
@[simp] theorem Ic(f:RV->OE):OE.bind .bad f=.bad:=rfl
@[simp] theorem FO(f:RV->OT):OE.eV .bad f=.bad:=rfl
@[simp] theorem Fx(f:RV->OA):OE.eH .bad f=.bad:=rfl
@[simp] theorem F9(f:Bool->OE):OT.bind .bad f=.bad:=rfl
@[simp] theorem FP(f:Bool->OT):OT.eV .bad f=.bad:=rfl
@[simp] theorem HK(f:List PV->OE):OA.bind .bad f=.bad:=rfl
@[simp] theorem FN(f:List PV->OA):OA.eH .bad f=.bad:=rfl
@[simp] theorem FK(ρ:ah)(f:RV->OS):OE.bY ρ .bad f=.bad:=rfl
@[simp] theorem FF(ρ:ah)(f:Bool->OS):OT.bY ρ .bad f=.bad:=rfl
@[simp] theorem FX(ρ:ah)(f:List PV->OS):OA.bY ρ .bad f=.bad:=rfl
@[simp] theorem Fb(k:ah->OS):OS.bad.andThen k=.bad:=rfl
@[simp] theorem IS(k:ah->OS):OS.bad.turn k=.bad:=rfl
@[simp] theorem JQ:fin .bad=.bad:=rfl
@[simp] theorem Ku:oE none=.bad:=rfl
@[simp] theorem Kp:oT none=.bad:=rfl
@[simp] theorem Kw(x:List PV):lG (.al x)=none:=rfl
@[simp] theorem JL(x:List PV):Dj (.al x)=none:=rfl
@[simp] theorem Je:(0<=lim)=True:=by simp[lim]
@[simp] theorem LW:(1<=lim)=True:=by simp[lim]
@[simp] theorem LY:(2<=lim)=True:=by simp[lim]
@[simp] theorem LJ:(3<=lim)=True:=by simp[lim]
@[simp] theorem LR:(4<=lim)=True:=by simp[lim]
@[simp] theorem LF:(5<=lim)=True:=by simp[lim]
@[simp] theorem LK:(6<=lim)=True:=by simp[lim]
@[simp] theorem LN:(7<=lim)=True:=by simp[lim]
@[simp] theorem LS:(8<=lim)=True:=by simp[lim]
@[simp] theorem L1:(9<=lim)=True:=by simp[lim]
@[simp] theorem KD:(10<=lim)=True:=by simp[lim]
@[simp] theorem KA:(11<=lim)=True:=by simp[lim]
@[simp] theorem Lv:(12<=lim)=True:=by simp[lim]
@[simp] theorem KR:(13<=lim)=True:=by simp[lim]
@[simp] theorem KN:(14<=lim)=True:=by simp[lim]
@[simp] theorem LD:(15<=lim)=True:=by simp[lim]
@[simp] theorem K8:(16<=lim)=True:=by simp[lim]
theorem fe{n:Nat}(h:n<=1000000):n<=lim:=by unfold lim;omega
theorem kB{n:Nat}(h:n<=1000000):n<lim:=by unfold lim;omega
theorem gA{α:Type}(xs:List α)(k:Nat):atP xs (k:Int)=xs[k]?:=by
 unfold atP ixP
 by_cases h:k<xs.length
 . simp[h]
 . simp[h]
@[simp] theorem LO{α:Type}(xs:List α):atP xs 0=xs[0]?:=gA xs 0
@[simp] theorem L3{α:Type}(xs:List α):atP xs 1=xs[1]?:=gA xs 1
@[simp] theorem Kq{α:Type}(xs:List α)(n:Nat):atP xs (no_index (OfNat.ofNat n:Int))=xs[n]?:=gA xs n
theorem Dd{α:Type}(xs:List α)(i:Int)(h:0<=i):atP xs i=xs[i.toNat]?:=by
 have:=gA xs i.toNat
 rwa [Int.toNat_of_nonneg h]at this
@[simp] theorem LI(T:String)(ma:ah->OE)(ρ:ah):mIs T ma ρ=(ma ρ).bind fun a=>oE ((isP T a.pv).map fun b=>.sh (.bl b)):=rfl
@[simp] theorem x4(ns:List Bool):og (ns.map .bl)=some ns:=by
  induction ns with
  |nil=>rfl
  |cons n ns ih=>show(og (ns.map .bl)).map (n ::·)=_;rw[ih];rfl
@[simp] theorem GU(n:Nat):(cz n).length=n:=by simp[cz]
theorem jy{me:ah->OE}{ρ:ah}{α:Type}{g:α->PV}{f:α->PV}(l:List α)(h:∀ a∈l,me (ρ++[some (.sh (g a))])=.ok (.sh (f a))):cS me ρ (l.map g)=.ok (l.map f):=by
 induction l with
 |nil=>rfl
 | cons a l ih=>
   have h1:=h a (List.mem_cons_self)
   have h2:=ih fun b hb=>h b (List.mem_cons_of_mem _ hb)
   simp[cS,h1,h2]
end L2.P
namespace L2.P
open PySem PySem.Spec PyProof.Rows L2 L2.E
mutual
noncomputable def Rep(K:PySem.W.Frag)(S:Hp):PV->V->Prop
 |.non,v=>v=.non
 |.bl b,v=>v=.bl b
 |.int i,v=>v=.int i
 |.str s,v=>v=.str s
 |.lst xs,v=>∃ p vs,v=.ref p /\ SqL K S p vs /\ bL K S xs vs
 |.tup xs,v=>∃ p vs,v=.ref p /\ SqT K S p vs /\ bL K S xs vs
noncomputable def bL(K:PySem.W.Frag)(S:Hp):List PV->List V->Prop
 |[],vs=>vs=[]
 |x ::xs,vs=>∃ v r,vs=v ::r /\ Rep K S x v /\ bL K S xs r
end
theorem _root_.L2.aD.tup{K:PySem.W.Frag}(e:aD H H')(h:SqT K H a xs):SqT K H' a xs:=by
 rcases h with(h|⟨o,h⟩)|h
 . exact .inl (.inl (e _ _ h))
 . exact .inl (.inr ⟨o,e _ _ h⟩)
 . exact .inr h
section
variable{K:PySem.W.Frag}{S S':Hp}
mutual
theorem Rep.mono(s:aD S S'):∀{x:PV} {v:V},Rep K S x v->Rep K S' x v
 |.non,_,h=>by unfold Rep at h ⊢;exact h
 |.bl _,_,h=>by unfold Rep at h ⊢;exact h
 |.int _,_,h=>by unfold Rep at h ⊢;exact h
 |.str _,_,h=>by unfold Rep at h ⊢;exact h
 | .lst _,_,h=>by
   unfold Rep at h ⊢
   obtain⟨p,vs,e,q,r⟩:=h
   exact⟨p,vs,e,aD.seq s q,bL.mono s r⟩
 | .tup _,_,h=>by
   unfold Rep at h ⊢
   obtain⟨p,vs,e,q,r⟩:=h
   exact⟨p,vs,e,aD.tup s q,bL.mono s r⟩
theorem bL.mono(s:aD S S'):∀{xs:List PV} {vs:List V},bL K S xs vs->bL K S' xs vs
 |[],_,h=>by unfold bL at h ⊢;exact h
 | _ ::_,_,h=>by
   unfold bL at h ⊢
   obtain⟨v,r,e,q,t⟩:=h
   exact⟨v,r,e,Rep.mono s q,bL.mono s t⟩
end
theorem bL.nil:bL K S [] []:=by unfold bL;rfl
theorem bL.cons(h:Rep K S x v)(t:bL K S xs vs):bL K S (x ::xs) (v ::vs):=by unfold bL;exact⟨v,vs,rfl,h,t⟩
theorem bL.nil_inv(h:bL K S [] vs):vs=[]:=by unfold bL at h;exact h
theorem bL.cons_inv(h:bL K S (x ::xs) vs):∃ v r,vs=v ::r /\ Rep K S x v /\ bL K S xs r:=by unfold bL at h;exact h
theorem bL.append(h:bL K S xs vs)(t:bL K S ys us):bL K S (xs++ys) (vs++us):=by
 induction xs generalizing vs with
 |nil=>rw[h.nil_inv];exact t
 | cons x xs ih=>
   obtain⟨v,r,rfl,q,h'⟩:=h.cons_inv;exact .cons q (ih h')
theorem bL.length{xs:List PV}{vs:List V}(h:bL K S xs vs):vs.length=xs.length:=by
 induction xs generalizing vs with
 |nil=>rw[h.nil_inv];rfl
 | cons x xs ih=>
   obtain⟨v,r,rfl,q,h'⟩:=h.cons_inv;simp[ih h']
theorem bL.get(h:bL K S xs vs):∀{i:Nat} {x:PV},xs[i]?=some x->∃ v,vs[i]?=some v /\ Rep K S x v:=by
 induction xs generalizing vs with
 |nil=>intro i x e;simp at e
 | cons y xs ih=>
   obtain⟨v,r,rfl,q,h'⟩:=h.cons_inv;intro i x e
   cases i with
   |zero=>simp at e;subst e;exact⟨v,rfl,q⟩
   |succ i=>simp at e;obtain⟨u,e1,e2⟩:=ih h' e;exact⟨u,by simpa using e1,e2⟩
theorem bL.La{xs:List PV}{vs:List V}(h:bL K S xs vs){i:Nat}{v:V}(e:vs[i]?=some v):∃ x,xs[i]?=some x /\ Rep K S x v:=by
 have hi:i<xs.length:=by rw[<- h.length];exact(List.getElem?_eq_some_iff.mp e).1
 obtain⟨u,e1,e2⟩:=h.get (i:=i) (x:=xs[i]) (by simp[hi]);rw[e]at e1;cases e1
 exact⟨_,by simp[hi],e2⟩
theorem bL.take{xs:List PV}{vs:List V}(h:bL K S xs vs):∀ n,bL K S (xs.take n) (vs.take n):=by
 induction xs generalizing vs with
 |nil=>intro n;rw[h.nil_inv];simpa using bL.nil
 | cons y xs ih=>
   obtain⟨v,r,rfl,q,h'⟩:=h.cons_inv;intro n
   cases n with
   |zero=>exact .nil
   |succ n=>exact .cons q (ih h' n)
theorem bL.drop{xs:List PV}{vs:List V}(h:bL K S xs vs):∀ n,bL K S (xs.drop n) (vs.drop n):=by
 induction xs generalizing vs with
 |nil=>intro n;rw[h.nil_inv];simpa using bL.nil
 | cons y xs ih=>
   obtain⟨v,r,rfl,q,h'⟩:=h.cons_inv;intro n
   cases n with
   |zero=>exact .cons q h'
   |succ n=>exact ih h' n
theorem bL.ints{ns:List Int}:bL K S (ns.map .int) (ns.map V.int):=by
 induction ns with
 |nil=>exact .nil
 |cons n ns ih=>exact .cons (by unfold Rep;rfl) ih
end
noncomputable def mP(K:PySem.W.Frag)(cls:String->Option Addr)(S H:Hp)(c:String)(fs:XF)(a C:Addr):Prop:=
 cls c=some C /\ ∃ dx,H a=some (qO a C dx) /\ (fs=[] \/ ∃ d us,dx=some d /\ H d=some (.xd us) /\ fs.map (·.1)=us.map (·.1) /\ bL K S (fs.map (·.2)) (us.map (·.2)))
noncomputable def isX:HO->Bool
 |.ext _=>true
 |.xd _=>true
 |_=>false
noncomputable def qG(K:PySem.W.Frag)(S:Hp)(kvs:List (Int×PV))(us:List (Key×V)):Prop:=Paired (fun (p:Int×PV) (q:Key×V)=>q.1=Sum.inl p.1 /\ Rep K S p.2 q.2) kvs us
noncomputable def xY(K:PySem.W.Frag)(S:Hp)(kvs:List (List Int×PV))(us:List (List Key×Addr×V)):Prop:=Paired (fun (p:List Int×PV) (q:List Key×Addr×V)=>q.1=p.1.map Sum.inl /\ Rep K S (.tup (p.1.map .int)) (.ref q.2.1) /\ Rep K S p.2 q.2.2) kvs us
theorem qG.mono{K:PySem.W.Frag}(s:aD S S'):∀{kvs:List (Int×PV)} {us:List (Key×V)},qG K S kvs us->qG K S' kvs us
 |_,_,.nil=>.nil
 |_,_,.cons h t=>.cons ⟨h.1,Rep.mono s h.2⟩ (qG.mono s t)
theorem xY.mono{K:PySem.W.Frag}(s:aD S S'):∀{kvs:List (List Int×PV)} {us:List (List Key×Addr×V)},xY K S kvs us->xY K S' kvs us
 |_,_,.nil=>.nil
 |_,_,.cons h t=>.cons ⟨h.1,Rep.mono s h.2.1,Rep.mono s h.2.2⟩ (xY.mono s t)
mutual
noncomputable def bB(K:PySem.W.Frag)(cls:String->Option Addr)(S H:Hp):OV->V->List Addr->Prop
 |.sh x,v,fp=>fp=[] /\ Rep K S x v
 |.ol ts,v,fp=>∃ p vs f,v=.ref p /\ H p=some (.lst vs) /\ fp=p ::f /\ bt K cls S H ts vs f
 |.ob c ks ts,v,fp=>∃ p C dx us f,v=.ref p /\ cls c=some C /\ H p=some (.ins C dx us) /\ H dx=some (.own p) /\ us.map (·.1)=ks /\ fp=p ::dx ::f /\ bt K cls S H ts (us.map (·.2)) f
 |.di kvs,v,fp=>∃ p us,v=.ref p /\ H p=some (.dK us) /\ fp=[p] /\ qG K S kvs us
 |.dt kvs,v,fp=>∃ p us,v=.ref p /\ H p=some (.dT us) /\ fp=[p] /\ xY K S kvs us
noncomputable def bt(K:PySem.W.Frag)(cls:String->Option Addr)(S H:Hp):List OV->List V->List Addr->Prop
 |[],vs,fp=>vs=[] /\ fp=[]
 |t ::ts,vs,fp=>∃ v r f1 f2,vs=v ::r /\ fp=f1++f2 /\ bB K cls S H t v f1 /\ bt K cls S H ts r f2
end
noncomputable def rF(K:PySem.W.Frag)(cls:String->Option Addr)(Av G S H:Hp)(i:Nat):Sl->V->List Addr->Prop
 |.sh x,v,fp=>fp=[] /\ Rep K S x v
 |.ow xs,v,fp=>∃ p vs,v=.ref p /\ fp=[p] /\ G p=none /\ S p=none /\ H p=some (.lst vs) /\ bL K S xs vs
 |.ex c fs,v,fp=>fp=[] /\ ∃ a C,v=.ref a /\ mP K cls S H c fs a C
 |.tr io t,v,fp=>bB K cls S H t v fp /\ fp.Nodup /\ (∀ a∈fp,G a=none /\ S a=none) /\ (io=true->Av i=some (.lst [v]))
 |.bo t,v,fp=>fp=[] /\ ∃ f,bB K cls S G t v f
noncomputable def Fy(K:PySem.W.Frag)(cls:String->Option Addr)(G S H:Hp):Sl->V->Prop
 |.sh x,v=>Rep K S x v
 |.ow xs,v=>∃ p vs,v=.ref p /\ G p=none /\ S p=none /\ H p=some (.lst vs) /\ bL K S xs vs
 |.ex c fs,v=>∃ a C,v=.ref a /\ mP K cls S H c fs a C
 |_,_=>True
noncomputable def kP(K:PySem.W.Frag)(B S H:Hp):RV->V->Prop
 |.sh x,v=>Rep K S x v
 |.fr xs,v=>∃ p vs,v=.ref p /\ B p=none /\ S p=none /\ H p=some (.lst vs) /\ bL K S xs vs
 |.al xs,v=>∃ p vs,v=.ref p /\ SqL K H p vs /\ bL K S xs vs
noncomputable def RdV(K:PySem.W.Frag)(S H:Hp):PV->V->Prop
 |.lst xs,v=>∃ p vs,v=.ref p /\ SqL K H p vs /\ bL K S xs vs
 |x,v=>Rep K S x v
structure SRF(K:PySem.W.Frag)(cls:String->Option Addr)(Av G S₀:Hp)(ρ:ah)(σ:St)(S H:Hp)(F:Nat->List Addr):Prop where
 gh:aD G H
 s0:aD S₀ S
 sh:aD S H
 new:∀ b,S b≠none->S₀ b≠none \/ G b=none
 own:∀(i:Nat) (s:Sl),ρ[i]?=some (some s)->∃ v,σ[i]?=some (some v) /\ rF K cls Av G S H i s v (F i)
 apart:∀ i j a,a∈F i->a∈F j->i=j
 live:∀ i a,a∈F i->(∃ o,H a=some o /\ isX o=false) /\ G a=none /\ S a=none
 len:ρ.length=σ.length
noncomputable def SR(K:PySem.W.Frag)(cls:String->Option Addr)(Av G S₀:Hp)(ρ:ah)(σ:St)(S H:Hp):Prop:=∃ F,SRF K cls Av G S₀ ρ σ S H F
section
variable{K:PySem.W.Frag}{cls:String->Option Addr}{Av G S₀ S S' H H' B:Hp}{ρ:ah}{σ:St}{F:Nat->List Addr}
theorem SR.gh(I:SR K cls Av G S₀ ρ σ S H):aD G H:=let ⟨_,J⟩:=I;J.gh
theorem SR.s0(I:SR K cls Av G S₀ ρ σ S H):aD S₀ S:=let ⟨_,J⟩:=I;J.s0
theorem SR.sh(I:SR K cls Av G S₀ ρ σ S H):aD S H:=let ⟨_,J⟩:=I;J.sh
theorem SR.new(I:SR K cls Av G S₀ ρ σ S H):∀ b,S b≠none->S₀ b≠none \/ G b=none:=let ⟨_,J⟩:=I;J.new
theorem SR.len(I:SR K cls Av G S₀ ρ σ S H):ρ.length=σ.length:=let ⟨_,J⟩:=I;J.len
theorem rF.one(h:rF K cls Av G S H i s v fp):Fy K cls G S H s v:=by
 cases s with
 |sh x=>exact h.2
 |ow xs=>obtain⟨p,vs,e,_,r⟩:=h;exact⟨p,vs,e,r⟩
 |ex c fs=>exact h.2
 |tr io t=>trivial
 |bo t=>trivial
theorem SR.good(I:SR K cls Av G S₀ ρ σ S H)(i:Nat)(s:Sl)(e:ρ[i]?=some (some s)):∃ v,σ[i]?=some (some v) /\ Fy K cls G S H s v:=by
 obtain⟨F,J⟩:=I;obtain⟨v,e1,r⟩:=J.own i s e
 exact⟨v,e1,r.one⟩
theorem mP.mono(h:mP K cls S H c fs a C)(s:aD S S')(g:aD H H'):mP K cls S' H' c fs a C:=by
 obtain⟨h1,dx,h2,h3⟩:=h
 refine⟨h1,dx,g _ _ h2,?_⟩
 rcases h3 with h3|⟨d,us,e1,e2,e3,e4⟩
 . exact .inl h3
 . exact .inr ⟨d,us,e1,g _ _ e2,e3,e4.mono s⟩
theorem mP.Ja(h:mP K cls S H c fs a C)(s:aD S S')(g:∀ b o,isX o=true->H b=some o->H' b=some o):mP K cls S' H' c fs a C:=by
 obtain⟨h1,dx,h2,h3⟩:=h
 refine⟨h1,dx,g _ _ rfl h2,?_⟩
 rcases h3 with h3|⟨d,us,e1,e2,e3,e4⟩
 . exact .inl h3
 . exact .inr ⟨d,us,e1,g _ _ rfl e2,e3,e4.mono s⟩
mutual
theorem bB.mono(s:aD S S'):∀{t:OV} {v:V} {fp:List Addr},bB K cls S H t v fp->(∀ a∈fp,∀ o,H a=some o->H' a=some o)->bB K cls S' H' t v fp
 |.sh _,_,_,h,_=>by unfold bB at h ⊢;exact⟨h.1,Rep.mono s h.2⟩
 | .ol _,_,_,h,g=>by
   unfold bB at h ⊢
   obtain⟨p,vs,f,e,q,e2,r⟩:=h;subst e2
   exact⟨p,vs,f,e,g p (by simp) _ q,rfl,bt.mono s r fun a ha=>g a (by simp[ha])⟩
 | .ob _ _ _,_,_,h,g=>by
   unfold bB at h ⊢
   obtain⟨p,C,dx,us,f,e,c,q,q2,k,e2,r⟩:=h;subst e2
   exact⟨p,C,dx,us,f,e,c,g p (by simp) _ q,g dx (by simp) _ q2,k,rfl,bt.mono s r fun a ha=>g a (by simp[ha])⟩
 | .di _,_,_,h,g=>by
   unfold bB at h ⊢
   obtain⟨p,us,e,q,e2,r⟩:=h;subst e2
   exact⟨p,us,e,g p (by simp) _ q,rfl,r.mono s⟩
 | .dt _,_,_,h,g=>by
   unfold bB at h ⊢
   obtain⟨p,us,e,q,e2,r⟩:=h;subst e2
   exact⟨p,us,e,g p (by simp) _ q,rfl,r.mono s⟩
theorem bt.mono(s:aD S S'):∀{ts:List OV} {vs:List V} {fp:List Addr},bt K cls S H ts vs fp->(∀ a∈fp,∀ o,H a=some o->H' a=some o)->bt K cls S' H' ts vs fp
 |[],_,_,h,_=>by unfold bt at h ⊢;exact h
 | _ ::_,_,_,h,g=>by
   unfold bt at h ⊢
   obtain⟨v,r,f1,f2,e,e2,q,t⟩:=h;subst e2
   exact⟨v,r,f1,f2,e,rfl,bB.mono s q fun a ha=>g a (List.mem_append_left _ ha),bt.mono s t fun a ha=>g a (List.mem_append_right _ ha)⟩
end
mutual
theorem bB.live:∀{t:OV} {v:V} {fp:List Addr},bB K cls S H t v fp->∀ a∈fp,∃ o,H a=some o /\ isX o=false
 |.sh _,_,_,h,a,ha=>by unfold bB at h;rw[h.1]at ha;cases ha
 | .ol _,_,_,h,a,ha=>by
   unfold bB at h;obtain⟨p,vs,f,e,q,e2,r⟩:=h;subst e2
   rcases List.mem_cons.mp ha with z|z
   . subst z;exact⟨_,q,rfl⟩
   . exact bt.live r a z
 | .ob _ _ _,_,_,h,a,ha=>by
   unfold bB at h;obtain⟨p,C,dx,us,f,e,c,q,q2,k,e2,r⟩:=h;subst e2
   rcases List.mem_cons.mp ha with z|z
   . subst z;exact⟨_,q,rfl⟩
   . rcases List.mem_cons.mp z with z|z
     . subst z;exact⟨_,q2,rfl⟩
     . exact bt.live r a z
 | .di _,_,_,h,a,ha=>by
   unfold bB at h;obtain⟨p,us,e,q,e2,r⟩:=h;subst e2
   have z:a=p:=by simpa using ha
   subst z
   exact⟨_,q,rfl⟩
 | .dt _,_,_,h,a,ha=>by
   unfold bB at h;obtain⟨p,us,e,q,e2,r⟩:=h;subst e2
   have z:a=p:=by simpa using ha
   subst z
   exact⟨_,q,rfl⟩
theorem bt.live:∀{ts:List OV} {vs:List V} {fp:List Addr},bt K cls S H ts vs fp->∀ a∈fp,∃ o,H a=some o /\ isX o=false
 |[],_,_,h,a,ha=>by unfold bt at h;rw[h.2]at ha;cases ha
 | _ ::_,_,_,h,a,ha=>by
   unfold bt at h;obtain⟨v,r,f1,f2,e,e2,q,t⟩:=h;subst e2
   rcases List.mem_append.mp ha with z|z
   . exact bB.live q a z
   . exact bt.live t a z
end
theorem rF.mono(h:rF K cls Av G S H i sl v fp)(s:aD S S')(g:∀ a∈fp,∀ o,H a=some o->H' a=some o)(x:∀ b o,isX o=true->H b=some o->H' b=some o)(n:∀ a∈fp,S' a=none):rF K cls Av G S' H' i sl v fp:=by
 cases sl with
 |sh y=>exact⟨h.1,Rep.mono s h.2⟩
 | ow xs=>
   obtain⟨p,vs,e,e2,h1,h2,h3,h4⟩:=h;subst e2
   exact⟨p,vs,e,rfl,h1,n p (by simp),g p (by simp) _ h3,h4.mono s⟩
 |ex c fs=>obtain⟨e,a,C,e2,q⟩:=h;exact⟨e,a,C,e2,q.Ja s x⟩
 |tr io t=>exact⟨h.1.mono s g,h.2.1,fun a ha=>⟨(h.2.2.1 a ha).1,n a ha⟩,h.2.2.2⟩
 |bo t=>obtain⟨e,f,r⟩:=h;exact⟨e,f,r.mono s fun _ _ _ z=>z⟩
theorem RdV.mono(h:RdV K S H x v)(s:aD S S')(g:aD H H'):RdV K S' H' x v:=by
 cases x with
 |lst xs=>obtain⟨p,vs,e,q,r⟩:=h;exact⟨p,vs,e,aD.seq g q,r.mono s⟩
 |non=>exact Rep.mono s h
 |bl b=>exact Rep.mono s h
 |int i=>exact Rep.mono s h
 |str x=>exact Rep.mono s h
 |tup xs=>exact Rep.mono s h
theorem Rep.rd(h:Rep K S x v)(g:aD S H):RdV K S H x v:=by
 cases x with
 |lst xs=>unfold Rep at h;obtain⟨p,vs,e,q,r⟩:=h;exact⟨p,vs,e,aD.seq g q,r⟩
 |non=>exact h
 |bl b=>exact h
 |int i=>exact h
 |str x=>exact h
 |tup xs=>exact h
theorem kP.rd{r:RV}(h:kP K B S H r v)(g:aD S H):RdV K S H r.pv v:=by
 cases r with
 |sh x=>exact Rep.rd h g
 |fr xs=>obtain⟨p,vs,e,_,_,q,r⟩:=h;exact⟨p,vs,e,SqL.new q,r⟩
 |al xs=>exact h
theorem SRF.change(I:SRF K cls Av G S₀ ρ σ S H F)(gh:aD G H')(s:aD S S')(sh:aD S' H')(new:∀ b,S' b≠none->S₀ b≠none \/ G b=none)
  (g:∀ i a,a∈F i->∀ o,H a=some o->H' a=some o) (x:∀ b o,isX o=true->H b=some o->H' b=some o) (n:∀ i a,a∈F i->S' a=none):SRF K cls Av G S₀ ρ σ S' H' F where
 gh:=gh
 s0:=I.s0.trans s
 sh:=sh
 new:=new
 own:=fun i t e=>by
  obtain⟨v,e1,r⟩:=I.own i t e
  exact⟨v,e1,r.mono s (fun a ha=>g i a ha) x fun a ha=>n i a ha⟩
 apart:=I.apart
 live:=fun i a ha=>by
  obtain⟨⟨o,h1,h2⟩,h3,_⟩:=I.live i a ha
  exact⟨⟨o,g i a ha o h1,h2⟩,h3,n i a ha⟩
 len:=I.len
theorem SRF.same(I:SRF K cls Av G S₀ ρ σ S H F)(g:aD H H'):SRF K cls Av G S₀ ρ σ S H' F:=
 I.change (I.gh.trans g) (aD.refl _) (I.sh.trans g) I.new (fun _ _ _ o e=>g _ _ e) (fun _ _ _ e=>g _ _ e) fun i a ha=>(I.live i a ha).2.2
theorem SR.same(I:SR K cls Av G S₀ ρ σ S H)(g:aD H H'):SR K cls Av G S₀ ρ σ S H':=let ⟨F,J⟩:=I;⟨F,J.same g⟩
theorem set_inv{α:Type}{l:List (Option α)}{x:Option α}{s:α}(h:(l.set i x)[j]?=some (some s)):(j=i /\ x=some s /\ i<l.length) \/ (j≠i /\ l[j]?=some (some s)):=by
 by_cases e:j=i
 . subst e;rw[List.getElem?_set]at h;simp only[if_true]at h;split at h
   . rename_i hl;exact .inl ⟨rfl,Option.some.inj h,hl⟩
   . cases h
 . rw[List.getElem?_set_ne (Ne.symm e)]at h;exact .inr ⟨e,h⟩
theorem Hr{α:Type}{l:List (Option α)}{x:Option α}(h:i<l.length):(l.set i x)[i]?=some x:=by
 rw[List.getElem?_set];simp[h]
noncomputable def mQ(F:Nat->List Addr)(i:Nat)(fp:List Addr):Nat->List Addr:=fun j=>if j=i then fp else F j
theorem gZ:mQ F i fp i=fp:=by unfold mQ;rw[if_pos rfl]
theorem ee(h:j≠i):mQ F i fp j=F j:=by unfold mQ;rw[if_neg h]
theorem SRF.put(I:SRF K cls Av G S₀ ρ σ S H F)(h:∀ t,s=some t->∃ v,u=some v /\ rF K cls Av G S H i t v fp)
  (hl:∀ a∈fp,(∃ o,H a=some o /\ isX o=false) /\ G a=none /\ S a=none) (ap:∀ j a,j≠i->a∈fp->a∉F j):SRF K cls Av G S₀ (ρ.set i s) (σ.set i u) S H (mQ F i fp) where
 gh:=I.gh
 s0:=I.s0
 sh:=I.sh
 new:=I.new
 own:=fun j t e=>by
  rcases set_inv e with⟨rfl,e1,hl⟩|⟨ne,e1⟩
  . obtain⟨v,e2,r⟩:=h t e1
    exact⟨v,by rw[Hr (by rw[<- I.len];exact hl),e2],by rw[gZ];exact r⟩
  . rw[List.getElem?_set_ne (Ne.symm ne),ee ne];exact I.own j t e1
 apart:=fun j k a h1 h2=>by
  by_cases ej:j=i
  . by_cases ek:k=i
    . rw[ej,ek]
    . subst ej;rw[gZ]at h1;rw[ee ek]at h2;exact absurd h2 (ap k a ek h1)
  . by_cases ek:k=i
    . subst ek;rw[gZ]at h2;rw[ee ej]at h1;exact absurd h1 (ap j a ej h2)
    . rw[ee ej]at h1;rw[ee ek]at h2;exact I.apart j k a h1 h2
 live:=fun j a ha=>by
  by_cases ej:j=i
  . subst ej;rw[gZ]at ha;exact hl a ha
  . rw[ee ej]at ha;exact I.live j a ha
 len:=by simp[I.len]
theorem SR.BU(I:SR K cls Av G S₀ ρ σ S H)(h:Rep K S x v):SR K cls Av G S₀ (ρ.set i (some (.sh x))) (σ.set i (some v)) S H:=by
 obtain⟨F,J⟩:=I
 exact⟨_,J.put (fp:=[]) (fun t e=>by cases e;exact⟨v,rfl,rfl,h⟩) (fun a ha=>nomatch ha) fun j a _ ha=>nomatch ha⟩
theorem SR.Ai(I:SR K cls Av G S₀ ρ σ S H):SR K cls Av G S₀ (ρ.set i none) (σ.set i v) S H:=by
 obtain⟨F,J⟩:=I
 exact⟨_,J.put (fp:=[]) (fun t e=>nomatch e) (fun a ha=>nomatch ha) fun j a _ ha=>nomatch ha⟩
theorem jH{α:Type}{l:List α}{x:α}(h:l[i]?=some x):l.set i x=l:=by
 apply List.ext_getElem?;intro j
 by_cases e:i=j
 . subst e;rw[List.getElem?_set,if_pos rfl,if_pos (List.getElem?_eq_some_iff.mp h).1,h]
 . rw[List.getElem?_set_ne e]
theorem SR.drop(I:SR K cls Av G S₀ ρ σ S H):SR K cls Av G S₀ (ρ.set i none) σ S H:=by
 cases e:σ[i]? with
 |some v=>have:=I.Ai (i:=i) (v:=v);rwa [jH e]at this
 | none=>
   have h1:σ.length<=i:=List.getElem?_eq_none_iff.mp e
   rw[List.set_eq_of_length_le (by rw[I.len];exact h1)];exact I
theorem SR.Jk(I:SR K cls Av G S₀ ρ σ S H)(h:mP K cls S H c fs a C):SR K cls Av G S₀ (ρ.set i (some (.ex c fs))) (σ.set i (some (.ref a))) S H:=by
 obtain⟨F,J⟩:=I
 exact⟨_,J.put (fp:=[]) (fun t e=>by cases e;exact⟨.ref a,rfl,rfl,a,C,rfl,h⟩) (fun a ha=>nomatch ha) fun j a _ ha=>nomatch ha⟩
theorem SR.mut(I:SR K cls Av G S₀ ρ σ S H)(hi:ρ[i]?=some (some (.ow xs)))(hv:σ[i]?=some (some (.ref p)))(hr:bL K S ys us):SR K cls Av G S₀ (ρ.set i (some (.ow ys))) σ S (upd H p (.lst us)):=by
 obtain⟨F,J⟩:=I;obtain⟨v,e1,q,vs,e2,e3,hG,hS,hH,_⟩:=J.own i _ hi;rw[hv]at e1;cases e1;cases e2
 have J1:SRF K cls Av G S₀ (ρ.set i none) (σ.set i none) S H (mQ F i []):=J.put (fun t e=>nomatch e) (fun a ha=>nomatch ha) fun j a _ ha=>nomatch ha
 have off:∀ j a,a∈mQ F i [] j->a≠p:=fun j a ha z=>by
  by_cases ej:j=i
  . subst ej;rw[gZ]at ha;cases ha
  . rw[ee ej]at ha;exact ej (J.apart j i a ha (by rw[e3,z];simp))
 have J2:=J1.change (H':=upd H p (.lst us)) (J.gh.upd hG) (aD.refl _) (J.sh.upd hS) J.new (fun j a ha o h=>by rw[bQ (off j a ha)];exact h)
  (fun b o hx h=>by
    rw[bQ]
    . exact h
    . intro z;rw[z,hH]at h;cases h;cases hx)
  fun j a ha=>(J1.live j a ha).2.2
 have J3:=J2.put (i:=i) (s:=some (.ow ys)) (u:=some (.ref p)) (fp:=[p]) (fun t e=>by cases e;exact⟨_,rfl,p,us,rfl,rfl,hG,hS,bH,hr⟩) (fun a ha=>by
  have z:a=p:=by simpa using ha
  subst z
  exact⟨⟨_,bH,rfl⟩,hG,hS⟩) fun j a hj ha hz=>by
   have z:a=p:=by simpa using ha
   exact off j a hz z
 rw[List.set_set,List.set_set,jH hv]at J3
 exact⟨_,J3⟩
theorem SR.IL(I:SR K cls Av G S₀ ρ σ S H)(hi:ρ[i]?=some (some (.ow xs))):∃ S',aD S S' /\ SR K cls Av G S₀ (ρ.set i (some (.sh (.lst xs)))) σ S' H:=by
 obtain⟨F,J⟩:=I;obtain⟨v,hv,p,vs,e2,e3,hG,hS,hH,hr⟩:=J.own i _ hi;subst e2
 have J1:SRF K cls Av G S₀ (ρ.set i none) (σ.set i none) S H (mQ F i []):=J.put (fun t e=>nomatch e) (fun a ha=>nomatch ha) fun j a _ ha=>nomatch ha
 have off:∀ j a,a∈mQ F i [] j->a≠p:=fun j a ha z=>by
  by_cases ej:j=i
  . subst ej;rw[gZ]at ha;cases ha
  . rw[ee ej]at ha;exact ej (J.apart j i a ha (by rw[e3,z];simp))
 have J2:=J1.change (S':=upd S p (.lst vs)) (H':=H) J.gh (aD.new hS) (fun b u h=>by
   by_cases e:b=p
   . subst e;rw[bH]at h;cases h;exact hH
   . rw[bQ e]at h;exact J.sh b u h) (fun b h=>by
   by_cases e:b=p
   . subst e;exact .inr hG
   . rw[bQ e]at h;exact J.new b h) (fun _ _ _ _ h=>h) (fun _ _ _ h=>h) fun j a ha=>by
     rw[bQ (off j a ha)];exact(J1.live j a ha).2.2
 have J3:=J2.put (i:=i) (s:=some (.sh (.lst xs))) (u:=some (.ref p)) (fp:=[]) (fun t e=>by
  cases e
  refine⟨_,rfl,rfl,?_⟩
  unfold Rep
  exact⟨p,vs,rfl,SqL.new bH,hr.mono (aD.new hS)⟩) (fun a ha=>nomatch ha) fun j a _ ha=>nomatch ha
 rw[List.set_set,List.set_set,jH hv]at J3
 exact⟨_,aD.new hS,_,J3⟩
end
structure aY(S H S' H':Hp):Prop where
 s:aD S S'
 g:aD H H'
 sh:aD S' H'
 new:∀ b,S' b≠none->S b≠none \/ H b=none
theorem aY.refl(h:aD S H):aY S H S H:=⟨aD.refl _,aD.refl _,h,fun _ z=>.inl z⟩
theorem aY.trans(a:aY S H S1 H1)(b:aY S1 H1 S2 H2):aY S H S2 H2:=
 ⟨a.s.trans b.s,a.g.trans b.g,b.sh,fun x h=>by
   rcases b.new x h with z|z
   . exact a.new x z
   . exact .inr (a.g.free z)⟩
theorem SRF.grow{K:PySem.W.Frag}{cls:String->Option Addr}{F:Nat->List Addr}(I:SRF K cls Av G S₀ ρ σ S H F)(w:aY S H S' H'):SRF K cls Av G S₀ ρ σ S' H' F:=
 I.change (I.gh.trans w.g) w.s w.sh (fun b h=>by
  rcases w.new b h with z|z
  . exact I.new b z
  . exact .inr (I.gh.free z)) (fun i a _ o h=>w.g _ _ h) (fun b o _ h=>w.g _ _ h) fun i a ha=>by
    obtain⟨⟨o,h1,_⟩,_,h3⟩:=I.live i a ha
    cases q:S' a with
    |none=>rfl
    | some o=>
      rcases w.new a (by rw[q];simp)with z|z
      . exact absurd h3 z
      . rw[h1]at z;cases z
theorem SR.grow{K:PySem.W.Frag}{cls:String->Option Addr}(I:SR K cls Av G S₀ ρ σ S H)(w:aY S H S' H'):SR K cls Av G S₀ ρ σ S' H':=let ⟨F,J⟩:=I;⟨F,J.grow w⟩
theorem SR.Jm{K:PySem.W.Frag}{cls:String->Option Addr}{ρ:ah}{σ:St}(I:SR K cls Av G S₀ ρ σ S H)(w:aY S H S' H')(h:kP K H S' H' (.fr xs) v):SR K cls Av G S₀ (ρ.set i (some (.ow xs))) (σ.set i (some v)) S' H':=by
 obtain⟨F,J⟩:=I;obtain⟨p,vs,rfl,hB,hS,hH,hr⟩:=h;have hG:=J.gh.free hB
 refine⟨_,(J.grow w).put (fp:=[p]) (fun t e=>by cases e;exact⟨_,rfl,p,vs,rfl,rfl,hG,hS,hH,hr⟩) (fun a ha=>?_) fun j a _ ha hz=>?_⟩
 . have z:a=p:=by simpa using ha
   subst z
   exact⟨⟨_,hH,rfl⟩,hG,hS⟩
 . have z:a=p:=by simpa using ha
   subst z;obtain⟨⟨o,h1,_⟩,_⟩:=J.live j a hz;rw[hB]at h1;cases h1
theorem aY.heap(h:aD S H)(hp:H p=none):aY S H S (upd H p o):=⟨aD.refl _,aD.new hp,h.trans (aD.new hp),fun _ z=>.inl z⟩
theorem aY.both(h:aD S H)(hp:H p=none):aY S H (upd S p o) (upd H p o):=by
 have hS:=h.free hp
 refine⟨aD.new hS,aD.new hp,fun b u z=>?_,fun b z=>?_⟩
 . by_cases e:b=p
   . subst e;rw[bH]at z ⊢;exact z
   . rw[bQ e]at z ⊢;exact h b u z
 . by_cases e:b=p
   . subst e;exact .inr hp
   . rw[bQ e]at z;exact .inl z
section
variable(K:PySem.W.Frag)(cls:String->Option Addr)(W:XW)
noncomputable def kZ(σ:St)(S H:Hp)(Q:VK):OE->Prop
 |.ok r=>∀ v S' H',aY S H S' H'->kP K H S' H' r v->Q v H'
 |.exc c fs=>∀ a C S' H',aY S H S' H'->mP K cls S' H' c fs a C->W (.ref C) (some a) σ H'
 |.bad=>False
noncomputable def rl(σ:St)(S H:Hp)(Q:Bool->Hp->Prop):OT->Prop
 |.ok b=>∀ S' H',aY S H S' H'->Q b H'
 |.exc c fs=>∀ a C S' H',aY S H S' H'->mP K cls S' H' c fs a C->W (.ref C) (some a) σ H'
 |.bad=>False
noncomputable def uz(σ:St)(S H:Hp)(Q:List V->Hp->Prop):OA->Prop
 |.ok xs=>∀ vs S' H',aY S H S' H'->bL K S' xs vs->Q vs H'
 |.exc c fs=>∀ a C S' H',aY S H S' H'->mP K cls S' H' c fs a C->W (.ref C) (some a) σ H'
 |.bad=>False
noncomputable def fW(Av G S₀:Hp)(S:Hp)(D:Ends):OS->Prop
 |.nx ρ=>∀ σ' S' H',SR K cls Av G S₀ ρ σ' S' H'->aD S S'->D.nx σ' H'
 |.bk ρ=>∀ σ' S' H',SR K cls Av G S₀ ρ σ' S' H'->aD S S'->D.bk σ' H'
 |.ct ρ=>∀ σ' S' H',SR K cls Av G S₀ ρ σ' S' H'->aD S S'->D.ct σ' H'
 |.rt ρ r=>∀ v σ' S' H',SR K cls Av G S₀ ρ σ' S' H'->aD S S'->kP K G S' H' r v->D.rt v H'
 |.exc ρ c fs=>∀ a C σ' S' H',SR K cls Av G S₀ ρ σ' S' H'->aD S S'->mP K cls S' H' c fs a C->W (.ref C) (some a) σ' H'
 |.bad=>False
noncomputable def JE(te:TE)(m:ah->OE):Prop:=∀ Av G S₀ ρ σ S H Q,SR K cls Av G S₀ ρ σ S H->kZ K cls W σ S H Q (m ρ)->te σ H Q
noncomputable def JT(te:TT)(m:ah->OT):Prop:=∀ Av G S₀ ρ σ S H Q,SR K cls Av G S₀ ρ σ S H->rl K cls W σ S H Q (m ρ)->te σ H Q
noncomputable def JA(te:TA)(m:ah->OA):Prop:=∀ Av G S₀ ρ σ S H Q,SR K cls Av G S₀ ρ σ S H->uz K cls W σ S H Q (m ρ)->te σ H Q
noncomputable def JS(ts:TS)(m:ah->OS):Prop:=∀ Av G S₀ ρ σ S H D,SR K cls Av G S₀ ρ σ S H->fW K cls W Av G S₀ S D (m ρ)->ts D σ H
end
section
variable{K:PySem.W.Frag}{cls:String->Option Addr}{W:XW}{Av G S₀ S S' H H' B B':Hp}{ρ:ah}{σ:St}{Q:VK}
theorem kP.back(h:kP K B' S H r v)(g:aD B B'):kP K B S H r v:=by
 cases r with
 |sh x=>exact h
 |fr xs=>obtain⟨p,vs,e,h1,h2⟩:=h;exact⟨p,vs,e,g.free h1,h2⟩
 |al xs=>exact h
theorem kZ.back(w:aY S H S1 H1)(h:kZ K cls W σ S H Q o):kZ K cls W σ S1 H1 Q o:=by
 cases o with
 |ok r=>exact fun v S' H' w' r=>h v S' H' (w.trans w') (r.back w.g)
 |exc c fs=>exact fun a C S' H' w' r=>h a C S' H' (w.trans w') r
 |bad=>exact h
theorem rl.back{Q:Bool->Hp->Prop}(w:aY S H S1 H1)(h:rl K cls W σ S H Q o):rl K cls W σ S1 H1 Q o:=by
 cases o with
 |ok r=>exact fun S' H' w'=>h S' H' (w.trans w')
 |exc c fs=>exact fun a C S' H' w' r=>h a C S' H' (w.trans w') r
 |bad=>exact h
theorem uz.back{Q:List V->Hp->Prop}(w:aY S H S1 H1)(h:uz K cls W σ S H Q o):uz K cls W σ S1 H1 Q o:=by
 cases o with
 |ok r=>exact fun v S' H' w' r=>h v S' H' (w.trans w') r
 |exc c fs=>exact fun a C S' H' w' r=>h a C S' H' (w.trans w') r
 |bad=>exact h
theorem fW.back(s:aD S S1)(h:fW K cls W Av G S₀ S D o):fW K cls W Av G S₀ S1 D o:=by
 cases o with
 |nx ρ=>exact fun σ' S' H' I s'=>h σ' S' H' I (s.trans s')
 |bk ρ=>exact fun σ' S' H' I s'=>h σ' S' H' I (s.trans s')
 |ct ρ=>exact fun σ' S' H' I s'=>h σ' S' H' I (s.trans s')
 |rt ρ r=>exact fun v σ' S' H' I s'=>h v σ' S' H' I (s.trans s')
 |exc ρ c fs=>exact fun a C σ' S' H' I s'=>h a C σ' S' H' I (s.trans s')
 |bad=>exact h
theorem JE.go{m:ah->OE}{f:RV->OE}(h:JE K cls W te m)(I:SR K cls Av G S₀ ρ σ S H)(p:kZ K cls W σ S H Q ((m ρ).bind f))
  (k:∀ r v S1 H1,SR K cls Av G S₀ ρ σ S1 H1->aY S H S1 H1->kP K H S1 H1 r v->kZ K cls W σ S1 H1 Q (f r)->Q' v H1):te σ H Q':=by
 refine h Av G S₀ ρ σ S H Q' I ?_
 cases e:m ρ with
 |ok r=>rw[e]at p;exact fun v S1 H1 w r1=>k r v S1 H1 (I.grow w) w r1 (p.back w)
 |exc c fs=>rw[e]at p;exact p
 |bad=>rw[e]at p;exact p
theorem JE.goT{m:ah->OE}{f:RV->OT}{Q:Bool->Hp->Prop}(h:JE K cls W te m)(I:SR K cls Av G S₀ ρ σ S H)(p:rl K cls W σ S H Q ((m ρ).eV f))
  (k:∀ r v S1 H1,SR K cls Av G S₀ ρ σ S1 H1->aY S H S1 H1->kP K H S1 H1 r v->rl K cls W σ S1 H1 Q (f r)->Q' v H1):te σ H Q':=by
 refine h Av G S₀ ρ σ S H Q' I ?_
 cases e:m ρ with
 |ok r=>rw[e]at p;exact fun v S1 H1 w r1=>k r v S1 H1 (I.grow w) w r1 (p.back w)
 |exc c fs=>rw[e]at p;exact p
 |bad=>rw[e]at p;exact p
theorem JE.goS{m:ah->OE}{f:RV->OS}(h:JE K cls W te m)(I:SR K cls Av G S₀ ρ σ S H)(p:fW K cls W Av G S₀ S D ((m ρ).bY ρ f))
  (k:∀ r v S1 H1,SR K cls Av G S₀ ρ σ S1 H1->aY S H S1 H1->kP K H S1 H1 r v->fW K cls W Av G S₀ S1 D (f r)->Q' v H1):te σ H Q':=by
 refine h Av G S₀ ρ σ S H Q' I ?_
 cases e:m ρ with
 |ok r=>rw[e]at p;exact fun v S1 H1 w r1=>k r v S1 H1 (I.grow w) w r1 (p.back w.s)
 |exc c fs=>rw[e]at p;exact fun a C S' H' w x=>p a C σ S' H' (I.grow w) w.s x
 |bad=>rw[e]at p;exact p
theorem JT.go{m:ah->OT}{f:Bool->OE}{Q':Bool->Hp->Prop}(h:JT K cls W te m)(I:SR K cls Av G S₀ ρ σ S H)(p:kZ K cls W σ S H Q ((m ρ).bind f))
  (k:∀ b S1 H1,SR K cls Av G S₀ ρ σ S1 H1->aY S H S1 H1->kZ K cls W σ S1 H1 Q (f b)->Q' b H1):te σ H Q':=by
 refine h Av G S₀ ρ σ S H Q' I ?_
 cases e:m ρ with
 |ok r=>rw[e]at p;exact fun S1 H1 w=>k r S1 H1 (I.grow w) w (p.back w)
 |exc c fs=>rw[e]at p;exact p
 |bad=>rw[e]at p;exact p
theorem JT.goT{m:ah->OT}{f:Bool->OT}{Q Q':Bool->Hp->Prop}(h:JT K cls W te m)(I:SR K cls Av G S₀ ρ σ S H)(p:rl K cls W σ S H Q ((m ρ).eV f))
  (k:∀ b S1 H1,SR K cls Av G S₀ ρ σ S1 H1->aY S H S1 H1->rl K cls W σ S1 H1 Q (f b)->Q' b H1):te σ H Q':=by
 refine h Av G S₀ ρ σ S H Q' I ?_
 cases e:m ρ with
 |ok r=>rw[e]at p;exact fun S1 H1 w=>k r S1 H1 (I.grow w) w (p.back w)
 |exc c fs=>rw[e]at p;exact p
 |bad=>rw[e]at p;exact p
theorem JT.goS{m:ah->OT}{f:Bool->OS}{Q':Bool->Hp->Prop}(h:JT K cls W te m)(I:SR K cls Av G S₀ ρ σ S H)(p:fW K cls W Av G S₀ S D ((m ρ).bY ρ f))
  (k:∀ b S1 H1,SR K cls Av G S₀ ρ σ S1 H1->aY S H S1 H1->fW K cls W Av G S₀ S1 D (f b)->Q' b H1):te σ H Q':=by
 refine h Av G S₀ ρ σ S H Q' I ?_
 cases e:m ρ with
 |ok r=>rw[e]at p;exact fun S1 H1 w=>k r S1 H1 (I.grow w) w (p.back w.s)
 |exc c fs=>rw[e]at p;exact fun a C S' H' w x=>p a C σ S' H' (I.grow w) w.s x
 |bad=>rw[e]at p;exact p
theorem JA.go{m:ah->OA}{f:List PV->OE}{Q':List V->Hp->Prop}(h:JA K cls W te m)(I:SR K cls Av G S₀ ρ σ S H)(p:kZ K cls W σ S H Q ((m ρ).bind f))
  (k:∀ xs vs S1 H1,SR K cls Av G S₀ ρ σ S1 H1->aY S H S1 H1->bL K S1 xs vs->kZ K cls W σ S1 H1 Q (f xs)->Q' vs H1):te σ H Q':=by
 refine h Av G S₀ ρ σ S H Q' I ?_
 cases e:m ρ with
 |ok r=>rw[e]at p;exact fun v S1 H1 w r1=>k r v S1 H1 (I.grow w) w r1 (p.back w)
 |exc c fs=>rw[e]at p;exact p
 |bad=>rw[e]at p;exact p
theorem JA.goA{m:ah->OA}{f:List PV->OA}{Q Q':List V->Hp->Prop}(h:JA K cls W te m)(I:SR K cls Av G S₀ ρ σ S H)(p:uz K cls W σ S H Q ((m ρ).eH f))
  (k:∀ xs vs S1 H1,SR K cls Av G S₀ ρ σ S1 H1->aY S H S1 H1->bL K S1 xs vs->uz K cls W σ S1 H1 Q (f xs)->Q' vs H1):te σ H Q':=by
 refine h Av G S₀ ρ σ S H Q' I ?_
 cases e:m ρ with
 |ok r=>rw[e]at p;exact fun v S1 H1 w r1=>k r v S1 H1 (I.grow w) w r1 (p.back w)
 |exc c fs=>rw[e]at p;exact p
 |bad=>rw[e]at p;exact p
theorem JA.goS{m:ah->OA}{f:List PV->OS}{Q':List V->Hp->Prop}(h:JA K cls W te m)(I:SR K cls Av G S₀ ρ σ S H)(p:fW K cls W Av G S₀ S D ((m ρ).bY ρ f))
  (k:∀ xs vs S1 H1,SR K cls Av G S₀ ρ σ S1 H1->aY S H S1 H1->bL K S1 xs vs->fW K cls W Av G S₀ S1 D (f xs)->Q' vs H1):te σ H Q':=by
 refine h Av G S₀ ρ σ S H Q' I ?_
 cases e:m ρ with
 |ok r=>rw[e]at p;exact fun v S1 H1 w r1=>k r v S1 H1 (I.grow w) w r1 (p.back w.s)
 |exc c fs=>rw[e]at p;exact fun a C S' H' w x=>p a C σ S' H' (I.grow w) w.s x
 |bad=>rw[e]at p;exact p
theorem aa:JE K cls W (yj i) (ak i):=by
 intro Av G S₀ ρ σ S H Q I p;unfold ak at p;split at p
 . rename_i x e;obtain⟨v,e1,r⟩:=I.good i _ e
   exact⟨v,e1,p v S H (aY.refl I.sh) r⟩
 . rename_i xs e;obtain⟨v,e1,a,vs,e2,_,_,h3,h4⟩:=I.good i _ e
   exact⟨v,e1,p v S H (aY.refl I.sh) ⟨a,vs,e2,SqL.new h3,h4⟩⟩
 . exact p.elim
theorem Cv(h:∀ S,Rep K S x v):JE K cls W (tC v) (mC x):=fun Av G S₀ ρ σ S H Q I p=>p v S H (aY.refl I.sh) (h S)
theorem af:JE K cls W (tC (.int n)) (mC (.int n)):=Cv fun _=>by unfold Rep;rfl
theorem zy:JE K cls W (tC (.bl n)) (mC (.bl n)):=Cv fun _=>by unfold Rep;rfl
theorem sX:JE K cls W (tC .non) (mC .non):=Cv fun _=>by unfold Rep;rfl
theorem cn:JE K cls W (tC (.str n)) (mC (.str n)):=Cv fun _=>by unfold Rep;rfl
theorem mi{ns:List Int}(h:∀ S,SqT K S p (ns.map V.int)):JE K cls W (tC (.ref p)) (mC (.tup (ns.map .int))):=Cv fun S=>by unfold Rep;exact⟨p,_,rfl,h S,bL.ints⟩
noncomputable def JR(K:PySem.W.Frag)(r:R2)(g:PV->PV->Option RV):Prop:=∀ S H x y v u rr Q,aD S H->RdV K S H x v->RdV K S H y u->g x y=some rr ->
 (∀ z S' H',aY S H S' H'->kP K H S' H' rr z->Q z H')->r v u H Q
theorem ao{g:PV->PV->Option RV}{ma mb:ah->OE}(hr:JR K r g)(ha:JE K cls W ta ma)(hb:JE K cls W tb mb):JE K cls W (tOp r ta tb) (mOp g ma mb):=by
 intro Av G S₀ ρ σ S H Q I p
 refine ha.go I p fun a v S1 H1 I1 w1 r1 p1=>hb.go I1 p1 fun b u S2 H2 I2 w2 r2 p2=>?_
 cases e:g a.pv b.pv with
 |none=>rw[e]at p2;exact p2.elim
 | some rr=>
   rw[e]at p2;exact hr S2 H2 a.pv b.pv v u rr Q I2.sh ((r1.rd I1.sh).mono w2.s w2.g) (r2.rd I2.sh) e p2
noncomputable def sv:PV->V
 |.non=>.non
 |.bl b=>.bl b
 |.int i=>.int i
 |.str s=>.str s
 |_=>.non
theorem cw(h:RdV K S H (.int i) v):v=.int i:=by unfold RdV Rep at h;exact h
theorem mJ(h:RdV K S H (.bl i) v):v=.bl i:=by unfold RdV Rep at h;exact h
theorem iu(h:RdV K S H (.str i) v):v=.str i:=by unfold RdV Rep at h;exact h
theorem iH(h:RdV K S H .non v):v=.non:=by unfold RdV Rep at h;exact h
theorem ik(h:RdV K S H (.lst xs) v):∃ p vs,v=.ref p /\ SqL K H p vs /\ bL K S xs vs:=h
theorem ly(h:RdV K S H (.tup xs) v):∃ p vs,v=.ref p /\ SqT K S p vs /\ bL K S xs vs:=by unfold RdV Rep at h;exact h
theorem Cn{C:Int->Int->Prop}{c:Int->Int->Bool}{f:Int->Int->PV}{fv:Int->Int->V}(hc:∀ i j,c i j=true->C i j)(hf:∀ S i j,Rep K S (f i j) (fv i j)):JR K (rI C fv) (gI c f):=by
 intro S H x y v u rr Q I hx hy e k;unfold gI at e;split at e
 . rename_i i j;split at e
   . rename_i hcc;cases e
     exact⟨i,j,cw hx,cw hy,hc i j hcc,k _ S H (aY.refl I) (hf S i j)⟩
   . cases e
 . cases e
theorem qA{f:Int->Int->PV}{fv:Int->Int->V}(hf:∀ S i j,Rep K S (f i j) (fv i j)):JR K (rI0 fv) (gI (fun _ _=>true) f):=by
 intro S H x y v u rr Q I hx hy e k;unfold gI at e;split at e
 . rename_i i j;simp only[if_true]at e;cases e
   exact⟨i,j,cw hx,cw hy,k _ S H (aY.refl I) (hf S i j)⟩
 . cases e
theorem aV:JR K (rI0 fun i j=>.int (i+j)) bR:=qA fun _ _ _=>by unfold Rep;rfl
theorem gc:JR K (rI0 fun i j=>.int (i - j)) lZ:=qA fun _ _ _=>by unfold Rep;rfl
theorem kI:JR K (rI Ck fun i j=>.int (i*j)) rO:=Cn (fun i j h=>by simpa [Ck,Bool.or_eq_true,Bool.and_eq_true,decide_eq_true_eq]using h) fun _ _ _=>by unfold Rep;rfl
theorem bw:JR K (rI Hw fun i j=>.int (i/j)) cG:=Cn (fun i j h=>by simpa [Hw,Bool.and_eq_true,decide_eq_true_eq]using h) fun _ _ _=>by unfold Rep;rfl
theorem bb:JR K (rI (fun _ j=>0<j) fun i j=>.int (i%j)) bM:=Cn (fun i j h=>by simpa using h) fun _ _ _=>by unfold Rep;rfl
theorem iX:JR K (rI0 fun i j=>.bl (decide (i<j))) gLt:=qA fun _ _ _=>by unfold Rep;rfl
theorem ji:JR K (rI0 fun i j=>.bl (decide (i<=j))) gLe:=qA fun _ _ _=>by unfold Rep;rfl
theorem uZ:JR K (rI0 fun i j=>.bl (decide (j<i))) gGt:=qA fun _ _ _=>by unfold Rep;rfl
theorem Bq:JR K (rI0 fun i j=>.bl (decide (j<=i))) gGe:=qA fun _ _ _=>by unfold Rep;rfl
theorem CC(hx:RdV K S H x v)(hy:RdV K S H y u)(e:eqS x y=some b):GW v u=true /\ decide (v=u)=b:=by
 unfold eqS at e;split at e
 all_goals first
  |(have h1:=iH hx;subst h1;have h2:=iH hy;subst h2;cases e;exact⟨rfl,by simp⟩)
  |(have h1:=iH hx;subst h1;have h2:=cw hy;subst h2;cases e;exact⟨rfl,by simp⟩)
  |(have h1:=cw hx;subst h1;have h2:=iH hy;subst h2;cases e;exact⟨rfl,by simp⟩)
  |(have h1:=iH hx;subst h1;have h2:=mJ hy;subst h2;cases e;exact⟨rfl,by simp⟩)
  |(have h1:=mJ hx;subst h1;have h2:=iH hy;subst h2;cases e;exact⟨rfl,by simp⟩)
  |(have h1:=iH hx;subst h1;have h2:=iu hy;subst h2;cases e;exact⟨rfl,by simp⟩)
  |(have h1:=iu hx;subst h1;have h2:=iH hy;subst h2;cases e;exact⟨rfl,by simp⟩)
  |(have h1:=cw hx;subst h1;have h2:=cw hy;subst h2;cases e;exact⟨rfl,by simp⟩)
  |(have h1:=mJ hx;subst h1;have h2:=mJ hy;subst h2;cases e;exact⟨rfl,by simp⟩)
  |(have h1:=iu hx;subst h1;have h2:=iu hy;subst h2;cases e;exact⟨rfl,by simp⟩)
  |(have h1:=cw hx;subst h1;have h2:=iu hy;subst h2;cases e;exact⟨rfl,by simp⟩)
  |(have h1:=iu hx;subst h1;have h2:=cw hy;subst h2;cases e;exact⟨rfl,by simp⟩)
  |(have h1:=mJ hx;subst h1;have h2:=iu hy;subst h2;cases e;exact⟨rfl,by simp⟩)
  |(have h1:=iu hx;subst h1;have h2:=mJ hy;subst h2;cases e;exact⟨rfl,by simp⟩)
  |cases e
theorem cb:JR K rEq gEq:=by
 intro S H x y v u rr Q I hx hy e k;obtain⟨b,e1,e2⟩:=Option.map_eq_some_iff.mp e;obtain⟨h1,h2⟩:=CC hx hy e1
 refine⟨h1,k _ S H (aY.refl I) ?_⟩
 subst e2;show Rep K S _ _;unfold Rep;rw[h2]
theorem u5:JR K rNe gNe:=by
 intro S H x y v u rr Q I hx hy e k;obtain⟨b,e1,e2⟩:=Option.map_eq_some_iff.mp e;obtain⟨h1,h2⟩:=CC hx hy e1
 refine⟨h1,k _ S H (aY.refl I) ?_⟩
 subst e2;show Rep K S _ _;unfold Rep;rw[h2]
end
section
variable{K:PySem.W.Frag}{cls:String->Option Addr}{W:XW}{Av G S₀ S S' H H' B B':Hp}{ρ:ah}{σ:St}{Q:VK}
theorem kP.share(h:kP K H S1 H1 r v)(w:aY S H S1 H1)(e:lG r=some x):∃ S2,aY S H S2 H1 /\ aD S1 S2 /\ Rep K S2 x v:=by
 cases r with
 |sh y=>cases e;exact⟨S1,w,aD.refl _,h⟩
 |al xs=>cases e
 | fr xs=>
   cases e;obtain⟨p,vs,rfl,hB,hS,hH,hr⟩:=h
   refine⟨upd S1 p (.lst vs),⟨w.s.trans (aD.new hS),w.g,fun b u z=>?_,fun b z=>?_⟩,aD.new hS,?_⟩
   . by_cases e:b=p
     . subst e;rw[bH]at z;cases z;exact hH
     . rw[bQ e]at z;exact w.sh b u z
   . by_cases e:b=p
     . subst e;exact .inr hB
     . rw[bQ e]at z;exact w.new b z
   . unfold Rep
     exact⟨p,vs,rfl,SqL.new bH,hr.mono (aD.new hS)⟩
theorem ay:JA K cls W lx aL:=fun Av G S₀ ρ σ S H Q I p=>p [] S H (aY.refl I.sh) .nil
theorem ai{me:ah->OE}{mr:ah->OA}(he:JE K cls W te me)(ht:JA K cls W t mr):JA K cls W (eS te t) (aq me mr):=by
 intro Av G S₀ ρ σ S H Q I p;refine he Av G S₀ ρ σ S H _ I ?_;unfold aq at p
 cases e:me ρ with
 |exc c fs=>rw[e]at p;exact p
 |bad=>rw[e]at p;exact p
 | ok r=>
   rw[e]at p;intro v S1 H1 w1 r1;simp only[OE.eH]at p
   cases es:lG r with
   |none=>rw[es]at p;exact p.elim
   | some x=>
     rw[es]at p;obtain⟨S2,w2,s2,rx⟩:=r1.share w1 es
     refine ht.goA (I.grow w2) (p.back w2) fun xs vs S3 H3 I3 w3 r3 p3=>?_
     exact p3 (v ::vs) S3 H3 (aY.refl I3.sh) (.cons (Rep.mono w3.s rx) r3)
theorem By:lim=sizeLine:=by decide
theorem bD{ma:ah->OA}(h:JA K cls W t ma):JE K cls W (DR t) (cN ma):=by
 intro Av G S₀ ρ σ S H Q I p
 refine h.go I p fun xs vs S1 H1 I1 w1 r1 p1=>?_
 split at p1
 . rename_i hl
   refine⟨by rw[r1.length];exact hl,fun q hq=>p1 (.ref q) S1 _ (aY.heap I1.sh hq) ⟨q,vs,rfl,hq,I1.sh.free hq,bH,r1⟩⟩
 . exact p1.elim
theorem dh{ma:ah->OA}(h:JA K cls W t ma):JE K cls W (GX t) (gq ma):=by
 intro Av G S₀ ρ σ S H Q I p
 refine h.go I p fun xs vs S1 H1 I1 w1 r1 p1=>?_
 split at p1
 . rename_i hl
   refine⟨by rw[r1.length];exact hl,fun q hq=>p1 (.ref q) _ _ (aY.both I1.sh hq) ?_⟩
   show Rep K _ _ _;unfold Rep
   exact⟨q,vs,rfl,SqT.new bH,r1.mono (aY.both (o:=.tup vs) I1.sh hq).s⟩
 . exact p1.elim
noncomputable def JH(K:PySem.W.Frag)(cls:String->Option Addr)(S H:Hp)(Q:VK)(E:XK):OE->Prop
 |.ok r=>∀ v S' H',aY S H S' H'->kP K H S' H' r v->Q v H'
 |.exc c fs=>∀ a C S' H',aY S H S' H'->mP K cls S' H' c fs a C->E (.ref C) (some a) H'
 |.bad=>False
noncomputable def spP(K:PySem.W.Frag)(cls:String->Option Addr)(f:List PV->OE):Sp:=fun vs H Q E=>∃ S xs,aD S H /\ bL K S xs vs /\ JH K cls S H Q E (f xs)
theorem aG{ma:ah->OA}{f:List PV->OE}(h:JA K cls W t ma):JE K cls W (tD (spP K cls f) [] W t) (aX f ma):=by
 intro Av G S₀ ρ σ S H Q I p
 refine h.go I p fun xs vs S1 H1 I1 w1 r1 p1=>?_
 show spP K cls f (vs++[]) H1 Q _;rw[List.append_nil]
 refine⟨S1,xs,I1.sh,r1,?_⟩
 cases e:f xs with
 |ok r=>rw[e]at p1;exact p1
 |exc c fs=>rw[e]at p1;exact p1
 |bad=>rw[e]at p1;exact p1
noncomputable def JU(K:PySem.W.Frag)(r:List V->Hp->VK->Prop)(g:PV->Option RV):Prop:=∀ S H x v rr Q,aD S H->RdV K S H x v->g x=some rr ->
 (∀ z S' H',aY S H S' H'->kP K H S' H' rr z->Q z H')->r [v] H Q
theorem cx{r:List V->Hp->VK->Prop}{g:PV->Option RV}{ma:ah->OE}(hr:JU K r g)(ha:JE K cls W ta ma):JE K cls W (tCB r (eS ta lx)) (mUn g ma):=by
 intro Av G S₀ ρ σ S H Q I p
 refine ha.go I p fun a v S1 H1 I1 w1 r1 p1=>?_
 show r [v] H1 Q
 cases e:g a.pv with
 |none=>rw[e]at p1;exact p1.elim
 |some rr=>rw[e]at p1;exact hr S1 H1 a.pv v rr Q I1.sh (r1.rd I1.sh) e p1
theorem iq{r:V->Hp->VK->Prop}{g:PV->Option RV}{ma:ah->OE}(hr:JU K (fun vs H Q=>∃ v,vs=[v] /\ r v H Q) g)(ha:JE K cls W ta ma):JE K cls W (tUn r ta) (mUn g ma):=by
 intro Av G S₀ ρ σ S H Q I p
 refine ha.go I p fun a v S1 H1 I1 w1 r1 p1=>?_
 cases e:g a.pv with
 |none=>rw[e]at p1;exact p1.elim
 | some rr=>
   rw[e]at p1;obtain⟨u,e1,h⟩:=hr S1 H1 a.pv v rr Q I1.sh (r1.rd I1.sh) e p1;cases e1;exact h
theorem fg:JU K (fun vs H Q=>∃ v,vs=[v] /\ rU (fun i=>.int (-i)) v H Q) eM:=by
 intro S H x v rr Q I hx e k
 cases x with
 |int i=>cases e;exact⟨v,rfl,i,cw hx,k _ S H (aY.refl I) (by show Rep K S _ _;unfold Rep;rfl)⟩
 |_=>cases e
theorem gG:JU K (fun xs H Q=>∃ p ys,xs=[.ref p] /\ (SqL K H p ys \/ SqT K H p ys) /\ Q (.int ys.length) H) kn:=by
 intro S H x v rr Q I hx e k
 cases x with
 | lst xs=>
   cases e;obtain⟨p,vs,rfl,hq,r⟩:=ik hx
   exact⟨p,vs,rfl,.inl hq,k _ S H (aY.refl I) (by show Rep K S _ _;unfold Rep;rw[r.length])⟩
 | tup xs=>
   cases e;obtain⟨p,vs,rfl,hq,r⟩:=ly hx
   exact⟨p,vs,rfl,.inr (aD.tup I hq),k _ S H (aY.refl I) (by show Rep K S _ _;unfold Rep;rw[r.length])⟩
 |_=>cases e
theorem rW:JU K (fun xs H Q=>(∃ i,xs=[.int i] /\ Q (.int i) H) \/ ∃ k,xs=[.bl k] /\ Q (.int (if k then 1 else 0)) H) kT:=by
 intro S H x v rr Q I hx e k
 cases x with
 |int i=>cases e;exact .inl ⟨i,by rw[cw hx],k _ S H (aY.refl I) (by show Rep K S _ _;unfold Rep;rfl)⟩
 |bl b=>cases e;exact .inr ⟨b,by rw[mJ hx],k _ S H (aY.refl I) (by show Rep K S _ _;unfold Rep;rfl)⟩
 |_=>cases e
theorem ph:JU K (fun xs H Q=>∃ p ys,xs=[.ref p] /\ (SqL K H p ys \/ SqT K H p ys) /\ ∀ l,H l=none->Q (.ref l) (upd H l (.lst ys))) ia:=by
 intro S H x v rr Q I hx e k
 cases x with
 | lst xs=>
   cases e;obtain⟨p,vs,rfl,hq,r⟩:=ik hx
   exact⟨p,vs,rfl,.inl hq,fun l hl=>k _ S _ (aY.heap I hl) ⟨l,vs,rfl,hl,I.free hl,bH,r⟩⟩
 | tup xs=>
   cases e;obtain⟨p,vs,rfl,hq,r⟩:=ly hx
   exact⟨p,vs,rfl,.inr (aD.tup I hq),fun l hl=>k _ S _ (aY.heap I hl) ⟨l,vs,rfl,hl,I.free hl,bH,r⟩⟩
 |_=>cases e
theorem GG{α:Type}(xs:List α)(i:Int):atP xs i=L2.atI xs i:=rfl
theorem bL.atI(h:bL K S xs vs)(e:atP xs i=some x):∃ v,L2.atI vs i=some v /\ Rep K S x v:=by
 rw[GG]at e
 unfold L2.atI at e ⊢
 rw[h.length]
 cases q:ixN xs.length i with
 |none=>rw[q]at e;cases e
 |some j=>rw[q]at e;exact h.get e
theorem bP:JR K (EW K) cV:=by
 intro S H x y v u rr Q I hx hy e k;unfold cV at e;split at e
 . rename_i xs i;obtain⟨z,e1,e2⟩:=Option.map_eq_some_iff.mp e;obtain⟨p,vs,rfl,hq,r⟩:=ik hx;obtain⟨w,e3,rw'⟩:=r.atI e1;subst e2
   exact⟨p,vs,i,w,rfl,cw hy,hq,e3,k _ S H (aY.refl I) rw'⟩
 . cases e
theorem bJ:JR K (Jn K) cC:=by
 intro S H x y v u rr Q I hx hy e k;unfold cC at e;split at e
 . rename_i xs i;obtain⟨z,e1,e2⟩:=Option.map_eq_some_iff.mp e;obtain⟨p,vs,rfl,hq,r⟩:=ly hx;obtain⟨w,e3,rw'⟩:=r.atI e1;subst e2
   exact⟨p,vs,i,w,rfl,cw hy,aD.tup I hq,e3,k _ S H (aY.refl I) rw'⟩
 . cases e
end
section
variable{K:PySem.W.Frag}{cls:String->Option Addr}{W:XW}{Av G S₀ S S' H H' B B':Hp}{ρ:ah}{σ:St}{Q:VK}
theorem kH:JR K (FC K) oq:=by
 intro S H x y v u rr Q I hx hy e k;unfold oq at e;split at e
 . rename_i xs ys;split at e
   . rename_i hl;cases e;obtain⟨p,vs,rfl,hq,r⟩:=ik hx;obtain⟨p2,vs2,rfl,hq2,r2⟩:=ik hy
     exact⟨p,p2,vs,vs2,rfl,rfl,hq,hq2,by rw[r.length,r2.length];exact hl,fun l hn=>k _ S _ (aY.heap I hn) ⟨l,_,rfl,hn,I.free hn,bH,r.append r2⟩⟩
   . cases e
 . cases e
theorem yT{xs:List PV}{vs:List V}{bs:List Bool}(h:og xs=some bs)(r:bL K S xs vs):vs=bs.map V.bl:=by
 induction xs generalizing bs vs with
 |nil=>cases h;exact r.nil_inv
 | cons x xs ih=>
   cases x with
   | bl i=>
     obtain⟨ms,e1,e2⟩:=Option.map_eq_some_iff.mp h;subst e2;obtain⟨v,t,rfl,h1,h2⟩:=r.cons_inv;unfold Rep at h1;rw[ih e1 h2,h1];rfl
   |_=>cases h
theorem Gr{A:Around}(hh:A.handled=none):JU K (fun xs H Q=>∃(p:Addr) (bs:List Bool),xs=[.ref p] /\ SqL K H p (bs.map V.bl) /\ A.handled=none /\ Q (.bl (bs.all id)) H) Gv:=by
 intro S H x v rr Q I hx e k
 cases x with
 | lst xs=>
   obtain⟨bs,e1,e2⟩:=Option.map_eq_some_iff.mp e;obtain⟨p,vs,rfl,hq,r⟩:=ik hx;rw[yT e1 r]at hq;subst e2
   exact⟨p,bs,rfl,hq,hh,k _ S H (aY.refl I) (by show Rep K S _ _;unfold Rep;rfl)⟩
 |_=>cases e
theorem Hq{T:String}{x:PV}{v:V}{b:Bool}(s:aD S H)(hx:RdV K S H x v)(e:isP T x=some b):IsV K T v H b:=by
 cases x with
 | int i=>
   have:=cw hx;subst this;simp only[isP]at e;split at e
   . cases e;exact .inl ⟨by assumption,rfl⟩
   . split at e
     . rename_i h;cases e;rcases h with h|h|h|h
       . exact .inr (.inl ⟨h,rfl⟩)
       . exact .inr (.inr (.inl ⟨h,rfl⟩))
       . exact .inr (.inr (.inr (.inl ⟨h,rfl⟩)))
       . exact .inr (.inr (.inr (.inr ⟨h,rfl⟩)))
     . cases e
 | bl i=>
   have:=mJ hx;subst this;simp only[isP]at e;split at e
   . rename_i h;cases e;rcases h with h|h
     . exact .inl ⟨h,rfl⟩
     . exact .inr (.inl ⟨h,rfl⟩)
   . split at e
     . rename_i h;cases e;rcases h with h|h|h
       . exact .inr (.inr (.inl ⟨h,rfl⟩))
       . exact .inr (.inr (.inr (.inl ⟨h,rfl⟩)))
       . exact .inr (.inr (.inr (.inr ⟨h,rfl⟩)))
     . cases e
 | non=>
   have:=iH hx;subst this;simp only[isP]at e;split at e
   . rename_i h;cases e;rcases h with h|h|h|h|h
     . exact .inl ⟨h,rfl⟩
     . exact .inr (.inl ⟨h,rfl⟩)
     . exact .inr (.inr (.inl ⟨h,rfl⟩))
     . exact .inr (.inr (.inr (.inl ⟨h,rfl⟩)))
     . exact .inr (.inr (.inr (.inr ⟨h,rfl⟩)))
   . cases e
 | str i=>
   have:=iu hx;subst this;simp only[isP]at e;split at e
   . cases e;exact .inr (.inr (.inr (.inr ⟨by assumption,rfl⟩)))
   . split at e
     . rename_i h;cases e;rcases h with h|h|h|h
       . exact .inl ⟨h,rfl⟩
       . exact .inr (.inl ⟨h,rfl⟩)
       . exact .inr (.inr (.inl ⟨h,rfl⟩))
       . exact .inr (.inr (.inr (.inl ⟨h,rfl⟩)))
     . cases e
 | lst xs=>
   obtain⟨p,vs,rfl,hq,r⟩:=ik hx;refine .inl ⟨⟨vs,hq⟩,?_⟩;simp only[isP]at e;split at e
   . cases e;exact .inr (.inr (.inl ⟨by assumption,rfl⟩))
   . split at e
     . rename_i h;cases e;rcases h with h|h|h|h
       . exact .inl ⟨h,rfl⟩
       . exact .inr (.inl ⟨h,rfl⟩)
       . exact .inr (.inr (.inr (.inl ⟨h,rfl⟩)))
       . exact .inr (.inr (.inr (.inr ⟨h,rfl⟩)))
     . cases e
 | tup xs=>
   obtain⟨p,vs,rfl,hq,r⟩:=ly hx;refine .inr ⟨⟨vs,aD.tup s hq⟩,?_⟩;simp only[isP]at e;split at e
   . cases e;exact .inr (.inr (.inr (.inl ⟨by assumption,rfl⟩)))
   . split at e
     . rename_i h;cases e;rcases h with h|h|h|h
       . exact .inl ⟨h,rfl⟩
       . exact .inr (.inl ⟨h,rfl⟩)
       . exact .inr (.inr (.inl ⟨h,rfl⟩))
       . exact .inr (.inr (.inr (.inr ⟨h,rfl⟩)))
     . cases e
theorem yE{T:String}{ta:TE}{ma:ah->OE}(ha:JE K cls W ta ma):
  JE K cls W (tCB (fun xs H Q=>∃ x T b,xs=[x,.ty T] /\ IsV K T x H b /\ Q (.bl b) H) (eS ta (eS (tC (.ty T)) lx))) (mIs T ma):=by
 intro Av G S₀ ρ σ S H Q I p
 refine ha.go I p fun a v S1 H1 I1 w1 r1 p1=>?_
 show ∃ x T' b,[v,V.ty T]=[x,V.ty T'] /\ _
 dsimp only at p1
 cases e:isP T a.pv with
 |none=>rw[e]at p1;exact p1.elim
 | some b=>
   rw[e]at p1
   exact⟨v,T,b,rfl,Hq I1.sh (r1.rd I1.sh) e,p1 _ S1 H1 (aY.refl I1.sh) (by show Rep K S1 _ _;unfold Rep;rfl)⟩
end
section
variable{K:PySem.W.Frag}{cls:String->Option Addr}{W:XW}{Av G S₀ S S' H H' B B':Hp}{ρ:ah}{σ:St}{Q:VK}
theorem qk{xs:List PV}{vs:List V}(h:bL K S xs vs):vs.isEmpty=xs.isEmpty:=by
 cases xs with
 |nil=>rw[h.nil_inv];rfl
 |cons x xs=>obtain⟨v,r,rfl,_⟩:=h.cons_inv;rfl
theorem Es(s:aD S H)(hx:RdV K S H x v)(e:uh x=some b):AQ K v H b:=by
 cases x with
 |non=>have:=iH hx;subst this;cases e;rfl
 |bl c=>have:=mJ hx;subst this;cases e;rfl
 |int i=>have:=cw hx;subst this;cases e;rfl
 |str z=>cases e
 | lst xs=>
   obtain⟨p,vs,rfl,hq,r⟩:=ik hx;cases e;exact .inl ⟨vs,hq,by rw[qk r]⟩
 | tup xs=>
   obtain⟨p,vs,rfl,hq,r⟩:=ly hx;cases e;exact .inr (.inl ⟨vs,aD.tup s hq,by rw[qk r]⟩)
theorem dC{ma:ah->OE}(ha:JE K cls W ta ma):JT K cls W (fun σ H Q=>ta σ H fun x H'=>∃ k,AQ K x H' k /\ Q k H') (cO ma):=by
 intro Av G S₀ ρ σ S H Q I p
 refine ha.goT I p fun r v S1 H1 I1 w1 r1 p1=>?_
 cases e:uh r.pv with
 |none=>rw[e]at p1;exact p1.elim
 |some b=>rw[e]at p1;exact⟨b,Es I1.sh (r1.rd I1.sh) e,p1 S1 H1 (aY.refl I1.sh)⟩
theorem wj{r:RV}(h:r.pv=.bl b)(r1:kP K H S1 H1 r v)(s:aD S1 H1):v=.bl b:=by
 have:=r1.rd s;rw[h]at this;exact mJ this
theorem aB{ma:ah->OE}(ha:JE K cls W ta ma):JT K cls W (uC ta) (aE ma):=by
 intro Av G S₀ ρ σ S H Q I p
 refine ha.goT I p fun r v S1 H1 I1 w1 r1 p1=>?_
 cases e:r.pv with
 |bl b=>rw[e]at p1;exact⟨b,wj e r1 I1.sh,p1 S1 H1 (aY.refl I1.sh)⟩
 |_=>rw[e]at p1;exact p1.elim
theorem qE{ma:ah->OT}(ha:JT K cls W ta ma):JT K cls W (G0 ta) (oM ma):=by
 intro Av G S₀ ρ σ S H Q I p
 exact ha.goT I p fun b S1 H1 I1 w1 p1=>p1 S1 H1 (aY.refl I1.sh)
theorem i8{ma mb:ah->OT}(ha:JT K cls W ta ma)(hb:JT K cls W tb mb):JT K cls W (HJ ta tb) (dJ ma mb):=by
 intro Av G S₀ ρ σ S H Q I p
 refine ha.goT I p fun b S1 H1 I1 w1 p1=>?_
 cases b with
 |true=>exact vd (hb Av G S₀ ρ σ S1 H1 Q I1 p1)
 |false=>exact wa (p1 S1 H1 (aY.refl I1.sh))
theorem ub{ma mb:ah->OT}(ha:JT K cls W ta ma)(hb:JT K cls W tb mb):JT K cls W (tOr ta tb) (pH ma mb):=by
 intro Av G S₀ ρ σ S H Q I p
 refine ha.goT I p fun b S1 H1 I1 w1 p1=>?_
 cases b with
 |false=>exact wa (hb Av G S₀ ρ σ S1 H1 Q I1 p1)
 |true=>exact vd (p1 S1 H1 (aY.refl I1.sh))
theorem kr:kP K B S H (.sh (.bl b)) (.bl b):=by show Rep K S _ _;unfold Rep;rfl
theorem wH{ma mb:ah->OE}(ha:JE K cls W ta ma)(hb:JE K cls W tb mb):JE K cls W (BJ ta tb) (uK ma mb):=by
 intro Av G S₀ ρ σ S H Q I p
 refine ha.go I p fun r v S1 H1 I1 w1 r1 p1=>?_
 cases e:r.pv with
 | bl b=>
   rw[e]at p1
   refine⟨b,wj e r1 I1.sh,?_⟩
   cases b with
   |true=>exact vd (hb Av G S₀ ρ σ S1 H1 Q I1 p1)
   |false=>exact wa (p1 _ S1 H1 (aY.refl I1.sh) kr)
 |_=>rw[e]at p1;exact p1.elim
theorem GA{ma:ah->OE}(ha:JE K cls W ta ma):JE K cls W (Dq ta) (BL ma):=by
 intro Av G S₀ ρ σ S H Q I p
 refine ha.go I p fun r v S1 H1 I1 w1 r1 p1=>?_
 cases e:r.pv with
 |bl b=>rw[e]at p1;exact⟨b,wj e r1 I1.sh,p1 _ S1 H1 (aY.refl I1.sh) kr⟩
 |_=>rw[e]at p1;exact p1.elim
theorem qa{mc:ah->OT}{ma mb:ah->OE}(hc:JT K cls W tc mc)(ha:JE K cls W ta ma)(hb:JE K cls W tb mb):JE K cls W (tIf tc ta tb) (jF mc ma mb):=by
 intro Av G S₀ ρ σ S H Q I p
 refine hc.go I p fun b S1 H1 I1 w1 p1=>?_
 cases b with
 |true=>exact vd (ha Av G S₀ ρ σ S1 H1 Q I1 p1)
 |false=>exact wa (hb Av G S₀ ρ σ S1 H1 Q I1 p1)
theorem fz{g g':PV->PV->Option RV}{ma mb mc:ah->OE}(hr:JR K r g)(hr':JR K r' g')(ha:JE K cls W ta ma)(hb:JE K cls W tb mb)(hc:JE K cls W tc mc):
  JE K cls W (sP r r' ta tb tc) (g9 g g' ma mb mc):=by
 intro Av G S₀ ρ σ S H Q I p
 refine ha.go I p fun a v S1 H1 I1 w1 r1 p1=>hb.go I1 p1 fun b u S2 H2 I2 w2 r2 p2=>?_
 cases e:g a.pv b.pv with
 |none=>rw[e]at p2;exact p2.elim
 | some rr=>
   rw[e]at p2
   refine hr S2 H2 a.pv b.pv v u rr _ I2.sh ((r1.rd I1.sh).mono w2.s w2.g) (r2.rd I2.sh) e fun z S3 H3 w3 r3=>?_
   have I3:=I2.grow w3;simp only[oE,OE.bind]at p2
   cases e3:rr.pv with
   | bl k=>
     rw[e3]at p2;have hz:=wj e3 r3 I3.sh
     refine⟨k,hz,?_⟩
     cases k with
     |false=>exact wa (p2 _ S3 H3 w3 kr)
     | true=>
       refine vd (hc.go I3 (p2.back w3) fun c y S4 H4 I4 w4 r4 p4=>?_)
       cases e4:g' b.pv c.pv with
       |none=>rw[e4]at p4;exact p4.elim
       |some r'=>rw[e4]at p4;exact hr' S4 H4 b.pv c.pv u y r' Q I4.sh (((r2.rd I2.sh).mono w3.s w3.g).mono w4.s w4.g) (r4.rd I4.sh) e4 p4
   |_=>rw[e3]at p2;exact p2.elim
theorem au{ma mb:ah->OS}(ha:JS K cls W ta ma)(hb:JS K cls W tb mb):JS K cls W (HU ta tb) (aA ma mb):=by
 intro Av G S₀ ρ σ S H D I p;refine ha Av G S₀ ρ σ S H _ I ?_;unfold aA at p
 cases e:ma ρ with
 |nx ρ'=>rw[e]at p;exact fun σ' S' H' I' s'=>hb Av G S₀ ρ' σ' S' H' D I' (p.back s')
 |bk ρ'=>rw[e]at p;exact p
 |ct ρ'=>rw[e]at p;exact p
 |rt ρ' r=>rw[e]at p;exact p
 |exc ρ' c fs=>rw[e]at p;exact p
 |bad=>rw[e]at p;exact p
theorem aK:JS K cls W Bt aT:=fun Av G S₀ ρ σ S H D I p=>p σ S H I (aD.refl _)
theorem az{me:ah->OE}(he:JE K cls W te me):JS K cls W (qK te (ir i)) (aN i me):=by
 intro Av G S₀ ρ σ S H D I p
 refine he.goS I p fun r v S1 H1 I1 w1 r1 p1=>?_
 show D.nx (σ.set i (some v)) H1
 cases r with
 |sh x=>exact p1 _ S1 H1 (I1.BU r1) (aD.refl _)
 |fr xs=>exact p1 _ S1 H1 (I.Jm w1 r1) (aD.refl _)
 |al xs=>exact p1.elim
theorem bf{mc:ah->OT}{ma mb:ah->OS}(hc:JT K cls W tc mc)(ha:JS K cls W ta ma)(hb:JS K cls W tb mb):JS K cls W (Iv tc ta tb) (bj mc ma mb):=by
 intro Av G S₀ ρ σ S H D I p
 refine hc.goS I p fun b S1 H1 I1 w1 p1=>?_
 cases b with
 |true=>exact vd (ha Av G S₀ ρ σ S1 H1 D I1 p1)
 |false=>exact wa (hb Av G S₀ ρ σ S1 H1 D I1 p1)
theorem aQ{me:ah->OE}(he:JE K cls W te me):JS K cls W (EG te) (b0 me):=by
 intro Av G S₀ ρ σ S H D I p
 refine he.goS I p fun r v S1 H1 I1 w1 r1 p1=>?_
 cases r with
 |sh x=>exact p1 v σ S1 H1 I1 (aD.refl _) r1
 |fr xs=>exact p1 v σ S1 H1 I1 (aD.refl _) (r1.back I.gh)
 |al xs=>exact p1.elim
theorem eY:JS K cls W (EG (yj i)) (dB i):=by
 intro Av G S₀ ρ σ S H D I p;unfold dB at p;split at p
 . rename_i x e;obtain⟨v,e1,r⟩:=I.good i _ e
   exact⟨v,e1,p v σ S H I (aD.refl _) r⟩
 . rename_i xs e;obtain⟨v,e1,a,vs,e2,h1,h2,h3,h4⟩:=I.good i _ e
   exact⟨v,e1,p v σ S H I.drop (aD.refl _) ⟨a,vs,e2,h1,h2,h3,h4⟩⟩
 . exact p.elim
theorem eD{m:ah->OS}(h:JS K cls W ts m):JS K cls W ts (cK i m):=by
 intro Av G S₀ ρ σ S H D I p;unfold cK fT at p;split at p
 . rename_i xs e;obtain⟨S',s,J⟩:=I.IL e;exact h Av G S₀ _ σ S' H D J (p.back s)
 . exact h Av G S₀ ρ σ S H D I p
theorem eZ{me:ah->OE}(he:JE K cls W te me):JS K cls W (tN (tBM K "list" vv (yj i) (eS te lx))) (cL i me):=by
 intro Av G S₀ ρ σ S H D I p;unfold cL at p;split at p
 . rename_i xs e;obtain⟨v,e1,a,vs,rfl,h1,h2,h3,h4⟩:=I.good i _ e
   refine⟨_,e1,.inl ⟨rfl,_,SqL.new h3⟩,?_⟩
   refine he Av G S₀ ρ σ S H _ I ?_
   cases em:me ρ with
   |exc c fs=>rw[em]at p;exact fun a C S' H' w x=>p a C σ S' H' (I.grow w) w.s x
   |bad=>rw[em]at p;exact p
   | ok r=>
     rw[em]at p;intro u S1 H1 w1 r1;simp only[OE.bY]at p
     cases es:lG r with
     |none=>rw[es]at p;exact p.elim
     | some y=>
       rw[es]at p
       dsimp only at p
       split at p
       . rename_i hl;obtain⟨S2,w2,s2,rx⟩:=r1.share w1 es;have I2:=I.grow w2
         refine⟨a,vs,u,rfl,rfl,w2.g _ _ h3,by rw[h4.length];exact hl,?_⟩
         exact p σ S2 _ (I2.mut e e1 ((h4.mono w2.s).append (.cons rx .nil))) w2.s
       . exact p.elim
 . exact p.elim
theorem qU{mb:ah->OS}{D:Ends}{N:St->Hp->Prop}(hb:JS K cls W tb mb)(I:SR K cls Av G S₀ ρ σ S H)(hx:Rep K S x v)
  (p:fW K cls W Av G S₀ S D (dZ i mb (x ::xs) ρ)) (hN:∀ ρ' σ' S' H',SR K cls Av G S₀ ρ' σ' S' H'->aD S S'->fW K cls W Av G S₀ S' D (dZ i mb xs ρ')->N σ' H'):
  ir i v σ H fun σ2 H2=>tb { D with nx:=N,ct:=N,bk:=D.nx } σ2 H2:=by
 refine hb Av G S₀ _ _ S H _ (I.BU hx) ?_;rw[dv]at p
 cases e:mb (ρ.set i (some (.sh x)))with
 |nx ρ'=>rw[e]at p;exact fun σ' S' H' I' s'=>hN ρ' σ' S' H' I' s' (p.back s')
 |ct ρ'=>rw[e]at p;exact fun σ' S' H' I' s'=>hN ρ' σ' S' H' I' s' (p.back s')
 |bk ρ'=>rw[e]at p;exact p
 |rt ρ' r=>rw[e]at p;exact p
 |exc ρ' c fs=>rw[e]at p;exact p
 |bad=>rw[e]at p;exact p
theorem mF{ml:ah->OE}{mb:ah->OS}(hl:JE K cls W tl ml)(hb:JS K cls W tb mb):JS K cls W (BA (Ah K tl) (ir i) tb) (mK i ml mb):=by
 intro Av G S₀ ρ σ S H D I p;refine hl Av G S₀ ρ σ S H _ I ?_;unfold mK at p
 cases em:ml ρ with
 |exc c fs=>rw[em]at p;exact fun a C S' H' w x=>p a C σ S' H' (I.grow w) w.s x
 |bad=>rw[em]at p;exact p
 | ok r=>
   rw[em]at p;intro v S1 H1 w1 r1;simp only[OE.bY]at p
   cases ei:Bz r with
   |none=>rw[ei]at p;exact p.elim
   | some xs=>
     rw[ei]at p
     have es:lG r=some (.lst xs):=by
      cases r with
      |sh y=>cases y<;>cases ei<;>rfl
      |fr ys=>cases ei;rfl
      |al ys=>cases ei
     obtain⟨S2,w2,s2,rx⟩:=r1.share w1 es;have I2:=I.grow w2;unfold Rep at rx;obtain⟨a,vs,rfl,hq,hr⟩:=rx
     refine⟨a,rfl,⟨vs,aD.seq I2.sh hq⟩,?_⟩
     refine Cb (xs:=vs) (fun k σ' H'=>∃ ρ' S',SR K cls Av G S₀ ρ' σ' S' H' /\ aD S2 S' /\ fW K cls W Av G S₀ S' D (dZ i mb (xs.drop k) ρ'))
      ⟨ρ,S2,I2,aD.refl _,p.back w2.s⟩ ?_ ?_ ?_
     . rintro k σ' H' _ ⟨ρ',S',I',s',_⟩
       exact aD.seq (s'.trans I'.sh) hq
     . rintro k x σ' H' hx ⟨ρ',S',I',s',p'⟩
       obtain⟨y,hy,ry⟩:=hr.La hx
       have hd:xs.drop k=y ::xs.drop (k+1):=by
        have hk:k<xs.length:=(List.getElem?_eq_some_iff.mp hy).1
        rw[List.drop_eq_getElem_cons hk]
        congr 1
        have:=List.getElem?_eq_getElem hk;rw[hy]at this
        exact(Option.some.inj this).symm
       rw[hd]at p'
       exact qU hb I' (Rep.mono s' ry) p' fun ρ2 σ2 S3 H3 I3 s3 p3=>⟨ρ2,S3,I3,s'.trans s3,p3⟩
     . rintro σ' H' ⟨ρ',S',I',s',p'⟩
       rw[List.drop_of_length_le (by rw[hr.length];exact Nat.le_refl _)]at p';exact p' σ' S' H' I' (aD.refl _)
theorem yl(h:k<n):(cz n).drop k=.int (k:Int) ::(cz n).drop (k+1):=by
 have hk:k<(cz n).length:=by unfold cz;simpa using h
 rw[List.drop_eq_getElem_cons hk]
 congr 1
 simp[cz]
theorem qg{me:ah->OE}{mb:ah->OS}(he:JE K cls W te me)(hb:JS K cls W tb mb):JS K cls W (BA (zr (eS te lx)) (ir i) tb) (oJ i me mb):=by
 intro Av G S₀ ρ σ S H D I p
 refine he.goS I p fun r v S1 H1 I1 w1 r1 p1=>?_
 cases e:r.pv with
 | int j=>
   rw[e]at p1
   have hv:v=.int j:=by have:=r1.rd I1.sh;rw[e]at this;exact cw this
   subst hv
   dsimp only at p1
   split at p1
   . rename_i hj
     refine⟨j,rfl,hj.1,hj.2,?_⟩
     refine AR (n:=j.toNat) (fun k σ' H'=>∃ ρ' S',SR K cls Av G S₀ ρ' σ' S' H' /\ aD S1 S' /\ fW K cls W Av G S₀ S' D (dZ i mb ((cz j.toNat).drop k) ρ'))
      ⟨ρ,S1,I1,aD.refl _,p1⟩ ?_ ?_
     . rintro k σ' H' hk ⟨ρ',S',I',s',p'⟩
       rw[yl hk]at p'
       refine qU hb I' ?_ p' fun ρ2 σ2 S3 H3 I3 s3 p3=>⟨ρ2,S3,I3,s'.trans s3,p3⟩
       unfold Rep;rw[Int.zero_add]
     . rintro σ' H' ⟨ρ',S',I',s',p'⟩
       rw[List.drop_of_length_le (by unfold cz;simp)]at p';exact p' σ' S' H' I' (aD.refl _)
   . exact p1.elim
 |_=>rw[e]at p1;exact p1.elim
theorem lh{mc:ah->OT}{mb:ah->OS}(hc:JT K cls W tc mc)(hb:JS K cls W tb mb):JS K cls W (yL tc tb) (cu mc mb n):=by
 intro Av G S₀ ρ σ S H D I p
 refine⟨fun m σ' H'=>∃ ρ' S',SR K cls Av G S₀ ρ' σ' S' H' /\ aD S S' /\ fW K cls W Av G S₀ S' D (cu mc mb m ρ'),⟨n,ρ,S,I,aD.refl _,p⟩,?_⟩
 rintro m σ1 H1 ⟨ρ1,S1,I1,s1,p1⟩
 cases m with
 |zero=>exact p1.elim
 | succ m=>
   unfold cu at p1
   refine hc.goS I1 p1 fun b S2 H2 I2 w2 p2=>?_
   cases b with
   |false=>exact wa (p2 σ1 S2 H2 I2 (aD.refl _))
   | true=>
     refine vd ⟨fun σ' H'=>∃ ρ' S',SR K cls Av G S₀ ρ' σ' S' H' /\ aD S S' /\ fW K cls W Av G S₀ S' D (cu mc mb m ρ'),fun σ' H' h=>⟨m,Nat.lt_succ_self m,h⟩,?_⟩;refine hb Av G S₀ ρ1 σ1 S2 H2 _ I2 ?_;simp only[if_true]at p2
     cases e:mb ρ1 with
     |nx ρ'=>rw[e]at p2;exact fun σ' S' H' I' s'=>⟨ρ',S',I',(s1.trans w2.s).trans s',p2.back s'⟩
     |ct ρ'=>rw[e]at p2;exact fun σ' S' H' I' s'=>⟨ρ',S',I',(s1.trans w2.s).trans s',p2.back s'⟩
     |bk ρ'=>rw[e]at p2;exact p2
     |rt r=>rw[e]at p2;exact p2
     |exc ρ' c fs=>rw[e]at p2;exact p2
     |bad=>rw[e]at p2;exact p2
end
section
variable{K:PySem.W.Frag}{cls:String->Option Addr}{W:XW}{Av G S₀ S S' H H' B B':Hp}{ρ:ah}{σ:St}{Q:VK}
noncomputable def Bp:V->Option Int
 |.int i=>some i
 |_=>none
noncomputable def JO(K:PySem.W.Frag)(cls:String->Option Addr)(W:XW)(to:TO)(m:ah->OE):Prop:=∀ Av G S₀ ρ σ S H (Q:Option Int->Hp->Prop),SR K cls Av G S₀ ρ σ S H ->
 kZ K cls W σ S H (fun v H'=>Q (Bp v) H') (m ρ)->to σ H Q
theorem DI:JO K cls W vk (mC .non):=fun Av G S₀ ρ σ S H Q I p=>p .non S H (aY.refl I.sh) (by show Rep K S _ _;unfold Rep;rfl)
theorem mw{m:ah->OE}(h:JE K cls W te m):JO K cls W (BD te) (oB m):=by
 intro Av G S₀ ρ σ S H Q I p
 refine h.go I p fun r v S1 H1 I1 w1 r1 p1=>?_
 cases e:r.pv with
 | int i=>
   rw[e]at p1
   have hv:v=.int i:=by have:=r1.rd I1.sh;rw[e]at this;exact cw this
   exact⟨i,hv,p1 (.int i) S1 H1 (aY.refl I1.sh) (by show Rep K S1 _ _;unfold Rep;rfl)⟩
 |_=>rw[e]at p1;exact p1.elim
theorem JO.go{m:ah->OE}{f:RV->OE}{Q':Option Int->Hp->Prop}(h:JO K cls W to m)(I:SR K cls Av G S₀ ρ σ S H)(p:kZ K cls W σ S H Q ((m ρ).bind f))
  (k:∀ r v S1 H1,SR K cls Av G S₀ ρ σ S1 H1->aY S H S1 H1->kP K H S1 H1 r v->kZ K cls W σ S1 H1 Q (f r)->Q' (Bp v) H1):to σ H Q':=by
 refine h Av G S₀ ρ σ S H Q' I ?_
 cases e:m ρ with
 |ok r=>rw[e]at p;exact fun v S1 H1 w r1=>k r v S1 H1 (I.grow w) w r1 (p.back w)
 |exc c fs=>rw[e]at p;exact p
 |bad=>rw[e]at p;exact p
theorem part_of(h:RdV K S H x v):Bp v=tV x:=by
 cases x with
 |int i=>rw[cw h];rfl
 |non=>rw[iH h];rfl
 |bl b=>rw[mJ h];rfl
 |str b=>rw[iu h];rfl
 |lst xs=>obtain⟨p,vs,rfl,_⟩:=ik h;rfl
 |tup xs=>obtain⟨p,vs,rfl,_⟩:=ly h;rfl
theorem bL.cut(h:bL K S xs vs)(lo hi:Option Int):bL K S (tj xs lo hi) (A4 vs lo hi):=by
 have es:∀ n d o,rK n d o=HT.sIx n d o:=fun n d o=>by cases o<;>rfl
 unfold tj A4;simp only[es];rw[h.length]
 exact(h.drop _).take _
theorem wI{ma ml mh:ah->OE}(ha:JE K cls W te ma)(hl:JO K cls W tl ml)(hh:JO K cls W th mh):JE K cls W (tSl (IP K) te tl th) (yS ma ml mh):=by
 intro Av G S₀ ρ σ S H Q I p
 refine ha.go I p fun a v S1 H1 I1 w1 r1 p1=>hl.go I1 p1 fun l u S2 H2 I2 w2 r2 p2=>hh.go I2 p2 fun h z S3 H3 I3 w3 r3 p3=>?_
 rw[part_of (r2.rd I2.sh),part_of (r3.rd I3.sh)];have ra:=((r1.rd I1.sh).mono w2.s w2.g).mono w3.s w3.g
 cases e:a.pv with
 | lst xs=>
   rw[e]at p3 ra;obtain⟨q,vs,rfl,hq,hr⟩:=ik ra
   exact⟨q,vs,rfl,hq,fun b hb=>p3 _ S3 _ (aY.heap I3.sh hb) ⟨b,_,rfl,hb,I3.sh.free hb,bH,hr.cut _ _⟩⟩
 |_=>rw[e]at p3;exact p3.elim
theorem join_some{α:Type}{o:Option (Option α)}{s:α}(h:o.join=some s):o=some (some s):=by
 cases o with
 |none=>cases h
 | some x=>cases x with
   |none=>cases h
   |some y=>rw[show y=s from Option.some.inj h]
theorem DF{α:Type}{l:List (Option α)}{ι:List Nat}{j:Nat}{s:α}(h:(ι.map fun i=>(l[i]?).join)[j]?=some (some s)):∃ i,ι[j]?=some i /\ l[i]?=some (some s):=by
 rw[List.getElem?_map]at h
 cases e:ι[j]? with
 |none=>rw[e]at h;cases h
 |some i=>rw[e]at h;exact⟨i,rfl,join_some (Option.some.inj h)⟩
noncomputable def Fp(ι:List Nat)(Av:Hp):Hp:=fun j=>match ι[j]? with
 |some i=>Av i
 |none=>none
noncomputable def xM(ι:List Nat)(F:Nat->List Addr):Nat->List Addr:=fun j=>match ι[j]? with
 |some i=>F i
 |none=>[]
theorem rF.at(h:rF K cls Av G S H i s v fp)(e:Av' j=Av i):rF K cls Av' G S H j s v fp:=by
 cases s with
 |sh x=>exact h
 |ow xs=>exact h
 |ex c fs=>exact h
 |tr io t=>exact⟨h.1,h.2.1,h.2.2.1,fun z=>by rw[e];exact h.2.2.2 z⟩
 |bo t=>exact h
theorem SR.pick{ι:List Nat}{x:PV}{v:V}(I:SR K cls Av G S₀ ρ σ S H)(hι:ι.Nodup)(hx:Rep K S x v):SR K cls (Fp ι Av) G S₀ (cp ι ρ++[some (.sh x)]) (L2.E.pick ι σ++[some v]) S H:=by
 obtain⟨F,J⟩:=I
 have hl:(cp ι ρ).length=(L2.E.pick ι σ).length:=by unfold cp L2.E.pick;simp
 have hp:(cp ι ρ).length=ι.length:=by unfold cp;simp
 refine⟨xM ι F,J.gh,J.s0,J.sh,J.new,fun j s e=>?_,fun j k a h1 h2=>?_,fun j a h=>?_,by unfold cp L2.E.pick;simp⟩
 . by_cases hj:j<(cp ι ρ).length
   . rw[List.getElem?_append_left hj]at e;obtain⟨i,e1,e2⟩:=DF e;obtain⟨u,e3,r⟩:=J.own i s e2
     refine⟨u,?_,?_⟩
     . rw[List.getElem?_append_left (by rw[<- hl];exact hj)];unfold L2.E.pick;rw[List.getElem?_map,e1];show some (σ[i]?).join=_;rw[e3];rfl
     . unfold xM;rw[e1];exact r.at (by unfold Fp;rw[e1])
   . have hj':(cp ι ρ).length<=j:=Nat.le_of_not_lt hj
     rw[List.getElem?_append_right hj']at e
     have h0:j - (cp ι ρ).length=0:=by
      by_cases h:j - (cp ι ρ).length=0
      . exact h
      . rw[List.getElem?_eq_none (by simp;omega)]at e;cases e
     rw[h0]at e;cases e
     refine⟨v,?_,?_,hx⟩
     . rw[List.getElem?_append_right (by rw[<- hl];exact hj'),<- hl,h0];rfl
     . unfold xM;rw[List.getElem?_eq_none (by rw[<- hp];exact hj')]
 . unfold xM at h1 h2
   cases e1:ι[j]? with
   |none=>rw[e1]at h1;cases h1
   | some i=>
     cases e2:ι[k]? with
     |none=>rw[e2]at h2;cases h2
     | some i'=>
       rw[e1]at h1;rw[e2]at h2;have z:=J.apart i i' a h1 h2;subst z;obtain⟨ha,ea⟩:=List.getElem?_eq_some_iff.mp e1;obtain⟨hb,eb⟩:=List.getElem?_eq_some_iff.mp e2
       exact(List.getElem_inj hι).mp (ea.trans eb.symm)
 . unfold xM at h
   cases e1:ι[j]? with
   |none=>rw[e1]at h;cases h
   |some i=>rw[e1]at h;exact J.live i a h
theorem BF{me:ah->OE}(h:cS me ρ (x ::xs)=.ok ys):∃ r y zs,me (ρ++[some (.sh x)])=.ok r /\ lG r=some y /\ cS me ρ xs=.ok zs /\ ys=y ::zs:=by
 unfold cS at h
 cases e:me (ρ++[some (.sh x)])with
 | ok r=>
   rw[e]at h;simp only[OE.eH]at h
   cases e2:lG r with
   |none=>rw[e2]at h;cases h
   | some y=>
     rw[e2]at h
     dsimp only at h
     cases e3:cS me ρ xs with
     |ok zs=>rw[e3]at h;cases h;exact⟨r,y,zs,rfl,e2,rfl,rfl⟩
     |exc c fs=>rw[e3]at h;cases h
     |bad=>rw[e3]at h;cases h
 |exc c fs=>rw[e]at h;cases h
 |bad=>rw[e]at h;cases h
theorem qw{J:It}{ι:List Nat}{me:ah->OE}{xs ys:List PV}(hι:ι.Nodup)(he:JE K cls (fun _ _ _ _=>False) te me)(I:SR K cls Av G S₀ ρ σ S H)(hy:cS me (cp ι ρ) xs=.ok ys)(hl:ys.length<=lim)
  (go:∀ k H' x,aD H H'->xs[k]?=some x->J.go k H' /\ ∀ v H2,J.yld k H' v H2->H2=H' /\ Rep K S x v) (stop:∀ H',aD H H'->J.stop xs.length H')
  (hQ:∀ D S' H',aY S H S' H'->H D=none->S' D=none->(∃ us,H' D=some (.lst us) /\ bL K S' ys us)->Q (.ref D) H'):
  ∀ D,H D=none->∃ W:Nat->Nat->List V->Hp->Prop,(∃ m,W 0 m [] (upd H D (.lst []))) /\ ∀ i m us H',W i m us H' ->
    H' D=some (.lst us) /\ ((J.stop i H' /\ Q (.ref D) H') \/ (J.go i H' /\ ∀ x H2,J.yld i H' x H2->te (L2.E.pick ι σ++[some x]) H2 fun y H3=>H3 D=some (.lst us) /\ us.length<sizeLine /\ ∃ m',m'<m /\ W (i+1) m' (us++[y]) (upd H3 D (.lst (us++[y]))))):=by
 intro D nD
 refine⟨fun k m us H'=>m+k=xs.length /\ H' D=some (.lst us) /\ ∃ S' zs ws,aD S S' /\ aD H H' /\ aD S' H' /\ (∀ b,S' b≠none->S b≠none \/ (H b=none /\ b≠D)) /\ bL K S' zs us /\ cS me (cp ι ρ) (xs.drop k)=.ok ws /\ ys=zs++ws,
  ⟨xs.length,rfl,bH,S,[],ys,aD.refl _,aD.new nD,I.sh.trans (aD.new nD),fun b z=>.inl z,.nil,hy,rfl⟩,?_⟩
 rintro k m us H' ⟨hm,hD,S',zs,ws,s1,g1,sh1,n1,r1,e1,rfl⟩
 refine⟨hD,?_⟩
 have hSD:S' D=none:=by
  cases q:S' D with
  |none=>rfl
  | some o=>
    rcases n1 D (by rw[q];simp)with z|⟨_,z⟩
    . exact absurd (I.sh.free nD) z
    . exact absurd rfl z
 by_cases hk:k<xs.length
 . refine .inr ?_
   have hx:xs[k]?=some xs[k]:=by simp[hk]
   obtain⟨hgo,hyld⟩:=go k H' xs[k] g1 hx
   refine⟨hgo,fun v H2 hv=>?_⟩
   obtain⟨rfl,rv⟩:=hyld v H2 hv;rw[List.drop_eq_getElem_cons hk]at e1;obtain⟨r,y,zs',em,es,e2,rfl⟩:=BF e1
   have I1:SR K cls Av G S₀ ρ σ S' H2:=I.grow ⟨s1,g1,sh1,fun b z=>by
    rcases n1 b z with z|⟨z,_⟩
    . exact .inl z
    . exact .inr z⟩
   refine he _ G S₀ _ _ S' H2 _ (I1.pick hι (Rep.mono s1 rv)) ?_;rw[em];intro u S2 H3 w2 r2;obtain⟨S3,w3,s3,ru⟩:=r2.share w2 es
   have hl2:(zs++y ::zs').length<=lim:=hl
   have hSD3:S3 D=none:=by
    cases q:S3 D with
    |none=>rfl
    | some o=>
      rcases w3.new D (by rw[q];simp)with z|z
      . exact absurd hSD z
      . rw[hD]at z;cases z
   refine⟨w3.g _ _ hD,?_,m - 1,by omega,by omega,bH,S3,zs++[y],zs',s1.trans w3.s,(g1.trans w3.g).upd nD,w3.sh.upd hSD3,fun b z=>?_,(r1.mono w3.s).append (.cons ru .nil),e2,by simp⟩
   . rw[r1.length,<- By];rw[List.length_append,List.length_cons]at hl2;omega
   . rcases w3.new b z with z|z
     . exact n1 b z
     . refine .inr ⟨g1.free z,fun e=>?_⟩;rw[e,hD]at z;cases z
 . have hk':k=xs.length:=by omega
   subst hk';refine .inl ⟨stop H' g1,?_⟩;rw[List.drop_length]at e1;cases e1
   exact hQ D S' H' ⟨s1,g1,sh1,fun b z=>by
    rcases n1 b z with z|⟨z,_⟩
    . exact .inl z
    . exact .inr z⟩ nD hSD ⟨us,hD,by rw[List.append_nil];exact r1⟩
theorem ug{ml me:ah->OE}{ι:List Nat}(hι:ι.Nodup)(hl:JE K cls W tl ml)(he:JE K cls (fun _ _ _ _=>False) te me):JE K cls W (tH (Ah K tl) ι te) (qD ml ι me):=by
 intro Av G S₀ ρ σ S H Q I p
 refine hl.go I p fun r v S1 H1 I1 w1 r1 p1=>?_
 have ra:=r1.rd I1.sh
 cases e:r.pv with
 | lst xs=>
   rw[e]at p1 ra;obtain⟨a,vs,rfl,hq,hr⟩:=ik ra
   refine⟨a,rfl,⟨vs,hq⟩,?_⟩
   dsimp only at p1
   cases em:cS me (cp ι ρ) xs with
   |exc c fs=>rw[em]at p1;exact p1.elim
   |bad=>rw[em]at p1;exact p1.elim
   | ok ys=>
     rw[em]at p1;simp only[noX]at p1;split at p1
     . rename_i hlen
       refine qw hι he I1 em hlen (fun k H' x g hx=>?_) (fun H' g=>⟨vs,aD.seq g hq,by rw[hr.length];exact Nat.le_refl _⟩) fun D S' H' w nD sD ⟨us,hD,rr⟩=>p1 (.ref D) S' H' w ⟨D,us,rfl,nD,sD,hD,rr⟩
       obtain⟨u,hu,ru⟩:=hr.get hx
       refine⟨⟨vs,u,aD.seq g hq,hu⟩,?_⟩
       rintro v' H2 ⟨rfl,hv⟩
       have:=hv vs (aD.seq g hq);rw[hu]at this;cases this
       exact⟨rfl,ru⟩
     . exact p1.elim
 |_=>rw[e]at p1;exact p1.elim
theorem xO{mn me:ah->OE}{ι:List Nat}(hι:ι.Nodup)(hn:JE K cls W tn mn)(he:JE K cls (fun _ _ _ _=>False) te me):JE K cls W (tH (zr (eS tn lx)) ι te) (vo mn ι me):=by
 intro Av G S₀ ρ σ S H Q I p
 refine hn.go I p fun r v S1 H1 I1 w1 r1 p1=>?_
 have ra:=r1.rd I1.sh
 cases e:r.pv with
 | int j=>
   rw[e]at p1 ra;have hv:=cw ra;subst hv
   dsimp only at p1
   split at p1
   . rename_i hj
     refine⟨j,rfl,hj.1,hj.2,?_⟩
     cases em:cS me (cp ι ρ) (cz j.toNat)with
     |exc c fs=>rw[em]at p1;exact p1.elim
     |bad=>rw[em]at p1;exact p1.elim
     | ok ys=>
       rw[em]at p1;simp only[noX]at p1;split at p1
       . rename_i hlen
         have hln:(cz j.toNat).length=j.toNat:=by unfold cz;simp
         refine qw hι he I1 em hlen (fun k H' x g hx=>?_) (fun H' g=>by rw[hln];exact Nat.le_refl _) fun D S' H' w nD sD ⟨us,hD,rr⟩=>p1 (.ref D) S' H' w ⟨D,us,rfl,nD,sD,hD,rr⟩
         have hk:k<j.toNat:=by rw[<- hln];exact(List.getElem?_eq_some_iff.mp hx).1
         refine⟨hk,?_⟩
         rintro v' H2 ⟨rfl,rfl⟩
         refine⟨rfl,?_⟩
         have:x=.int (k:Int):=by
          unfold cz at hx;rw[List.getElem?_map,List.getElem?_range hk]at hx
          exact(Option.some.inj hx).symm
         subst this;unfold Rep;rw[Int.zero_add]
       . exact p1.elim
   . exact p1.elim
 |_=>rw[e]at p1;exact p1.elim
theorem xx{ma:ah->OA}(hc:cls c=some C)(ha:JA K cls W t ma):JS K cls W (yN C W t) (vT c ma):=by
 intro Av G S₀ ρ σ S H D I p
 refine ha.goS I p fun xs vs S1 H1 I1 w1 r1 p1=>?_
 split at p1
 . rename_i hl
   refine⟨by rw[r1.length];exact hl,fun a hn=>p1 a C σ S1 _ (I1.grow (aY.heap I1.sh hn)) (aD.refl _) ⟨hc,none,bH,.inl rfl⟩⟩
 . exact p1.elim
theorem yX(h:fW K cls W Av G S₀ S D (rB o)):fW K cls W' Av G S₀ S D o:=by
 cases o with
 |exc ρ c fs=>exact h.elim
 |nx ρ=>exact h
 |bk ρ=>exact h
 |ct ρ=>exact h
 |rt ρ r=>exact h
 |bad=>exact h
theorem Gj{tb:XW->TS}{mb ms:ah->OS}{takes:String->Option Bool}(hb:∀ W,JS K cls W (tb W) mb)(hs:JS K cls (fun _ _ _ _=>False) ts ms)(hT:∀ c C b,cls c=some C->takes c=some b->q8 K T C b):
  JS K cls W (AZ K tb T ts none W) (D4 mb takes ms):=by
 intro Av G S₀ ρ σ S H D I p;refine hb _ Av G S₀ ρ σ S H D I ?_;unfold D4 at p
 cases e:mb ρ with
 | exc ρ' c fs=>
   rw[e]at p
   dsimp only at p
   intro a C σ' S' H' I' s' x H2 g2
   cases et:takes c with
   |none=>rw[et]at p;exact p.elim
   | some b=>
     rw[et]at p
     refine⟨C,b,rfl,hT c C b x.1 et,?_⟩
     have I2:=I'.same g2
     cases b with
     |true=>exact vd (hs Av G S₀ ρ' σ' S' H2 _ I2 (yX (p.back s')))
     |false=>exact wa (p a C σ' S' H2 I2 s' (x.mono (aD.refl _) g2))
 |nx ρ'=>rw[e]at p;exact p
 |bk ρ'=>rw[e]at p;exact p
 |ct ρ'=>rw[e]at p;exact p
 |rt ρ' r=>rw[e]at p;exact p
 |bad=>rw[e]at p;exact p
theorem CK{tb:XW->TS}{mb ms:ah->OS}{takes:String->Option Bool}(hb:∀ W,JS K cls W (tb W) mb)(hs:JS K cls (fun _ _ _ _=>False) ts ms)(hT:∀ c C b,cls c=some C->takes c=some b->q8 K T C b):
  JS K cls W (AZ K tb T ts (some i) W) (v5 i mb takes ms):=by
 intro Av G S₀ ρ σ S H D I p;refine hb _ Av G S₀ ρ σ S H D I ?_;unfold v5 at p
 cases e:mb ρ with
 | exc ρ' c fs=>
   rw[e]at p
   dsimp only at p
   intro a C σ' S' H' I' s' x H2 g2
   cases et:takes c with
   |none=>rw[et]at p;exact p.elim
   | some b=>
     rw[et]at p
     refine⟨C,b,rfl,hT c C b x.1 et,?_⟩
     have I2:=I'.same g2;have x2:=x.mono (aD.refl _) g2
     cases b with
     | true=>
       refine vd (hs Av G S₀ _ _ S' H2 _ (I2.Jk (i:=i) x2) ?_)
       dsimp only at p
       cases eo:ms (ρ'.set i (some (.ex c fs)))with
       |exc ρ c fs=>rw[eo]at p;exact p.elim
       |nx ρ=>rw[eo]at p;exact fun σ3 S3 H3 I3 s3=>p (σ3.set i none) S3 H3 I3.Ai (s'.trans s3)
       |bk ρ=>rw[eo]at p;exact fun σ3 S3 H3 I3 s3=>p (σ3.set i none) S3 H3 I3.Ai (s'.trans s3)
       |ct ρ=>rw[eo]at p;exact fun σ3 S3 H3 I3 s3=>p (σ3.set i none) S3 H3 I3.Ai (s'.trans s3)
       |rt ρ r=>rw[eo]at p;exact fun v σ3 S3 H3 I3 s3 r3=>p v σ3 S3 H3 I3 (s'.trans s3) r3
       |bad=>rw[eo]at p;exact p.elim
     |false=>exact wa (p a C σ' S' H2 I2 s' x2)
 |nx ρ'=>rw[e]at p;exact p
 |bk ρ'=>rw[e]at p;exact p
 |ct ρ'=>rw[e]at p;exact p
 |rt ρ' r=>rw[e]at p;exact p
 |bad=>rw[e]at p;exact p
theorem He{under:String->Bool}(hT:∀ c C,cls c=some C->under c=true->∃ bm,oj K C bm /\ ((∃ B bmB,T=.ref B /\ oj K B bmB /\ (Value.ref C ::bm).contains (.ref B)=true) \/ (T=.ty "ValueError" /\ bm.contains (.type "ValueError")=true))):
  JE K cls W (tCB (fun xs H Q=>∃ a T C dx bm,xs=[.ref a,T] /\ H a=some (qO a C dx) /\ oj K C bm /\ ((∃ B bmB,T=.ref B /\ oj K B bmB /\ (Value.ref C ::bm).contains (.ref B)=true) \/ (T=.ty "ValueError" /\ bm.contains (.type "ValueError")=true)) /\ Q (.bl true) H) (eS (yj i) (eS (tC T) lx))) (D6 i under):=by
 intro Av G S₀ ρ σ S H Q I p;unfold D6 at p;split at p
 . rename_i c fs e;obtain⟨v,e1,a,C,rfl,hc,dx,hx,_⟩:=I.good i _ e;split at p
   . rename_i hu;obtain⟨bm,h1,h2⟩:=hT c C hc hu
     exact⟨_,e1,a,T,C,dx,bm,rfl,hx,h1,h2,p _ S H (aY.refl I.sh) kr⟩
   . exact p.elim
 . exact p.elim
theorem bL.begin(h:bL K S xs vs)(N:List Str)(i:Nat)(s:Sl)(e:(jG N.length xs)[i]?=some (some s)):∃ x v,s=.sh x /\ (L2.start N vs)[i]?=some (some v) /\ Rep K S x v:=by
 unfold jG at e
 by_cases hi:i<xs.length
 . rw[List.getElem?_append_left (by simpa using hi),List.getElem?_map]at e
   have hx:xs[i]?=some xs[i]:=by simp[hi]
   rw[hx]at e;cases e;obtain⟨v,hv,r⟩:=h.get hx
   refine⟨_,v,rfl,?_,r⟩
   unfold L2.start;rw[List.getElem?_append_left (by rw[List.length_map,h.length];exact hi),List.getElem?_map,hv];rfl
 . rw[List.getElem?_append_right (by simpa using hi)]at e;rw[List.getElem?_replicate]at e
   split at e<;>cases e
theorem K4{P:Program}{w:World}{mg:Str->Option Value}{base:Heap}{x qual:Str}{st:Stmt}{f:Addr}{fd:FuncData}{N ps:List Str}{k:Nat}{m:ah->OS}(F:Fun K x qual st f fd)(Sc:aW N ps (aC st))
  (hbody:∀(cdv:Value) (A:Around) (outer:List Env) (s:Shared) (H:Hp) (E:XK),jM k (A.deeper (envOfC qual (aC st) s.heap.objs.size f cdv)) ->
    ∃ t,PSs (qI (CXE P w) P w K mg base N qual (aC st) f cdv A outer s H E) (dH st) t /\ JS K cls (fun C a _ H=>∀ H',aD H H'->E C a H') t m):cD P w K mg base (CXE P w) (k+1) f fd ps (spP K cls (fnP ps.length N.length m)):=by
 refine okX F Sc (fun vs H Q E h=>?_) fun cdv A outer s H vs Q E hr h=>?_
 . obtain⟨S,xs,_,r,q⟩:=h;unfold fnP at q;split at q
   . rw[r.length];assumption
   . exact q.elim
 . obtain⟨S,xs,sS,r,q⟩:=h;unfold fnP at q;split at q
   . rename_i hl;obtain⟨t,ht,J⟩:=hbody cdv A outer s H E hr
     refine⟨t,ht,?_⟩
     refine J (fun _=>none) H S (jG N.length xs) (start N vs) S H _ ⟨fun _=>[],aD.refl _,aD.refl _,sS,fun _ z=>.inl z,fun i s e=>?_,fun i j a h=>(nomatch h),fun i a h=>(nomatch h),?_⟩ ?_
     . obtain⟨x,v,rfl,e1,rx⟩:=r.begin N i s e
       exact⟨v,e1,rfl,rx⟩
     . unfold jG L2.start;simp[r.length]
     . cases e:m (jG N.length xs)with
       |nx ρ'=>rw[e]at q;exact fun σ' S' H' I' s'=>q .non S' H' ⟨I'.s0,I'.gh,I'.sh,I'.new⟩ (by show Rep K S' _ _;unfold Rep;rfl)
       |bk ρ'=>rw[e]at q;exact q.elim
       |ct ρ'=>rw[e]at q;exact q.elim
       |bad=>rw[e]at q;exact q.elim
       | rt ρ' r=>
         rw[e]at q
         cases r with
         |al ys=>exact q.elim
         |sh y=>exact fun v σ' S' H' b' s' rr=>q v S' H' ⟨b'.s0,b'.gh,b'.sh,b'.new⟩ rr
         |fr ys=>exact fun v σ' S' H' b' s' rr=>q v S' H' ⟨b'.s0,b'.gh,b'.sh,b'.new⟩ rr
       | exc ρ' c fs=>
         rw[e]at q
         exact fun a C σ' S' H' I' s' x H2 g2=>q a C S' H2 ⟨I'.s0,I'.gh.trans g2,I'.sh.trans g2,I'.new⟩ (x.mono (aD.refl _) g2)
   . exact q.elim
noncomputable def vO(K:PySem.W.Frag):Sp:=fun vs H Q _=>∃(a:Addr) (ns:List Int),vs=[.ref a] /\ SqL K H a (ns.map V.int) /\ ns.length<=63 /\ ∀ H',Q (.bl true) H'
theorem Ee{f:List PV->OE}(h:∀ ns:List Int,ns.length<=63->f [.lst (ns.map .int)]=.ok (.sh (.bl true)))(vs:List V)(H:Hp)(Q:VK)(E:XK)(q:vO K vs H Q E):spP K cls f vs H Q E:=by
 obtain⟨a,ns,rfl,hS,hl,q⟩:=q
 refine⟨H,[.lst (ns.map .int)],aD.refl _,.cons (by unfold Rep;exact⟨a,_,rfl,hS,bL.ints⟩) .nil,?_⟩
 rw[h ns hl];intro v S' H' w r
 have:v=.bl true:=by have r':Rep K S' (.bl true) v:=r;unfold Rep at r';exact r'
 subst this;exact q H'
end
section
variable{K:PySem.W.Frag}{cls:String->Option Addr}{W:XW}{Av G S₀ S S' H H' B B':Hp}{ρ:ah}{σ:St}{Q:VK}
theorem DK{i:Nat}{te:TE}{me:ah->OE}{f:Int->Int->Int}(he:JE K cls W te me):JS K cls W (D7 i te (ipI f)) (Bi i (gI (fun _ _=>true) fun i j=>.int (f i j)) me):=by
 intro Av G S₀ ρ σ S H D I p;unfold Bi at p;split at p
 . rename_i x e;obtain⟨v,e1,r⟩:=I.good i _ e
   refine⟨v,e1,he.goS I p fun rr u S1 H1 I1 w1 r1 p1=>?_⟩
   have ra:=r1.rd I1.sh
   cases x with
   | int a=>
     cases eb:rr.pv with
     | int b=>
       rw[eb]at p1 ra
       have r':Rep K S (.int a) v:=r
       unfold Rep at r';subst r'
       exact⟨a,b,rfl,cw ra,p1 _ S1 H1 (I1.BU (by unfold Rep;rfl)) (aD.refl _)⟩
     |_=>rw[eb]at p1;exact p1.elim
   |_=>cases eb:rr.pv<;>(rw[eb]at p1;exact p1.elim)
 . exact p.elim
theorem tX{i:Nat}{te:TE}{me:ah->OE}(he:JE K cls W te me):JS K cls W (D7 i te (ipI fun i j=>i+j)) (Bi i bR me):=DK he
theorem A6{x:PV}{v:V}(h:RdV K S H x v):decide (v=.non)=vn x:=by
 cases x with
 |non=>rw[iH h];rfl
 |bl b=>rw[mJ h];rfl
 |int b=>rw[cw h];rfl
 |str b=>rw[iu h];rfl
 |lst xs=>obtain⟨p,vs,rfl,_⟩:=ik h;rfl
 |tup xs=>obtain⟨p,vs,rfl,_⟩:=ly h;rfl
theorem G4:JR K (fun x y H Q=>y=.non /\ Q (.bl (decide (x=.non))) H) CO:=by
 intro S H x y v u rr Q I hx hy e k;unfold CO at e;split at e
 . cases e
   exact⟨iH hy,k _ S H (aY.refl I) (by rw[A6 hx];exact kr)⟩
 . cases e
end
end L2.P
namespace L2
open PySem PySem.Spec PyProof.Rows
structure QE(X:Cx)(e:Expr)(t:TE):Prop where
 out:PE X e t
structure QA(X:Cx)(es:List Expr)(t:TA):Prop where
 out:PA X es t
structure QS(X:Cx)(st:Stmt)(t:TS):Prop where
 out:PS X st t
structure QSs(X:Cx)(st:List Stmt)(t:TS):Prop where
 out:PSs X st t
structure QT(X:Cx)(e:Expr)(t:TT):Prop where
 out:PT X e t
structure QW(X:Cx)(e:Expr)(t:TT):Prop where
 out:PW X e t
structure QI(X:Cx)(tg e:Expr)(t:TI):Prop where
 out:PI X tg e t
structure QG(X:Cx)(e:Expr)(t:TG):Prop where
 out:PG X e t
structure QO(X:Cx)(e:Option Expr)(t:TO):Prop where
 out:PO X e t
end L2
namespace L2
theorem qau(h:True:=by first|rfl|decide|exact .inl rfl|exact .inr rfl|exact .inr (.inl rfl)|exact .inr (.inr rfl)|assumption|(intro _;rfl)|with_unfolding_all rfl):True:=h
end L2
namespace L2.E
open PySem PySem.Spec PyProof.Rows L2
theorem zB:QE X (Expr.Constant (Const.bool b) j pos) (tC (V.bl b)):=⟨Ji ⟩
theorem ae:QE X (Expr.Constant (Const.int i) j pos) (tC (V.int i)):=⟨Ga ⟩
theorem cm:QE X (Expr.Constant (Const.str x) j pos) (tC (V.str x)):=⟨HY ⟩
theorem tM:QE X (Expr.Constant Const.none j pos) (tC V.non):=⟨Ii ⟩
theorem qv{X:Cx}(h1:Nat)(h4:autoParam (X.N[h1]?=some x) qau._auto_1)(h5:autoParam (Vis X.env.scope x) qau._auto_1)(h6:autoParam ((x==Str.ofString "__debug__")=false) qau._auto_1)(h7:autoParam ((x==Str.ofString "__classdict__")=false) qau._auto_1):QE X (Expr.Name x pos) (yj h1):=⟨pv h1 h4 h5 h6 h7⟩
theorem cJ{X:Cx}(h5:Gl X x)(h6:X.mg x=some u)(h7:RelV v u)(h8:autoParam ((x==Str.ofString "__debug__")=false) qau._auto_1):QE X (Expr.Name x pos) (tC v):=⟨EX h5 h6 h7 h8⟩
theorem wR{X:Cx}(h5:Gl X x)(h6:X.mg x=none)(h7:bootBuiltins x=some u)(h8:RelV v u)(h9:autoParam (x≠Str.ofString "__name__") qau._auto_1)(h10:autoParam ((x==Str.ofString "__debug__")=false) qau._auto_1):QE X (Expr.Name x pos) (tC v):=⟨D3 h5 h6 h7 h8 h9 h10⟩
theorem Gx(h4:QE X a ta):QE X (Expr.UnaryOp UnaryOp.Not a pos) (Dq ta):=⟨HD h4.out⟩
theorem gP{r:V->Hp->VK->Prop}(h6:UnR X (unaryOp op) r)(h7:QE X a ta):QE X (Expr.UnaryOp op a pos) (tUn r ta):=⟨JB h6 h7.out⟩
theorem ax(h8:OpR X (binaryOp op) r)(h9:QE X a ta)(h10:QE X b tb):QE X (Expr.BinOp a op b pos) (tOp r ta tb):=⟨IW h8 h9.out h10.out⟩
theorem gW(h8:OpR X (compareOp op) r)(h9:QE X a ta)(h10:QE X b tb)(h11:behindInMarks op b=false):QE X (Expr.Compare a [op] [b] pos) (tOp r ta tb):=⟨EV h8 h9.out h10.out h11⟩
theorem Cq(h12:OpR X (compareOp op) r)(h13:OpR X (compareOp op') r')(h14:QE X a ta)(h15:QE X b tb)(h16:QE X c tc)(h17:autoParam (lastMarks [op,op'] [b,c]=false) qau._auto_1):QE X (Expr.Compare a [op,op'] [b,c] pos) (sP r r' ta tb tc):=⟨BK h12 h13 h14.out h15.out h16.out h17⟩
theorem yA(h5:QE X a t):QE X (Expr.BoolOp op [a] pos) t:=⟨H0 h5.out⟩
theorem wU{X:Cx}{a:Expr}{b:Expr}{ta:TE}{tb:TE}{pos:Pos}{rest:List Expr}(h7:QE X a ta)(h8:QE X (Expr.BoolOp BoolOp.And (b ::rest) pos) tb):QE X (Expr.BoolOp BoolOp.And (a ::b ::rest) pos) (BJ ta tb):=⟨Gg h7.out h8.out⟩
theorem g7(h8:QT X c tA)(h9:QE X a ta)(h10:QE X b tb):QE X (Expr.IfExp c a b pos) (tIf tA ta tb):=⟨Di h8.out h9.out h10.out⟩
theorem bz(h4:QA X es t):QE X (Expr.List es pos) (DR t):=⟨Hh h4.out⟩
theorem df(h5:QA X es t):QE X (Expr.Tuple es x1 pos) (GX t):=⟨HH h5.out⟩
theorem pX{X:Cx}{e:Expr}{te:TE}{lo:Option Expr}{hi:Option Expr}{tl:TO}{th:TO}{pos:Pos}{p2:Pos}{r:V->Option Int->Option Int->Hp->VK->Prop}(h10:SlR X r)(h11:QE X e te)(h12:QO X lo tl)(h13:QO X hi th):QE X (Expr.Subscript e (Expr.Slice lo hi none p2) pos) (tSl r te tl th):=⟨Dk h10 h11.out h12.out h13.out⟩
theorem Jh(h7:IxR X r)(h8:QE X a ta)(h9:QE X b tb)(h10:wq b):QE X (Expr.Subscript a b pos) (tOp r ta tb):=⟨Jy h7 h8.out h9.out h10⟩
theorem n9{X:Cx}{cl:List (Str×Addr)}(h12:lS X scope cl M ι x)(h13:X.calm=true)(h14:QI X (Expr.Name x px) iter wi)(h15:∀(C:Addr) (s₀:Shared) (H₀:Hp) (ex:List Addr),QE (blk X scope cl (M++[x]) C s₀ H₀ ex) elt te)(h16:autoParam (∀(v:Value),foldedSetIterable iter X.env v=pure v) qau._auto_1):QE X (Expr.ListComp elt [Comprehension.mk (Expr.Name x px) iter [] 0] scope pos) (tH wi ι te):=⟨EL h12 h13 h14.out (fun z0 z1 z2 z3=>(h15 z0 z1 z2 z3).out) h16⟩
theorem Du{X:Cx}{x:Str}(h15:cD X.prog X.w X.K X.mg X.base (CXE X.prog X.w) k f fd ps sp)(h16:jM k X.A)(h17:Gl X x)(h18:X.mg x=some (Value.ref f))(h19:PySem.W.keepIn X.K (Value.ref f)=true)(h20:Binds X.K fd ps ds)(h21:Vals dvs ds)(h22:Thr X W)(h23:QA X (e ::es) t)(h24:autoParam ((x==Str.ofString "__debug__")=false) qau._auto_1)(h25:autoParam (starEach (e ::es) X.env=(false,eval e X.env) ::starEach es X.env) qau._auto_1)(h26:autoParam ((List.any (backTo pos (starEach es X.env)) fun x=>x.fst)=false) qau._auto_1):QE X (Expr.Call (Expr.Name x p) (e ::es) [] pos) (tD sp dvs W t):=⟨C8 h15 h16 h17 h18 h19 h20 h21 h22 h23.out h24 h25 h26⟩
theorem jR{X:Cx}{x:Str}{p:Pos}{pos:Pos}{e:Expr}{es:List Expr}{t:TA}{id:String}{r:List V->Hp->VK->Prop}(h9:kb X (Value.builtin id) r)(h10:Gl X x)(h11:X.mg x=none)(h12:bootBuiltins x=some (Value.builtin id))(h13:QA X (e ::es) t)(h14:autoParam (x≠Str.ofString "__name__") qau._auto_1)(h15:autoParam ((x==Str.ofString "__debug__")=false) qau._auto_1)(h16:autoParam (starEach (e ::es) X.env=(false,eval e X.env) ::starEach es X.env) qau._auto_1)(h17:autoParam ((List.any (backTo pos (starEach es X.env)) fun x=>x.fst)=false) qau._auto_1):QE X (Expr.Call (Expr.Name x p) (e ::es) [] pos) (tCB r t):=⟨Cw h9 h10 h11 h12 h13.out h14 h15 h16 h17⟩
theorem cW{X:Cx}{x:Str}{r:List V->Hp->VK->Prop}(h9:kb X (Value.type T) r)(h10:Gl X x)(h11:X.mg x=none)(h12:bootBuiltins x=some (Value.type T))(h13:QA X (e ::es) t)(h14:autoParam (x≠Str.ofString "__name__") qau._auto_1)(h15:autoParam ((x==Str.ofString "__debug__")=false) qau._auto_1)(h16:autoParam (starEach (e ::es) X.env=(false,eval e X.env) ::starEach es X.env) qau._auto_1)(h17:autoParam ((List.any (backTo pos (starEach es X.env)) fun x=>x.fst)=false) qau._auto_1):QE X (Expr.Call (Expr.Name x p) (e ::es) [] pos) (tCB r t):=⟨AM h9 h10 h11 h12 h13.out h14 h15 h16 h17⟩
theorem FZ{X:Cx}{o:Expr}{e:Expr}{es:List Expr}{to:TE}{t:TA}{name:Str}{apos:Pos}{cpos:Pos}{T:String}{id:String}{r:V->List V->Hp->VK->Prop}(h12:PlainAttrs T)(h13:Slot T name id)(h14:typeOf (Value.builtin id)=pure (Value.type "method_descriptor"))(h15:MtR X id r)(h16:QE X o to)(h17:QA X (e ::es) t)(h18:autoParam (attributeBase o name X.env (eval o X.env)=eval o X.env) qau._auto_1)(h19:autoParam ((((List.all (backTo cpos (starEach (e ::es) X.env)) fun x=>!x.fst)&&List.all (backToKw cpos (keywordEach [] X.env)) fun x=>Option.isSome x.fst)&&Decidable.decide ((List.length (e ::es)+List.length ([]:List Keyword)+if List.isEmpty ([]:List Keyword)=true then 0 else 1)<30))=true) qau._auto_1)(h20:autoParam ((apos.endLine==cpos.line)=true) qau._auto_1)(h21:autoParam (starEach (e ::es) X.env=(false,eval e X.env) ::starEach es X.env) qau._auto_1)(h22:autoParam ((List.any (backTo cpos (starEach es X.env)) fun x=>x.fst)=false) qau._auto_1):QE X (Expr.Call (Expr.Attribute o name apos) (e ::es) [] cpos) (tBM X.K T r to t):=⟨IX h12 h13 h14 h15 h16.out h17.out h18 h19 h20 h21 h22⟩
theorem GO{X:Cx}{o:Expr}{to:TE}{name:Str}{apos:Pos}{cpos:Pos}{T:String}{id:String}{r:V->List V->Hp->VK->Prop}(h9:PlainAttrs T)(h10:Slot T name id)(h11:typeOf (Value.builtin id)=pure (Value.type "method_descriptor"))(h12:MtR X id r)(h13:QE X o to)(h14:autoParam (attributeBase o name X.env (eval o X.env)=eval o X.env) qau._auto_1)(h15:autoParam ((apos.endLine==cpos.line)=true) qau._auto_1):QE X (Expr.Call (Expr.Attribute o name apos) [] [] cpos) (HN X.K T r to):=⟨GP h9 h10 h11 h12 h13.out h14 h15⟩
theorem DX:QO X none vk:=⟨DL ⟩
theorem mG(h3:QE X e te):QO X (some e) (BD te):=⟨EY h3.out⟩
theorem av:QA X [] lx:=⟨Gd ⟩
theorem ag(h5:QE X e te)(h6:QA X es t)(h7:autoParam (isStar e=false) qau._auto_1):QA X (e ::es) (eS te t):=⟨BV h5.out h6.out h7⟩
theorem qq(h8:OpR X (compareOp op) r)(h9:QE X a ta)(h10:QE X b tb)(h11:behindInMarks op b=false):QT X (Expr.Compare a [op] [b] pos) (uC (tOp r ta tb)):=⟨DZ h8 h9.out h10.out h11⟩
theorem gf(h12:OpR X (compareOp op) r)(h13:OpR X (compareOp op') r')(h14:QE X a ta)(h15:QE X b tb)(h16:QE X c tc)(h17:autoParam (lastMarks [op,op'] [b,c]=false) qau._auto_1):QT X (Expr.Compare a [op,op'] [b,c] pos) (uC (sP r r' ta tb tc)):=⟨Dt h12 h13 h14.out h15.out h16.out h17⟩
theorem qy(h4:QT X a tA):QT X (Expr.UnaryOp UnaryOp.Not a pos) (G0 tA):=⟨Ia h4.out⟩
theorem b9{X:Cx}(h3:QE X a ta)(h4:∀(whole:Sem Value),
 isTrue a X.env whole=do
  let v <- whole
  standAt (Expr.pos a)
  holding [v] (truthy v)):QT X a fun σ H Q=>ta σ H fun x H'=>∃ k,AQ X.K x H' k /\ Q k H':=⟨Ds h3.out h4⟩
theorem ke(h3:QW X e t):QT X e t:=⟨PW.pt h3.out⟩
theorem jn(h4:QT X a tA):QW X (Expr.BoolOp BoolOp.And [a] pos) tA:=⟨Ek h4.out⟩
theorem tw(h4:QT X a tA):QW X (Expr.BoolOp BoolOp.Or [a] pos) tA:=⟨G1 h4.out⟩
theorem i9{X:Cx}{a:Expr}{b:Expr}{pos:Pos}{tA:TT}{tB':TT}{rest:List Expr}(h7:QT X a tA)(h8:QW X (Expr.BoolOp BoolOp.And (b ::rest) pos) tB'):QW X (Expr.BoolOp BoolOp.And (a ::b ::rest) pos) (HJ tA tB'):=⟨Im h7.out h8.out⟩
theorem tZ{X:Cx}{a:Expr}{b:Expr}{pos:Pos}{tA:TT}{tB':TT}{rest:List Expr}(h7:QT X a tA)(h8:QW X (Expr.BoolOp BoolOp.Or (b ::rest) pos) tB'):QW X (Expr.BoolOp BoolOp.Or (a ::b ::rest) pos) (tOr tA tB'):=⟨JG h7.out h8.out⟩
theorem iz{X:Cx}(h6:Gl X (Str.ofString "range"))(h7:X.mg (Str.ofString "range")=none)(h8:QA X [a] ta)(h9:autoParam (starEach [a] X.env=[(false,eval a X.env)]) qau._auto_1):QI X tg (Expr.Call (Expr.Name (Str.ofString "range") p) [a] [] pos) (zr ta):=⟨Au h6 h7 h8.out h9⟩
theorem uR{X:Cx}(h7:Gl X (Str.ofString "range"))(h8:X.mg (Str.ofString "range")=none)(h9:QA X [a,b] ta)(h10:autoParam (starEach [a,b] X.env=[(false,eval a X.env),(false,eval b X.env)]) qau._auto_1)(h11:autoParam (starEach [b] X.env=[(false,eval b X.env)]) qau._auto_1):QI X tg (Expr.Call (Expr.Name (Str.ofString "range") p) [a,b] [] pos) (B7 ta):=⟨AG h7 h8 h9.out h10 h11⟩
theorem iT{X:Cx}(h4:QE X l tl):QI X tg l (Ah X.K tl):=⟨Eb h4.out⟩
theorem Ih{X:Cx}{pos:Pos}(h7:List.Nodup X.N)(h8:X.N[i]?=some x)(h9:Loc X.env.scope x)(h10:QE X e te)(h11:autoParam (swapsWith e (some (Expr.Name x pos')) pos.line X.env=pure false) qau._auto_1)(h12:autoParam (X.fn x=true \/ List.lookup x X.env.scope.names=some NameKind.local) qau._auto_1):QS X (Stmt.Assign [Expr.Name x pos'] e pos) (qK te (ir i)):=⟨F4 h7 h8 h9 h10.out h11 h12⟩
theorem vW{X:Cx}{pos:Pos}(h6:QE X e te)(h7:QG X tg g)(h8:autoParam (swapsWithSole [tg] e pos.line X.env=pure false) qau._auto_1)(h9:autoParam (swappedStores [tg] e X.env=pure none) qau._auto_1)(h10:autoParam (List.map (fun x=>x.snd) (assignEach [tg] X.env)=[assign tg X.env]) qau._auto_1):QS X (Stmt.Assign [tg] e pos) (qK te g):=⟨Gw h6.out h7.out h8 h9 h10⟩
theorem B5{X:Cx}(h9:List.Nodup X.N)(h10:X.N[i]?=some x)(h11:Loc X.env.scope x)(h12:QE X e te)(h13:PIp X op ti)(h14:autoParam (X.fn x=true \/ List.lookup x X.env.scope.names=some NameKind.local) qau._auto_1):QS X (Stmt.AugAssign (Expr.Name x pos') op e pos) (D7 i te ti):=⟨F8 h9 h10 h11 h12.out h13 h14⟩
theorem bc(h8:QT X c tc)(h9:QSs X a t)(h10:QSs X b u):QS X (Stmt.If c a b pos) (Iv tc t u):=⟨Jw h8.out h9.out h10.out⟩
theorem aM(h4:QE X e te):QS X (Stmt.Return (some e) pos) (EG te):=⟨Hl h4.out⟩
theorem zE{X:Cx}{pos:Pos}(h4:QE X e te)(h5:autoParam (swapsWith e none pos.line X.env=pure false) qau._auto_1):QS X (Stmt.Expr e pos) (tN te):=⟨D2 h4.out h5⟩
theorem ll{X:Cx}(h6:PassesOwn (model X.prog X.w) X.A X.env X.xe)(h7:QT X c tc)(h8:QSs X body tb):QS X (Stmt.While c body [] pos) (yL tc tb):=⟨C3 h6 h7.out h8.out⟩
theorem iw{X:Cx}(h8:PassesOwn (model X.prog X.w) X.A X.env X.xe)(h9:X.calm=true)(h10:QI X tg iter wi)(h11:QG X tg g)(h12:QSs X body tb)(h13:autoParam (∀(x:Value),foldedSetIterable iter X.env x=pure x) qau._auto_1):QS X (Stmt.For tg iter body [] pos) (BA wi g tb):=⟨Hy h8 h9 h10.out h11.out h12.out h13⟩
theorem xj{X:Cx}{x:Str}{np:Pos}{cpos:Pos}{pos:Pos}{e₀:Expr}{rest:List Expr}{t:TA}{W:XW}{C:Addr}{B:String}{newId:String}{initId:String}{bm:List Value}(h14:Thr X W)(h15:X.A.handled=none)(h16:ExcBaseFacts B newId initId bm)(h17:Gl X x)(h18:X.mg x=some (Value.ref C))(h19:PySem.W.excIn X.K C bm newId=true)(h20:QA X (e₀ ::rest) t)(h21:autoParam (starEach (e₀ ::rest) X.env=(false,eval e₀ X.env) ::starEach rest X.env) qau._auto_1)(h22:autoParam ((List.any (backTo cpos (starEach rest X.env)) fun x=>x.fst)=false) qau._auto_1)(h23:autoParam ((x==Str.ofString "__debug__")=false) qau._auto_1):QS X (Stmt.Raise (some (Expr.Call (Expr.Name x np) (e₀ ::rest) [] cpos)) none pos) (yN C W t):=⟨CJ h14 h15 h16 h17 h18 h19 h20.out h21 h22 h23⟩
theorem Gb{X:Cx}{tb:XW->TS}(h12:X.stack=X.env ::X.outer /\ X.env.frame=some X.env.locals)(h13:∀(pn:List (Addr×Obj)) (xe:Value->Shared->Prop) (W:XW),Thr (nB X pn xe) W->PassesOwn (model X.prog X.w) X.A X.env xe->QSs (nB X pn xe) body (tb W))(h14:Gl X x)(h15:X.mg x=some (Value.ref T))(h16:∀(a:Addr),QSs (hand X a) (b₀ ::suite) ts)(h17:Thr X W₀)(h18:autoParam ((x==Str.ofString "__debug__")=false) qau._auto_1):QS X (Stmt.Try body [ExceptHandler.ExceptHandler (some (Expr.Name x np)) none (b₀ ::suite) hpos] [] [] pos) (AZ X.K tb T ts none W₀):=⟨GS h12 (fun z0 z1 z2 z3 z4=>(h13 z0 z1 z2 z3 z4).out) h14 h15 (fun z0=>(h16 z0).out) h17 h18⟩
theorem BR{X:Cx}{tb:XW->TS}(h14:X.stack=X.env ::X.outer /\ X.env.frame=some X.env.locals)(h15:List.Nodup X.N)(h16:X.N[i]?=some n)(h17:List.lookup n X.env.scope.names=some NameKind.local)(h18:∀(pn:List (Addr×Obj)) (xe:Value->Shared->Prop) (W:XW),Thr (nB X pn xe) W->PassesOwn (model X.prog X.w) X.A X.env xe->QSs (nB X pn xe) body (tb W))(h19:Gl X x)(h20:X.mg x=some (Value.ref T))(h21:∀(a:Addr),QSs (hand X a) (b₀ ::suite) ts)(h22:Thr X W₀)(h23:autoParam ((x==Str.ofString "__debug__")=false) qau._auto_1):QS X (Stmt.Try body [ExceptHandler.ExceptHandler (some (Expr.Name x np)) (some n) (b₀ ::suite) hpos] [] [] pos) (AZ X.K tb T ts (some i) W₀):=⟨Bo h14 h15 h16 h17 (fun z0 z1 z2 z3 z4=>(h18 z0 z1 z2 z3 z4).out) h19 h20 (fun z0=>(h21 z0).out) h22 h23⟩
theorem fQ{X:Cx}(h4:List.Nodup X.N)(h5:X.N[i]?=some x)(h6:Loc X.env.scope x)(h7:autoParam (X.fn x=true \/ List.lookup x X.env.scope.names=some NameKind.local) qau._auto_1):QG X (Expr.Name x pos) (ir i):=⟨Ea h4 h5 h6 h7⟩
theorem aJ:QSs X [] Bt:=⟨D5 ⟩
theorem aw{X:Cx}{st:Stmt}{t:TS}(h3:QS X st t):QSs X [st] t:=⟨EH h3.out⟩
theorem aj{X:Cx}{st:Stmt}{rest:List Stmt}{t:TS}{u:TS}(h5:QS X st t)(h6:QSs X rest u):QSs X (st ::rest) (HU t u):=⟨Cd h5.out h6.out⟩
end L2.E
namespace L2.P
open PySem PySem.Spec PyProof.Rows L2 L2.E
theorem eR{K:PySem.W.Frag}{cls:String->Option Addr}{P:Program}{w:World}{mg:Str->Option Value}{base:Heap}{x qual:Str}{st:Stmt}{f:Addr}{fd:FuncData}{N ps:List Str}{k:Nat}{m:ah->OS}(F:Fun K x qual st f fd)(Sc:aW N ps (aC st))
  (hbody:∀(cdv:Value) (A:Around) (outer:List Env) (s:Shared) (H:Hp) (E:XK),jM k (A.deeper (envOfC qual (aC st) s.heap.objs.size f cdv)) ->
    ∃ t,QSs (qI (CXE P w) P w K mg base N qual (aC st) f cdv A outer s H E) (dH st) t /\ JS K cls (fun C a _ H=>∀ H',aD H H'->E C a H') t m):cD P w K mg base (CXE P w) (k+1) f fd ps (spP K cls (fnP ps.length N.length m)):=
 K4 F Sc fun cdv A outer s H E hr=>let ⟨t,h1,h2⟩:=hbody cdv A outer s H E hr;⟨t,h1.out,h2⟩
end L2.P
namespace L2.E
open PySem PySem.Spec PyProof.Rows L2
end L2.E
namespace L2.P
open PySem PySem.Spec PyProof.Rows L2 L2.E
end L2.P
namespace L2.E
open PySem PySem.Spec PyProof.Rows L2
section
variable{prog:Program}{w:World}{A:Around}{E:Value->Shared->Prop}{s:Shared}{K:PySem.W.Frag}{x C:Addr}{name:Str}{v:Value}
open PySem.W in
open PySem.W in
end
noncomputable def I9(a C:Addr)(dx:Option Addr)(h:Heap):Prop:=∃ o t,h.get? a=some o /\ o.cls=.ref C /\ o.dict=dx /\ o.data=.fields #[.ref t,.none,.none,.none,.bool false,.none]
theorem I9.exc{a C:Addr}{dx:Option Addr}{h:Heap}(x:I9 a C dx h):B1 a C dx h:=let ⟨o,t,e,c,d,f⟩:=x;⟨o,_,e,c,d,f,rfl⟩
section
variable{prog:Program}{w:World}{A:Around}{E:Value->Shared->Prop}{s:Shared}{K:PySem.W.Frag}{x C:Addr}{name:Str}{v:Value}{tk:Tok}
open PySem.W in
end
section
variable{prog:Program}{w:World}{A:Around}{E:Value->Shared->Prop}{hh:Heap}{g:Array GenState}{d:Drawn}{t:Nat}{os:OsState}{K:PySem.W.Frag}{x C:Addr}{name:Str}{v:Value}{tk:Tok}
open PySem.W in
end
section
variable{prog:Program}{w:World}{A:Around}{E:Value->Shared->Prop}{s:Shared}{K:PySem.W.Frag}{x C:Addr}{name:Str}{v:Value}
open PySem.W in
end
section
variable{prog:Program}{w:World}{A:Around}{E:Value->Shared->Prop}{h:Heap}{g:Array GenState}{d:Drawn}{t:Nat}{os:OsState}{K:PySem.W.Frag}
variable{nm q:Str}{C N:Addr}{bs bm bmB:List Value}{hdct:Bool}{sn:List Str}{sub:List Value}{ab:Bool}{col:Option Bool}{dd:Option Addr}{k0 k1 k2 k3 k5:Option Value}{B newId initId:String}
open PySem.W in
open PySem.W in
end
theorem vb{X:Cx}{o i:Expr}{to ti:TE}{t:EU}{pos:Pos}(ho:QE X o to)(hi:QE X i ti)(hs:GI X t)
  (ha:∀ v,assign (.Subscript o i pos) X.env v=(do
    let ov <- holding [v] (eval o X.env)
    let iv <- holding [v,ov] (eval i X.env)
    standAt pos
    holding [v,ov,iv] (setItem ov iv v)
    release [v,ov,iv] []):=by intro _;rfl):QG X (.Subscript o i pos) (HV to ti t):=⟨G5 ho.out hi.out hs ha⟩
end L2.E
namespace L2.P
open PySem PySem.Spec PyProof.Rows L2 L2.E
end L2.P
namespace L2.P
open PySem
inductive Stp where
 |ix (k:Nat)|fd (f:Str)
noncomputable def uD:List Str->List OV->Str->Option OV
 |k ::ks,t ::ts,f=>if k=f then some t else uD ks ts f
 |_,_,_=>none
noncomputable def CG:List Str->List OV->Str->OV->List OV
 |k ::ks,t ::ts,f,u=>if k=f then u ::ts else t ::CG ks ts f u
 |_,ts,_,_=>ts
noncomputable def OV.at1:OV->Stp->Option OV
 |.ol ts,.ix k=>ts[k]?
 |.ob _ ks ts,.fd f=>uD ks ts f
 |_,_=>none
noncomputable def OV.il:OV->Stp->OV->OV
 |.ol ts,.ix k,u=>.ol (ts.set k u)
 |.ob c ks ts,.fd f,u=>.ob c ks (CG ks ts f u)
 |t,_,_=>t
noncomputable def OV.get:OV->List Stp->Option OV
 |t,[]=>some t
 |t,s ::π=>(t.at1 s).bind fun u=>u.get π
noncomputable def OV.put:OV->List Stp->OV->OV
 |_,[],u=>u
 | t,s ::π,u=>match t.at1 s with
   |some t'=>t.il s (t'.put π u)
   |none=>t
noncomputable def slT:Sl->Option OV
 |.tr _ t=>some t
 |.bo t=>some t
 |_=>none
noncomputable def gb(i:Nat)(ρ:ah):Option OV:=match ρ[i]? with
 |some (some s)=>slT s
 |_=>none
abbrev MP:=ah->Option (List Stp)
noncomputable def aI:MP:=fun _=>some []
noncomputable def pIx(i:Nat)(mp:MP)(mk:ah->OE):MP:=fun ρ=>match gb i ρ with
 | some t=>(match mp ρ with
   | some π=>(match t.get π with
     | some (.ol ts)=>(match mk ρ with
       | .ok r=>(match r.pv with
         |.int k=>(ixP ts.length k).map fun j=>π++[.ix j]
         |_=>none)
       |_=>none)
     |_=>none)
   |none=>none)
 |none=>none
noncomputable def subAt(i:Nat)(mp:MP)(ρ:ah):Option OV:=match gb i ρ with
 | some t=>(match mp ρ with
   |some π=>t.get π
   |none=>none)
 |none=>none
noncomputable def uj:List OV->Option (List PV)
 |[]=>some []
 |.sh x ::r=>(uj r).map (x ::·)
 |_ ::_=>none
@[simp] theorem IF(xs:List PV):uj (xs.map .sh)=some xs:=by
  induction xs with
  |nil=>rfl
  |cons x xs ih=>show(uj (xs.map .sh)).map (x ::·)=_;rw[ih];rfl
noncomputable def cM(i:Nat)(mp:MP):ah->OE:=fun ρ=>match subAt i mp ρ with
 |some (.sh x)=>.ok (.sh x)
 | some (.ol ts)=>(match uj ts with
   |some xs=>.ok (.al xs)
   |none=>.bad)
 |_=>.bad
noncomputable def cX(i:Nat)(mp:MP):ah->OT:=fun ρ=>match subAt i mp ρ with
 |some (.ol ts)=>.ok (!ts.isEmpty)
 |_=>.bad
noncomputable def eQ(i:Nat)(mp:MP):ah->OE:=fun ρ=>match subAt i mp ρ with
 |some (.ol ts)=>.ok (.sh (.int ts.length))
 |_=>.bad
inductive OD where
 |ok (t:OV)|exc (c:String) (fs:XF)|bad
inductive ODs where
 |ok (ts:List OV)|exc (c:String) (fs:XF)|bad
noncomputable def mD(me:ah->OE):ah->OD:=fun ρ=>match me ρ with
 |.ok (.sh x)=>.ok (.sh x)
 |.ok (.fr xs)=>.ok (.ol (xs.map .sh))
 |.ok (.al _)=>.bad
 |.exc c fs=>.exc c fs
 |.bad=>.bad
noncomputable def mDn:ah->ODs:=fun _=>.ok []
noncomputable def mDc(md:ah->OD)(mr:ah->ODs):ah->ODs:=fun ρ=>match md ρ with
 | .ok t=>(match mr ρ with
   |.ok ts=>.ok (t ::ts)
   |.exc c fs=>.exc c fs
   |.bad=>.bad)
 |.exc c fs=>.exc c fs
 |.bad=>.bad
noncomputable def mDl(mr:ah->ODs):ah->OD:=fun ρ=>match mr ρ with
 |.ok ts=>if ts.length<=lim then .ok (.ol ts)else .bad
 |.exc c fs=>.exc c fs
 |.bad=>.bad
noncomputable def oQ(i:Nat)(md:ah->OD):ah->OS:=fun ρ=>match md ρ with
 |.ok t=>.nx (ρ.set i (some (.tr false t)))
 |.exc c fs=>.exc ρ c fs
 |.bad=>.bad
noncomputable def wO(i:Nat)(mp:MP)(ρ:ah)(k:OV->(OV->ah)->OS):OS:=match ρ[i]? with
 | some (some (.tr io t))=>(match mp ρ with
   | some π=>(match t.get π with
     |some u=>k u fun u'=>ρ.set i (some (.tr io (t.put π u')))
     |none=>.bad)
   |none=>.bad)
 |_=>.bad
noncomputable def bK(i:Nat)(mp:MP)(md:ah->OD):ah->OS:=fun ρ=>wO i mp ρ fun u put=>match u with
 | .ol ts=>(match md ρ with
   |.ok x=>if ts.length<lim then .nx (put (.ol (ts++[x])))else .bad
   |.exc c fs=>.exc ρ c fs
   |.bad=>.bad)
 |_=>.bad
noncomputable def nc(i:Nat)(mp:MP)(mk:ah->OE)(md:ah->OD):ah->OS:=fun ρ=>match md ρ with
 | .ok x=>wO i mp ρ fun u put=>(match u with
   | .ol ts=>(mk ρ).bY ρ fun r=>(match r.pv with
     | .int k=>(match ixP ts.length k with
       |some j=>.nx (put (.ol (ts.set j x)))
       |none=>.bad)
     |_=>.bad)
   |_=>.bad)
 |.exc c fs=>.exc ρ c fs
 |.bad=>.bad
inductive OX where
 |ok (ρ:ah) (s:Sl)|exc (ρ:ah) (c:String) (fs:XF)|bad
noncomputable def slO:OV->Sl
 |.sh x=>.sh x
 |t=>.tr false t
noncomputable def u1(i:Nat)(mp:MP):ah->OX:=fun ρ=>match ρ[i]? with
 | some (some (.tr io t))=>(match mp ρ with
   | some π=>(match t.get π with
     | some (.ol ts)=>(match ts.getLast? with
       |some x=>.ok (ρ.set i (some (.tr io (t.put π (.ol ts.dropLast))))) (slO x)
       |none=>.bad)
     |_=>.bad)
   |none=>.bad)
 |_=>.bad
noncomputable def nio:Sl->Bool
 |.tr true _=>false
 |.bo _=>false
 |_=>true
noncomputable def la(i:Nat)(m:ah->OX):ah->OS:=fun ρ=>match m ρ with
 |.ok ρ' s=>if nio s then .nx (ρ'.set i (some s))else .bad
 |.exc ρ' c fs=>.exc ρ' c fs
 |.bad=>.bad
mutual
noncomputable def pvO:OV->Option PV
 |.sh x=>some x
 |.ol ts=>(tY ts).map .lst
 |.ob _ _ _=>none
 |.di _=>none
 |.dt _=>none
noncomputable def tY:List OV->Option (List PV)
 |[]=>some []
 |t ::ts=>(pvO t).bind fun x=>(tY ts).map (x ::·)
end
noncomputable def nZ(i:Nat)(ρ:ah):ah:=match ρ[i]? with
 | some (some (.tr false t))=>(match pvO t with
   |some x=>ρ.set i (some (.sh x))
   |none=>ρ)
 |_=>ρ
noncomputable def ny(i:Nat)(m:ah->OS):ah->OS:=fun ρ=>m (nZ i ρ)
inductive OI where
 |ok (x:PV) (outs:List (Option OV))|exc (c:String) (fs:XF) (outs:List (Option OV))|bad
inductive Arg where
 |e (me:ah->OE)|t (i:Nat) (mp:MP)|b (i:Nat) (mp:MP)
noncomputable def qh:Option Sl->Option OV
 |some (.tr true t)=>some t
 |_=>none
noncomputable def yV(np:Nat):OS->OI
 |.nx ρ=>.ok .non ((ρ.take np).map qh)
 |.rt ρ (.sh x)=>.ok x ((ρ.take np).map qh)
 |.exc ρ c fs=>.exc c fs ((ρ.take np).map qh)
 |_=>.bad
noncomputable def km(n:Nat)(as:List Sl):ah:=as.map some++List.replicate (n - as.length) none
noncomputable def fnI(np n:Nat)(m:ah->OS)(as:List Sl):OI:=if as.length=np then yV np (m (km n as))else .bad
noncomputable def AS(a:Arg)(ρ:ah):Option Sl:=match a with
 | .e me=>(match me ρ with
   |.ok r=>(lG r).map .sh
   |_=>none)
 | .t i mp=>(match ρ[i]? with
   |some (some (.tr _ t))=>((mp ρ).bind fun π=>t.get π).map (.tr true)
   |_=>none)
 |.b i mp=>(subAt i mp ρ).map .bo
noncomputable def qc:List Arg->ah->Option (List Sl)
 |[],_=>some []
 |a ::as,ρ=>(AS a ρ).bind fun s=>(qc as ρ).map (s ::·)
noncomputable def ku(ρ₀:ah):Arg->Option OV->ah->ah
 | .t i mp,some u,ρ=>(match ρ[i]? with
   | some (some (.tr io t))=>(match mp ρ₀ with
     |some π=>ρ.set i (some (.tr io (t.put π u)))
     |none=>ρ.set i none)
   |_=>ρ.set i none)
 |.t i _,none,ρ=>ρ.set i none
 |_,_,ρ=>ρ
noncomputable def fi(ρ₀:ah):List Arg->List (Option OV)->ah->ah
 |[],_,ρ=>ρ
 |a ::as,us,ρ=>fi ρ₀ as us.tail (ku ρ₀ a us.head?.join ρ)
noncomputable def kl(f:List Sl->OI)(as:List Arg):ah->OX:=fun ρ=>match qc as ρ with
 | some ss=>(match f ss with
   |.ok x outs=>.ok (fi ρ as outs ρ) (.sh x)
   |.exc c fs outs=>.exc (fi ρ as outs ρ) c fs
   |.bad=>.bad)
 |none=>.bad
noncomputable def L0(c:String)(f:List Sl->OI):ah->OD:=fun _=>match f [.tr true (.ob c [] [])]with
 |.ok .non (some t ::_)=>.ok t
 |_=>.bad
noncomputable def GR(i j:Nat)(mb:ah->OS):List PV->ah->OS
 |[],ρ=>.nx ρ
 |.tup [x,y] ::xs,ρ=>(mb ((ρ.set i (some (.sh x))).set j (some (.sh y)))).turn (GR i j mb xs)
 |_ ::_,_=>.bad
noncomputable def I8(k:Nat):List PV->List PV
 |[]=>[]
 |x ::xs=>.tup [.int k,x] ::I8 (k+1) xs
noncomputable def Lz(ml:ah->OE)(ι:List Nat)(me:ah->OE):ah->OE:=fun ρ=>(ml ρ).bind fun r=>match r.pv with
 |.tup xs=>noX (cS me (cp ι ρ) xs)
 |_=>.bad
noncomputable def fk(mc:ah->OT)(me:ah->OE)(ρ:ah):List PV->OA
 |[]=>.ok []
 | x ::xs=>(match mc (ρ++[some (.sh x)])with
   | .ok true=>(me (ρ++[some (.sh x)])).eH fun r=>(match lG r with
     |some y=>(fk mc me ρ xs).eH fun ys=>.ok (y ::ys)
     |none=>.bad)
   |.ok false=>fk mc me ρ xs
   |_=>.bad)
noncomputable def Jo(ml:ah->OE)(ι:List Nat)(mc:ah->OT)(me:ah->OE):ah->OE:=fun ρ=>(ml ρ).bind fun r=>match r.pv with
 |.lst xs=>noX (fk mc me (cp ι ρ) xs)
 |_=>.bad
noncomputable def kD:PV->Option RV
 |.lst xs=>some (.sh (.tup xs))
 |.tup xs=>some (.sh (.tup xs))
 |_=>none
mutual
noncomputable def gk:PV->PV->Bool
 |.non,y=>(match y with|.non=>true|_=>false)
 |.bl a,y=>(match y with|.bl b=>a==b|.int j=>(if a then 1 else 0)==j|_=>false)
 |.int i,y=>(match y with|.bl b=>i==(if b then 1 else 0)|.int j=>i==j|_=>false)
 |.str x,y=>(match y with|.str z=>x==z|_=>false)
 |.lst xs,y=>(match y with|.lst ys=>kR xs ys|_=>false)
 |.tup xs,y=>(match y with|.tup ys=>kR xs ys|_=>false)
noncomputable def kR:List PV->List PV->Bool
 |[],ys=>(match ys with|[]=>true|_ ::_=>false)
 |x ::xs,ys=>(match ys with|y ::ys=>gk x y&&kR xs ys|[]=>false)
end
mutual
noncomputable def jV:PV->Nat->Bool
 |.str x,_=>x.cps.all (·<0x110000)
 |.lst xs,n=>(match n with|0=>false|n+1=>nr xs n)
 |.tup xs,n=>(match n with|0=>false|n+1=>nr xs n)
 |_,_=>true
noncomputable def nr:List PV->Nat->Bool
 |[],_=>true
 |x ::xs,n=>jV x n&&nr xs n
end
noncomputable def ot:PV->PV->Option RV:=fun x y=>if(jV x 64&&jV y 64)=true then some (.sh (.bl (gk x y)))else none
noncomputable def BC:PV->PV->Option RV:=fun x y=>if(jV x 64&&jV y 64)=true then some (.sh (.bl (!gk x y)))else none
theorem pj(ns:List Int):∀ ms:List Int,kR (ns.map .int) (ms.map .int)=decide (ns=ms):=by
 induction ns with
 |nil=>intro ms;cases ms<;>simp[kR]
 | cons n ns ih=>
   intro ms
   cases ms with
   |nil=>simp[kR]
   |cons m ms=>simp[kR,gk,ih,Bool.beq_eq_decide_eq]
theorem o3(ns:List Int)(n:Nat):nr (ns.map .int) n=true:=by
 induction ns with
 |nil=>simp[nr]
 |cons n ns ih=>simp[nr,jV,ih]
noncomputable def gQ:PV->Bool
 |.lst _=>false
 |.tup _=>false
 |_=>true
noncomputable def vx:PV->PV->Option Bool
 |x,.tup ys=>if ys.all gQ=true then some (ys.any fun y=>gk y x)else none
 |x,.lst ys=>if ys.all gQ=true then some (ys.any fun y=>gk y x)else none
 |_,_=>none
noncomputable def gIn:PV->PV->Option RV:=fun x y=>(vx x y).map fun b=>.sh (.bl b)
noncomputable def y0:PV->PV->Option RV:=fun x y=>(vx x y).map fun b=>.sh (.bl (!b))
noncomputable def vB(kvs:List (Int×PV)):PV->Option RV
 |.int n=>some (.sh ((kvs.lookup n).getD .non))
 |_=>none
end L2.P
namespace L2
open PySem PySem.Spec PyProof.Rows
end L2
namespace L2.P
open PySem PySem.Spec PyProof.Rows L2 L2.E PySem.SeqAt
mutual
noncomputable def dOf:PV->PyData
 |.non=>.none
 |.bl b=>.bool b
 |.int i=>.int i
 |.str x=>.str x
 |.lst xs=>.list (pY xs)
 |.tup xs=>.tuple (pY xs)
noncomputable def pY:List PV->List PyData
 |[]=>[]
 |x ::xs=>dOf x ::pY xs
end
mutual
theorem wo:∀ x y:PV,PyData.eqv (dOf x) (dOf y)=gk x y
 |.non,y=>by cases y<;>simp[dOf,PyData.eqv,gk]
 |.bl a,y=>by cases y<;>simp[dOf,PyData.eqv,gk]
 |.int a,y=>by cases y<;>simp[dOf,PyData.eqv,gk]
 |.str a,y=>by cases y<;>simp[dOf,PyData.eqv,gk]
 |.lst xs,y=>by cases y<;>simp[dOf,PyData.eqv,gk,tu xs]
 |.tup xs,y=>by cases y<;>simp[dOf,PyData.eqv,gk,tu xs]
theorem tu:∀ xs ys:List PV,PyData.eqvAll (pY xs) (pY ys)=kR xs ys
 |[],ys=>by cases ys<;>simp[pY,PyData.eqvAll,kR]
 |x ::xs,ys=>by cases ys<;>simp[pY,PyData.eqvAll,kR,wo x,tu xs]
end
mutual
theorem CU:∀(x:PV) (n:Nat),jV x n=true->(dOf x).canLay0=true /\ (dOf x).depth<=n
 |.non,n,h=>by simp[dOf,PyData.canLay0,PyData.depth]
 |.bl a,n,h=>by simp[dOf,PyData.canLay0,PyData.depth]
 |.int a,n,h=>by simp[dOf,PyData.canLay0,PyData.depth]
 |.str a,n,h=>by simp[dOf,PyData.canLay0,PyData.depth];exact h
 | .lst xs,n,h=>by
   cases n with
   |zero=>simp[jV]at h
   | succ n=>
     have:=vA xs n (by simpa [jV]using h);simp[dOf,PyData.canLay0,PyData.depth]
     exact⟨this.1,by omega⟩
 | .tup xs,n,h=>by
   cases n with
   |zero=>simp[jV]at h
   | succ n=>
     have:=vA xs n (by simpa [jV]using h);simp[dOf,PyData.canLay0,PyData.depth]
     exact⟨this.1,by omega⟩
theorem vA:∀(xs:List PV) (n:Nat),nr xs n=true->PyData.canLayAll0 (pY xs)=true /\ PyData.depthAll (pY xs)<=n
 |[],n,h=>by simp[pY,PyData.canLayAll0,PyData.depthAll]
 | x ::xs,n,h=>by
   simp[nr]at h;have h1:=CU x n h.1;have h2:=vA xs n h.2;simp[pY,PyData.canLayAll0,PyData.depthAll]
   exact⟨⟨h1.1,h2.1⟩,by omega⟩
end
section
variable{X:Cx}{pins:List (Addr×Obj)}{σ:St}{H:Hp}{s:Shared}
mutual
theorem mV(I:Inv X pins σ H s):∀(x:PV) (v:V) (u:Value),Rep X.K H x v->RelV v u->∃ as,Reads s.heap u (dOf x) as
 |.non,v,u,h,r=>by unfold Rep at h;subst h;cases r;exact⟨_,.none⟩
 |.bl b,v,u,h,r=>by unfold Rep at h;subst h;cases r;exact⟨_,.bool b⟩
 |.int i,v,u,h,r=>by unfold Rep at h;subst h;obtain⟨t,rfl⟩:=r;exact⟨_,.int i t⟩
 |.str x,v,u,h,r=>by unfold Rep at h;subst h;obtain⟨t,rfl⟩:=r;exact⟨_,.str x t⟩
 | .lst xs,v,u,h,r=>by
   unfold Rep at h;obtain⟨p,vs,rfl,hq,hr⟩:=h;cases r;obtain⟨its,rv,pl,hz⟩:=I.list hq;obtain⟨as,ra⟩:=m8 I xs vs its hr rv;obtain⟨o,e,c,n,d⟩:=pl.isList
   exact⟨_,.list (xs:=pY xs) e c d (by simpa using ra)⟩
 | .tup xs,v,u,h,r=>by
   unfold Rep at h;obtain⟨p,vs,rfl,hq,hr⟩:=h;cases r;obtain⟨its,rv,pl,hz⟩:=I.tuple hq;obtain⟨as,ra⟩:=m8 I xs vs its hr rv;obtain⟨o,e,c,n,d⟩:=pl
   exact⟨_,.tuple (xs:=pY xs) e c d (by simpa using ra)⟩
theorem m8(I:Inv X pins σ H s):∀(xs:List PV) (vs:List V) (us:List Value),bL X.K H xs vs->Vals vs us->∃ as,ReadsAll s.heap us (pY xs) as
 |[],vs,us,h,r=>by rw[h.nil_inv]at r;cases r;exact⟨_,.nil⟩
 | x ::xs,vs,us,h,r=>by
   obtain⟨v,t,rfl,h1,h2⟩:=h.cons_inv
   cases r with
   | cons r1 r2=>
     obtain⟨as,ra⟩:=mV I x _ _ h1 r1;obtain⟨bs,rb⟩:=m8 I xs _ _ h2 r2
     exact⟨_,.cons ra rb⟩
end
noncomputable def EC(K:PySem.W.Frag)(A:Around)(neg:Bool):R2:=fun v u H Q=>∃ x y,Rep K H x v /\ Rep K H y u /\ (jV x 64&&jV y 64)=true /\ A.units+64<cLine /\ Q (.bl (if neg then !gk x y else gk x y)) H
theorem n4{x:PV}(h:jV x 64=true):shaped (dOf x)=true:=by
 have:=CU x 64 h;unfold shaped;simp[this]
theorem qV:OpR X (compareOp .Eq) (EC X.K X.A false):=by
 intro pins s σ H v u a b Q I rx ry h;obtain⟨x,y,h1,h2,ok,hu,q⟩:=h;rw[Bool.and_eq_true]at ok;obtain⟨as,ra⟩:=mV I x v a h1 rx;obtain⟨bs,rb⟩:=mV I y u b h2 ry;refine eq_dataH ra rb (n4 ok.1) (n4 ok.2) hu ⟨.bl _,H,I,rfl,?_⟩;rw[wo];exact q
theorem Ik:OpR X (compareOp .NotEq) (EC X.K X.A true):=by
 intro pins s σ H v u a b Q I rx ry h;obtain⟨x,y,h1,h2,ok,hu,q⟩:=h;rw[Bool.and_eq_true]at ok;obtain⟨as,ra⟩:=mV I x v a h1 rx;obtain⟨bs,rb⟩:=mV I y u b h2 ry;refine ne_dataH ra rb (n4 ok.1) (n4 ok.2) hu ⟨.bl _,H,I,rfl,?_⟩;rw[wo];exact q
end
section
variable{K:PySem.W.Frag}{S H:Hp}
theorem RdV.rep{x:PV}{v:V}(h:RdV K S H x v)(s:aD S H):Rep K H x v:=by
 cases x with
 |lst xs=>obtain⟨p,vs,e,q,r⟩:=h;unfold Rep;exact⟨p,vs,e,q,r.mono s⟩
 |non=>exact Rep.mono s h
 |bl b=>exact Rep.mono s h
 |int i=>exact Rep.mono s h
 |str x=>exact Rep.mono s h
 |tup xs=>exact Rep.mono s h
theorem qQ{A:Around}(hu:A.units+64<cLine):JR K (EC K A false) ot:=by
 intro S H x y v u rr Q I hx hy e k;unfold ot at e;split at e
 . rename_i ok;cases e
   exact⟨x,y,hx.rep I,hy.rep I,ok,hu,k _ S H (aY.refl I) kr⟩
 . cases e
theorem G3{A:Around}(hu:A.units+64<cLine):JR K (EC K A true) BC:=by
 intro S H x y v u rr Q I hx hy e k;unfold BC at e;split at e
 . rename_i ok;cases e
   exact⟨x,y,hx.rep I,hy.rep I,ok,hu,k _ S H (aY.refl I) kr⟩
 . cases e
end
section
variable{X:Cx}{K:PySem.W.Frag}{S H:Hp}
theorem tp{x:PV}{v:V}(h:Rep K H x v)(f:gQ x=true):oR v=true:=by
 cases x with
 |lst xs=>cases f
 |tup xs=>cases f
 |non=>unfold Rep at h;subst h;rfl
 |bl b=>unfold Rep at h;subst h;rfl
 |int b=>unfold Rep at h;subst h;rfl
 |str b=>unfold Rep at h;subst h;rfl
theorem Ec{x y:PV}{v u:V}(h:Rep K H x v)(k:Rep K H y u)(f:gQ x=true)(g:gQ y=true):eqV u v=gk y x:=by
 cases x<;>first|(cases f;done)|skip
 all_goals(unfold Rep at h;subst h;cases y<;>first|(cases g;done)|(unfold Rep at k;subst k;simp[eqV,gk]))
theorem u4{xs:List PV}{vs:List V}(h:bL K H xs vs)(f:xs.all gQ=true):vs.all oR=true:=by
 induction xs generalizing vs with
 |nil=>rw[h.nil_inv];rfl
 | cons x xs ih=>
   obtain⟨v,r,rfl,h1,h2⟩:=h.cons_inv
   rw[List.all_cons,Bool.and_eq_true]at f ⊢
   exact⟨tp h1 f.1,ih h2 f.2⟩
theorem yi{x:PV}{v:V}{xs:List PV}{vs:List V}(hx:Rep K H x v)(g:gQ x=true)(h:bL K H xs vs)(f:xs.all gQ=true):inV v vs=xs.any fun y=>gk y x:=by
 induction xs generalizing vs with
 |nil=>rw[h.nil_inv];rfl
 | cons y xs ih=>
   obtain⟨u,r,rfl,h1,h2⟩:=h.cons_inv;rw[List.all_cons,Bool.and_eq_true]at f;have:=ih h2 f.2
   unfold inV at this ⊢
   rw[List.any_cons,List.any_cons,this,Ec hx h1 g f.1]
theorem yg{x:PV}{xs:List PV}(g:gQ x=false)(f:xs.all gQ=true):(xs.any fun y=>gk y x)=false:=by
 induction xs with
 |nil=>rfl
 | cons y xs ih=>
   rw[List.all_cons,Bool.and_eq_true]at f;rw[List.any_cons,ih f.2,Bool.or_false];have f1:=f.1
   cases y<;>first|(cases f1;done)|(cases x<;>first|(cases g;done)|simp[gk])
theorem wQ{α:Type}(l:List α):(l.any fun _=>false)=false:=by induction l<;>simp_all
theorem pT{A:Around}{s:Shared}{pins:List (Addr×Obj)}{σ:St}(I:Inv X pins σ H s)(hu:A.units<cLine){x:PV}{v:V}{a:Value}(hx:Rep X.K H x v)(ra:RelV v a)(g:gQ x=false):
  ∀{xs:List PV} {vs:List V} {us:List Value},bL X.K H xs vs->Vals vs us->xs.all gQ=true->∀ u∈us,EqAt A s u a false:=by
 intro xs
 induction xs with
 |nil=>intro vs us h r _ u hu;rw[h.nil_inv]at r;cases r;cases hu
 | cons y xs ih=>
   intro vs us h r f u hm;obtain⟨w,t,rfl,h1,h2⟩:=h.cons_inv;rw[List.all_cons,Bool.and_eq_true]at f
   cases r with
   | cons r1 r2=>
     rcases List.mem_cons.mp hm with rfl|hm
     . cases x with
       |non=>cases g
       |bl b=>cases g
       |int b=>cases g
       |str b=>cases g
       | lst zs=>
         unfold Rep at hx;obtain⟨p,us',rfl,hq,_⟩:=hx;cases ra;obtain⟨its,_,pl,_⟩:=I.list hq
         cases y with
         |non=>unfold Rep at h1;subst h1;cases r1;exact EqAt.none_list pl.isList hu
         |bl b=>unfold Rep at h1;subst h1;cases r1;exact EqAt.bool_list b pl.isList hu
         |int b=>unfold Rep at h1;subst h1;obtain⟨t',rfl⟩:=r1;exact EqAt.int_list b t' pl.isList hu
         |str b=>unfold Rep at h1;subst h1;obtain⟨t',rfl⟩:=r1;exact EqAt.str_list b t' pl.isList hu
         |lst _=>cases f.1
         |tup _=>cases f.1
       | tup zs=>
         unfold Rep at hx;obtain⟨p,us',rfl,hq,_⟩:=hx;cases ra;obtain⟨its,_,pl,_⟩:=I.tuple hq
         cases y with
         |non=>unfold Rep at h1;subst h1;cases r1;exact EqAt.none_tuple pl hu
         |bl b=>unfold Rep at h1;subst h1;cases r1;exact EqAt.bool_tuple b pl hu
         |int b=>unfold Rep at h1;subst h1;obtain⟨t',rfl⟩:=r1;exact EqAt.int_tuple b t' pl hu
         |str b=>unfold Rep at h1;subst h1;obtain⟨t',rfl⟩:=r1;exact EqAt.str_tuple b t' pl hu
         |lst _=>cases f.1
         |tup _=>cases f.1
     . exact ih h2 r2 f.2 u hm
noncomputable def Ca(K:PySem.W.Frag)(A:Around)(neg:Bool):R2:=fun v u H Q=>∃ x ys p vs,Rep K H x v /\ u=.ref p /\ (SqL K H p vs \/ SqT K H p vs) /\ bL K H ys vs /\ ys.all gQ=true /\ A.units+64<cLine /\ Q (.bl (if neg then !(ys.any fun y=>gk y x)else ys.any fun y=>gk y x)) H
theorem yr:OpR X (compareOp .In) (Ca X.K X.A false):=by
 intro pins s σ H v u a b Q I rx ry h;obtain⟨x,ys,p,vs,hx,rfl,hq,hr,hf,hu,q⟩:=h
 cases g:gQ x with
 |true=>exact Ba pins s σ H v _ a b Q I rx ry ⟨p,vs,rfl,hq,tp hx g,u4 hr hf,by rw[yi hx g hr hf];exact q⟩
 | false=>
   rw[yg g hf]at q;cases ry
   rcases hq with hq|hq
   . obtain⟨its,r,pl,hz⟩:=I.list hq;refine SeqAt.in_listAt (fun _=>false) pl.isList (fun w hw=>pT I (by show X.A.units+1<cLine;omega) hx rx g hr r hf w (by simpa using hw)) ⟨.bl _,H,I,rfl,?_⟩;rw[show(its.toArray.any fun _=>false)=false by simp[wQ]];exact q
   . obtain⟨its,r,pl,hz⟩:=I.tuple hq;refine SeqAt.in_tupleAt (fun _=>false) pl (fun w hw=>pT I (by show X.A.units+1<cLine;omega) hx rx g hr r hf w (by simpa using hw)) ⟨.bl _,H,I,rfl,?_⟩;rw[show(its.toArray.any fun _=>false)=false by simp[wQ]];exact q
theorem A9:OpR X (compareOp .NotIn) (Ca X.K X.A true):=by
 intro pins s σ H v u a b Q I rx ry h;obtain⟨x,ys,p,vs,hx,rfl,hq,hr,hf,hu,q⟩:=h
 cases g:gQ x with
 |true=>exact vM pins s σ H v _ a b Q I rx ry ⟨p,vs,rfl,hq,tp hx g,u4 hr hf,by rw[yi hx g hr hf];exact q⟩
 | false=>
   rw[yg g hf]at q;cases ry
   rcases hq with hq|hq
   . obtain⟨its,r,pl,hz⟩:=I.list hq;refine SeqAt.notIn_listAt (fun _=>false) pl.isList (fun w hw=>pT I (by show X.A.units+1<cLine;omega) hx rx g hr r hf w (by simpa using hw)) ⟨.bl _,H,I,rfl,?_⟩;rw[show(its.toArray.any fun _=>false)=false by simp[wQ]];exact q
   . obtain⟨its,r,pl,hz⟩:=I.tuple hq;refine SeqAt.notIn_tupleAt (fun _=>false) pl (fun w hw=>pT I (by show X.A.units+1<cLine;omega) hx rx g hr r hf w (by simpa using hw)) ⟨.bl _,H,I,rfl,?_⟩;rw[show(its.toArray.any fun _=>false)=false by simp[wQ]];exact q
theorem zI{A:Around}{neg:Bool}{x y:PV}{v u:V}{b:Bool}{Q:VK}(hu:A.units+64<cLine)(I:aD S H)(hx:RdV K S H x v)(hy:RdV K S H y u)(e:vx x y=some b)(k:∀ z S' H',aY S H S' H'->kP K H S' H' (.sh (.bl (if neg then !b else b))) z->Q z H'):Ca K A neg v u H Q:=by
 cases y with
 | tup ys=>
   simp only[vx]at e
   by_cases hf:ys.all gQ=true
   . rw[if_pos hf]at e;cases e;obtain⟨p,vs,rfl,hq,hr⟩:=ly hy
     exact⟨x,ys,p,vs,hx.rep I,rfl,.inr (aD.tup I hq),hr.mono I,hf,hu,k _ S H (aY.refl I) kr⟩
   . rw[if_neg hf]at e;cases e
 | lst ys=>
   simp only[vx]at e
   by_cases hf:ys.all gQ=true
   . rw[if_pos hf]at e;cases e;obtain⟨p,vs,rfl,hq,hr⟩:=ik hy
     exact⟨x,ys,p,vs,hx.rep I,rfl,.inl hq,hr.mono I,hf,hu,k _ S H (aY.refl I) kr⟩
   . rw[if_neg hf]at e;cases e
 |_=>simp only[vx]at e;cases e
theorem Cg{A:Around}(hu:A.units+64<cLine):JR K (Ca K A false) gIn:=by
 intro S H x y v u rr Q I hx hy e k;obtain⟨b,e1,e2⟩:=Option.map_eq_some_iff.mp e;subst e2;exact zI hu I hx hy e1 k
theorem B0{A:Around}(hu:A.units+64<cLine):JR K (Ca K A true) y0:=by
 intro S H x y v u rr Q I hx hy e k;obtain⟨b,e1,e2⟩:=Option.map_eq_some_iff.mp e;subst e2;exact zI hu I hx hy e1 k
end
end L2.P
namespace L2.P
open PySem PySem.Spec PyProof.Rows L2 L2.E
section
variable{K:PySem.W.Frag}{cls:String->Option Addr}{W:XW}{Av G S₀ S S' H H' B B':Hp}{ρ:ah}{σ:St}{Q:VK}
noncomputable abbrev g2(K:PySem.W.Frag)(i j:Nat):TG:=KI K 2 (Fs (ir i) (Fs (ir j) K1))
end
end L2.P
namespace L2.E
open PySem PySem.Spec PyProof.Rows L2
end L2.E
namespace L2.P
open PySem PySem.Spec PyProof.Rows L2 L2.E
section
variable{K:PySem.W.Frag}{cls:String->Option Addr}{W:XW}{Av G S₀ S S' H H' B B':Hp}{ρ:ah}{σ:St}{Q:VK}{F:Nat->List Addr}
theorem bt.length{ts:List OV}{vs:List V}(h:bt K cls S H ts vs f):vs.length=ts.length:=by
 induction ts generalizing vs f with
 |nil=>unfold bt at h;rw[h.1];rfl
 | cons t ts ih=>
   unfold bt at h;obtain⟨v,r,f1,f2,rfl,_,_,h2⟩:=h;simp[ih h2]
theorem bt.cons_inv(h:bt K cls S H (t ::ts) vs fp):∃ v r f1 f2,vs=v ::r /\ fp=f1++f2 /\ bB K cls S H t v f1 /\ bt K cls S H ts r f2:=by unfold bt at h;exact h
theorem bt.cons(h:bB K cls S H t v f1)(r:bt K cls S H ts vs f2):bt K cls S H (t ::ts) (v ::vs) (f1++f2):=by unfold bt;exact⟨v,vs,f1,f2,rfl,rfl,h,r⟩
theorem bt.nil:bt K cls S H [] [] []:=by unfold bt;exact⟨rfl,rfl⟩
theorem bt.append(h:bt K cls S H ts vs f)(k:bt K cls S H us ws g):bt K cls S H (ts++us) (vs++ws) (f++g):=by
 induction ts generalizing vs f with
 |nil=>unfold bt at h;rw[h.1,h.2];exact k
 | cons t ts ih=>
   obtain⟨v,r,f1,f2,rfl,rfl,h1,h2⟩:=h.cons_inv;have:=bt.cons h1 (ih h2);rw[List.append_assoc];exact this
theorem bt.shs{xs:List PV}(h:bL K S xs vs):bt K cls S H (xs.map .sh) vs []:=by
 induction xs generalizing vs with
 |nil=>rw[h.nil_inv];exact .nil
 | cons x xs ih=>
   obtain⟨v,r,rfl,h1,h2⟩:=h.cons_inv;exact bt.cons (f1:=[]) (by unfold bB;exact⟨rfl,h1⟩) (ih h2)
theorem bt.flat(e:uj ts=some xs)(h:bt K cls S H ts vs f):bL K S xs vs /\ f=[]:=by
 induction ts generalizing xs vs f with
 |nil=>cases e;unfold bt at h;rw[h.1,h.2];exact⟨.nil,rfl⟩
 | cons t ts ih=>
   cases t with
   | sh x=>
     obtain⟨ys,e1,e2⟩:=Option.map_eq_some_iff.mp e;subst e2;obtain⟨v,r,f1,f2,rfl,rfl,h1,h2⟩:=h.cons_inv;unfold bB at h1;obtain⟨h3,h4⟩:=ih e1 h2
     exact⟨.cons h1.2 h3,by rw[h1.1,h4];rfl⟩
   |ol _=>cases e
   |ob _ _ _=>cases e
   |di _=>cases e
   |dt _=>cases e
theorem bt.at{ts:List OV}{vs:List V}{f:List Addr}(h:bt K cls S H ts vs f)(e:ts[k]?=some u):
  ∃ w f1 rest,vs[k]?=some w /\ bB K cls S H u w f1 /\ f.Perm (f1++rest) /\
    ∀ S' H' u' w' f',aD S S'->bB K cls S' H' u' w' f'->(∀ a∈rest,∀ o,H a=some o->H' a=some o)->∃ g,bt K cls S' H' (ts.set k u') (vs.set k w') g /\ g.Perm (f'++rest):=by
 induction ts generalizing vs f k with
 |nil=>simp at e
 | cons t ts ih=>
   obtain⟨v,r,f1,f2,rfl,rfl,h1,h2⟩:=h.cons_inv
   cases k with
   | zero=>
     simp at e;subst e
     refine⟨v,f1,f2,rfl,h1,List.Perm.refl _,fun S' H' u' w' f' s r' g=>?_⟩
     exact⟨f'++f2,bt.cons r' (h2.mono s g),List.Perm.refl _⟩
   | succ k=>
     simp at e;obtain⟨w,g1,rest,e1,r1,p1,c1⟩:=ih h2 e
     refine⟨w,g1,f1++rest,by simpa using e1,r1,?_,fun S' H' u' w' f' s r' g=>?_⟩
     . have:(f1++f2).Perm (f1++(g1++rest)):=List.Perm.append_left f1 p1
       refine this.trans ?_;rw[<- List.append_assoc,<- List.append_assoc];exact List.Perm.append_right rest List.perm_append_comm
     . obtain⟨g2,r2,p2⟩:=c1 S' H' u' w' f' s r' fun a ha=>g a (List.mem_append_right _ ha)
       refine⟨f1++g2,bt.cons (h1.mono s fun a ha=>g a (List.mem_append_left _ ha)) r2,?_⟩
       refine(List.Perm.append_left f1 p2).trans ?_
       rw[<- List.append_assoc,<- List.append_assoc];exact List.Perm.append_right rest List.perm_append_comm
theorem En{ts:List OV}(h:uD ks ts f=some u):∃ k,ts[k]?=some u /\ ks[k]?=some f /\ (∀ u',CG ks ts f u'=ts.set k u') /\ ∀{α:Type} (us:List (Str×α)),us.map (·.1)=ks->us.lookup f=(us.map (·.2))[k]?:=by
 induction ks generalizing ts with
 |nil=>simp[uD]at h
 | cons g ks ih=>
   cases ts with
   |nil=>simp[uD]at h
   | cons t ts=>
     unfold uD at h;split at h
     . rename_i e;subst e;cases h
       refine⟨0,rfl,rfl,fun u'=>by simp[CG],fun us eu=>?_⟩
       cases us with
       |nil=>cases eu
       | cons q us=>
         simp at eu;obtain⟨a,b⟩:=q;simp at eu;rw[<- eu.1];simp[List.lookup]
     . rename_i ne;obtain⟨k,e1,e2,e3,e4⟩:=ih h
       refine⟨k+1,by simpa using e1,by simpa using e2,fun u'=>by simp[CG,ne,e3],fun us eu=>?_⟩
       cases us with
       |nil=>cases eu
       | cons q us=>
         obtain⟨a,b⟩:=q;simp at eu
         have:(f==a)=false:=by rw[eu.1];simpa using Ne.symm ne
         simp[List.lookup,this,e4 us eu.2]
noncomputable def uX(H:Hp):Stp->V->V->Prop
 |.ix k,v,w=>∃ p vs,v=.ref p /\ H p=some (.lst vs) /\ vs[k]?=some w
 |.fd f,v,w=>∃ p C dx us,v=.ref p /\ H p=some (.ins C dx us) /\ us.lookup f=some w
noncomputable def i4(H:Hp):V->List Stp->V->Prop
 |v,[],w=>w=v
 |v,s ::π,w=>∃ u,uX H s v u /\ i4 H u π w
theorem uX.inj(h:uX H s v w)(k:uX H s v w'):w=w':=by
 cases s with
 | ix n=>
   obtain⟨p,vs,rfl,e1,e2⟩:=h;obtain⟨p',vs',e3,e4,e5⟩:=k;cases e3;rw[e1]at e4;cases e4;rw[e2]at e5;cases e5;rfl
 | fd f=>
   obtain⟨p,C,dx,us,rfl,e1,e2⟩:=h;obtain⟨p',C',dx',us',e3,e4,e5⟩:=k;cases e3;rw[e1]at e4;cases e4;rw[e2]at e5;cases e5;rfl
theorem i4.inj:∀{v w w':V},i4 H v π w->i4 H v π w'->w=w':=by
 induction π with
 |nil=>intro v w w' h k;rw[h,k]
 | cons s π ih=>
   rintro v w w' ⟨u,h1,h2⟩ ⟨u',k1,k2⟩
   have:=h1.inj k1;subst this;exact ih h2 k2
theorem i4.snoc:∀{v w u:V},i4 H v π w->uX H s w u->i4 H v (π++[s]) u:=by
 induction π with
 |nil=>intro v w u h k;rw[h]at k;exact⟨u,k,rfl⟩
 | cons t π ih=>
   rintro v w u ⟨x,h1,h2⟩ k
   exact⟨x,h1,ih h2 k⟩
theorem i4.mono(g:aD H H'):∀{v w:V},i4 H v π w->i4 H' v π w:=by
 induction π with
 |nil=>intro v w h;exact h
 | cons t π ih=>
   rintro v w ⟨x,h1,h2⟩
   refine⟨x,?_,ih h2⟩
   cases t with
   |ix k=>obtain⟨p,vs,e,e1,e2⟩:=h1;exact⟨p,vs,e,g _ _ e1,e2⟩
   |fd f=>obtain⟨p,C,dx,us,e,e1,e2⟩:=h1;exact⟨p,C,dx,us,e,g _ _ e1,e2⟩
theorem bB.step{t u:OV}{fp:List Addr}(h:bB K cls S H t v fp)(e:t.at1 s=some u):
  ∃ w f1 rest,uX H s v w /\ bB K cls S H u w f1 /\ fp.Perm (f1++rest) /\
    ∀ S' H' u' f',aD S S'->bB K cls S' H' u' w f'->(∀ a∈rest,∀ o,H a=some o->H' a=some o)->∃ g,bB K cls S' H' (t.il s u') v g /\ g.Perm (f'++rest):=by
 cases t with
 |sh x=>cases s<;>cases e
 |di x=>cases s<;>cases e
 |dt x=>cases s<;>cases e
 | ol ts=>
   cases s with
   |fd f=>cases e
   | ix k=>
     unfold bB at h;obtain⟨p,vs,f,rfl,hp,rfl,r⟩:=h;obtain⟨w,f1,rest,e1,r1,p1,c1⟩:=r.at e
     refine⟨w,f1,p ::rest,⟨p,vs,rfl,hp,e1⟩,r1,?_,fun S' H' u' f' s r' g=>?_⟩
     . exact(List.Perm.cons p p1).trans (List.perm_middle.symm)
     . obtain⟨g2,r2,p2⟩:=c1 S' H' u' w f' s r' fun a ha=>g a (by simp[ha])
       refine⟨p ::g2,?_,(List.Perm.cons p p2).trans List.perm_middle.symm⟩
       rw[jH e1]at r2;unfold OV.il bB
       exact⟨p,vs,g2,rfl,g p (by simp) _ hp,rfl,r2⟩
 | ob c ks ts=>
   cases s with
   |ix k=>cases e
   | fd f=>
     unfold bB at h;obtain⟨p,C,dx,us,ff,rfl,hc,hp,hd,hk,rfl,r⟩:=h;obtain⟨k,e1,e2,e3,e4⟩:=En e;obtain⟨w,f1,rest,q1,r1,p1,c1⟩:=r.at e1
     refine⟨w,f1,p ::dx ::rest,⟨p,C,dx,us,rfl,hp,by rw[e4 us hk];exact q1⟩,r1,?_,fun S' H' u' f' s r' g=>?_⟩
     . exact((List.Perm.cons p ((List.Perm.cons dx p1).trans List.perm_middle.symm))).trans List.perm_middle.symm
     . obtain⟨g2,r2,p2⟩:=c1 S' H' u' w f' s r' fun a ha=>g a (by simp[ha])
       refine⟨p ::dx ::g2,?_,(List.Perm.cons p ((List.Perm.cons dx p2).trans List.perm_middle.symm)).trans List.perm_middle.symm⟩
       rw[jH q1]at r2;unfold OV.il bB
       exact⟨p,C,dx,us,g2,rfl,hc,g p (by simp) _ hp,g dx (by simp) _ hd,hk,rfl,by rw[e3];exact r2⟩
theorem bB.focus:∀{t u:OV} {v:V} {fp:List Addr},bB K cls S H t v fp->t.get π=some u ->
  ∃ w f1 rest,i4 H v π w /\ bB K cls S H u w f1 /\ fp.Perm (f1++rest) /\
    ∀ S' H' u' f',aD S S'->bB K cls S' H' u' w f'->(∀ a∈rest,∀ o,H a=some o->H' a=some o)->∃ g,bB K cls S' H' (t.put π u') v g /\ g.Perm (f'++rest):=by
 induction π with
 | nil=>
   intro t u v fp h e;cases e
   exact⟨v,fp,[],rfl,h,by simp,fun S' H' u' f' _ r' _=>⟨f',by unfold OV.put;exact r',by simp⟩⟩
 | cons s π ih=>
   intro t u v fp h e;unfold OV.get at e;obtain⟨t1,e1,e2⟩:=Option.bind_eq_some_iff.mp e;obtain⟨w1,f1,rest1,st,r1,p1,c1⟩:=h.step e1;obtain⟨w,f2,rest2,wk,r2,p2,c2⟩:=ih r1 e2
   refine⟨w,f2,rest2++rest1,⟨w1,st,wk⟩,r2,?_,fun S' H' u' f' s' r' g=>?_⟩
   . rw[<- List.append_assoc];exact p1.trans (List.Perm.append_right rest1 p2)
   . obtain⟨g1,q1,k1⟩:=c2 S' H' u' f' s' r' fun a ha=>g a (List.mem_append_left _ ha)
     obtain⟨g2,q2,k2⟩:=c1 S' H' _ g1 s' q1 fun a ha=>g a (List.mem_append_right _ ha)
     refine⟨g2,?_,?_⟩
     . unfold OV.put;rw[e1];exact q2
     . rw[<- List.append_assoc];exact k2.trans (List.Perm.append_right rest1 k1)
theorem SR.tree(I:SR K cls Av G S₀ ρ σ S H)(e:gb i ρ=some t):∃ v fp,σ[i]?=some (some v) /\ bB K cls S H t v fp:=by
 obtain⟨F,J⟩:=I;unfold gb at e
 cases q:ρ[i]? with
 |none=>rw[q]at e;cases e
 | some o=>
   cases o with
   |none=>rw[q]at e;cases e
   | some s=>
     rw[q]at e;obtain⟨v,e1,r⟩:=J.own i s q
     cases s with
     |tr io t'=>cases e;exact⟨v,_,e1,r.1⟩
     | bo t'=>
       cases e;obtain⟨_,f,r⟩:=r
       exact⟨v,f,e1,r.mono (aD.refl _) fun _ _ _ h=>J.gh _ _ h⟩
     |sh x=>cases e
     |ow xs=>cases e
     |ex c fs=>cases e
noncomputable def JP(K:PySem.W.Frag)(cls:String->Option Addr)(te:TE)(i:Nat)(mp:MP):Prop:=∀ Av G S₀ ρ σ S H Q v0 t π,SR K cls Av G S₀ ρ σ S H->gb i ρ=some t->σ[i]?=some (some v0)->mp ρ=some π->(t.get π).isSome=true ->
 (∀ w S' H',aY S H S' H'->i4 H' v0 π w->Q w H')->te σ H Q
theorem aR:JP K cls (yj i) i aI:=by
 intro Av G S₀ ρ σ S H Q v0 t π I e ev ep _ k;cases ep
 exact⟨v0,ev,k v0 S H (aY.refl I.sh) rfl⟩
theorem Jz{mk:ah->OE}(hp:JP K cls te i mp)(hk:JE K cls W tk mk):JP K cls (tOp (EW K) te tk) i (pIx i mp mk):=by
 intro Av G S₀ ρ σ S H Q v0 t π I e ev ep hs k;unfold pIx at ep;rw[e]at ep
 dsimp only at ep
 split at ep
 . rename_i π0 e0;split at ep
   . rename_i ts e1;split at ep
     . rename_i r er;split at ep
       . rename_i n en;obtain⟨j,ej,e2⟩:=Option.map_eq_some_iff.mp ep;subst e2
         refine hp Av G S₀ ρ σ S H _ v0 t π0 I e ev e0 (by rw[e1];rfl) fun w S1 H1 w1 wk=>?_
         refine hk Av G S₀ ρ σ S1 H1 _ (I.grow w1) ?_;rw[er];intro u S2 H2 w2 ru;have I2:=(I.grow w1).grow w2
         have hu:u=.int n:=by have:=ru.rd I2.sh;rw[en]at this;exact cw this
         subst hu;obtain⟨v,fp,ev',ro⟩:=I2.tree e;rw[ev]at ev';cases ev';obtain⟨w',f1,rest,wk',r',_,_⟩:=ro.focus e1;have:=(wk.mono w2.g).inj wk';subst this;unfold bB at r';obtain⟨p,vs,f,rfl,hl,rfl,rs⟩:=r'
         have hj:j<ts.length:=by
          have h1:L2.atI ts n=ts[j]?:=by unfold L2.atI;show(ixP ts.length n).bind _=_;rw[ej];rfl
          unfold ixP at ej;split at ej
          . split at ej
            . cases ej;omega
            . cases ej
          . split at ej
            . cases ej;omega
            . cases ej
         have hjv:j<vs.length:=by rw[rs.length];exact hj
         have hx:vs[j]?=some vs[j]:=by simp[hjv]
         refine⟨p,vs,n,vs[j],rfl,rfl,SqL.new hl,?_,k _ S2 H2 (w1.trans w2) (wk'.snoc ⟨p,vs,rfl,hl,hx⟩)⟩
         unfold L2.atI
         show(ixP vs.length n).bind _=_
         rw[rs.length,ej];exact hx
       . cases ep
     . cases ep
   . cases ep
 . cases ep
theorem JP.sub(hp:JP K cls te i mp)(I:SR K cls Av G S₀ ρ σ S H)(e:subAt i mp ρ=some u)
  (k:∀ w S' H' f,aY S H S' H'->SR K cls Av G S₀ ρ σ S' H'->bB K cls S' H' u w f->Q w H'):te σ H Q:=by
 unfold subAt at e;split at e
 . rename_i t et;split at e
   . rename_i π eπ;obtain⟨v0,fp0,ev,_⟩:=I.tree et
     refine hp Av G S₀ ρ σ S H _ v0 t π I et ev eπ (by rw[e];rfl) fun w S1 H1 w1 wk=>?_
     obtain⟨v,fp,ev',ro⟩:=(I.grow w1).tree et;rw[ev]at ev';cases ev';obtain⟨w',f1,rest,wk',r',_,_⟩:=ro.focus e;have:=wk.inj wk';subst this;exact k w S1 H1 f1 w1 (I.grow w1) r'
   . cases e
 . cases e
theorem gy(hp:JP K cls te i mp):JE K cls W te (cM i mp):=by
 intro Av G S₀ ρ σ S H Q I p;unfold cM at p;split at p
 . rename_i x e
   refine hp.sub I e fun w S1 H1 f w1 _ r=>?_
   unfold bB at r;exact p w S1 H1 w1 r.2
 . rename_i ts e;split at p
   . rename_i xs ex
     refine hp.sub I e fun w S1 H1 f w1 _ r=>?_
     unfold bB at r;obtain⟨q,vs,ff,rfl,hq,_,rs⟩:=r;exact p _ S1 H1 w1 ⟨q,vs,rfl,SqL.new hq,(rs.flat ex).1⟩
   . exact p.elim
 . exact p.elim
theorem gO(hp:JP K cls te i mp):JT K cls W (fun σ H Q=>te σ H fun x H'=>∃ k,AQ K x H' k /\ Q k H') (cX i mp):=by
 intro Av G S₀ ρ σ S H Q I p;unfold cX at p;split at p
 . rename_i ts e
   refine hp.sub I e fun w S1 H1 f w1 _ r=>?_
   unfold bB at r;obtain⟨q,vs,ff,rfl,hq,_,rs⟩:=r
   refine⟨_,.inl ⟨vs,SqL.new hq,rfl⟩,?_⟩
   have:vs.isEmpty=ts.isEmpty:=by
    have:=rs.length
    cases vs<;>cases ts<;>simp_all
   rw[this];exact p S1 H1 w1
 . exact p.elim
theorem iO(hp:JP K cls te i mp):JE K cls W (tCB (fun xs H Q=>∃ p ys,xs=[.ref p] /\ (SqL K H p ys \/ SqT K H p ys) /\ Q (.int ys.length) H) (eS te lx)) (eQ i mp):=by
 intro Av G S₀ ρ σ S H Q I p;unfold eQ at p;split at p
 . rename_i ts e
   refine hp.sub I e fun w S1 H1 f w1 _ r=>?_
   unfold bB at r;obtain⟨q,vs,ff,rfl,hq,_,rs⟩:=r
   exact⟨q,vs,rfl,.inl (SqL.new hq),p _ S1 H1 w1 (by show Rep K S1 _ _;unfold Rep;rw[rs.length])⟩
 . exact p.elim
end
section
variable{K:PySem.W.Frag}{cls:String->Option Addr}{W:XW}{Av G S₀ S S' H H' B B':Hp}{ρ:ah}{σ:St}{Q:VK}{F:Nat->List Addr}
theorem SRF.part{t u:OV}(J:SRF K cls Av G S₀ ρ σ S H F)(hi:ρ[i]?=some (some (.tr io t)))(hv:σ[i]?=some (some v0))(e:t.get π=some u):
  ∃ w f1 rest,i4 H v0 π w /\ bB K cls S H u w f1 /\ (F i).Perm (f1++rest) /\ (f1++rest).Nodup /\ (∀ a∈f1,G a=none /\ S a=none) /\
    ∀ S' H' u' f',aD S S'->aD S' H'->aD G H'->(∀ b,S' b≠none->S₀ b≠none \/ G b=none)->bB K cls S' H' u' w f'->f'.Nodup->(∀ a∈f',a∈f1 \/ H a=none)->(∀ a∈f',S' a=none) ->
      (∀ a o,a∉f1->H a=some o->H' a=some o)->(∀ a,S' a≠none->S a≠none \/ H a=none \/ a∈f1) ->
      ∃ g,SRF K cls Av G S₀ (ρ.set i (some (.tr io (t.put π u')))) σ S' H' (mQ F i g) /\ g.Perm (f'++rest):=by
 obtain⟨v,ev,ro,nd,gs,hio⟩:=J.own i _ hi;rw[hv]at ev;cases ev;obtain⟨w,f1,rest,wk,r1,p1,c1⟩:=ro.focus e
 have nd1:(f1++rest).Nodup:=p1.nodup_iff.mp nd
 have in1:∀ a,a∈f1->a∈F i:=fun a ha=>p1.mem_iff.mpr (List.mem_append_left _ ha)
 have inr:∀ a,a∈rest->a∈F i:=fun a ha=>p1.mem_iff.mpr (List.mem_append_right _ ha)
 have off1:∀ a,a∈rest->a∉f1:=fun a ha hb=>(List.nodup_append.mp nd1).2.2 a hb a ha rfl
 refine⟨w,f1,rest,wk,r1,p1,nd1,fun a ha=>gs a (in1 a ha),fun S' H' u' f' s sh gh new r' nd' fr nS keep nw=>?_⟩
 obtain⟨g,rg,pg⟩:=c1 S' H' u' f' s r' fun a ha o h=>keep a o (off1 a ha) h
 have noS:∀ j a,a∈F j->a∉f1->S' a=none:=fun j a ha hb=>by
  cases q:S' a with
  |none=>rfl
  | some o=>
    obtain⟨⟨o',h1,_⟩,_,h3⟩:=J.live j a ha
    rcases nw a (by rw[q];simp)with z|z|z
    . exact absurd h3 z
    . rw[h1]at z;cases z
    . exact absurd z hb
 have J1:SRF K cls Av G S₀ (ρ.set i none) (σ.set i none) S H (mQ F i []):=J.put (fun t e=>nomatch e) (fun a ha=>nomatch ha) fun j a _ ha=>nomatch ha
 have off:∀ j a,a∈mQ F i [] j->a∉f1 /\ j≠i:=fun j a ha=>by
  by_cases ej:j=i
  . subst ej;rw[gZ]at ha;cases ha
  . rw[ee ej]at ha
    exact⟨fun hb=>ej (J.apart j i a ha (in1 a hb)),ej⟩
 have J2:=J1.change (S':=S') (H':=H') gh s sh new (fun j a ha o h=>keep a o (off j a ha).1 h)
  (fun b o hx h=>keep b o (fun hb=>by
    obtain⟨⟨o',h1,h2⟩,_⟩:=J.live i b (in1 b hb)
    rw[h]at h1;cases h1;rw[hx]at h2;cases h2) h)
  fun j a ha=>by
   have hj:=off j a ha;rw[ee hj.2]at ha;exact noS j a ha hj.1
 have mem:∀ a,a∈g->a∈f' \/ a∈rest:=fun a ha=>List.mem_append.mp (pg.mem_iff.mp ha)
 have hlive:∀ a∈g,(∃ o,H' a=some o /\ isX o=false) /\ G a=none /\ S' a=none:=fun a ha=>by
  refine⟨rg.live a ha,?_,?_⟩
  . rcases mem a ha with z|z
    . rcases fr a z with y|y
      . exact(gs a (in1 a y)).1
      . exact J.gh.free y
    . exact(gs a (inr a z)).1
  . rcases mem a ha with z|z
    . exact nS a z
    . exact noS i a (inr a z) (off1 a z)
 have ndg:g.Nodup:=pg.nodup_iff.mpr (List.nodup_append.mpr ⟨nd',(List.nodup_append.mp nd1).2.1,fun a ha b hb z=>by
  subst z
  rcases fr a ha with y|y
  . exact off1 a hb y
  . obtain⟨⟨o',h1,_⟩,_⟩:=J.live i a (inr a hb)
    rw[y]at h1;cases h1⟩)
 have J3:=J2.put (i:=i) (s:=some (.tr io (t.put π u'))) (u:=some v0) (fp:=g) (fun t' e=>by
  cases e
  exact⟨v0,rfl,rg,ndg,fun a ha=>⟨(hlive a ha).2.1,(hlive a ha).2.2⟩,hio⟩) hlive fun j a hj ha hz=>by
   rw[ee hj]at hz
   rcases mem a ha with z|z
   . rcases fr a z with y|y
     . exact hj (J.apart j i a hz (in1 a y))
     . obtain⟨⟨o',h1,_⟩,_⟩:=J.live j a hz;rw[y]at h1;cases h1
   . exact hj (J.apart j i a hz (inr a z))
 rw[List.set_set,List.set_set,jH hv]at J3
 have eF:mQ (mQ F i []) i g=mQ F i g:=by
  funext j
  by_cases ej:j=i
  . subst ej;rw[gZ,gZ]
  . rw[ee ej,ee ej,ee ej]
 rw[eF]at J3
 exact⟨g,J3,pg⟩
theorem SRF.more(I:SRF K cls Av G S₀ ρ σ S H F)(h:∀ t,s=some t->∃ v,u=some v /\ rF K cls Av G S H ρ.length t v fp)
  (hl:∀ a∈fp,(∃ o,H a=some o /\ isX o=false) /\ G a=none /\ S a=none) (ap:∀ j a,j<ρ.length->a∈fp->a∉F j):∃ F',SRF K cls Av G S₀ (ρ++[s]) (σ++[u]) S H F':=by
 refine⟨fun j=>if j<ρ.length then F j else if j=ρ.length then fp else[],I.gh,I.s0,I.sh,I.new,fun j t e=>?_,fun j k a h1 h2=>?_,fun j a ha=>?_,by simp[I.len]⟩
 . by_cases hj:j<ρ.length
   . rw[List.getElem?_append_left hj]at e;rw[List.getElem?_append_left (by rw[<- I.len];exact hj)];simp only[hj,if_true];exact I.own j t e
   . rw[List.getElem?_append_right (Nat.le_of_not_lt hj)]at e
     have h0:j - ρ.length=0:=by
      by_cases h:j - ρ.length=0
      . exact h
      . rw[List.getElem?_eq_none (by simp;omega)]at e;cases e
     rw[h0]at e
     have ej:j=ρ.length:=by omega
     obtain⟨v,e2,r⟩:=h t (Option.some.inj e)
     refine⟨v,?_,?_⟩
     . rw[List.getElem?_append_right (by rw[<- I.len];omega),<- I.len,h0,e2];rfl
     . subst ej;simp only[Nat.lt_irrefl,if_false,if_true];exact r
 . by_cases hj:j<ρ.length
   . simp only[hj,if_true]at h1
     by_cases hk:k<ρ.length
     . simp only[hk,if_true]at h2;exact I.apart j k a h1 h2
     . simp only[hk,if_false]at h2;split at h2
       . exact absurd h1 (ap j a hj h2)
       . cases h2
   . simp only[hj,if_false]at h1;split at h1
     . rename_i ej
       by_cases hk:k<ρ.length
       . simp only[hk,if_true]at h2;exact absurd h2 (ap k a hk h1)
       . simp only[hk,if_false]at h2;split at h2
         . rename_i ek;rw[ej,ek]
         . cases h2
     . cases h1
 . by_cases hj:j<ρ.length
   . simp only[hj,if_true]at ha;exact I.live j a ha
   . simp only[hj,if_false]at ha;split at ha
     . exact hl a ha
     . cases ha
theorem SR.fold(I:SR K cls Av G S₀ (ρ++[some s]) (σ++[some v]) S H)(hs:nio s=true):SR K cls Av G S₀ (ρ.set i (some s)) (σ.set i (some v)) S H:=by
 obtain⟨F,J⟩:=I
 have hlen:ρ.length=σ.length:=by have:=J.len;simpa using this
 obtain⟨v',ev,r⟩:=J.own ρ.length s (by simp)
 have ev':v'=v:=by
  rw[List.getElem?_append_right (by rw[hlen];exact Nat.le_refl _),hlen,Nat.sub_self]at ev
  cases ev;rfl
 subst ev'
 have J1:SRF K cls Av G S₀ ρ σ S H (fun j=>if j<ρ.length then F j else[]):=by
  refine⟨J.gh,J.s0,J.sh,J.new,fun j t e=>?_,fun j k a h1 h2=>?_,fun j a ha=>?_,hlen⟩
  . have hj:j<ρ.length:=(List.getElem?_eq_some_iff.mp e).1
    obtain⟨v2,e2,r2⟩:=J.own j t (by rw[List.getElem?_append_left hj];exact e);rw[List.getElem?_append_left (by rw[<- hlen];exact hj)]at e2;simp only[hj,if_true]
    exact⟨v2,e2,r2⟩
  . split at h1
    . split at h2
      . exact J.apart j k a h1 h2
      . cases h2
    . cases h1
  . split at ha
    . exact J.live j a ha
    . cases ha
 refine⟨_,J1.put (i:=i) (s:=some s) (u:=some v') (fp:=F ρ.length) (fun t e=>?_) (fun a ha=>J.live _ a ha) fun j a hj ha hz=>?_⟩
 . cases e
   refine⟨v',rfl,?_⟩
   cases s with
   |sh x=>exact r
   |ow xs=>exact r
   |ex c fs=>exact r
   | tr io t=>
     cases io with
     |true=>cases hs
     |false=>exact⟨r.1,r.2.1,r.2.2.1,fun z=>nomatch z⟩
   |bo t=>cases hs
 . split at hz
   . rename_i hj';have:=J.apart j ρ.length a hz ha;omega
   . cases hz
noncomputable def B6(K:PySem.W.Frag)(cls:String->Option Addr)(B S H:Hp)(t:OV)(v:V):Prop:=∃ fp,bB K cls S H t v fp /\ fp.Nodup /\ ∀ a∈fp,B a=none /\ S a=none
noncomputable def Jc(K:PySem.W.Frag)(cls:String->Option Addr)(B S H:Hp)(ts:List OV)(vs:List V):Prop:=∃ fp,bt K cls S H ts vs fp /\ fp.Nodup /\ ∀ a∈fp,B a=none /\ S a=none
noncomputable def Jl(K:PySem.W.Frag)(cls:String->Option Addr)(W:XW)(σ:St)(S H:Hp)(Q:VK):OD->Prop
 |.ok t=>∀ v S' H',aY S H S' H'->B6 K cls H S' H' t v->Q v H'
 |.exc c fs=>∀ a C S' H',aY S H S' H'->mP K cls S' H' c fs a C->W (.ref C) (some a) σ H'
 |.bad=>False
noncomputable def Hu(K:PySem.W.Frag)(cls:String->Option Addr)(W:XW)(σ:St)(S H:Hp)(Q:List V->Hp->Prop):ODs->Prop
 |.ok ts=>∀ vs S' H',aY S H S' H'->Jc K cls H S' H' ts vs->Q vs H'
 |.exc c fs=>∀ a C S' H',aY S H S' H'->mP K cls S' H' c fs a C->W (.ref C) (some a) σ H'
 |.bad=>False
noncomputable def JD(K:PySem.W.Frag)(cls:String->Option Addr)(W:XW)(te:TE)(m:ah->OD):Prop:=∀ Av G S₀ ρ σ S H Q,SR K cls Av G S₀ ρ σ S H->Jl K cls W σ S H Q (m ρ)->te σ H Q
noncomputable def JDs(K:PySem.W.Frag)(cls:String->Option Addr)(W:XW)(te:TA)(m:ah->ODs):Prop:=∀ Av G S₀ ρ σ S H Q,SR K cls Av G S₀ ρ σ S H->Hu K cls W σ S H Q (m ρ)->te σ H Q
theorem B6.grow(h:B6 K cls B S H t v)(w:aY S H S1 H1):B6 K cls B S1 H1 t v:=by
 obtain⟨fp,r,nd,g⟩:=h
 refine⟨fp,r.mono w.s fun a _ o z=>w.g _ _ z,nd,fun a ha=>⟨(g a ha).1,?_⟩⟩
 obtain⟨o,h1,_⟩:=r.live a ha
 cases q:S1 a with
 |none=>rfl
 | some o'=>
   rcases w.new a (by rw[q];simp)with z|z
   . exact absurd (g a ha).2 z
   . rw[h1]at z;cases z
theorem kz{me:ah->OE}(h:JE K cls W te me):JD K cls W te (mD me):=by
 intro Av G S₀ ρ σ S H Q I p;refine h Av G S₀ ρ σ S H Q I ?_;unfold mD at p
 cases e:me ρ with
 |exc c fs=>rw[e]at p;exact p
 |bad=>rw[e]at p;exact p
 | ok r=>
   rw[e]at p
   cases r with
   |sh x=>exact fun v S' H' w r=>p v S' H' w ⟨[],by unfold bB;exact⟨rfl,r⟩,List.nodup_nil,fun a ha=>nomatch ha⟩
   |al xs=>exact p.elim
   | fr xs=>
     intro v S' H' w r;obtain⟨q,vs,rfl,hB,hS,hH,hr⟩:=r;refine p _ S' H' w ⟨[q],by unfold bB;exact⟨q,vs,[],rfl,hH,rfl,.shs hr⟩,by simp,fun a ha=>?_⟩
     have z:a=q:=by simpa using ha
     subst z;exact⟨hB,hS⟩
theorem EK:JDs K cls W lx mDn:=fun Av G S₀ ρ σ S H Q I p=>p [] S H (aY.refl I.sh) ⟨[],.nil,List.nodup_nil,fun a ha=>nomatch ha⟩
theorem pM{md:ah->OD}{mr:ah->ODs}(hd:JD K cls W te md)(ht:JDs K cls W t mr):JDs K cls W (eS te t) (mDc md mr):=by
 intro Av G S₀ ρ σ S H Q I p;refine hd Av G S₀ ρ σ S H _ I ?_;unfold mDc at p
 cases e:md ρ with
 |exc c fs=>rw[e]at p;exact p
 |bad=>rw[e]at p;exact p
 | ok x=>
   rw[e]at p;intro v S1 H1 w1 r1;refine ht Av G S₀ ρ σ S1 H1 _ (I.grow w1) ?_
   dsimp only at p
   cases e2:mr ρ with
   |exc c fs=>rw[e2]at p;exact fun a C S' H' w x=>p a C S' H' (w1.trans w) x
   |bad=>rw[e2]at p;exact p
   | ok ts=>
     rw[e2]at p;intro vs S2 H2 w2 r2;obtain⟨f2,q2,n2,g2⟩:=r2;have r3:=r1.grow w2;obtain⟨f0,q0,n0,g0⟩:=r1;refine p (v ::vs) S2 H2 (w1.trans w2) ⟨f0++f2,.cons (q0.mono w2.s fun a _ o z=>w2.g _ _ z) q2,List.nodup_append.mpr ⟨n0,n2,fun a ha b hb z=>?_⟩,fun a ha=>?_⟩
     . subst z;obtain⟨o,h1,_⟩:=q0.live a ha;rw[(g2 a hb).1]at h1;cases h1
     . rcases List.mem_append.mp ha with z|z
       . refine⟨(g0 a z).1,?_⟩
         obtain⟨o,h1,_⟩:=q0.live a z
         cases q:S2 a with
         |none=>rfl
         | some o'=>
           rcases w2.new a (by rw[q];simp)with y|y
           . exact absurd (g0 a z).2 y
           . rw[h1]at y;cases y
       . exact⟨w1.g.free (g2 a z).1,(g2 a z).2⟩
theorem Hx{mr:ah->ODs}(h:JDs K cls W t mr):JD K cls W (DR t) (mDl mr):=by
 intro Av G S₀ ρ σ S H Q I p;refine h Av G S₀ ρ σ S H _ I ?_;unfold mDl at p
 cases e:mr ρ with
 |exc c fs=>rw[e]at p;exact p
 |bad=>rw[e]at p;exact p
 | ok ts=>
   rw[e]at p
   dsimp only at p
   split at p
   . rename_i hl;intro vs S1 H1 w1 r1;obtain⟨fp,r,nd,g⟩:=r1
     refine⟨by rw[r.length];exact hl,fun q hq=>?_⟩
     have w2:aY S1 H1 S1 (upd H1 q (.lst vs)):=aY.heap w1.sh hq
     refine p (.ref q) S1 _ (w1.trans w2) ⟨q ::fp,by unfold bB;exact⟨q,vs,fp,rfl,bH,rfl,r.mono (aD.refl _) fun a _ o z=>w2.g _ _ z⟩,List.nodup_cons.mpr ⟨fun z=>?_,nd⟩,fun a ha=>?_⟩
     . obtain⟨o,h1,_⟩:=r.live q z;rw[hq]at h1;cases h1
     . rcases List.mem_cons.mp ha with z|z
       . subst z;exact⟨w1.g.free hq,w1.sh.free hq⟩
       . exact g a z
   . exact p.elim
theorem SR.IV(I:SR K cls Av G S₀ ρ σ S H)(w:aY S H S' H')(h:B6 K cls H S' H' t v):SR K cls Av G S₀ (ρ.set i (some (.tr false t))) (σ.set i (some v)) S' H':=by
 obtain⟨F,J⟩:=I;obtain⟨fp,r,nd,g⟩:=h
 refine⟨_,(J.grow w).put (fp:=fp) (fun t' e=>by cases e;exact⟨v,rfl,r,nd,fun a ha=>⟨J.gh.free (g a ha).1,(g a ha).2⟩,fun z=>nomatch z⟩) (fun a ha=>⟨r.live a ha,J.gh.free (g a ha).1,(g a ha).2⟩) fun j a _ ha hz=>?_⟩
 obtain⟨⟨o,h1,_⟩,_⟩:=J.live j a hz;rw[(g a ha).1]at h1;cases h1
theorem se{md:ah->OD}(h:JD K cls W te md):JS K cls W (qK te (ir i)) (oQ i md):=by
 intro Av G S₀ ρ σ S H D I p;refine h Av G S₀ ρ σ S H _ I ?_;unfold oQ at p
 cases e:md ρ with
 |exc c fs=>rw[e]at p;exact fun a C S' H' w x=>p a C σ S' H' (I.grow w) w.s x
 |bad=>rw[e]at p;exact p
 |ok t=>rw[e]at p;exact fun v S1 H1 w1 r1=>p _ S1 H1 (I.IV w1 r1) w1.s
end
section
variable{K:PySem.W.Frag}{cls:String->Option Addr}{W:XW}{Av G S₀ S S' H H' B B':Hp}{ρ:ah}{σ:St}{Q:VK}{F:Nat->List Addr}
theorem bB.Cp{ts:List OV}{v:V}{fp:List Addr}(h:bB K cls S H (.ol ts) v fp):∃ p vs f,v=.ref p /\ H p=some (.lst vs) /\ fp=p ::f /\ bt K cls S H ts vs f:=by unfold bB at h;exact h
theorem SRF.sd{i:Nat}{io:Bool}{t:OV}{ts:List OV}{v0:V}{π:List Stp}(J:SRF K cls Av G S₀ ρ σ S H F)(hi:ρ[i]?=some (some (.tr io t)))(hv:σ[i]?=some (some v0))(e:t.get π=some (.ol ts)):
  ∃ q vs ff rest,i4 H v0 π (.ref q) /\ H q=some (.lst vs) /\ vs.length=ts.length /\ bt K cls S H ts vs ff /\ (F i).Perm ((q ::ff)++rest) /\ ((q ::ff)++rest).Nodup /\
    ∀ S' H' ts' vs' f',aY S H S' H'->bt K cls S' H' ts' vs' f'->f'.Nodup->(∀ a∈f',a∈ff \/ (H a=none /\ S' a=none)) ->
      ∃ g,SRF K cls Av G S₀ (ρ.set i (some (.tr io (t.put π (.ol ts'))))) σ S' (upd H' q (.lst vs')) (mQ F i g) /\ g.Perm ((q ::f')++rest):=by
 obtain⟨w,f1,rest,wk,r1,p1,nd1,gs,c⟩:=J.part hi hv e;obtain⟨q,vs,ff,rfl,hq,rfl,rs⟩:=r1.Cp
 refine⟨q,vs,ff,rest,wk,hq,rs.length,rs,p1,nd1,fun S' H' ts' vs' f' wg r' nd' fr=>?_⟩
 have hGq:=(gs q (by simp)).1;have hSq:=(gs q (by simp)).2
 have hS'q:S' q=none:=by
  cases z:S' q with
  |none=>rfl
  | some o=>
    rcases wg.new q (by rw[z];simp)with y|y
    . exact absurd hSq y
    . rw[hq]at y;cases y
 have nq:q∉f':=fun z=>by
  rcases fr q z with y|y
  . exact(List.nodup_cons.mp (List.nodup_append.mp nd1).1).1 y
  . rw[y.1]at hq;cases hq
 have nS:∀ a∈f',S' a=none:=fun a ha=>by
  rcases fr a ha with y|y
  . cases z:S' a with
    |none=>rfl
    | some o=>
      obtain⟨o',h1,_⟩:=rs.live a y
      rcases wg.new a (by rw[z];simp)with k|k
      . exact absurd (gs a (by simp[y])).2 k
      . rw[h1]at k;cases k
  . exact y.2
 refine c S' (upd H' q (.lst vs')) (.ol ts') (q ::f') wg.s (wg.sh.upd hS'q) ((J.gh.trans wg.g).upd hGq) (fun b h=>?_) ?_ (List.nodup_cons.mpr ⟨nq,nd'⟩) (fun a ha=>?_) (fun a ha=>?_) (fun a o hn h=>?_) fun a h=>?_
 . rcases wg.new b h with z|z
   . exact J.new b z
   . exact .inr (J.gh.free z)
 . unfold bB
   exact⟨q,vs',f',rfl,bH,rfl,r'.mono (aD.refl _) fun a ha o h=>by rw[bQ (fun z=>nq (by rw[<- z];exact ha))];exact h⟩
 . rcases List.mem_cons.mp ha with z|z
   . subst z;exact .inl (by simp)
   . rcases fr a z with y|y
     . exact .inl (by simp[y])
     . exact .inr y.1
 . rcases List.mem_cons.mp ha with z|z
   . subst z;exact hS'q
   . exact nS a z
 . rw[bQ (fun z=>hn (by rw[z];simp))];exact wg.g _ _ h
 . rcases wg.new a h with z|z
   . exact .inl z
   . exact .inr (.inl z)
theorem JP.at{i:Nat}{te:TE}{mp:MP}{io:Bool}{t u:OV}{v0:V}{π:List Stp}{Q:VK}(hp:JP K cls te i mp)(I:SR K cls Av G S₀ ρ σ S H)(hi:ρ[i]?=some (some (.tr io t)))(hv:σ[i]?=some (some v0))(e0:mp ρ=some π)(e1:t.get π=some u)
  (k:∀ w S' H',aY S H S' H'->SR K cls Av G S₀ ρ σ S' H'->i4 H' v0 π w->Q w H'):te σ H Q:=
 hp Av G S₀ ρ σ S H Q v0 t π I (by unfold gb;rw[hi];rfl) hv e0 (by rw[e1];rfl) fun w S1 H1 w1 wk=>k w S1 H1 w1 (I.grow w1) wk
theorem uc{i:Nat}{mp:MP}{k:OV->(OV->ah)->OS}{D:Ends}(p:fW K cls W Av G S₀ S D (wO i mp ρ k)):∃ io t π u,ρ[i]?=some (some (.tr io t)) /\ mp ρ=some π /\ t.get π=some u /\ fW K cls W Av G S₀ S D (k u fun u'=>ρ.set i (some (.tr io (t.put π u')))):=by
 unfold wO at p;split at p
 . rename_i io t hi;split at p
   . rename_i π e0;split at p
     . rename_i u e1
       exact⟨io,t,π,u,hi,e0,e1,p⟩
     . exact p.elim
   . exact p.elim
 . exact p.elim
theorem SR.val{i:Nat}{s:Sl}(I:SR K cls Av G S₀ ρ σ S H)(e:ρ[i]?=some (some s)):∃ v,σ[i]?=some (some v):=let ⟨v,h,_⟩:=I.good i s e;⟨v,h⟩
theorem dA{i:Nat}{te tx:TE}{mp:MP}{md:ah->OD}(hp:JP K cls te i mp)(hx:JD K cls W tx md):JS K cls W (tN (tBM K "list" vv te (eS tx lx))) (bK i mp md):=by
 intro Av G S₀ ρ σ S H D I p;obtain⟨io,t,π,u,hi,e0,e1,p⟩:=uc p;obtain⟨v0,hv⟩:=I.val hi
 cases u with
 |sh x=>exact p.elim
 |ob c ks us=>exact p.elim
 |di x=>exact p.elim
 |dt x=>exact p.elim
 | ol ts=>
   dsimp only at p
   refine hp.at I hi hv e0 e1 fun w S1 H1 w1 I1 wk=>?_
   obtain⟨F,J1⟩:=I1;obtain⟨q,vs,ff,rest,wk',hq,hl,rs,_,nd,c⟩:=J1.sd hi hv e1;have:=wk.inj wk';subst this
   refine⟨.inl ⟨rfl,_,SqL.new hq⟩,?_⟩
   refine hx Av G S₀ ρ σ S1 H1 _ ⟨F,J1⟩ ?_
   cases ed:md ρ with
   |exc c fs=>rw[ed]at p;exact fun a C S' H' w x=>p a C σ S' H' (SR.grow ⟨F,J1⟩ w) (w1.s.trans w.s) x
   |bad=>rw[ed]at p;exact p
   | ok x=>
     rw[ed]at p
     dsimp only at p
     split at p
     . rename_i hlt;intro v S2 H2 w2 r2;obtain⟨fx,rx,ndx,gx⟩:=r2
       refine⟨q,vs,v,rfl,rfl,w2.g _ _ hq,by rw[hl];exact hlt,?_⟩
       have ndf:ff.Nodup:=(List.nodup_cons.mp (List.nodup_append.mp nd).1).2
       have apx:∀ a∈ff,a∉fx:=fun a ha hb=>by
        obtain⟨o,h1,_⟩:=rs.live a ha;rw[(gx a hb).1]at h1;cases h1
       obtain⟨g,J3,_⟩:=c S2 H2 (ts++[x]) (vs++[v]) (ff++(fx++[])) w2 ((rs.mono w2.s fun a _ o h=>w2.g _ _ h).append (.cons rx .nil)) (by
         rw[List.append_nil]
         exact List.nodup_append.mpr ⟨ndf,ndx,fun a ha b hb z=>by subst z;exact apx a ha hb⟩) (fun a ha=>by
         rw[List.append_nil]at ha
         rcases List.mem_append.mp ha with z|z
         . exact .inl z
         . exact .inr (gx a z))
       exact p σ S2 _ ⟨_,J3⟩ (w1.s.trans w2.s)
     . exact p.elim
end
section
variable{K:PySem.W.Frag}{cls:String->Option Addr}{W:XW}{Av G S₀ S S' H H' B B':Hp}{ρ:ah}{σ:St}{Q:VK}{F:Nat->List Addr}
theorem sj{i:Nat}{te tk tx:TE}{mp:MP}{mk:ah->OE}{md:ah->OD}(hp:JP K cls te i mp)(hk:JE K cls W tk mk)(hx:JD K cls W tx md):JS K cls W (qK tx (HV te tk FY)) (nc i mp mk md):=by
 intro Av G S₀ ρ σ S H D I p;refine hx Av G S₀ ρ σ S H _ I ?_;unfold nc at p
 cases ed:md ρ with
 |exc c fs=>rw[ed]at p;exact fun a C S' H' w x=>p a C σ S' H' (I.grow w) w.s x
 |bad=>rw[ed]at p;exact p
 | ok x=>
   rw[ed]at p
   dsimp only at p
   obtain⟨io,t,π,u,hi,e0,e1,p⟩:=uc p;obtain⟨v0,hv⟩:=I.val hi
   cases u with
   |sh x=>exact p.elim
   |ob c ks us=>exact p.elim
   |di x=>exact p.elim
   |dt x=>exact p.elim
   | ol ts=>
     dsimp only at p
     intro v S1 H1 w1 r1
     refine hp.at (I.grow w1) hi hv e0 e1 fun w S2 H2 w2 I2 wk=>?_
     have p2:=p.back (w1.s.trans w2.s)
     refine hk.goS I2 p2 fun r z S3 H3 I3 w3 r3 p3=>?_
     cases en:r.pv with
     | int n=>
       rw[en]at p3
       dsimp only at p3
       cases ej:ixP ts.length n with
       |none=>rw[ej]at p3;exact p3.elim
       | some j=>
         rw[ej]at p3;obtain⟨F,J⟩:=id I;obtain⟨q,vs,ff,rest,wk',hq,hl,rs,_,nd,c⟩:=J.sd hi hv e1;have:=wk.inj (wk'.mono (w1.g.trans w2.g));subst this
         have hz:z=.int n:=by have:=r3.rd I3.sh;rw[en]at this;exact cw this
         subst hz
         have wg:aY S H S3 H3:=(w1.trans w2).trans w3
         have hj:j<ts.length:=by
          unfold ixP at ej;split at ej
          . split at ej
            . cases ej;omega
            . cases ej
          . split at ej
            . cases ej;omega
            . cases ej
         have ndf:ff.Nodup:=(List.nodup_cons.mp (List.nodup_append.mp nd).1).2
         obtain⟨fx,rx,ndx,gx⟩:=(r1.grow w2).grow w3;obtain⟨w0,f1,rs',e1',r1',p1',c1⟩:=rs.at (k:=j) (u:=ts[j]) (by simp[hj])
         obtain⟨g,rg,pg⟩:=c1 S3 H3 x v fx wg.s rx fun a _ o h=>wg.g _ _ h
         have inff:∀ a∈rs',a∈ff:=fun a ha=>p1'.mem_iff.mpr (List.mem_append_right _ ha)
         have ndr:rs'.Nodup:=(List.nodup_append.mp (p1'.nodup_iff.mp ndf)).2.1
         have ndg:g.Nodup:=pg.nodup_iff.mpr (List.nodup_append.mpr ⟨ndx,ndr,fun a ha b hb z=>by
          subst z;obtain⟨o,h1,_⟩:=rs.live a (inff a hb)
          rw[(gx a ha).1]at h1;cases h1⟩)
         obtain⟨g2,J3,_⟩:=c S3 H3 (ts.set j x) (vs.set j v) g wg rg ndg fun a ha=>by
          rcases List.mem_append.mp (pg.mem_iff.mp ha)with z|z
          . exact .inr (gx a z)
          . exact .inl (inff a z)
         exact⟨q,vs,n,j,rfl,rfl,wg.g _ _ hq,by rw[hl];exact ej,p3 σ S3 _ ⟨_,J3⟩ (aD.refl _)⟩
     |_=>rw[en]at p3;exact p3.elim
noncomputable def E9(K:PySem.W.Frag)(cls:String->Option Addr)(W:XW)(Av G S₀:Hp)(σ:St)(S:Hp)(Q:VK):OX->Prop
 |.ok ρ' s=>∀ v S' H',SR K cls Av G S₀ (ρ'++[some s]) (σ++[some v]) S' H'->aD S S'->Q v H'
 |.exc ρ' c fs=>∀ a C S' H',SR K cls Av G S₀ ρ' σ S' H'->aD S S'->mP K cls S' H' c fs a C->W (.ref C) (some a) σ H'
 |.bad=>False
noncomputable def JX(K:PySem.W.Frag)(cls:String->Option Addr)(W:XW)(te:TE)(m:ah->OX):Prop:=∀ Av G S₀ ρ σ S H Q,SR K cls Av G S₀ ρ σ S H->E9 K cls W Av G S₀ σ S Q (m ρ)->te σ H Q
theorem rV{i:Nat}{te:TE}{m:ah->OX}(h:JX K cls W te m):JS K cls W (qK te (ir i)) (la i m):=by
 intro Av G S₀ ρ σ S H D I p;refine h Av G S₀ ρ σ S H _ I ?_;unfold la at p
 cases e:m ρ with
 |exc ρ' c fs=>rw[e]at p;exact fun a C S' H' I' s' x=>p a C σ S' H' I' s' x
 |bad=>rw[e]at p;exact p
 | ok ρ' s=>
   rw[e]at p
   dsimp only at p
   split at p
   . rename_i hs
     exact fun v S' H' I' s'=>p _ S' H' (I'.fold hs) s'
   . exact p.elim
theorem bt.last{ts:List OV}{vs:List V}{f:List Addr}{x:OV}(h:bt K cls S H ts vs f)(e:ts.getLast?=some x):∃ y f1 f2,vs[vs.length - 1]?=some y /\ bt K cls S H ts.dropLast vs.dropLast f1 /\ bB K cls S H x y f2 /\ f=f1++f2:=by
 induction ts generalizing vs f with
 |nil=>cases e
 | cons t ts ih=>
   obtain⟨v,r,f1,f2,rfl,rfl,h1,h2⟩:=h.cons_inv
   cases ts with
   | nil=>
     unfold bt at h2;obtain⟨rfl,rfl⟩:=h2;simp at e;subst e
     exact⟨v,[],f1,rfl,.nil,h1,by simp⟩
   | cons t2 ts2=>
     rw[List.getLast?_cons_cons]at e;obtain⟨y,g1,g2,e1,r1,r2,rfl⟩:=ih h2 e
     have hr:r≠[]:=by intro z;subst z;have:=h2.length;simp at this
     refine⟨y,f1++g1,g2,?_,?_,r2,by simp⟩
     . cases r with
       |nil=>exact absurd rfl hr
       |cons a r'=>simpa using e1
     . cases r with
       |nil=>exact absurd rfl hr
       |cons a r'=>exact bt.cons h1 r1
theorem Ed{x:OV}{v:V}{fp:List Addr}{i:Nat}(h:bB K cls S H x v fp)(nd:fp.Nodup)(g:∀ a∈fp,G a=none /\ S a=none):rF K cls Av G S H i (slO x) v fp:=by
 cases x with
 |sh y=>unfold bB at h;exact h
 |ol ts=>exact⟨h,nd,g,fun z=>nomatch z⟩
 |ob c ks ts=>exact⟨h,nd,g,fun z=>nomatch z⟩
 |di x=>exact⟨h,nd,g,fun z=>nomatch z⟩
 |dt x=>exact⟨h,nd,g,fun z=>nomatch z⟩
theorem DB{i:Nat}{te:TE}{mp:MP}(hp:JP K cls te i mp):JX K cls W (HN K "list" IJ te) (u1 i mp):=by
 intro Av G S₀ ρ σ S H Q I p;unfold u1 at p;split at p
 . rename_i io t hi;split at p
   . rename_i π e0;split at p
     . rename_i ts e1;split at p
       . rename_i x ex;obtain⟨v0,hv⟩:=I.val hi
         refine hp.at I hi hv e0 e1 fun w S1 H1 w1 I1 wk=>?_
         obtain⟨F,J1⟩:=id I1;obtain⟨q,vs,ff,rest,wk',hq,hl,rs,pF,nd,c⟩:=J1.sd hi hv e1;have:=wk.inj wk';subst this;obtain⟨y,f1,f2,ey,ri,rx,rfl⟩:=rs.last ex
         have ndf:(f1++f2).Nodup:=(List.nodup_cons.mp (List.nodup_append.mp nd).1).2
         have nq:q∉f1++f2:=(List.nodup_cons.mp (List.nodup_append.mp nd).1).1
         refine⟨.inl ⟨rfl,_,SqL.new hq⟩,q,vs,y,rfl,rfl,hq,ey,?_⟩
         obtain⟨g,J3,pg⟩:=c S1 H1 ts.dropLast vs.dropLast f1 (aY.refl J1.sh) ri (List.nodup_append.mp ndf).1 fun a ha=>.inl (List.mem_append_left _ ha)
         have in2:∀ a∈f2,a∈F i:=fun a ha=>pF.mem_iff.mpr (by simp[ha])
         have rx':bB K cls S1 (upd H1 q (.lst vs.dropLast)) x y f2:=rx.mono (aD.refl _) fun a ha o h=>by rw[bQ (fun z=>nq (by rw[<- z];simp[ha]))];exact h
         have gs2:∀ a∈f2,G a=none /\ S1 a=none:=fun a ha=>(J1.live i a (in2 a ha)).2
         obtain⟨F',J4⟩:=J3.more (s:=some (slO x)) (u:=some y) (fp:=f2) (fun t' e=>by cases e;exact⟨y,rfl,Ed rx' (List.nodup_append.mp ndf).2.1 gs2⟩) (fun a ha=>⟨rx'.live a ha,gs2 a ha⟩) fun j a hj ha hz=>by
          by_cases ej:j=i
          . subst ej;rw[gZ]at hz;have hm:=pg.mem_iff.mp hz;have hd:=List.nodup_append.mp nd
            rcases List.mem_append.mp hm with z|z
            . rcases List.mem_cons.mp z with z|z
              . subst z;exact nq (by simp[ha])
              . exact(List.nodup_append.mp ndf).2.2 a z a ha rfl
            . exact hd.2.2 a (by simp[ha]) a z rfl
          . rw[ee ej]at hz;exact ej (J1.apart j i a hz (in2 a ha))
         exact p y S1 _ ⟨F',J4⟩ w1.s
       . exact p.elim
     . exact p.elim
   . exact p.elim
 . exact p.elim
end
section
variable{K:PySem.W.Frag}{cls:String->Option Addr}{W:XW}{Av G S₀ S S' H H' B B':Hp}{ρ:ah}{σ:St}{Q:VK}{F:Nat->List Addr}
mutual
theorem bB.frozen(s:aD S S'):∀{t:OV} {v:V} {fp:List Addr} {x:PV},bB K cls S H t v fp->pvO t=some x->(∀ a∈fp,S' a=H a)->Rep K S' x v
 | .sh y,v,fp,x,h,e,g=>by
   unfold pvO at e;cases e;unfold bB at h;exact Rep.mono s h.2
 | .ol ts,v,fp,x,h,e,g=>by
   unfold pvO at e;obtain⟨xs,e1,rfl⟩:=Option.map_eq_some_iff.mp e;obtain⟨p,vs,f,rfl,hp,rfl,rs⟩:=h.Cp;unfold Rep
   exact⟨p,vs,rfl,SqL.new (by rw[g p (by simp)];exact hp),bt.frozen s rs e1 fun a ha=>g a (by simp[ha])⟩
 |.ob c ks ts,v,fp,x,h,e,g=>by unfold pvO at e;cases e
 |.di c,v,fp,x,h,e,g=>by unfold pvO at e;cases e
 |.dt c,v,fp,x,h,e,g=>by unfold pvO at e;cases e
theorem bt.frozen(s:aD S S'):∀{ts:List OV} {vs:List V} {fp:List Addr} {xs:List PV},bt K cls S H ts vs fp->tY ts=some xs->(∀ a∈fp,S' a=H a)->bL K S' xs vs
 | [],vs,fp,xs,h,e,g=>by
   unfold tY at e;cases e;unfold bt at h;rw[h.1];exact .nil
 | t ::ts,vs,fp,xs,h,e,g=>by
   unfold tY at e;obtain⟨x,e1,e2⟩:=Option.bind_eq_some_iff.mp e;obtain⟨ys,e3,rfl⟩:=Option.map_eq_some_iff.mp e2;obtain⟨v,r,f1,f2,rfl,rfl,h1,h2⟩:=h.cons_inv;exact .cons (bB.frozen s h1 e1 fun a ha=>g a (by simp[ha])) (bt.frozen s h2 e3 fun a ha=>g a (by simp[ha]))
end
theorem SR.F5{i:Nat}{t:OV}{x:PV}(I:SR K cls Av G S₀ ρ σ S H)(hi:ρ[i]?=some (some (.tr false t)))(ex:pvO t=some x):∃ S',aD S S' /\ SR K cls Av G S₀ (ρ.set i (some (.sh x))) σ S' H:=by
 obtain⟨F,J⟩:=I;obtain⟨v,hv,ro,nd,gs,_⟩:=J.own i _ hi
 have J1:SRF K cls Av G S₀ (ρ.set i none) (σ.set i none) S H (mQ F i []):=J.put (fun t e=>nomatch e) (fun a ha=>nomatch ha) fun j a _ ha=>nomatch ha
 let S':Hp:=fun a=>if a∈F i then H a else S a
 have sS:aD S S':=fun b u h=>by
  show(if b∈F i then H b else S b)=some u
  rw[if_neg (fun z=>by rw[(gs b z).2]at h;cases h)];exact h
 have sH:aD S' H:=fun b u h=>by
  have h':(if b∈F i then H b else S b)=some u:=h
  split at h'
  . exact h'
  . exact J.sh b u h'
 have off:∀ j a,a∈mQ F i [] j->a∉F i:=fun j a ha z=>by
  by_cases ej:j=i
  . subst ej;rw[gZ]at ha;cases ha
  . rw[ee ej]at ha;exact ej (J.apart j i a ha z)
 have J2:=J1.change (S':=S') (H':=H) J.gh sS sH (fun b h=>by
   have h':(if b∈F i then H b else S b)≠none:=h
   split at h'
   . rename_i hb;exact .inr (gs b hb).1
   . exact J.new b h') (fun _ _ _ _ h=>h) (fun _ _ _ h=>h) fun j a ha=>by
     show(if a∈F i then H a else S a)=none
     rw[if_neg (off j a ha)];exact(J1.live j a ha).2.2
 have J3:=J2.put (i:=i) (s:=some (.sh x)) (u:=some v) (fp:=[]) (fun t' e=>by
  cases e
  exact⟨_,rfl,rfl,ro.frozen sS ex fun a ha=>by show(if a∈F i then H a else S a)=H a;rw[if_pos ha]⟩) (fun a ha=>nomatch ha) fun j a _ ha=>nomatch ha
 rw[List.set_set,List.set_set,jH hv]at J3
 exact⟨S',sS,_,J3⟩
theorem tE{i:Nat}{ts:TS}{m:ah->OS}(h:JS K cls W ts m):JS K cls W ts (ny i m):=by
 intro Av G S₀ ρ σ S H D I p;unfold ny nZ at p;split at p
 . rename_i t e;split at p
   . rename_i x ex;obtain⟨S',s,J⟩:=I.F5 e ex;exact h Av G S₀ _ σ S' H D J (p.back s)
   . exact h Av G S₀ ρ σ S H D I p
 . exact h Av G S₀ ρ σ S H D I p
end
open Classical in
noncomputable def minus(H:Hp)(Fc:Nat->List Addr):Hp:=fun a=>if ∃ k,a∈Fc k then none else H a
section
variable{K:PySem.W.Frag}{cls:String->Option Addr}{W:XW}{Av G S₀ S S' H H' B B':Hp}{ρ:ah}{σ:St}{Q:VK}{F Fc Fc':Nat->List Addr}
theorem xQ(h:a∈Fc k):minus H Fc a=none:=by unfold minus;rw[if_pos ⟨k,h⟩]
theorem lg(h:∀ k,a∉Fc k):minus H Fc a=H a:=by unfold minus;rw[if_neg (fun ⟨k,z⟩=>h k z)]
theorem uf:aD (minus H Fc) H:=fun b u h=>by
 unfold minus at h;split at h
 . cases h
 . exact h
theorem pq(h:minus H Fc a=none):H a=none \/ ∃ k,a∈Fc k:=by
 unfold minus at h;split at h
 . rename_i z;exact .inr z
 . exact .inl h
noncomputable def LB(K:PySem.W.Frag)(cls:String->Option Addr)(S H Hm:Hp):Sl->V->List Addr->Prop
 |.sh x,v,fp=>fp=[] /\ Rep K S x v
 |.tr true t,v,fp=>bB K cls S H t v fp /\ fp.Nodup
 |.bo t,v,fp=>fp=[] /\ ∃ f,bB K cls S Hm t v f
 |_,_,_=>False
structure Ei(K:PySem.W.Frag)(cls:String->Option Addr)(vs:List V)(S H:Hp)(Fc:Nat->List Addr)(outs:List (Option OV))(S' H':Hp)(Fc':Nat->List Addr):Prop where
 s:aD S S'
 sh:aD S' H'
 keep:aD (minus H Fc) H'
 new:∀ b,S' b≠none->S b≠none \/ H b=none \/ ∃ k,b∈Fc k
 out:∀ k t',outs[k]?=some (some t')->∃ u,vs[k]?=some u /\ bB K cls S' H' t' u (Fc' k) /\ (Fc' k).Nodup
 apart:∀ j k a,a∈Fc' j->a∈Fc' k->j=k
 live:∀ k a,a∈Fc' k->minus H Fc a=none /\ S' a=none
noncomputable def Jx(K:PySem.W.Frag)(cls:String->Option Addr)(vs:List V)(S H:Hp)(Fc:Nat->List Addr)(Q:VK)(E:XK):OI->Prop
 |.ok x outs=>∀ v S' H' Fc',Ei K cls vs S H Fc outs S' H' Fc'->Rep K S' x v->Q v H'
 |.exc c fs outs=>∀ a C S' H' Fc',Ei K cls vs S H Fc outs S' H' Fc'->mP K cls S' H' c fs a C->E (.ref C) (some a) H'
 |.bad=>False
structure Fm(K:PySem.W.Frag)(cls:String->Option Addr)(as:List Sl)(vs:List V)(S H:Hp)(Fc:Nat->List Addr):Prop where
 sh:aD S H
 len:as.length=vs.length
 rel:∀(k:Nat) (s:Sl),as[k]?=some s->∃ v,vs[k]?=some v /\ LB K cls S H (minus H Fc) s v (Fc k)
 apart:∀ j k a,a∈Fc j->a∈Fc k->j=k
 live:∀ k a,a∈Fc k->(∃ o,H a=some o /\ isX o=false) /\ S a=none
noncomputable def spI(K:PySem.W.Frag)(cls:String->Option Addr)(f:List Sl->OI):Sp:=fun vs H Q E=>∃ S as Fc,Fm K cls as vs S H Fc /\ Jx K cls vs S H Fc Q E (f as)
theorem Et{as:List Sl}{vs:List V}{N:List Str}{i:Nat}{s:Sl}(hl:as.length=vs.length)(e:(km N.length as)[i]?=some (some s)):as[i]?=some s /\ (L2.start N vs)[i]?=some ((vs[i]?)):=by
 unfold km at e
 by_cases hi:i<as.length
 . rw[List.getElem?_append_left (by simpa using hi),List.getElem?_map]at e
   have hx:as[i]?=some as[i]:=by simp[hi]
   rw[hx]at e;cases e
   refine⟨hx,?_⟩
   unfold L2.start;rw[List.getElem?_append_left (by rw[List.length_map,<- hl];exact hi),List.getElem?_map]
   have hv:vs[i]?=some (vs[i]'(by rw[<- hl];exact hi)):=by simp[<- hl,hi]
   rw[hv];rfl
 . rw[List.getElem?_append_right (by simpa using hi)]at e;rw[List.getElem?_replicate]at e
   split at e<;>cases e
noncomputable def BE(vs:List V):Hp:=fun i=>(vs[i]?).map fun v=>.lst [v]
theorem SR.F7{ρ':ah}(A:aD S H)(I:SR K cls (BE vs) (minus H Fc) S ρ' σ' S' H'):∃ Fc',Ei K cls vs S H Fc ((ρ'.take np).map qh) S' H' Fc':=by
 obtain⟨F,J⟩:=I
 refine⟨F,J.s0,J.sh,J.gh,fun b h=>?_,fun k t' e=>?_,J.apart,fun k a ha=>(J.live k a ha).2⟩
 . rcases J.new b h with z|z
   . exact .inl z
   . rcases pq z with y|y
     . exact .inr (.inl y)
     . exact .inr (.inr y)
 . rw[List.getElem?_map]at e;obtain⟨s,e1,e2⟩:=Option.map_eq_some_iff.mp e
   have e3:ρ'[k]?=some s:=by
    rw[List.getElem?_take]at e1;split at e1
    . exact e1
    . cases e1
   cases s with
   |none=>cases e2
   | some s=>
     cases s with
     | tr io t=>
       cases io with
       |false=>cases e2
       | true=>
         cases e2;obtain⟨v,ev,ro,nd,_,hio⟩:=J.own k _ e3;have:=hio rfl;unfold BE at this;obtain⟨u,eu,e4⟩:=Option.map_eq_some_iff.mp this;cases e4
         exact⟨v,eu,ro,nd⟩
     |sh x=>cases e2
     |ow x=>cases e2
     |ex c fs=>cases e2
     |bo t=>cases e2
theorem Fu{P:Program}{w:World}{mg:Str->Option Value}{base:Heap}{x qual:Str}{st:Stmt}{f:Addr}{fd:FuncData}{N ps:List Str}{k:Nat}{m:ah->OS}(Fn:Fun K x qual st f fd)(Sc:aW N ps (aC st))
  (hbody:∀(cdv:Value) (A:Around) (outer:List Env) (s:Shared) (H:Hp) (E:XK),jM k (A.deeper (envOfC qual (aC st) s.heap.objs.size f cdv)) ->
    ∃ t,QSs (qI (CXE P w) P w K mg base N qual (aC st) f cdv A outer s H E) (dH st) t /\ JS K cls (fun C a _ H=>∀ H',aD H H'->E C a H') t m):cD P w K mg base (CXE P w) (k+1) f fd ps (spI K cls (fnI ps.length N.length m)):=by
 refine okX Fn Sc (fun vs H Q E h=>?_) fun cdv A outer s H vs Q E hr h=>?_
 . obtain⟨S,as,Fc,a,q⟩:=h;unfold fnI at q;split at q
   . rw[<- a.len];assumption
   . exact q.elim
 . obtain⟨S,as,Fc,a,q⟩:=h;unfold fnI at q;split at q
   . rename_i hl;obtain⟨t,ht,J⟩:=hbody cdv A outer s H E hr
     refine⟨t,ht.out,?_⟩
     have start:SR K cls (BE vs) (minus H Fc) S (km N.length as) (L2.start N vs) S H:=by
      refine⟨Fc,uf,aD.refl _,a.sh,fun _ z=>.inl z,fun i s e=>?_,a.apart,fun i b hb=>⟨(a.live i b hb).1,xQ hb,(a.live i b hb).2⟩,?_⟩
      . obtain⟨e1,e2⟩:=Et a.len e;obtain⟨v,ev,r⟩:=a.rel i s e1;rw[ev]at e2
        refine⟨v,e2,?_⟩
        cases s with
        |sh x=>exact r
        |ow x=>exact r.elim
        |ex c fs=>exact r.elim
        | tr io t=>
          cases io with
          |false=>exact r.elim
          |true=>exact⟨r.1,r.2,fun b hb=>⟨xQ hb,(a.live i b hb).2⟩,fun _=>by unfold BE;rw[ev];rfl⟩
        |bo t=>exact r
      . unfold km L2.start;simp[a.len]
     refine J (BE vs) (minus H Fc) S (km N.length as) (L2.start N vs) S H _ start ?_
     cases e:m (km N.length as)with
     |nx ρ'=>rw[e]at q;exact fun σ' S' H' I' s'=>let ⟨Fc',E'⟩:=I'.F7 (np:=ps.length) a.sh;q .non S' H' Fc' E' (by unfold Rep;rfl)
     |bk ρ'=>rw[e]at q;exact q.elim
     |ct ρ'=>rw[e]at q;exact q.elim
     |bad=>rw[e]at q;exact q.elim
     | rt ρ' r=>
       rw[e]at q
       cases r with
       |al ys=>exact q.elim
       |fr ys=>exact q.elim
       |sh y=>exact fun v σ' S' H' I' s' rr=>let ⟨Fc',E'⟩:=I'.F7 (np:=ps.length) a.sh;q v S' H' Fc' E' rr
     | exc ρ' c fs=>
       rw[e]at q
       exact fun b C σ' S' H' I' s' x H2 g2=>let ⟨Fc',E'⟩:=(I'.same g2).F7 (np:=ps.length) a.sh;q b C S' H2 Fc' E' (x.mono (aD.refl _) g2)
   . exact q.elim
noncomputable def AR1(K:PySem.W.Frag)(S H:Hp)(ρ:ah)(σ:St):Arg->Sl->V->Prop
 |.e _,.sh x,v=>Rep K S x v
 |.t i mp,.tr true u,v=>∃ io t π v0,ρ[i]?=some (some (.tr io t)) /\ mp ρ=some π /\ t.get π=some u /\ σ[i]?=some (some v0) /\ i4 H v0 π v
 |.b i mp,.bo u,v=>∃ t π v0,gb i ρ=some t /\ mp ρ=some π /\ t.get π=some u /\ σ[i]?=some (some v0) /\ i4 H v0 π v
 |_,_,_=>False
noncomputable def ARs(K:PySem.W.Frag)(S H:Hp)(ρ:ah)(σ:St):List Arg->List Sl->List V->Prop
 |[],ss,vs=>ss=[] /\ vs=[]
 |a ::as,ss,vs=>∃ s sr v vr,ss=s ::sr /\ vs=v ::vr /\ AR1 K S H ρ σ a s v /\ ARs K S H ρ σ as sr vr
theorem AR1.mono(h:AR1 K S H ρ σ a s v)(s1:aD S S')(g:aD H H'):AR1 K S' H' ρ σ a s v:=by
 cases a with
 |e me=>cases s<;>first|exact h.elim|exact Rep.mono s1 h
 | t i mp=>
   cases s with
   | tr io u=>
     cases io with
     |false=>exact h.elim
     |true=>obtain⟨io,t,π,v0,h1,h2,h3,h4,h5⟩:=h;exact⟨io,t,π,v0,h1,h2,h3,h4,h5.mono g⟩
   |_=>exact h.elim
 | b i mp=>
   cases s with
   |bo u=>obtain⟨t,π,v0,h1,h2,h3,h4,h5⟩:=h;exact⟨t,π,v0,h1,h2,h3,h4,h5.mono g⟩
   |_=>exact h.elim
theorem ARs.at:∀{ss:List Sl} {vs:List V} {k:Nat} {a:Arg},ARs K S H ρ σ as ss vs->as[k]?=some a->∃ s v,ss[k]?=some s /\ vs[k]?=some v /\ AR1 K S H ρ σ a s v:=by
 induction as with
 |nil=>intro ss vs k a _ e;simp at e
 | cons b as ih=>
   rintro ss vs k a ⟨s,sr,v,vr,rfl,rfl,h1,h2⟩ e
   cases k with
   |zero=>simp at e;subst e;exact⟨s,v,rfl,rfl,h1⟩
   |succ k=>simp at e;obtain⟨s',v',e1,e2,r⟩:=ih h2 e;exact⟨s',v',by simpa using e1,by simpa using e2,r⟩
theorem ARs.len{as:List Arg}:∀{ss:List Sl} {vs:List V},ARs K S H ρ σ as ss vs->ss.length=as.length /\ vs.length=as.length:=by
 induction as with
 |nil=>intro ss vs h;rw[h.1,h.2];exact⟨rfl,rfl⟩
 | cons b as ih=>
   rintro ss vs ⟨s,sr,v,vr,rfl,rfl,h1,h2⟩
   have:=ih h2;simp[this]
noncomputable def JAI(K:PySem.W.Frag)(cls:String->Option Addr)(t:TA)(as:List Arg):Prop:=∀ Av G S₀ ρ σ S H Q ss,SR K cls Av G S₀ ρ σ S H->qc as ρ=some ss->(∀ vs S' H',aY S H S' H'->ARs K S' H' ρ σ as ss vs->Q vs H')->t σ H Q
noncomputable def JA1(K:PySem.W.Frag)(cls:String->Option Addr)(te:TE)(a:Arg):Prop:=∀ Av G S₀ ρ σ S H Q s,SR K cls Av G S₀ ρ σ S H->AS a ρ=some s->(∀ v S' H',aY S H S' H'->AR1 K S' H' ρ σ a s v->Q v H')->te σ H Q
theorem FR{me:ah->OE}(h:JE K cls W te me):JA1 K cls te (.e me):=by
 intro Av G S₀ ρ σ S H Q s I e k;unfold AS at e
 dsimp only at e
 refine h Av G S₀ ρ σ S H Q I ?_
 cases em:me ρ with
 |exc c fs=>rw[em]at e;cases e
 |bad=>rw[em]at e;cases e
 | ok r=>
   rw[em]at e;obtain⟨x,e1,rfl⟩:=Option.map_eq_some_iff.mp e;intro v S1 H1 w1 r1;obtain⟨S2,w2,s2,rx⟩:=r1.share w1 e1;exact k v S2 H1 w2 rx
theorem qp(h:JP K cls te i mp):JA1 K cls te (.t i mp):=by
 intro Av G S₀ ρ σ S H Q s I e k;unfold AS at e
 dsimp only at e
 split at e
 . rename_i io t hi;obtain⟨u,e1,rfl⟩:=Option.map_eq_some_iff.mp e;obtain⟨π,e2,e3⟩:=Option.bind_eq_some_iff.mp e1;obtain⟨v0,hv⟩:=I.val hi
   exact h.at I hi hv e2 e3 fun w S1 H1 w1 I1 wk=>k w S1 H1 w1 ⟨io,t,π,v0,hi,e2,e3,hv,wk⟩
 . cases e
theorem wA:JAI K cls lx []:=by
 intro Av G S₀ ρ σ S H Q ss I e k;cases e;exact k [] S H (aY.refl I.sh) ⟨rfl,rfl⟩
theorem fA(h:JA1 K cls te a)(r:JAI K cls t as):JAI K cls (eS te t) (a ::as):=by
 intro Av G S₀ ρ σ S H Q ss I e k;unfold qc at e;obtain⟨s,e1,e2⟩:=Option.bind_eq_some_iff.mp e;obtain⟨sr,e3,rfl⟩:=Option.map_eq_some_iff.mp e2
 refine h Av G S₀ ρ σ S H _ s I e1 fun v S1 H1 w1 h1=>?_
 refine r Av G S₀ ρ σ S1 H1 _ sr (I.grow w1) e3 fun vs S2 H2 w2 h2=>?_
 exact k (v ::vs) S2 H2 (w1.trans w2) ⟨s,sr,v,vs,rfl,rfl,h1.mono w2.s w2.g,h2⟩
end
section
variable{K:PySem.W.Frag}{cls:String->Option Addr}{W:XW}{Av G S₀ S S' H H' B B':Hp}{ρ:ah}{σ:St}{Q:VK}{F Fc Fc':Nat->List Addr}
noncomputable def cI:List Arg->List Nat
 |[]=>[]
 |.t i _ ::as=>i ::cI as
 |_ ::as=>cI as
noncomputable def qS:List Arg->List Nat
 |[]=>[]
 |.b i _ ::as=>i ::qS as
 |_ ::as=>qS as
noncomputable def argsOk(as:List Arg):Bool:=decide (cI as).Nodup&&(qS as).all fun i=>!(cI as).contains i
theorem gB{as:List Arg}{k i:Nat}{mp:MP}(h:as[k]?=some (.t i mp)):i∈cI as:=by
 induction as generalizing k with
 |nil=>simp at h
 | cons a as ih=>
   cases k with
   |zero=>simp at h;subst h;simp[cI]
   | succ k=>
     simp at h;have:=ih h
     cases a<;>simp[cI,this]
theorem yw{as:List Arg}{k i:Nat}{mp:MP}(h:as[k]?=some (.b i mp)):i∈qS as:=by
 induction as generalizing k with
 |nil=>simp at h
 | cons a as ih=>
   cases k with
   |zero=>simp at h;subst h;simp[qS]
   | succ k=>
     simp at h;have:=ih h
     cases a<;>simp[qS,this]
theorem lp{as:List Arg}(nd:(cI as).Nodup){j k i:Nat}{mp mp':MP}(h:as[j]?=some (.t i mp))(h':as[k]?=some (.t i mp')):j=k:=by
 induction as generalizing j k with
 |nil=>simp at h
 | cons a as ih=>
   cases j with
   | zero=>
     simp at h;subst h
     cases k with
     |zero=>rfl
     | succ k=>
       simp at h';have:=gB h';simp[cI]at nd;exact absurd this nd.1
   | succ j=>
     cases k with
     | zero=>
       simp at h';subst h';simp at h;have:=gB h;simp[cI]at nd;exact absurd this nd.1
     | succ k=>
       simp at h h'
       have nd':(cI as).Nodup:=by
        cases a with
        |t i' mp=>simp[cI]at nd;exact nd.2
        |e me=>exact nd
        |b i' mp=>exact nd
       rw[ih nd' h h']
theorem qP{as:List Arg}{i:Nat}(h:i∈cI as):∃(k:Nat) (mp:MP),as[k]?=some (.t i mp):=by
 induction as with
 |nil=>simp[cI]at h
 | cons a as ih=>
   cases a with
   | t j mp=>
     simp[cI]at h
     rcases h with h|h
     . subst h;exact⟨0,mp,rfl⟩
     . obtain⟨k,mp',e⟩:=ih h;exact⟨k+1,mp',by simpa using e⟩
   |e me=>obtain⟨k,mp',e⟩:=ih h;exact⟨k+1,mp',by simpa using e⟩
   |b j mp=>obtain⟨k,mp',e⟩:=ih h;exact⟨k+1,mp',by simpa using e⟩
theorem qX{as:List Arg}{ρ₀:ah}:∀{us:List (Option OV)} {ρ:ah} {i:Nat},i∉cI as->(fi ρ₀ as us ρ)[i]?=ρ[i]?:=by
 induction as with
 |nil=>intro us ρ i _;rfl
 | cons a as ih=>
   intro us ρ i h;unfold fi
   cases a with
   |e me=>rw[ih h];rfl
   |b j mp=>rw[ih h];rfl
   | t j mp=>
     simp[cI]at h;rw[ih h.2]
     have:∀ x:Option Sl,(ρ.set j x)[i]?=ρ[i]?:=fun x=>List.getElem?_set_ne (Ne.symm h.1)
     cases us.head?.join with
     |none=>exact this _
     | some u=>
       unfold ku;dsimp only;split
       . split
         . exact this _
         . exact this _
       . exact this _
theorem yx{as:List Arg}{ρ₀:ah}:∀{us:List (Option OV)} {ρ:ah} {i k:Nat} {mp:MP} {s:Sl},(cI as).Nodup->as[k]?=some (.t i mp)->(fi ρ₀ as us ρ)[i]?=some (some s) ->
  ∃ io t π u,us[k]?=some (some u) /\ ρ[i]?=some (some (.tr io t)) /\ mp ρ₀=some π /\ s=.tr io (t.put π u):=by
 induction as with
 |nil=>intro us ρ i k mp s _ h;simp at h
 | cons a as ih=>
   intro us ρ i k mp s nd h e;unfold fi at e
   cases k with
   | zero=>
     simp at h;subst h;simp[cI]at nd;rw[qX nd.1]at e
     cases us with
     | nil=>
       unfold ku at e;simp at e;rw[List.getElem?_set]at e;simp at e
     | cons u us=>
       cases u with
       | none=>
         unfold ku at e;simp at e;rw[List.getElem?_set]at e;simp at e
       | some u=>
         unfold ku at e;simp only[List.head?_cons,Option.join_some]at e;split at e
         . rename_i io t hi;split at e
           . rename_i π hπ;rw[List.getElem?_set]at e;simp at e
             exact⟨io,t,π,u,rfl,hi,hπ,e.2.symm⟩
           . rw[List.getElem?_set]at e;simp at e
         . rw[List.getElem?_set]at e;simp at e
   | succ k=>
     simp at h
     have nd':(cI as).Nodup:=by
      cases a with
      |t i' mp=>simp[cI]at nd;exact nd.2
      |e me=>exact nd
      |b i' mp=>exact nd
     obtain⟨io,t,π,u,e1,e2,e3,e4⟩:=ih nd' h e
     refine⟨io,t,π,u,?_,?_,e3,e4⟩
     . cases us with
       |nil=>simp at e1
       |cons _ us=>simpa using e1
     . cases a with
       |e me=>exact e2
       |b j mp=>exact e2
       | t j mp'=>
         have hij:i≠j:=by
          intro z;subst z;simp[cI]at nd;exact nd.1 (gB h)
         have:∀ x:Option Sl,(ρ.set j x)[i]?=ρ[i]?:=fun x=>List.getElem?_set_ne (Ne.symm hij)
         cases q:us.head?.join with
         |none=>rw[q]at e2;unfold ku at e2;simp only at e2;rw[this]at e2;exact e2
         | some u=>
           rw[q]at e2;unfold ku at e2;simp only at e2;split at e2
           . split at e2
             . rw[this]at e2;exact e2
             . rw[this]at e2;exact e2
           . rw[this]at e2;exact e2
theorem yo{as:List Arg}{ρ₀:ah}:∀{us:List (Option OV)} {ρ:ah},(fi ρ₀ as us ρ).length=ρ.length:=by
 induction as with
 |nil=>intro us ρ;rfl
 | cons a as ih=>
   intro us ρ;unfold fi;rw[ih];unfold ku;split
   . split
     . split<;>simp
     . simp
   . simp
   . rfl
theorem SR.Jp{as:List Arg}{ss:List Sl}{vs:List V}(I:SR K cls Av G S₀ ρ σ S H)(ok:argsOk as=true)(h:ARs K S H ρ σ as ss vs):
  ∃ Fc,Fm K cls ss vs S H Fc /\ ∀ outs S' H' Fc',Ei K cls vs S H Fc outs S' H' Fc'->SR K cls Av G S₀ (fi ρ as outs ρ) σ S' H':=by
 obtain⟨F,J⟩:=I;unfold argsOk at ok;rw[Bool.and_eq_true,decide_eq_true_eq]at ok;obtain⟨nd,hb⟩:=ok
 have cell:∀ k:Nat,∃ d:List Addr×List Addr,(∀ i mp,as[k]?=some (.t i mp)->∃ io t π u v0 w,ss[k]?=some (.tr true u) /\ vs[k]?=some w /\ ρ[i]?=some (some (.tr io t)) /\ mp ρ=some π /\ t.get π=some u /\ σ[i]?=some (some v0) /\ bB K cls S H u w d.1 /\ (F i).Perm (d.1++d.2) /\ (d.1++d.2).Nodup /\ (io=true->Av i=some (.lst [v0])) /\
   ∀ S' H' u' f',aD S S'->bB K cls S' H' u' w f'->(∀ a∈d.2,∀ o,H a=some o->H' a=some o)->∃ g,bB K cls S' H' (t.put π u') v0 g /\ g.Perm (f'++d.2)) /\ ((∀ i mp,as[k]?≠some (.t i mp))->d=([],[])):=by
  intro k
  by_cases hk:∃ i mp,as[k]?=some (.t i mp)
  . obtain⟨i,mp,e⟩:=hk;obtain⟨s,w,es,ev,r⟩:=h.at e
    cases s with
    | tr io' u=>
      cases io' with
      |false=>exact r.elim
      | true=>
        obtain⟨io,t,π,v0,h1,h2,h3,h4,h5⟩:=r;obtain⟨v,ev',ro,ndf,gs,hio⟩:=J.own i _ h1;rw[h4]at ev';cases ev';obtain⟨w',f1,rest,wk,r1,p1,c1⟩:=ro.focus h3;have:=h5.inj wk;subst this
        refine⟨(f1,rest),fun i' mp' e'=>?_,fun z=>absurd e (z i mp)⟩
        rw[e]at e'
        cases e'
        exact⟨io,t,π,u,v0,w,es,ev,h1,h2,h3,h4,r1,p1,p1.nodup_iff.mp ndf,hio,c1⟩
    |sh x=>exact r.elim
    |ow x=>exact r.elim
    |ex c fs=>exact r.elim
    |bo x=>exact r.elim
  . exact⟨([],[]),fun i mp e=>absurd ⟨i,mp,e⟩ hk,fun _=>rfl⟩
 obtain⟨d,hd⟩:=Classical.axiomOfChoice cell
 have tOf:∀ k a,a∈(d k).1->∃ i mp,as[k]?=some (.t i mp) /\ a∈F i:=by
  intro k a ha
  by_cases hk:∃ i mp,as[k]?=some (.t i mp)
  . obtain⟨i,mp,e⟩:=hk;obtain⟨io,t,π,u,v0,w,_,_,_,_,_,_,_,p1,_⟩:=(hd k).1 i mp e
    exact⟨i,mp,e,p1.mem_iff.mpr (List.mem_append_left _ ha)⟩
  . rw[(hd k).2 fun i mp e=>hk ⟨i,mp,e⟩]at ha;cases ha
 have hlen:=h.len
 have qR:∀ i a,a∈F i->(∀ k mp,as[k]?=some (.t i mp)->a∉(d k).1)->∀ k,a∉(d k).1:=by
  intro i a ha hn k hk;obtain⟨i',mp,e,ha'⟩:=tOf k a hk;have:=J.apart i i' a ha ha';subst this;exact hn k mp e hk
 refine⟨fun k=>(d k).1,⟨J.sh,by rw[hlen.1,hlen.2],fun k s es=>?_,fun j k a h1 h2=>?_,fun k a ha=>?_⟩,fun outs S' H' Fc' E=>?_⟩
 . have hk:k<as.length:=by rw[<- hlen.1];exact(List.getElem?_eq_some_iff.mp es).1
   obtain⟨s',w,es',ev,r⟩:=h.at (k:=k) (a:=as[k]) (by simp[hk]);rw[es]at es';cases es'
   refine⟨w,ev,?_⟩
   cases q:as[k]with
   | e me=>
     rw[q]at r
     have hz:=(hd k).2 fun i mp e=>by rw[List.getElem?_eq_getElem hk,q]at e;cases e
     cases s<;>first|exact r.elim|exact⟨by rw[hz],r⟩
   | t i mp=>
     have eq:as[k]?=some (.t i mp):=by rw[List.getElem?_eq_getElem hk,q]
     obtain⟨io,t,π,u,v0,w',es',ev',_,_,_,_,r1,_,nd1,_⟩:=(hd k).1 i mp eq;rw[es]at es';cases es';rw[ev]at ev';cases ev'
     exact⟨r1,(List.nodup_append.mp nd1).1⟩
   | b i mp=>
     have eq:as[k]?=some (.b i mp):=by rw[List.getElem?_eq_getElem hk,q]
     rw[q]at r
     have hz:=(hd k).2 fun i mp e=>by rw[eq]at e;cases e
     cases s with
     | bo u=>
       obtain⟨t,π,v0,h1,h2,h3,h4,h5⟩:=r
       refine⟨by rw[hz],?_⟩
       have nt:i∉cI as:=by
        have:=List.all_eq_true.mp hb i (yw eq)
        simpa using this
       have ro:∃ f,bB K cls S (minus H fun k=>(d k).1) t v0 f:=by
        unfold gb at h1
        cases q1:ρ[i]? with
        |none=>rw[q1]at h1;cases h1
        | some o=>
          cases o with
          |none=>rw[q1]at h1;cases h1
          | some s1=>
            rw[q1]at h1;obtain⟨v,ev',r⟩:=J.own i s1 q1;rw[h4]at ev';cases ev'
            cases s1 with
            | tr io t'=>
              cases h1
              exact⟨_,r.1.mono (aD.refl _) fun a ha o ho=>by
               rw[lg (qR i a ha fun k' mp' e'=>absurd (gB e') nt)];exact ho⟩
            | bo t'=>
              cases h1;obtain⟨_,f,r⟩:=r
              exact⟨f,r.mono (aD.refl _) fun a ha o ho=>by
               rw[lg fun k' hk'=>?_]
               . exact J.gh _ _ ho
               . obtain⟨i',mp',_,ha'⟩:=tOf k' a hk'
                 rw[(J.live i' a ha').2.1]at ho;cases ho⟩
            |sh x=>cases h1
            |ow x=>cases h1
            |ex c fs=>cases h1
       obtain⟨f,ro⟩:=ro;obtain⟨w',f1,rest,wk,r1,_,_⟩:=ro.focus h3;have:=h5.inj (wk.mono uf);subst this
       exact⟨f1,r1⟩
     |sh x=>exact r.elim
     |ow x=>exact r.elim
     |ex c fs=>exact r.elim
     |tr io x=>exact r.elim
 . obtain⟨i,mp,e1,m1⟩:=tOf j a h1;obtain⟨i',mp',e2,m2⟩:=tOf k a h2;have:=J.apart i i' a m1 m2;subst this;exact lp nd e1 e2
 . obtain⟨i,mp,e1,m1⟩:=tOf k a ha
   exact⟨(J.live i a m1).1,(J.live i a m1).2.2⟩
 .
  have noS:∀ i a,a∈F i->(∀ k,a∉(d k).1)->S' a=none:=fun i a ha hn=>by
   cases z:S' a with
   |none=>rfl
   | some o=>
     obtain⟨⟨o',h1,_⟩,_,h3⟩:=J.live i a ha
     rcases E.new a (by rw[z];simp)with y|y|⟨k,y⟩
     . exact absurd h3 y
     . rw[h1]at y;cases y
     . exact absurd y (hn k)
  have keep:∀ a o,(∀ k,a∉(d k).1)->H a=some o->H' a=some o:=fun a o hn ho=>E.keep a o (by rw[lg hn];exact ho)
  have restOff:∀ k i mp,as[k]?=some (.t i mp)->∀ a∈(d k).2,a∈F i /\ ∀ k',a∉(d k').1:=fun k i mp e a ha=>by
   obtain⟨io,t,π,u,v0,w,_,_,_,_,_,_,_,p1,nd1,_⟩:=(hd k).1 i mp e
   have m:a∈F i:=p1.mem_iff.mpr (List.mem_append_right _ ha)
   refine⟨m,qR i a m fun k' mp' e' hk'=>?_⟩
   have:=lp nd e e';subst this
   exact(List.nodup_append.mp nd1).2.2 a hk' a ha rfl
  have gcell:∀ k:Nat,∃ g:List Addr,∀ i mp u',as[k]?=some (.t i mp)->outs[k]?=some (some u')->∀ io t π,ρ[i]?=some (some (.tr io t))->mp ρ=some π->∃ v0,σ[i]?=some (some v0) /\ (io=true->Av i=some (.lst [v0])) /\ bB K cls S' H' (t.put π u') v0 g /\ g.Perm (Fc' k++(d k).2):=by
   intro k
   by_cases hk:∃ i mp u',as[k]?=some (.t i mp) /\ outs[k]?=some (some u')
   . obtain⟨i,mp,u',e,eo⟩:=hk;obtain⟨io,t,π,u,v0,w,es,ev,h1,h2,h3,h4,r1,p1,nd1,hio,c1⟩:=(hd k).1 i mp e;obtain⟨w',ew,r',ndf'⟩:=E.out k u' eo;rw[ev]at ew;cases ew
     obtain⟨g,rg,pg⟩:=c1 S' H' u' (Fc' k) E.s r' fun a ha o ho=>keep a o (restOff k i mp e a ha).2 ho
     refine⟨g,fun i' mp' u'' e' eo' io' t' π' h1' h2'=>?_⟩
     rw[e]at e';cases e';rw[eo]at eo';cases eo';rw[h1]at h1';cases h1';rw[h2]at h2';cases h2'
     exact⟨v0,h4,hio,rg,pg⟩
   . exact⟨[],fun i mp u' e eo=>absurd ⟨i,mp,u',e,eo⟩ hk⟩
  obtain⟨g,hg⟩:=Classical.axiomOfChoice gcell
  have fcell:∀ i:Nat,∃ f:List Addr,(i∉cI as->f=F i) /\ ∀ k mp,as[k]?=some (.t i mp)->((∃ io t π u',ρ[i]?=some (some (.tr io t)) /\ mp ρ=some π /\ outs[k]?=some (some u'))->f=g k) /\ ((¬ ∃ io t π u',ρ[i]?=some (some (.tr io t)) /\ mp ρ=some π /\ outs[k]?=some (some u'))->f=[]):=by
   intro i
   by_cases hi:i∈cI as
   . obtain⟨k,mp,e⟩:=qP hi
     by_cases hx:∃ io t π u',ρ[i]?=some (some (.tr io t)) /\ mp ρ=some π /\ outs[k]?=some (some u')
     . refine⟨g k,fun z=>absurd hi z,fun k' mp' e'=>?_⟩
       have:=lp nd e e';subst this;rw[e]at e';cases e'
       exact⟨fun _=>rfl,fun z=>absurd hx z⟩
     . refine⟨[],fun z=>absurd hi z,fun k' mp' e'=>?_⟩
       have:=lp nd e e';subst this;rw[e]at e';cases e'
       exact⟨fun z=>absurd z hx,fun _=>rfl⟩
   . exact⟨F i,fun _=>rfl,fun k mp e=>absurd (gB e) hi⟩
  obtain⟨F',hF'⟩:=Classical.axiomOfChoice fcell
  have memF:∀ i a,a∈F' i->(i∉cI as /\ a∈F i /\ ∀ k,a∉(d k).1) \/ (∃ k mp,as[k]?=some (.t i mp) /\ F' i=g k /\ ((a∈Fc' k) \/ (a∈F i /\ ∀ k,a∉(d k).1)) /\ ∃ io t π u',ρ[i]?=some (some (.tr io t)) /\ mp ρ=some π /\ outs[k]?=some (some u')):=by
   intro i a ha
   by_cases hi:i∈cI as
   . obtain⟨k,mp,e⟩:=qP hi
     by_cases hx:∃ io t π u',ρ[i]?=some (some (.tr io t)) /\ mp ρ=some π /\ outs[k]?=some (some u')
     . have e1:=((hF' i).2 k mp e).1 hx;refine .inr ⟨k,mp,e,e1,?_,hx⟩;obtain⟨io,t,π,u',h1,h2,h3⟩:=hx;obtain⟨v0,_,_,rg,pg⟩:=hg k i mp u' e h3 io t π h1 h2;rw[e1]at ha
       rcases List.mem_append.mp (pg.mem_iff.mp ha)with z|z
       . exact .inl z
       . exact .inr (restOff k i mp e a z)
     . rw[((hF' i).2 k mp e).2 hx]at ha;cases ha
   . have e1:=(hF' i).1 hi;rw[e1]at ha;exact .inl ⟨hi,ha,qR i a ha fun k mp e=>absurd (gB e) hi⟩
  refine⟨F',?_,J.s0.trans E.s,E.sh,fun b hbn=>?_,fun i s e=>?_,fun i j a h1 h2=>?_,fun i a ha=>?_,?_⟩
  . intro b u hu;refine keep b u (fun k hk=>?_) (J.gh b u hu);obtain⟨i,mp,_,m⟩:=tOf k b hk;rw[(J.live i b m).2.1]at hu;cases hu
  . rcases E.new b hbn with z|z|⟨k,z⟩
    . exact J.new b z
    . exact .inr (J.gh.free z)
    . obtain⟨i,mp,_,m⟩:=tOf k b z;exact .inr (J.live i b m).2.1
  . by_cases hi:i∈cI as
    . obtain⟨k,mp,ek⟩:=qP hi;obtain⟨io,t,π,u,e1,e2,e3,rfl⟩:=yx nd ek e;obtain⟨v0,h1,hio,rg,pg⟩:=hg k i mp u ek e1 io t π e2 e3;have e4:=((hF' i).2 k mp ek).1 ⟨io,t,π,u,e2,e3,e1⟩;rw[e4];obtain⟨w',ew,r',ndf'⟩:=E.out k u e1
      refine⟨v0,h1,rg,pg.nodup_iff.mpr (List.nodup_append.mpr ⟨ndf',?_,fun a ha b hb' z=>?_⟩),fun a ha=>?_,hio⟩
      . obtain⟨_,_,_,_,_,_,_,_,_,_,_,_,_,_,nd1,_⟩:=(hd k).1 i mp ek
        exact(List.nodup_append.mp nd1).2.1
      . subst z;obtain⟨m,off⟩:=restOff k i mp ek a hb';have:=(E.live k a ha).1;rw[lg off]at this;obtain⟨⟨o,ho,_⟩,_⟩:=J.live i a m;rw[this]at ho;cases ho
      . rcases List.mem_append.mp (pg.mem_iff.mp ha)with z|z
        . refine⟨?_,(E.live k a z).2⟩
          rcases pq (E.live k a z).1 with y|⟨k',y⟩
          . exact J.gh.free y
          . obtain⟨i',mp',_,m⟩:=tOf k' a y
            exact(J.live i' a m).2.1
        . obtain⟨m,off⟩:=restOff k i mp ek a z
          exact⟨(J.live i a m).2.1,noS i a m off⟩
    . rw[qX hi]at e;obtain⟨v,ev,r⟩:=J.own i s e;rw[(hF' i).1 hi]
      have off:∀ a∈F i,∀ k,a∉(d k).1:=fun a ha=>qR i a ha fun k mp e=>absurd (gB e) hi
      exact⟨v,ev,r.mono E.s (fun a ha o ho=>keep a o (off a ha) ho) (fun b o hx ho=>keep b o (fun k hk=>by
       obtain⟨i',mp',_,m⟩:=tOf k b hk;obtain⟨⟨o',h1,h2⟩,_⟩:=J.live i' b m
       rw[ho]at h1;cases h1;rw[hx]at h2;cases h2) ho) fun a ha=>noS i a ha (off a ha)⟩
  .
   have key:∀ i j a,a∈F' i->a∈F' j->(∃ k,a∈Fc' k)->∃ k mp,as[k]?=some (.t i mp) /\ a∈Fc' k:=by
    intro i j a ha _ ⟨k0,hk0⟩
    have no:∀ i',a∈F i'->¬ ∀ k,a∉(d k).1:=fun i' m off=>by
     have:=(E.live k0 a hk0).1;rw[lg off]at this;obtain⟨⟨o,ho,_⟩,_⟩:=J.live i' a m;rw[this]at ho;cases ho
    rcases memF i a ha with⟨_,m,off⟩|⟨k,mp,e,_,z,_⟩
    . exact absurd off (no i m)
    . rcases z with z|⟨m,off⟩
      . exact⟨k,mp,e,z⟩
      . exact absurd off (no i m)
   by_cases hk:∃ k,a∈Fc' k
   . obtain⟨k1,mp1,e1,z1⟩:=key i j a h1 h2 hk;obtain⟨k2,mp2,e2,z2⟩:=key j i a h2 h1 hk;have:=E.apart k1 k2 a z1 z2;subst this;rw[e1]at e2;cases e2;rfl
   . have fromF:∀ i,a ∈ F' i -> a ∈ F i:=fun i ha=>by
      rcases memF i a ha with⟨_,m,_⟩|⟨k,mp,e,_,z,_⟩
      . exact m
      . rcases z with z|⟨m,_⟩
        . exact absurd ⟨k,z⟩ hk
        . exact m
     exact J.apart i j a (fromF i h1) (fromF j h2)
  . rcases memF i a ha with⟨_,m,off⟩|⟨k,mp,e,eg,z,io,t,π,u',x1,x2,x3⟩
    . obtain⟨⟨o,ho,hx⟩,hg',_⟩:=J.live i a m
      exact⟨⟨o,keep a o off ho,hx⟩,hg',noS i a m off⟩
    . obtain⟨v0,_,_,rg,pg⟩:=hg k i mp u' e x3 io t π x1 x2;rw[eg]at ha
      refine⟨rg.live a ha,?_⟩
      rcases z with z|⟨m,off⟩
      . refine⟨?_,(E.live k a z).2⟩
        rcases pq (E.live k a z).1 with y|⟨k',y⟩
        . exact J.gh.free y
        . obtain⟨i',mp',_,m⟩:=tOf k' a y
          exact(J.live i' a m).2.1
      . exact⟨(J.live i a m).2.1,noS i a m off⟩
  . rw[yo];exact J.len
end
end L2.P
namespace L2.E
open PySem PySem.Spec PyProof.Rows L2
end L2.E
namespace L2.P
open PySem PySem.Spec PyProof.Rows L2 L2.E
section
variable{K:PySem.W.Frag}{cls:String->Option Addr}{W:XW}{Av G S₀ S S' H H' B B':Hp}{ρ:ah}{σ:St}{Q:VK}{F Fc Fc':Nat->List Addr}
theorem SR.more(I:SR K cls Av G S₀ ρ σ S H)(h:Rep K S x v):SR K cls Av G S₀ (ρ++[some (.sh x)]) (σ++[some v]) S H:=by
 obtain⟨F,J⟩:=I
 exact J.more (fp:=[]) (fun t e=>by cases e;exact⟨v,rfl,rfl,h⟩) (fun a ha=>nomatch ha) fun j a _ ha=>nomatch ha
theorem yI{f:List Sl->OI}(ok:argsOk as=true)(I:SR K cls Av G S₀ ρ σ S1 H1)(s1:aD S S1)(ar:ARs K S1 H1 ρ σ as ss vs)
  (p:E9 K cls W Av G S₀ σ S Q (match f ss with
    |.ok x outs=>.ok (fi ρ as outs ρ) (.sh x)
    |.exc c fs outs=>.exc (fi ρ as outs ρ) c fs
    |.bad=>.bad)):spI K cls f vs H1 Q fun C a H'=>W C a σ H':=by
 obtain⟨Fc,A,fin⟩:=I.Jp ok ar
 refine⟨S1,ss,Fc,A,?_⟩
 cases e:f ss with
 |bad=>rw[e]at p;exact p
 |ok x outs=>rw[e]at p;exact fun v S' H' Fc' E r=>p v S' H' ((fin outs S' H' Fc' E).more r) (s1.trans E.s)
 |exc c fs outs=>rw[e]at p;exact fun a C S' H' Fc' E r=>p a C S' H' (fin outs S' H' Fc' E) (s1.trans E.s) r
theorem tq{f:List Sl->OI}(ok:argsOk as=true)(h:JAI K cls t as):JX K cls W (tD (spI K cls f) [] W t) (kl f as):=by
 intro Av G S₀ ρ σ S H Q I p;unfold kl at p
 cases e:qc as ρ with
 |none=>rw[e]at p;exact p.elim
 | some ss=>
   rw[e]at p
   refine h Av G S₀ ρ σ S H _ ss I e fun vs S1 H1 w1 ar=>?_
   show spI K cls f (vs++[]) H1 Q _;rw[List.append_nil];exact yI ok (I.grow w1) w1.s ar p
end
end L2.P
namespace L2.E
open PySem PySem.Spec PyProof.Rows L2
noncomputable def pL(wi:TI)(ι:List Nat)(tc:TT)(te:TE):TE:=fun σ H Q=>wi σ H fun J H1=>∀ D,H1 D=none->∃ W:Nat->Nat->List V->Hp->Prop,(∃ m,W 0 m [] (upd H1 D (.lst []))) /\ ∀ i m ys H,W i m ys H ->
 H D=some (.lst ys) /\ ((J.stop i H /\ Q (.ref D) H) \/ (J.go i H /\ ∀ x H',J.yld i H x H'->tc (pick ι σ++[some x]) H' fun b H3=>H3 D=some (.lst ys) /\ if b=true then
   te (pick ι σ++[some x]) H3 fun y H2=>H2 D=some (.lst ys) /\ ys.length<sizeLine /\ ∃ m',m'<m /\ W (i+1) m' (ys++[y]) (upd H2 D (.lst (ys++[y])))else ∃ m',m'<m /\ W (i+1) m' ys H3))
section
variable{X:Cx}{scope:Scope}{cl:List (Str×Addr)}{M:List Str}{ι:List Nat}{x:Str}
theorem AX{elt iter c:Expr}{px pos:Pos}{wi:TI}{tc:TT}{te:TE}(S:lS X scope cl M ι x)(hc:X.calm=true)(hi:PI X (.Name x px) iter wi)(hcd:∀ C s₀ H₀ ex,PT (blk X scope cl (M++[x]) C s₀ H₀ ex) c tc)(he:∀ C s₀ H₀ ex,PE (blk X scope cl (M++[x]) C s₀ H₀ ex) elt te)
  (hs:∀ v,foldedSetIterable iter X.env v=pure v:=by intro _;rfl):PE X (.ListComp elt [⟨.Name x px,iter,[c],0⟩] scope pos) (pL wi ι tc te):=by
 intro pins s σ H Q I h;rw[eval_ListComp];refine wpAny_comprehension_free (use:=none) rfl hs S.clos S.kind (fun y hy hl=>?_) (wpAny_mono (hi pins s σ H _ I h) (fun v s1 h1=>wpAny_mono h1 (fun itv s2 h2=>?_) fun _ _ z=>z) fun _ _ z=>z)
 . have q:=List.all_eq_true.mp S.locs y hy;rw[hl]at q
   simpa using q
 obtain⟨it,fp,tn,J,H2,rfl,I2,T,st2,f2,hW⟩:=h2;have I3:=I2.CD (ys:=[]) (its:=[]) (t':=s2.toks) .nil (Nat.zero_le _);obtain⟨W,⟨m0,w0⟩,turn⟩:=hW s2.heap.objs.size I2.fresh
 have fpo:∀ b∈fp,b<s2.heap.objs.size:=fun b hb=>let ⟨_,e,_⟩:=T.obj _ _ st2 b hb;Heap.lt_size e
 have f3:∀ b∈fp,kM X pins (upd H2 s2.heap.objs.size (.lst [])) b:=fun b hb=>by
  obtain⟨q0,q⟩:=f2 b hb
  exact⟨by rw[bQ (Nat.ne_of_lt (fpo b hb))];exact q0,q⟩
 show wpAny _ _ (newObj (.type "list") _ none) _ _ s2;refine wpAny_newObj_type (wpAny_newFunctionEnv (fun y hy=>?_) (by intro y hy;simp at hy) (fun h₁ hn₁ sb₁=>?_) S.kind)
 . have q:=List.all_eq_true.mp S.nocell y hy
   simpa using q
 have hsz:(s2.heap.push { cls:=.type "list",dict:=none,data:=.seq ([]:List Value).toArray }).objs.size=s2.heap.objs.size+1:=Heap.size_push ..
 have hk₁:∀ b o,(s2.heap.push { cls:=.type "list",dict:=none,data:=.seq ([]:List Value).toArray }).get? b=some o->h₁.get? b=some o:=fun b o e=>
  (sb₁.2 b (Nat.ne_of_lt (Heap.lt_size e))).trans (Heap.get?_push_of_some _ e)
 have J0:=yK (t':=s2.toks+([]:List (Str×Value)).length) S I3 (ex:=fp) (fun b hb=>⟨f3 b hb,Nat.lt_of_lt_of_le (fpo b hb) (by rw[hsz];exact Nat.le_succ _)⟩) hn₁ hk₁
 have old:∀ b∈fp,∀ o,s2.heap.get? b=some o->h₁.get? b=some o:=fun b _ o e=>hk₁ b o (Heap.get?_push_of_some _ e)
 have st₁:tn 0 h₁:=T.keep _ _ _ st2 old
 have loop:codeAny (model X.prog X.w) X.A (.compLoop (.ListComp elt [⟨.Name x px,iter,[c],0⟩] scope pos) 0 (.ref it) (.ref s2.heap.objs.size) (compEnvC scope cl (s2.heap.objs.size+1) X.env))
   (compPost (model X.prog X.w) X.A X.xe none (EP X pins σ Q) (.ref s2.heap.objs.size) (s2.heap.objs.size+1)) { s2 with heap:=h₁,toks:=s2.toks+([]:List (Str×Value)).length }:=by
  rw[hsz]at J0
  refine codeAny_loop rfl (fun n s'=>∃ i H' ys v,Inv (blk X scope cl (M++[x]) (s2.heap.objs.size+1) { s2 with heap:=s2.heap.push { cls:=.type "list",data:=.seq ([]:List Value).toArray },toks:=s2.toks } (upd H2 s2.heap.objs.size (.lst [])) fp) [] (pick ι σ++[v]) H' s' /\ tn i s'.heap /\ (∀ b∈fp,H' b=none) /\ W i n ys H')
   (fun n s' hI=>?_) m0 ⟨0,_,[],none,J0,st₁,fun b hb=>(f3 b hb).1,w0⟩
  obtain⟨i,H',ys,v,J',st',fr',w'⟩:=hI;obtain⟨hD,alt⟩:=turn i n ys H' w'
  have fpY:∀{G:Hp},(∀ b∈fp,G b=none)->∀ b∈fp,kM (blk X scope cl (M++[x]) (s2.heap.objs.size+1) { s2 with heap:=s2.heap.push { cls:=.type "list",data:=.seq ([]:List Value).toArray },toks:=s2.toks } (upd H2 s2.heap.objs.size (.lst [])) fp) [] G b:=fun hG b hb=>
   ⟨hG b hb,(J'.ok.exf b hb).1,J'.ok.exfs b hb,.inl hb,(J'.ok.exf b hb).2,fun p hp=>absurd (show p∈([]:List (Addr×Obj)) from hp) (by simp)⟩
  show wpAny _ _ ((compTurn _ 0 (.ref it) (.ref s2.heap.objs.size) (compEnvC scope cl (s2.heap.objs.size+1) X.env)).onRaise _) _ _ s';refine wpAny_noted (wpAny_noRaise ?_);rw[compTurn_list];refine wpAny_bind (wpAny_standAt (wpAny_bind ?_))
  rcases alt with⟨stop,qn⟩|⟨go,step⟩
  . refine thn (T.done (blk X scope cl (M++[x]) (s2.heap.objs.size+1) _ _ fp) rfl rfl rfl hc i [] s' _ H' _ J' (fpY fr') st' stop) fun r s4 ⟨hr,J4⟩=>?_
    subst hr;refine wpAny_pure ?_;obtain⟨m,hm,_⟩:=id J4.loc
    refine⟨m,hm,fun h' sb=>⟨.ref s2.heap.objs.size,H',wM I3 hsz.symm f3 J4 sb,rfl,qn⟩⟩
  . refine thn (T.item (blk X scope cl (M++[x]) (s2.heap.objs.size+1) _ _ fp) rfl rfl rfl hc i [] s' _ H' _ J' (fpY fr') st' go) fun r s4 ⟨u,hr,h4⟩=>?_
    subst hr;refine wpAny_bind (thn h4 fun _ s5 ⟨z,H5,J5,r5,y5,st5,fr5⟩=>?_)
    have J5':=J5.pinned (fpY fr5) (T.obj _ _ st5)
    have hxN:(M++[x])[M.length]?=some x:=by simp
    refine wpAny_bind ?_;refine wpAny_assign_Name ?_;refine gg (X:=blk X scope cl (M++[x]) (s2.heap.objs.size+1) _ _ fp) (i:=M.length) (v:=z) J5' S.nd hxN (.inl (lookup_relabel_local S.var)) r5 (fun s6 J6=>?_) (.inr (lookup_relabel_local S.var))
    have hlp:(pick ι σ).length=M.length:=by
     have q:=congrArg List.length S.names;rw[List.length_map,List.length_map]at q;unfold pick;rw[List.length_map,q]
    have hset:(pick ι σ++[v]).set M.length (some z)=pick ι σ++[some z]:=by
     rw[<- hlp,List.set_append_right _ _ (Nat.le_refl _),Nat.sub_self];rfl
    rw[hset]at J6;refine wpAny_bind (wpAny_tests_one (thn (hcd _ _ _ _ _ s6 _ H5 _ J6 (step z H5 y5)) fun b s7 ⟨H7,J7,hD7,q7⟩=>?_))
    cases b with
    | true=>
      rw[if_pos rfl]at q7;refine wpAny_bind (wpAny_bind (thn (he _ _ _ _ _ s7 _ H7 _ J7 q7) fun yv s8 ⟨y,H8,J8,r8,hD8,hz8,m',hm',w8⟩=>?_));refine wpAny_bind (thn (bx (X:=blk X scope cl (M++[x]) (s2.heap.objs.size+1) _ _ fp) _ s8 _ H8 (.ref s2.heap.objs.size) [y] (.ref s2.heap.objs.size) [yv] (fun _ G=>G=upd H8 s2.heap.objs.size (.lst (ys++[y]))) J8 rfl (.cons r8 .nil) ⟨_,_,y,rfl,rfl,hD8,hz8,rfl⟩) fun _ s9 ⟨_,H9,J9,_,e9⟩=>?_);subst e9;refine wpAny_pure (wpAny_pure ⟨rfl,m',hm',i+1,_,_,some z,J9.fK,?_,fun b hb=>?_,w8⟩)
      . exact T.keep _ _ _ st5 fun b hb o e=>(J9.pin (b,o) (List.mem_append_right _ (List.mem_append_right _ (cf hb e)))).1
      . obtain⟨o,e,d⟩:=T.obj _ _ st5 b hb
        exact(J9.pin (b,o) (List.mem_append_right _ (List.mem_append_right _ (cf hb e)))).2.1
    | false=>
      rw[if_neg (by decide)]at q7;obtain⟨m',hm',w8⟩:=q7;refine wpAny_pure ⟨rfl,m',hm',i+1,_,_,some z,J7.fK,?_,fun b hb=>?_,w8⟩
      . exact T.keep _ _ _ st5 fun b hb o e=>(J7.pin (b,o) (List.mem_append_right _ (List.mem_append_right _ (cf hb e)))).1
      . obtain⟨o,e,d⟩:=T.obj _ _ st5 b hb
        exact(J7.pin (b,o) (List.mem_append_right _ (List.mem_append_right _ (cf hb e)))).2.1
 rw[hsz]at *;exact codeAny_compStart_list loop (T.self X.A 0 _ _ _ st₁ loop)
end
section
variable{X:Cx}{scope:Scope}{cl:List (Str×Addr)}{M:List Str}{ι:List Nat}{x:Str}
theorem ES{i:Nat}{y:Str}{py spos:Pos}{elt iter:Expr}{px pos:Pos}{wi:TI}{te:TE}(S:lS X scope cl M ι x)(hc:X.calm=true)(hi:PI X (.Name x px) iter wi)(he:∀ C s₀ H₀ ex,PE (blk X scope cl (M++[x]) C s₀ H₀ ex) elt te)
  (hN:X.N.Nodup) (hiy:X.N[i]?=some y) (hy:Loc X.env.scope y) (hsw:swapsWith (.ListComp elt [⟨.Name x px,iter,[],0⟩] scope pos) (some (.Name y py)) spos.line X.env=pure true) (hf:X.fn y=true \/ X.env.scope.names.lookup y=some .local:=by first|exact .inl rfl|exact .inr rfl|assumption)
  (hs:∀ v,foldedSetIterable iter X.env v=pure v:=by intro _;rfl):PS X (.Assign [.Name y py] (.ListComp elt [⟨.Name x px,iter,[],0⟩] scope pos) spos) (qK (tH wi ι te) (ir i)):=by
 intro pins s σ H D0 I h;rw[exec_Assign_Name_used _ _ _ _ hsw];refine wpAny_bind (wpAny_standAt (wpAny_bind ?_));show wpAny _ _ (do let _ <- comprehension (.ListComp elt [⟨.Name x px,iter,[],0⟩] scope pos) scope X.env _ (newList []) false (eval iter X.env) (some (assign (.Name y py) X.env))) _ _ s;refine wpAny_bind (wpAny_mono (wpAny_comprehension_free (use:=some (assign (.Name y py) X.env)) (Q:=fun _ s'=>∃ σ' H',Inv X pins σ' H' s' /\ D0.nx σ' H') rfl hs S.clos S.kind (fun y hy hl=>?_) (wpAny_mono (hi pins s σ H _ I h) (fun v s1 h1=>wpAny_mono h1 (fun itv s2 h2=>?_) fun _ _ z=>z) fun _ _ z=>z)) (fun _ s' hq=>wpAny_pure (wpAny_pure hq)) fun _ _ e=>e)
 . have q:=List.all_eq_true.mp S.locs y hy;rw[hl]at q
   simpa using q
 obtain⟨it,fp,tn,J,H2,rfl,I2,T,st2,f2,hW⟩:=h2;have I3:=I2.CD (ys:=[]) (its:=[]) (t':=s2.toks) .nil (Nat.zero_le _);obtain⟨W,⟨m0,w0⟩,turn⟩:=hW s2.heap.objs.size I2.fresh
 have fpo:∀ b∈fp,b<s2.heap.objs.size:=fun b hb=>let ⟨_,e,_⟩:=T.obj _ _ st2 b hb;Heap.lt_size e
 have f3:∀ b∈fp,kM X pins (upd H2 s2.heap.objs.size (.lst [])) b:=fun b hb=>by
  obtain⟨q0,q⟩:=f2 b hb
  exact⟨by rw[bQ (Nat.ne_of_lt (fpo b hb))];exact q0,q⟩
 show wpAny _ _ (newObj (.type "list") _ none) _ _ s2;refine wpAny_newObj_type (wpAny_newFunctionEnv (fun y hy=>?_) (by intro y hy;simp at hy) (fun h₁ hn₁ sb₁=>?_) S.kind)
 . have q:=List.all_eq_true.mp S.nocell y hy
   simpa using q
 have hsz:(s2.heap.push { cls:=.type "list",dict:=none,data:=.seq ([]:List Value).toArray }).objs.size=s2.heap.objs.size+1:=Heap.size_push ..
 have hk₁:∀ b o,(s2.heap.push { cls:=.type "list",dict:=none,data:=.seq ([]:List Value).toArray }).get? b=some o->h₁.get? b=some o:=fun b o e=>
  (sb₁.2 b (Nat.ne_of_lt (Heap.lt_size e))).trans (Heap.get?_push_of_some _ e)
 have J0:=yK (t':=s2.toks+([]:List (Str×Value)).length) S I3 (ex:=fp) (fun b hb=>⟨f3 b hb,Nat.lt_of_lt_of_le (fpo b hb) (by rw[hsz];exact Nat.le_succ _)⟩) hn₁ hk₁
 have old:∀ b∈fp,∀ o,s2.heap.get? b=some o->h₁.get? b=some o:=fun b _ o e=>hk₁ b o (Heap.get?_push_of_some _ e)
 have st₁:tn 0 h₁:=T.keep _ _ _ st2 old
 have loop:codeAny (model X.prog X.w) X.A (.compLoop (.ListComp elt [⟨.Name x px,iter,[],0⟩] scope pos) 0 (.ref it) (.ref s2.heap.objs.size) (compEnvC scope cl (s2.heap.objs.size+1) X.env))
   (compPost (model X.prog X.w) X.A X.xe (some (assign (.Name y py) X.env)) (fun _ s'=>∃ σ' H',Inv X pins σ' H' s' /\ D0.nx σ' H') (.ref s2.heap.objs.size) (s2.heap.objs.size+1)) { s2 with heap:=h₁,toks:=s2.toks+([]:List (Str×Value)).length }:=by
  rw[hsz]at J0
  refine codeAny_loop rfl (fun n s'=>∃ i H' ys v,Inv (blk X scope cl (M++[x]) (s2.heap.objs.size+1) { s2 with heap:=s2.heap.push { cls:=.type "list",data:=.seq ([]:List Value).toArray },toks:=s2.toks } (upd H2 s2.heap.objs.size (.lst [])) fp) [] (pick ι σ++[v]) H' s' /\ tn i s'.heap /\ (∀ b∈fp,H' b=none) /\ W i n ys H')
   (fun n s' hI=>?_) m0 ⟨0,_,[],none,J0,st₁,fun b hb=>(f3 b hb).1,w0⟩
  obtain⟨i,H',ys,v,J',st',fr',w'⟩:=hI;obtain⟨hD,alt⟩:=turn i n ys H' w'
  have fpY:∀{G:Hp},(∀ b∈fp,G b=none)->∀ b∈fp,kM (blk X scope cl (M++[x]) (s2.heap.objs.size+1) { s2 with heap:=s2.heap.push { cls:=.type "list",data:=.seq ([]:List Value).toArray },toks:=s2.toks } (upd H2 s2.heap.objs.size (.lst [])) fp) [] G b:=fun hG b hb=>
   ⟨hG b hb,(J'.ok.exf b hb).1,J'.ok.exfs b hb,.inl hb,(J'.ok.exf b hb).2,fun p hp=>absurd (show p∈([]:List (Addr×Obj)) from hp) (by simp)⟩
  show wpAny _ _ ((compTurn _ 0 (.ref it) (.ref s2.heap.objs.size) (compEnvC scope cl (s2.heap.objs.size+1) X.env)).onRaise _) _ _ s';refine wpAny_noted (wpAny_noRaise ?_);rw[uM];refine wpAny_bind (wpAny_standAt (wpAny_bind ?_))
  rcases alt with⟨stop,qn⟩|⟨go,step⟩
  . refine thn (T.done (blk X scope cl (M++[x]) (s2.heap.objs.size+1) _ _ fp) rfl rfl rfl hc i [] s' _ H' _ J' (fpY fr') st' stop) fun r s4 ⟨hr,J4⟩=>?_
    subst hr;refine wpAny_pure ?_;obtain⟨m,hm,_⟩:=id J4.loc
    have I4:Inv X pins σ H' s4:=wM (h':=s4.heap) I3 hsz.symm f3 J4 ⟨rfl,fun _ _=>rfl⟩
    obtain⟨oC,es,ep,hoC,rC⟩:=id hm
    have fC:kM X pins H' (s2.heap.objs.size+1):=I3.Bl (by rw[hsz];exact Nat.le_refl _) J4.free
    obtain⟨_,c1,c2,c3,c4,c5⟩:=id fC
    have I5:=I4.pinned (fp:=[s2.heap.objs.size+1]) (fun b hb=>by
     have z:b=s2.heap.objs.size+1:=by simpa using hb
     subst z;exact fC) fun b hb=>by
     have z:b=s2.heap.objs.size+1:=by simpa using hb
     subst z
     exact⟨oC,hoC,fun v z=>by rw[rC.1]at z;cases z⟩
    show wpAny _ _ (assign (.Name y py) X.env (.ref s2.heap.objs.size)) _ _ s4;refine wpAny_assign_Name (gg I5 hN hiy hy (v:=.ref s2.heap.objs.size) rfl (fun s5 I6=>?_) hf)
    have hC5:s5.heap.get? (s2.heap.objs.size+1)=some oC:=(I6.pin (_,oC) (List.mem_append_right _ (List.mem_append_right _ (cf (List.mem_singleton.mpr rfl) hoC)))).1
    refine⟨m,⟨oC,es,ep,hC5,rC⟩,fun h' sb=>⟨_,H',(I6.fK).turned (t':=s5.toks) (it:=s2.heap.objs.size+1) (fun b o hb e=>(sb.2 b hb).trans e) J4.free c1 c3 c4 c5,qn⟩⟩
  . refine thn (T.item (blk X scope cl (M++[x]) (s2.heap.objs.size+1) _ _ fp) rfl rfl rfl hc i [] s' _ H' _ J' (fpY fr') st' go) fun r s4 ⟨u,hr,h4⟩=>?_
    subst hr;refine wpAny_bind (thn h4 fun _ s5 ⟨z,H5,J5,r5,y5,st5,fr5⟩=>?_)
    have J5':=J5.pinned (fpY fr5) (T.obj _ _ st5)
    have hxN:(M++[x])[M.length]?=some x:=by simp
    refine wpAny_bind ?_;refine wpAny_assign_Name ?_;refine gg (X:=blk X scope cl (M++[x]) (s2.heap.objs.size+1) _ _ fp) (i:=M.length) (v:=z) J5' S.nd hxN (.inl (lookup_relabel_local S.var)) r5 (fun s6 J6=>?_) (.inr (lookup_relabel_local S.var))
    have hlp:(pick ι σ).length=M.length:=by
     have q:=congrArg List.length S.names;rw[List.length_map,List.length_map]at q;unfold pick;rw[List.length_map,q]
    have hset:(pick ι σ++[v]).set M.length (some z)=pick ι σ++[some z]:=by
     rw[<- hlp,List.set_append_right _ _ (Nat.le_refl _),Nat.sub_self];rfl
    rw[hset]at J6;refine wpAny_bind (wpAny_bind (thn (he _ _ _ _ _ s6 _ H5 _ J6 (step z H5 y5)) fun yv s7 ⟨y,H7,J7,r7,hD7,hz7,m',hm',w7⟩=>?_));refine wpAny_bind (thn (bx (X:=blk X scope cl (M++[x]) (s2.heap.objs.size+1) _ _ fp) _ s7 _ H7 (.ref s2.heap.objs.size) [y] (.ref s2.heap.objs.size) [yv] (fun _ G=>G=upd H7 s2.heap.objs.size (.lst (ys++[y]))) J7 rfl (.cons r7 .nil) ⟨_,_,y,rfl,rfl,hD7,hz7,rfl⟩) fun _ s8 ⟨_,H8,J8,_,e8⟩=>?_);subst e8;refine wpAny_pure (wpAny_pure ⟨rfl,m',hm',i+1,_,_,some z,J8.fK,?_,fun b hb=>?_,w7⟩)
    . exact T.keep _ _ _ st5 fun b hb o e=>(J8.pin (b,o) (List.mem_append_right _ (List.mem_append_right _ (cf hb e)))).1
    . obtain⟨o,e,d⟩:=T.obj _ _ st5 b hb
      exact(J8.pin (b,o) (List.mem_append_right _ (List.mem_append_right _ (cf hb e)))).2.1
 rw[hsz]at *;exact codeAny_compStart_list loop (T.self X.A 0 _ _ _ st₁ loop)
end
end L2.E
namespace L2.P
open PySem PySem.Spec PyProof.Rows L2 L2.E
section
variable{K:PySem.W.Frag}{cls:String->Option Addr}{W:XW}{Av G S₀ S S' H H' B B':Hp}{ρ:ah}{σ:St}{Q:VK}
theorem xU{J:It}{ι:List Nat}{mc:ah->OT}{me:ah->OE}{xs ys:List PV}(hι:ι.Nodup)(hc:JT K cls (fun _ _ _ _=>False) tc mc)(he:JE K cls (fun _ _ _ _=>False) te me)(I:SR K cls Av G S₀ ρ σ S H)(hy:fk mc me (cp ι ρ) xs=.ok ys)(hl:ys.length<=lim)
  (go:∀ k H' x,aD H H'->xs[k]?=some x->J.go k H' /\ ∀ v H2,J.yld k H' v H2->H2=H' /\ Rep K S x v) (stop:∀ H',aD H H'->J.stop xs.length H')
  (hQ:∀ D S' H',aY S H S' H'->H D=none->S' D=none->(∃ us,H' D=some (.lst us) /\ bL K S' ys us)->Q (.ref D) H'):
  ∀ D,H D=none->∃ W:Nat->Nat->List V->Hp->Prop,(∃ m,W 0 m [] (upd H D (.lst []))) /\ ∀ i m us H',W i m us H' ->
    H' D=some (.lst us) /\ ((J.stop i H' /\ Q (.ref D) H') \/ (J.go i H' /\ ∀ x H2,J.yld i H' x H2->tc (L2.E.pick ι σ++[some x]) H2 fun b H4=>H4 D=some (.lst us) /\ if b=true then te (L2.E.pick ι σ++[some x]) H4 fun y H3=>H3 D=some (.lst us) /\ us.length<sizeLine /\ ∃ m',m'<m /\ W (i+1) m' (us++[y]) (upd H3 D (.lst (us++[y])))else ∃ m',m'<m /\ W (i+1) m' us H4)):=by
 intro D nD
 refine⟨fun k m us H'=>m+k=xs.length /\ H' D=some (.lst us) /\ ∃ S' zs ws,aD S S' /\ aD H H' /\ aD S' H' /\ (∀ b,S' b≠none->S b≠none \/ (H b=none /\ b≠D)) /\ bL K S' zs us /\ fk mc me (cp ι ρ) (xs.drop k)=.ok ws /\ ys=zs++ws,
  ⟨xs.length,rfl,bH,S,[],ys,aD.refl _,aD.new nD,I.sh.trans (aD.new nD),fun b z=>.inl z,.nil,hy,rfl⟩,?_⟩
 rintro k m us H' ⟨hm,hD,S',zs,ws,s1,g1,sh1,n1,r1,e1,rfl⟩
 refine⟨hD,?_⟩
 have hSD:S' D=none:=by
  cases q:S' D with
  |none=>rfl
  | some o=>
    rcases n1 D (by rw[q];simp)with z|⟨_,z⟩
    . exact absurd (I.sh.free nD) z
    . exact absurd rfl z
 by_cases hk:k<xs.length
 . refine .inr ?_
   have hx:xs[k]?=some xs[k]:=by simp[hk]
   obtain⟨hgo,hyld⟩:=go k H' xs[k] g1 hx
   refine⟨hgo,fun v H2 hv=>?_⟩
   obtain⟨rfl,rv⟩:=hyld v H2 hv;rw[List.drop_eq_getElem_cons hk]at e1
   have I1:SR K cls Av G S₀ ρ σ S' H2:=I.grow ⟨s1,g1,sh1,fun b z=>by
    rcases n1 b z with z|⟨z,_⟩
    . exact .inl z
    . exact .inr z⟩
   have Ip:=I1.pick hι (Rep.mono s1 rv);refine hc _ G S₀ _ _ S' H2 _ Ip ?_;unfold fk at e1;split at e1
   . rename_i ec;rw[ec];intro S2 H3 w2
     have hSD2:S2 D=none:=by
      cases q:S2 D with
      |none=>rfl
      | some o=>
        rcases w2.new D (by rw[q];simp)with z|z
        . exact absurd hSD z
        . rw[hD]at z;cases z
     refine⟨w2.g _ _ hD,?_⟩
     rw[if_pos rfl];refine he _ G S₀ _ _ S2 H3 _ (Ip.grow w2) ?_
     cases em:me (cp ι ρ++[some (.sh xs[k])])with
     |exc c fs=>rw[em]at e1;cases e1
     |bad=>rw[em]at e1;cases e1
     | ok r=>
       rw[em]at e1;simp only[OE.eH]at e1
       cases es:lG r with
       |none=>rw[es]at e1;cases e1
       | some y=>
         rw[es]at e1
         dsimp only at e1
         cases e2:fk mc me (cp ι ρ) (xs.drop (k+1))with
         |exc c fs=>rw[e2]at e1;cases e1
         |bad=>rw[e2]at e1;cases e1
         | ok zs'=>
           rw[e2]at e1;simp only[OA.eH]at e1;cases e1;intro u S4 H4 w4 r4;obtain⟨S3,w3,s3,ru⟩:=r4.share w4 es
           have hl2:(zs++y ::zs').length<=lim:=hl
           have w5:=w2.trans w3
           have hSD3:S3 D=none:=by
            cases q:S3 D with
            |none=>rfl
            | some o=>
              rcases w3.new D (by rw[q];simp)with z|z
              . exact absurd hSD2 z
              . rw[w2.g _ _ hD]at z;cases z
           refine⟨w5.g _ _ hD,?_,m - 1,by omega,by omega,bH,S3,zs++[y],zs',s1.trans w5.s,(g1.trans w5.g).upd nD,w3.sh.upd hSD3,fun b z=>?_,(r1.mono w5.s).append (.cons ru .nil),e2,by simp⟩
           . rw[r1.length,<- By];rw[List.length_append,List.length_cons]at hl2;omega
           . rcases w5.new b z with z|z
             . exact n1 b z
             . refine .inr ⟨g1.free z,fun e=>?_⟩;rw[e,hD]at z;cases z
   . rename_i ec;rw[ec];intro S2 H3 w2
     refine⟨w2.g _ _ hD,?_⟩
     rw[if_neg (by decide)]
     refine⟨m - 1,by omega,by omega,w2.g _ _ hD,S2,zs,ws,s1.trans w2.s,g1.trans w2.g,w2.sh,fun b z=>?_,r1.mono w2.s,e1,rfl⟩
     rcases w2.new b z with z|z
     . exact n1 b z
     . refine .inr ⟨g1.free z,fun e=>?_⟩;rw[e,hD]at z;cases z
   . cases e1
 . have hk':k=xs.length:=by omega
   subst hk';refine .inl ⟨stop H' g1,?_⟩;rw[List.drop_length]at e1;cases e1
   exact hQ D S' H' ⟨s1,g1,sh1,fun b z=>by
    rcases n1 b z with z|⟨z,_⟩
    . exact .inl z
    . exact .inr z⟩ nD hSD ⟨us,hD,by rw[List.append_nil];exact r1⟩
theorem vj:JU K (fun xs H Q=>∃ p ys,xs=[.ref p] /\ ((SqL K H p ys /\ ∀ l,H l=none->Q (.ref l) (upd H l (.tup ys))) \/ (SqT K H p ys /\ Q (.ref p) H))) kD:=by
 intro S H x v rr Q I hx e k
 cases x with
 | lst xs=>
   cases e;obtain⟨p,vs,rfl,hq,r⟩:=ik hx
   refine⟨p,vs,rfl,.inl ⟨hq,fun l hl=>k _ _ _ (aY.both I hl) ?_⟩⟩
   show Rep K _ _ _;unfold Rep
   exact⟨l,vs,rfl,SqT.new bH,r.mono (aY.both (o:=.tup vs) I hl).s⟩
 | tup xs=>
   cases e;obtain⟨p,vs,rfl,hq,r⟩:=ly hx
   refine⟨p,vs,rfl,.inr ⟨aD.tup I hq,k _ S H (aY.refl I) ?_⟩⟩
   show Rep K _ _ _;unfold Rep
   exact⟨p,vs,rfl,hq,r⟩
 |_=>cases e
end
end L2.P
namespace L2.E
open PySem PySem.Spec PyProof.Rows L2
theorem A2{X:Cx}{cl:List (Str×Addr)}(S:lS X scope cl M ι x)(hc:X.calm=true)(hi:QI X (.Name x px) iter wi)(hcd:∀ C s₀ H₀ ex,QT (blk X scope cl (M++[x]) C s₀ H₀ ex) c tc)(he:∀ C s₀ H₀ ex,QE (blk X scope cl (M++[x]) C s₀ H₀ ex) elt te)
  (hs:∀ v,foldedSetIterable iter X.env v=pure v:=by intro _;rfl):QE X (.ListComp elt [⟨.Name x px,iter,[c],0⟩] scope pos) (pL wi ι tc te):=⟨AX S hc hi.out (fun a b c d=>(hcd a b c d).out) (fun a b c d=>(he a b c d).out) hs⟩
theorem DJ{X:Cx}{cl:List (Str×Addr)}{py spos:Pos}(hN:X.N.Nodup)(hiy:X.N[i]?=some y)(hy:Loc X.env.scope y)(S:lS X scope cl M ι x)(hc:X.calm=true)(hi:QI X (.Name x px) iter wi)(he:∀ C s₀ H₀ ex,QE (blk X scope cl (M++[x]) C s₀ H₀ ex) elt te)
  (hsw:swapsWith (.ListComp elt [⟨.Name x px,iter,[],0⟩] scope pos) (some (.Name y py)) spos.line X.env=pure true:=by rfl) (hf:X.fn y=true \/ X.env.scope.names.lookup y=some .local:=by first|exact .inl rfl|exact .inr rfl|assumption)
  (hs:∀ v,foldedSetIterable iter X.env v=pure v:=by intro _;rfl):QS X (.Assign [.Name y py] (.ListComp elt [⟨.Name x px,iter,[],0⟩] scope pos) spos) (qK (tH wi ι te) (ir i)):=⟨ES S hc hi.out (fun a b c d=>(he a b c d).out) hN hiy hy hsw hf hs⟩
noncomputable def Jr(p:Int×V)(e:DictEntry):Prop:=e.hash=hashInt p.1 /\ (∃ t,e.key=.int p.1 t) /\ RelV p.2 e.val
noncomputable def DKI(K:PySem.W.Frag)(d:Addr)(kvs:List (Int×V)):Prop:=(d==sysModules)=false /\ (kvs.map (·.1)).Nodup /\ ∃(es:List DictEntry) (ep:Nat),K.lookup d=some ⟨.type "dict",none,.dict es.toArray ep,#[]⟩ /\ Paired Jr kvs es
theorem w9{prog:Program}{w:World}:∀{kvs:List (Int×V)} {es:List DictEntry},Paired Jr kvs es ->
  ∃ us:List (Int×Value),us.map (·.1)=kvs.map (·.1) /\ Pairs (intKind prog w) es us /\ (∀ e∈es,∃ k,(intKind prog w).is k e.key=true /\ e.hash=(intKind prog w).hash k) /\
    ∀ n,match kvs.lookup n with
      |some v=>∃ u,valueAt us n=some u /\ RelV v u
      |none=>valueAt us n=none
 |_,_,.nil=>⟨[],rfl,.nil,fun e he=>(nomatch he),fun n=>rfl⟩
 | (n,v) ::kvs,e ::es,.cons h t=>by
   obtain⟨us,h1,h2,h3,h4⟩:=w9 (prog:=prog) (w:=w) t;obtain⟨k1,⟨tk,k2⟩,k3⟩:=h
   have hk:(intKind prog w).is n e.key=true:=by rw[k2];show Value.isInt n (.int n tk)=true;simp[Value.isInt]
   refine⟨(n,e.val) ::us,by simp[h1],.cons hk rfl h2,fun e' he'=>?_,fun m=>?_⟩
   . rcases List.mem_cons.mp he' with z|z
     . subst z;exact⟨n,hk,k1⟩
     . exact h3 e' z
   . have:=h4 m
     by_cases hm:m=n
     . subst hm;simp[List.lookup,valueAt];exact k3
     . have hb:(m==n)=false:=by simpa using hm
       have hn:¬ n=m:=fun z=>hm z.symm
       simp only[List.lookup,hb]
       unfold valueAt at this ⊢
       simp only[List.find?_cons,hn,decide_false];exact this
theorem DKI.at{X:Cx}{pins:List (Addr×Obj)}{σ:St}{H:Hp}{s:Shared}{d:Addr}{kvs:List (Int×V)}(D:DKI X.K d kvs)(I:Inv X pins σ H s):
  ∃ us:List (Int × Value),s.heap.DictOf (intKind X.prog X.w) d us /\ ∀ n,match kvs.lookup n with
     |some v=>∃ u,valueAt us n=some u /\ RelV v u
     |none=>valueAt us n=none:=by
 obtain⟨_,nd,es,ep,hk,pr⟩:=D;obtain⟨us,h1,h2,h3,h4⟩:=w9 (prog:=X.prog) (w:=X.w) pr
 exact⟨us,⟨_,es.toArray,ep,I.kIn d _ hk,⟨rfl,rfl,rfl⟩,rfl,fun e he=>h3 e (by simpa using he),by simpa using h2,by rw[h1];exact nd⟩,h4⟩
section
variable{X:Cx}
noncomputable def BI(K:PySem.W.Frag)(td te:TE):TE:=fun σ H Q=>td σ H fun x H1=>∃ d kvs,x=.ref d /\ DKI K d kvs /\ te σ H1 fun y H2=>∃ n,y=.int n /\ Q ((kvs.lookup n).getD .non) H2
theorem B3{o e:Expr}{td te:TE}{apos cpos:Pos}(ho:QE X o td)(he:QE X e te)(hbase:attributeBase o "get" X.env (eval o X.env)=eval o X.env:=by rfl)
  (few:((backTo cpos (starEach [e] X.env)).all (fun x=>!x.1)&&(backToKw cpos (keywordEach [] X.env)).all (fun x=>x.1.isSome)&&decide (([e]:List Expr).length+([]:List Keyword).length+(if([]:List Keyword).isEmpty then 0 else 1)<30))=true:=by rfl)
  (line:(apos.endLine==cpos.line)=true:=by rfl) (trees:backTo cpos (starEach [e] X.env)=[(false,eval e X.env)]:=by rfl):QE X (.Call (.Attribute o "get" apos) [e] [] cpos) (BI X.K td te):=⟨by
 intro pins s σ H Q I h;refine wpAny_Call_method hbase few line PySem.F.plainAttrs_dict PySem.F.slot_dict_get PySem.F.type_dict_get (thn (ho.out pins s σ H _ I h) fun u s1 ⟨x,H1,I1,rx,d,kvs,ex,D,q1⟩=>?_);subst ex
 obtain rfl:u=Value.ref d:=rx
 obtain⟨us,dd,hv⟩:=D.at I1;obtain⟨_,nd,es,ep,hk,pr⟩:=id D
 refine⟨dd.typeIs,fun b hb=>by cases hb;exact⟨_,I1.kIn d _ hk,rfl⟩,?_⟩
 rw[trees];refine Calls.callWith_builtin rfl (Calls.evalArgs_plain (Calls.spliced_cons (thn (he.out pins s1 σ H1 _ I1 q1) fun iv s2 ⟨y,H2,I2,ry,n,ey,q2⟩=>Calls.spliced_nil ?_)));subst ey;obtain⟨t,rfl⟩:=ry;obtain⟨us2,dd2,hv2⟩:=D.at I2;refine call_meetsIn PySem.F.slot_dict_get dd2.typeIs PySem.F.entry_dict_get (PySem.F.args_dict_get_2 _ _) (meets_dict_get (intKind X.prog X.w) d (k:=n) (key:=.int n t) (by show Value.isInt n (.int n t)=true;simp[Value.isInt]) D.1) ⟨_,dd2.mapOf,⟨_,H2,I2.tok _,?_,q2⟩⟩;have h2:=hv2 n
 cases q:kvs.lookup n with
 |none=>rw[q]at h2;rw[h2];rfl
 |some v=>rw[q]at h2;obtain⟨u,e,r⟩:=h2;rw[e];exact r⟩
end
end L2.E
namespace L2.P
open PySem PySem.Spec PyProof.Rows L2 L2.E
section
variable{K:PySem.W.Frag}{cls:String->Option Addr}{W:XW}{Av G S₀ S S' H H' B B':Hp}{ρ:ah}{σ:St}{Q:VK}
noncomputable def DKP(K:PySem.W.Frag)(d:Addr)(kvs:List (Int×PV)):Prop:=∃ us,DKI K d us /\ Paired (fun (p:Int×PV) (q:Int×V)=>p.1=q.1 /\ ∀ S,Rep K S p.2 q.2) kvs us
theorem DKP.look{d:Addr}:∀{kvs:List (Int×PV)} {us:List (Int×V)},Paired (fun (p:Int×PV) (q:Int×V)=>p.1=q.1 /\ ∀ S,Rep K S p.2 q.2) kvs us->∀ n,match kvs.lookup n with
  |some x=>∃ v,us.lookup n=some v /\ ∀ S,Rep K S x v
  |none=>us.lookup n=none
 |_,_,.nil,n=>rfl
 | (k,x) ::kvs,(k',v) ::us,.cons h t,n=>by
   obtain⟨rfl,hr⟩:=h;have:=DKP.look (d:=d) t n
   by_cases hm:n=k
   . subst hm;simp[List.lookup];exact hr
   . have hb:(n==k)=false:=by simpa using hm
     simp only[List.lookup,hb];exact this
theorem Bu{d:Addr}{kvs:List (Int×PV)}{ta:TE}{ma:ah->OE}(D:DKP K d kvs)(ha:JE K cls W ta ma):JE K cls W (BI K (tC (.ref d)) ta) (mUn (vB kvs) ma):=by
 intro Av G S₀ ρ σ S H Q I p;obtain⟨us,D1,pr⟩:=D
 refine⟨d,us,rfl,D1,?_⟩
 refine ha.go I p fun a v S1 H1 I1 w1 r1 p1=>?_
 have ra:=r1.rd I1.sh
 cases e:a.pv with
 | int n=>
   rw[e]at p1 ra;have:=DKP.look (d:=d) pr n;simp only[vB,oE]at p1
   refine⟨n,cw ra,?_⟩
   cases q:kvs.lookup n with
   | none=>
     rw[q]at p1 this;rw[this];exact p1 _ S1 H1 (aY.refl I1.sh) (by show Rep K S1 _ _;unfold Rep;rfl)
   | some x=>
     rw[q]at p1 this;obtain⟨u,eu,hr⟩:=this;rw[eu];exact p1 _ S1 H1 (aY.refl I1.sh) (hr S1)
 |_=>rw[e]at p1;exact p1.elim
end
end L2.P
namespace L2.E
open PySem PySem.Spec PyProof.Rows L2
end L2.E
namespace L2.P
open PySem PySem.Spec PyProof.Rows L2 L2.E
end L2.P
namespace L2.P
open PySem
end L2.P
namespace L2.P
open PySem PySem.Spec PyProof.Rows L2 L2.E
end L2.P
namespace L2.P
open PySem
noncomputable def wt(x:Str):List PV:=x.cps.toList.map fun c=>.str ⟨#[c]⟩
noncomputable def nJ(ml:ah->OE)(ι:List Nat)(me:ah->OE):ah->OE:=fun ρ=>(ml ρ).bind fun r=>match r.pv with
 |.str x=>noX (cS me (cp ι ρ) (wt x))
 |_=>.bad
@[simp] theorem Dv(ml:ah->OE)(ι:List Nat)(me:ah->OE)(ρ:ah):nJ ml ι me ρ=((ml ρ).bind fun r=>match r.pv with
  |.str x=>noX (cS me (cp ι ρ) (wt x))
  |_=>.bad):=rfl
noncomputable def CN:PV->Option RV
 |.str x=>if x.length=1 then some (.sh (.int (x.cps.getD 0 0:Nat)))else none
 |_=>none
noncomputable def nH:PV->Option RV
 |.int i=>if i.natAbs.log2<1920 then some (.sh (.str (toString i)))else none
 |_=>none
end L2.P
namespace L2
open PySem PySem.Spec PyProof.Rows
noncomputable def Its(x:Str):It:=⟨fun i _=>i<x.cps.size,fun i H v H'=>H'=H /\ ∃ c,x.cps[i]?=some c /\ v=.str ⟨#[c]⟩,fun i _=>x.cps.size<=i⟩
theorem yd{P:Program}{w:World}{K:PySem.W.Frag}{tg:Expr}{it:Addr}{x:Str}{t:Tok}{n:String}(hn:["enumerate","zip","dict_itemiterator","dict_reverseitemiterator","odict_iterator","itertools.zip_longest","itertools.pairwise"].contains n=false)
  (W:∀ A:Around,A.handled=none->Walks P w A it [it] [it] x.cps.size (SignAt x) (fun i h=>h.IsStrIter it n x t i))
  (De:∀(A:Around) (s:Shared) (i:Nat) (Q:Option Value->Shared->Prop) (E:Value->Shared->Prop),A.handled=none->s.heap.IsStrIter it n x t i->x.cps[i]?=none->(∀ h',Heap.ExtBut it s.heap h'->Q none { s with heap:=h' })->wpAny (model P w) A (pyNext (.ref it)) Q E s)
  (Se:∀(A:Around) (i:Nat) (s:Shared) (Q:Value->Shared->Prop) (E:Value->Shared->Prop),s.heap.IsStrIter it n x t i->Q (.ref it) s->wpAny (model P w) A (pyIter (.ref it)) Q E s):Turn P w K tg (Its x) [it] it (fun i h=>h.IsStrIter it n x t i) where
 mem:=by simp
 obj:=fun i h st b hb=>by
  have e:b=it:=by simpa using hb
  subst e;obtain⟨o,e,c,d⟩:=st
  exact⟨o,e,fun v z=>by rw[d]at z;cases z⟩
 keep:=fun i h h' st k=>let ⟨o,e,r⟩:=st;⟨o,k it (by simp) o e,r⟩
 item:=by
  intro X hP hw hK hc i pins s σ H E I hf st hg;subst hP hw hK;obtain⟨f0,f1,f2,f3,f4,f5⟩:=hf it (by simp)
  refine(W X.A (I.ok.hd hc)).item i s _ _ hg st fun v h' tk hv st' kk=>?_
  obtain⟨c,u,hc1,rfl⟩:=hv
  have I1:Inv X pins σ H { s with heap:=h',toks:=tk }:=I.turned (fun b o hb e=>kk b o (by simpa using hb) e) f0 f1 f3 f4 f5
  obtain⟨o,e,cc,d⟩:=id st'
  exact⟨_,rfl,zV (s:={ s with heap:=h',toks:=tk }) e cc d hn ⟨.str ⟨#[c]⟩,H,I1,⟨u,rfl⟩,⟨rfl,c,hc1,rfl⟩,st',fun b hb=>(hf b hb).1⟩⟩
 done:=by
  intro X hP hw hK hc i pins s σ H E I hf st hg;subst hP hw hK;obtain⟨f0,f1,f2,f3,f4,f5⟩:=hf it (by simp)
  have hg':x.cps.size<=i:=hg
  exact De X.A s i _ _ (I.ok.hd hc) st (by simp;omega) fun h' eb=>⟨rfl,I.turned (t':=s.toks) (fun b o hb e=>eb b o hb e) f0 f1 f3 f4 f5⟩
 self:=fun A i s Q E st h=>Se A i s Q E st h
noncomputable def Gh(tl:TE):TI:=fun σ H R=>tl σ H fun v H1=>∃ x,v=.str x /\ R (Its x) H1
theorem G9{X:Cx}{tg:Expr}{l:Expr}{tl:TE}(hl:PE X l tl):PI X tg l (Gh tl):=by
 intro pins s σ H R I h
 refine thn (hl pins s σ H _ I h) fun v s1 ⟨y,H1,I1,r1,q1⟩=>?_
 obtain⟨x,e,q⟩:=q1;subst e;obtain⟨t,rfl⟩:=r1
 have hf:∀ b∈[s1.heap.objs.size],kM X pins H1 b:=fun b hb=>by
  have e:b=s1.heap.objs.size:=by simpa using hb
  subst e;exact I1.Bl (Nat.le_refl _) (I1.hok.fresh (Nat.le_refl _))
 cases ha:x.cps.all (·<128)with
 | false=>
   exact wpAny_pyIter_wide ha ⟨s1.heap.objs.size,[s1.heap.objs.size],_,_,H1,rfl,I1.kept (t':=s1.toks) fun b o e=>Heap.get?_push_of_some _ e,
    yd (n:="str_iterator") (x:=x) (t:=t) (by decide) (fun A' hA=>Walks.strWide hA _ x t) (fun A s i Q E hA st hx hQ=>wpAny_pyNext_wide_end hA st hx hQ) (fun A i s Q E st h=>wpAny_pyIter_striter_wide st h),⟨_,Heap.get?_push_size _ rfl,rfl,rfl⟩,hf,q⟩
 | true=>
   exact wpAny_pyIter_ascii ha ⟨s1.heap.objs.size,[s1.heap.objs.size],_,_,H1,rfl,I1.kept (t':=s1.toks) fun b o e=>Heap.get?_push_of_some _ e,
    yd (n:="str_ascii_iterator") (x:=x) (t:=t) (by decide) (fun A' hA=>Walks.strAscii hA _ x t) (fun A s i Q E hA st hx hQ=>wpAny_pyNext_ascii_end hA st hx hQ) (fun A i s Q E st h=>wpAny_pyIter_striter_ascii st h),⟨_,Heap.get?_push_size _ rfl,rfl,rfl⟩,hf,q⟩
end L2
theorem L2.E.boot_ord:PySem.bootBuiltins "ord" = some (.builtin "ord"):=by decide +kernel
namespace L2.P
open PySem PySem.Spec PyProof.Rows L2 L2.E
theorem Dn{X:L2.Cx}{tg l:Expr}{tl:TE}(h:QE X l tl):QI X tg l (Gh tl):=⟨G9 h.out⟩
section
variable{K:PySem.W.Frag}{cls:String->Option Addr}{W:XW}{Av G S₀ S S' H H' B B':Hp}{ρ:ah}{σ:St}{Q:VK}{F:Nat->List Addr}
theorem yp{tl te:TE}{ml me:ah->OE}{ι:List Nat}(hι:ι.Nodup)(hl:JE K cls W tl ml)(he:JE K cls (fun _ _ _ _=>False) te me):JE K cls W (tH (Gh tl) ι te) (nJ ml ι me):=by
 intro Av G S₀ ρ σ S H Q I p
 refine hl.go I p fun r v S1 H1 I1 w1 r1 p1=>?_
 have ra:=r1.rd I1.sh
 cases e:r.pv with
 | str x=>
   rw[e]at p1 ra;have hv:=iu ra;subst hv
   refine⟨x,rfl,?_⟩
   dsimp only at p1
   cases em:cS me (cp ι ρ) (wt x)with
   |exc c fs=>rw[em]at p1;exact p1.elim
   |bad=>rw[em]at p1;exact p1.elim
   | ok ys=>
     rw[em]at p1;simp only[noX]at p1;split at p1
     . rename_i hlen
       have hcl:(wt x).length=x.cps.size:=by simp[wt]
       refine qw hι he I1 em hlen (fun k H' y g hx=>?_) (fun H' g=>by show x.cps.size<=(wt x).length;rw[hcl];exact Nat.le_refl _) fun D S' H' w nD sD ⟨us,hD,rr⟩=>p1 (.ref D) S' H' w ⟨D,us,rfl,nD,sD,hD,rr⟩
       have hk:k<x.cps.size:=by rw[<- hcl];exact(List.getElem?_eq_some_iff.mp hx).1
       refine⟨hk,?_⟩
       rintro v' H2 ⟨rfl,c,hc,rfl⟩
       refine⟨rfl,?_⟩
       have hy:y=.str ⟨#[c]⟩:=by
        unfold wt at hx;rw[List.getElem?_map]at hx
        have:x.cps.toList[k]?=some c:=by simpa using hc
        rw[this]at hx
        exact(Option.some.inj hx).symm
       subst hy;unfold Rep;rfl
     . exact p1.elim
 |_=>rw[e]at p1;exact p1.elim
theorem Hd:JU K (fun xs H Q=>∃ x,xs=[.str x] /\ x.length=1 /\ Q (.int (x.cps.getD 0 0:Nat)) H) CN:=by
 intro S H x v rr Q I hx e k
 cases x with
 | str x=>
   by_cases hl:x.length=1
   . have e':CN (.str x)=some (.sh (.int (x.cps.getD 0 0:Nat))):=if_pos hl
     rw[e']at e;cases e
     exact⟨x,by rw[iu hx],hl,k _ S H (aY.refl I) (by show Rep K S _ _;unfold Rep;rfl)⟩
   . have e':CN (.str x)=none:=if_neg hl
     rw[e']at e;cases e
 |_=>cases e
theorem C9:JU K (fun xs H Q=>∃ i:Int,xs=[.int i] /\ i.natAbs.log2<1920 /\ Q (.str (toString i)) H) nH:=by
 intro S H x v rr Q I hx e k
 cases x with
 | int i=>
   by_cases hl:i.natAbs.log2<1920
   . have e':nH (.int i)=some (.sh (.str (toString i))):=if_pos hl
     rw[e']at e;cases e
     exact⟨i,by rw[cw hx],hl,k _ S H (aY.refl I) (by show Rep K S _ _;unfold Rep;rfl)⟩
   . have e':nH (.int i)=none:=if_neg hl
     rw[e']at e;cases e
 |_=>cases e
end
end L2.P
namespace HT
open PySem PyProof.Rows
end HT
namespace L2
open PySem PySem.Spec PyProof.Rows
end L2
namespace L2.P
open PySem PySem.Spec PyProof.Rows L2 L2.E
end L2.P
namespace HT
open PySem PyProof.Rows
open AutoSeq1 (wpAny_loadPart')
end HT
namespace L2
open PySem PySem.Spec PyProof.Rows
end L2
namespace L2.P
open PySem PySem.Spec PyProof.Rows L2 L2.E
end L2.P
namespace L2.P
open PySem
noncomputable def Kg(kvs:List (Int×PV))(a b:RV):OE:=match a.pv,b with
 |.int n,.sh d=>.ok (.sh ((kvs.lookup n).getD d))
 |_,_=>.bad
noncomputable def Hg(kvs:List (Int×Int)):ah->OD:=fun _=>.ok (.di (kvs.map fun p=>(p.1,.int p.2)))
noncomputable def xp(neg:Bool)(me:ah->OE)(i:Nat)(mp:MP):ah->OE:=fun ρ=>(me ρ).bind fun r=>match r.pv with
 | .int n=>(match subAt i mp ρ with
   |some (.di kvs)=>.ok (.sh (.bl (if neg then !(kvs.lookup n).isSome else(kvs.lookup n).isSome)))
   |_=>.bad)
 |_=>.bad
noncomputable def Am(i:Nat)(mp:MP)(me:ah->OE):ah->OE:=fun ρ=>match subAt i mp ρ with
 | some (.di kvs)=>(me ρ).bind fun r=>(match r.pv with
   |.int n=>oE ((kvs.lookup n).map .sh)
   |_=>.bad)
 |_=>.bad
noncomputable def vq:ah->OS:=fun _=>.bad
noncomputable def Ae:PV->Option RV
 | .str x=>(match x.cps.toList with
   |[c]=>if 48<=c /\ c<=57 then some (.sh (.int ((c:Int) - 48)))else none
   |_=>none)
 |_=>none
noncomputable def dE(i:Nat)(mp:MP)(me:ah->OE):ah->OS:=fun ρ=>wO i mp ρ fun u put=>match u with
 | .ol ts=>(me ρ).bY ρ fun r=>(match r with
   |.fr ys=>if ts.length+ys.length<=lim then .nx (put (.ol (ts++ys.map .sh)))else .bad
   |.sh (.lst ys)=>if ts.length+ys.length<=lim then .nx (put (.ol (ts++ys.map .sh)))else .bad
   |_=>.bad)
 |_=>.bad
end L2.P
namespace L2
open PySem PySem.Spec PyProof.Rows
end L2
namespace L2.E
open PySem PySem.Spec PyProof.Rows L2
section
variable{X:Cx}
noncomputable def Fi:TS:=fun _ _ _=>False
theorem vH{e:Stmt}:QS X e Fi:=⟨fun _ _ _ _ _ _ h=>h.elim⟩
end
end L2.E
namespace L2.P
open PySem PySem.Spec PyProof.Rows L2 L2.E
section
variable{K:PySem.W.Frag}{cls:String->Option Addr}{W:XW}{S:Hp}
theorem vR:JS K cls W Fi vq:=fun _ _ _ _ _ _ _ _ _ p=>p
end
end L2.P
namespace L2.E
open PySem PySem.Spec PyProof.Rows L2
section
variable{X:Cx}{o i:Expr}{td ty:TE}{pos:Pos}
theorem GZ(hu:X.A.units+1<cLine)(hi:QE X i ty)(ho:QE X o td)(h1:behindInMarks .In o=false:=by first|exact yc _ (by decide) (by decide)|rfl):QT X (.Compare i [.In] [o] pos) (tB (GH ty td)):=⟨GB (GQ hu hi.out ho.out) h1⟩
theorem Dz(hu:X.A.units+1<cLine)(ho:QE X o td)(hi:QE X i ty)(hs:Hk i):QE X (.Subscript o i pos) (Dr td ty):=⟨ET hu ho.out hi.out hs⟩
structure QPs(X:Cx)(pos:Pos)(keys:List (Option Expr))(values:List Expr)(trs:List (TE×TE)):Prop where
 out:PPs X pos keys values trs
theorem DU:QPs X pos [] [] []:=⟨Dy⟩
theorem iV{ks:List (Option Expr)}{trs:List (TE×TE)}(hk:QE X k tk)(hv:QE X v tv)(hr:QPs X pos ks vs trs):QPs X pos (some k ::ks) (v ::vs) ((tk,tv) ::trs):=⟨B2 hk.out hv.out hr.out⟩
theorem DS{keys:List (Option Expr)}{values:List Expr}{trs:List (TE×TE)}(h:QPs X pos keys values trs)(hall:keys.all (·.isSome)=true:=by rfl)(hl:keys.length=values.length:=by rfl)(h0:keys≠[]:=by intro z;cases z)(h15:keys.length<=15:=by decide):QE X (.Dict keys values pos) (Cf trs):=⟨DH h.out hall hl h0 h15⟩
end
end L2.E
namespace L2.P
open PySem PySem.Spec PyProof.Rows L2 L2.E
section
variable{K:PySem.W.Frag}{cls:String->Option Addr}{W:XW}{S H:Hp}
theorem xJ(kvs:List (Int×Int))(σ:St):∀(H:Hp) (R:List (V×V)->Hp->Prop),R (kvs.map fun p=>(.int p.1,.int p.2)) H->wy (kvs.map fun p=>(tC (.int p.1),tC (.int p.2))) σ H R:=by
 induction kvs with
 |nil=>intro H R h;exact h
 |cons p kvs ih=>intro H R h;exact ih H _ h
theorem Bc(more:List (Key×V)):∀ kvs:List (Key×V),((kvs++more).map (·.1)).Nodup->mU kvs more=kvs++more:=by
 induction more with
 |nil=>intro kvs _;simp[mU]
 | cons p more ih=>
   intro kvs h
   have hn:mj kvs p.1=none:=by
    unfold mj;rw[Option.map_eq_none_iff,List.find?_eq_none];intro q hq e
    have e':q.1=p.1:=of_decide_eq_true e
    rw[List.map_append,List.nodup_append]at h;exact h.2.2 q.1 (List.mem_map_of_mem hq) p.1 (by simp) e'
   show mU (putK kvs p.1 p.2) more=_;rw[Cm _ hn,ih _ (by simpa using h)];simp
theorem Hf{kvs:List (Int×Int)}(nd:(kvs.map (·.1)).Nodup)(h15:kvs.length<=15):JD K cls W (Cf (kvs.map fun p=>(tC (.int p.1),tC (.int p.2)))) (Hg kvs):=by
 intro Av G S₀ ρ σ S H Q I p;intro q hq;refine xJ kvs σ _ _ ⟨bH,kvs.map fun p=>(Sum.inl p.1,V.int p.2),by simp[kV],by simpa using h15,?_⟩
 rw[E1,Bc _ [] (by
  rw[List.nil_append,List.map_map]
  have:((fun x:Key×V=>x.1) ∘ fun p:Int×Int=>((Sum.inl p.1:Key),V.int p.2))=(fun k:Int=>(Sum.inl k:Key)) ∘ fun p:Int×Int=>p.1:=rfl
  rw[this,<- List.map_map]
  exact List.pairwise_map.mpr (List.Pairwise.imp (fun h z=>h (Sum.inl.inj z)) nd)),List.nil_append]
 refine p (.ref q) S _ (aY.heap I.sh hq) ⟨[q],?_,by simp,fun a ha=>?_⟩
 . unfold bB
   refine⟨q,_,rfl,bH,rfl,?_⟩
   clear nd h15 p
   induction kvs with
   |nil=>exact .nil
   |cons x kvs ih=>exact .cons ⟨rfl,by unfold Rep;rfl⟩ ih
 . have z:a=q:=by simpa using ha
   subst z
   exact⟨hq,I.sh.free hq⟩
theorem qG.look{kvs:List (Int×PV)}{us:List (Key×V)}(h:qG K S kvs us)(n:Int):match kvs.lookup n with
  |some x=>∃ v,mj us (Sum.inl n:Key)=some v /\ Rep K S x v
  |none=>mj us (Sum.inl n:Key)=none:=by
 induction h with
 |nil=>rfl
 | @cons p q ps qs h t ih=>
   obtain⟨h1,h2⟩:=h;obtain⟨k,x⟩:=p;obtain⟨k',v⟩:=q
   dsimp only at h1 h2
   subst h1
   by_cases hm:n=k
   . subst hm;simp[List.lookup,mj];exact h2
   . have hb:(n==k)=false:=by simpa using hm
     have hd:decide ((Sum.inl k:Key)=Sum.inl n)=false:=decide_eq_false fun z=>hm (Sum.inl.inj z).symm
     simp only[List.lookup,hb]
     have e:mj ((Sum.inl k,v) ::qs) (Sum.inl n:Key)=mj qs (Sum.inl n):=by
      unfold mj;rw[List.find?_cons,hd]
     rw[e];exact ih
theorem qG.DN{kvs:List (Int×PV)}{us:List (Key×V)}(h:qG K S kvs us)(n:Int):(mj us (Sum.inl n:Key)).isSome=(kvs.lookup n).isSome:=by
 have:=h.look n
 cases q:kvs.lookup n with
 |none=>rw[q]at this;rw[this];rfl
 |some x=>rw[q]at this;obtain⟨v,e,_⟩:=this;rw[e];rfl
theorem E6{ma:ah->OE}(ha:JE K cls W ta ma)(hp:JP K cls td i mp):JE K cls W (GH ta td) (xp false ma i mp):=by
 intro Av G S₀ ρ σ S H Q I p
 refine ha.go I p fun a v S1 H1 I1 w1 r1 p1=>?_
 have ra:=r1.rd I1.sh
 cases e:a.pv with
 | int n=>
   rw[e]at p1 ra
   dsimp only at p1
   split at p1
   . rename_i kvs es
     refine hp.sub I1 es fun w S2 H2 f w2 _ r=>?_
     unfold bB at r;obtain⟨q,us,rfl,hq,_,hd⟩:=r;have hv:=cw ra;subst hv
     refine⟨q,_,rfl,wC.k (k:=Sum.inl n) hq,?_⟩
     rw[hd.DN n];exact p1 _ S2 H2 w2 kr
   . exact p1.elim
 |_=>rw[e]at p1;exact p1.elim
theorem EN{ma:ah->OE}(hp:JP K cls td i mp)(ha:JE K cls W ta ma):JE K cls W (Dr td ta) (Am i mp ma):=by
 intro Av G S₀ ρ σ S H Q I p;unfold Am at p;split at p
 . rename_i kvs es
   refine hp.sub I es fun w S2 H2 f w2 I2 r=>?_
   refine ha.go I2 (p.back w2) fun a v S1 H1 I1 w1 r1 p1=>?_
   have ra:=r1.rd I1.sh
   have r':=r.mono w1.s fun a _ o z=>w1.g _ _ z
   unfold bB at r';obtain⟨q,us,rfl,hq,_,hd⟩:=r'
   cases e:a.pv with
   | int n=>
     rw[e]at p1 ra
     dsimp only at p1
     have hv:=cw ra;subst hv;have hl:=hd.look n
     cases el:kvs.lookup n with
     |none=>rw[el]at p1;exact p1.elim
     | some x=>
       rw[el]at p1 hl;obtain⟨u,eu,ru⟩:=hl
       refine⟨q,u,rfl,by have:=wC.k (k:=(Sum.inl n:Key)) hq;rw[eu]at this;exact this,p1 u S1 H1 (aY.refl I1.sh) ru⟩
   |_=>rw[e]at p1;exact p1.elim
 . exact p.elim
end
end L2.P
namespace L2.E
open PySem PySem.Spec PyProof.Rows L2
end L2.E
namespace L2.P
open PySem PySem.Spec PyProof.Rows L2 L2.E
end L2.P
namespace L2.E
open PySem PySem.Spec PyProof.Rows L2
theorem Ar{X:Cx}:kb X (.type "int") (fun xs H Q=>∃ x n,xs=[.str x] /\ PySem.intText? x=some n /\ x.length<=640 /\ Q (.int n) H):=by
 intro pins s σ H xs us Q I r h;obtain⟨x,n,rfl,h1,h2,q⟩:=h;obtain⟨u,rfl,t,rfl⟩:=vals1 r;exact PySem.W.KIN.call_text h1 h2 ⟨.int n,H,I.tok _,⟨_,rfl⟩,q⟩
theorem yU{x:Str}{c:Nat}(h:x.cps.toList=[c])(h1:48<=c)(h2:c<=57):PySem.intText? x=some ((c:Int) - 48) /\ x.length<=640:=by
 have e:x=⟨#[c]⟩:=by
  cases x with
  | mk a=>cases a with
    |mk l=>simp at h;subst h;rfl
 subst e
 refine⟨?_,by show 1<=640;decide⟩
 have hc:c=48 \/ c=49 \/ c=50 \/ c=51 \/ c=52 \/ c=53 \/ c=54 \/ c=55 \/ c=56 \/ c=57:=by omega
 rcases hc with rfl|rfl|rfl|rfl|rfl|rfl|rfl|rfl|rfl|rfl<;>decide +kernel
end L2.E
namespace L2.P
open PySem PySem.Spec PyProof.Rows L2 L2.E
theorem EB{K:PySem.W.Frag}:JU K (fun xs H Q=>∃ x n,xs=[.str x] /\ PySem.intText? x=some n /\ x.length<=640 /\ Q (.int n) H) Ae:=by
 intro S H x v rr Q sh r e k
 cases x with
 | str z=>
   have hv:v=.str z:=by have r':Rep K S (.str z) v:=r;unfold Rep at r';exact r'
   subst hv;unfold Ae at e
   dsimp only at e
   split at e
   . rename_i c hc;split at e
     . rename_i h;cases e;obtain⟨h1,h2⟩:=yU hc h.1 h.2
       exact⟨z,_,rfl,h1,h2,k _ S H (aY.refl sh) (by show Rep K S _ _;unfold Rep;rfl)⟩
     . cases e
   . cases e
 |_=>cases e
end L2.P
namespace L2.E
open PySem PySem.Spec PyProof.Rows L2
theorem vw(l:Addr)(items:Array Value)(n:Nat)(b:Addr)(items2:Array Value)(n2:Nat)(dd2:Option Addr)(sl2:Array (Option Value))(hc0:¬(!items.isEmpty&&Builtin.List.listTooLong (items.size+items2.size))=true)(hc1:items.size<=sizeLine)(hs2:items.size+items2.size<=sizeLine+1):
  Meets (Builtin.«list.extend» ⟨[.ref l,.ref b],[]⟩) (fun _ R s=>s.heap.get? l=some { cls:=.type "list",dict:=none,data:=.seq items n,slots:=#[] } /\ s.heap.get? b=some { cls:=.type "list",dict:=dd2,data:=.seq items2 n2,slots:=sl2 } /\ R (.ok (.ret Value.none)) { s with heap:=s.heap.update l (Obj.mapSeq fun x=>x++items2),toks:=s.toks }):=
 .of_wp fun prog w A R s h=>by
  obtain⟨hp,g,d,tk,os⟩:=s;obtain⟨hl,hb,h⟩:=h;have f1:=AutoSeq1.idx_int;have f2:=AutoSeq1.sub_tuple_tuple;have f3:=AutoSeq1.sub_list_list;have f4:=AutoSeq1.sub_tuple_list;have f5:=AutoSeq1.sub_list_tuple
  have hz':(items++items2).size<=sizeLine+1:=by rw[Array.size_append];exact hs2
  wp_walk using (wpAny_updateSeq hl rfl (hz:=hc1) (_hz':=hz')),wpAny_loadPart' hl,wpAny_loadPart' hb;exact⟨_,rfl,h⟩
noncomputable def wX(K:PySem.W.Frag):V->List V->Hp->VK->Prop:=fun x vs H Q=>∃ l b xs zs,x=.ref l /\ vs=[.ref b] /\ H l=some (.lst xs) /\ SqL K H b zs /\ xs.length+zs.length<=sizeLine /\ Q .non (upd H l (.lst (xs++zs)))
theorem fF{X:Cx}:MtM X "list.extend" (wX X.K):=by
 intro pins s σ H x vs v us Q I rx rv h;obtain⟨l,b,xs,zs,rfl,rfl,hH,hB,hz,q⟩:=h;cases rx;obtain⟨u,rfl,ru⟩:=rv.one;cases ru;obtain⟨z,its,n,r,hl,e⟩:=I.Gk hH;obtain⟨its2,r2,pl2,z2⟩:=I.list hB;obtain⟨⟨cls2,dd2,data2,sl2⟩,ho2,hc2,n2,hd2⟩:=pl2.isList;simp only at hc2 hd2;subst hc2 hd2;have hl2:=r2.length
 have hsz:its.toArray.size+its2.toArray.size<=sizeLine:=by rw[List.size_toArray,List.size_toArray];omega
 have hlong:¬ (!its.toArray.isEmpty&&Builtin.List.listTooLong (its.toArray.size+its2.toArray.size))=true:=by
  rw[CL hsz,Bool.and_false];exact Bool.false_ne_true
 refine call_meets F.slot_list_extend ⟨_,e,rfl⟩ F.entry_list_extend (F.args_list_extend_2 _ _)
  (vw l its.toArray n b its2.toArray n2 dd2 sl2 hlong (by rw[List.size_toArray];omega) (by omega)) ⟨e,ho2,?_⟩
 refine⟨.non,_,I.HX (its':=its++its2) hH e (by simp) (r.append r2) ?_,rfl,q⟩
 rw[List.length_append];omega
end L2.E
namespace L2.P
open PySem PySem.Spec PyProof.Rows L2 L2.E
section
variable{K:PySem.W.Frag}{cls:String->Option Addr}{W:XW}{Av G S₀ S S' H H' B B':Hp}{ρ:ah}{σ:St}{Q:VK}{F:Nat->List Addr}
theorem fq{i:Nat}{te tx:TE}{mp:MP}{me:ah->OE}(hp:JP K cls te i mp)(hx:JE K cls W tx me):JS K cls W (tN (tBM K "list" (wX K) te (eS tx lx))) (dE i mp me):=by
 intro Av G S₀ ρ σ S H D I p;obtain⟨io,t,π,u,hi,e0,e1,p⟩:=uc p;obtain⟨v0,hv⟩:=I.val hi
 cases u with
 |sh x=>exact p.elim
 |ob c ks us=>exact p.elim
 |di x=>exact p.elim
 |dt x=>exact p.elim
 | ol ts=>
   dsimp only at p
   refine hp.at I hi hv e0 e1 fun w S1 H1 w1 I1 wk=>?_
   have p1:=p.back w1.s;obtain⟨F,J1⟩:=id I1;obtain⟨q,vs,ff,rest,wk',hq,hl,rs,_,nd,c⟩:=J1.sd hi hv e1;have:=wk.inj wk';subst this
   refine⟨.inl ⟨rfl,_,SqL.new hq⟩,?_⟩
   refine hx.goS I1 p1 fun r v S2 H2 I2 w2 r2 p2=>?_
   have ndf:ff.Nodup:=(List.nodup_cons.mp (List.nodup_append.mp nd).1).2
   cases r with
   |al ys=>exact p2.elim
   | sh x=>
     cases x with
     | lst ys=>
       dsimp only at p2
       split at p2
       . rename_i hlt
         have r3:Rep K S2 (.lst ys) v:=r2
         unfold Rep at r3;obtain⟨b,us,rfl,k3,k4⟩:=r3
         refine⟨q,b,vs,us,rfl,rfl,w2.g _ _ hq,aD.seq w2.sh k3,by rw[hl,k4.length];exact hlt,?_⟩
         obtain⟨g,J3,_⟩:=c S2 H2 (ts++ys.map .sh) (vs++us) (ff++[]) w2 ((rs.mono w2.s fun a _ o h=>w2.g _ _ h).append (.shs k4)) (by rw[List.append_nil];exact ndf) fun a ha=>.inl (by simpa using ha)
         exact p2 σ S2 _ ⟨_,J3⟩ (aD.refl _)
       . exact p2.elim
     |_=>exact p2.elim
   | fr ys=>
     dsimp only at p2
     split at p2
     . rename_i hlt;obtain⟨b,us,rfl,k1,k2,k3,k4⟩:=r2
       refine⟨q,b,vs,us,rfl,rfl,w2.g _ _ hq,SqL.new k3,by rw[hl,k4.length];exact hlt,?_⟩
       obtain⟨g,J3,_⟩:=c S2 H2 (ts++ys.map .sh) (vs++us) (ff++[]) w2 ((rs.mono w2.s fun a _ o h=>w2.g _ _ h).append (.shs k4)) (by rw[List.append_nil];exact ndf) fun a ha=>.inl (by simpa using ha)
       exact p2 σ S2 _ ⟨_,J3⟩ (aD.refl _)
     . exact p2.elim
end
end L2.P
namespace L2.E
open PySem PySem.Spec PyProof.Rows L2
theorem eG{N P:List Str}{sc:Scope}(a:sc.kind=.function:=by rfl)(b:sc.isCoroutine=false:=by rfl)(c:sc.isGenerator=false:=by rfl)(d:N.Nodup:=by decide +kernel)(e:N.take P.length=P:=by rfl)
  (f:∀ x∈P,sc.names.lookup x=some .local \/ sc.names.lookup x=some .cell:=by decide +kernel) (g:∀ y∈sc.names,y.2≠.free:=by decide +kernel):aW N P sc:=⟨a,b,c,d,e,f,g⟩
structure Ent(K:PySem.W.Frag)(mg:Str->Option Value)(x:Str)(st:Stmt)(f:Addr)(d:FuncData)(ps:List Str):Prop where
 F:Fun K x x st f d
 m:mg x=some (.ref f)
 b:Binds K d ps []
structure Fd(K:PySem.W.Frag)(x:Str)(st:Stmt)(f:Addr)(d:FuncData):Prop where
 a:PySem.W.nsIn K mainGlobals x=some (some (.ref f))
 F:Fun K x x st f d
section
variable{K:PySem.W.Frag}{mg:Str->Option Value}{h:Heap}{x:Str}{st:Stmt}{f:Addr}{d:FuncData}
theorem cA{oc:Value}{od an:Option Addr}{osl:Array (Option Value)}{kV doc pm cdv ct:Value}(a:PySem.W.nsIn K mainGlobals x=some (some (.ref f)))
  (l:K.lookup f=some ⟨oc,od,.func (PySem.W.fnOf x x (fU st) (dH st) (aC st) .none kV doc pm an cdv ct),osl⟩) (c:PySem.W.codeIn K cdv x=true) (k:PySem.W.keepIn K (.ref f)=true):
  Fd K x st f (PySem.W.fnOf x x (fU st) (dH st) (aC st) .none kV doc pm an cdv ct):=⟨a,Ie l c k⟩
theorem Fd.e{ps:List Str}(H:Fd K x st f d)(X:K.In h)(G:h.Ns mainGlobals mg)
  (hb:∀(kV doc pm:Value) (an:Option Addr) (cdv ct:Value) (us:List Value),us.length=ps.length->bindArgs (PySem.W.fnOf x x (fU st) (dH st) (aC st) .none kV doc pm an cdv ct) ⟨us,[]⟩=pure (ps.zip us)):Ent K mg x st f d ps:=⟨H.F,PySem.W.mg_of X G H.a,H.F.binds hb⟩
theorem Fd.e1{a:Str}(H:Fd K x st f d)(X:K.In h)(G:h.Ns mainGlobals mg)
  (hb:∀(kV doc pm:Value) (an:Option Addr) (cdv ct i:Value),bindArgs (PySem.W.fnOf x x (fU st) (dH st) (aC st) .none kV doc pm an cdv ct) ⟨[i],[]⟩=pure [(a,i)]:=by intros;rfl):Ent K mg x st f d [a]:=
 H.e X G fun p q r s t u us hl=>match us,hl with|[_],_=>hb p q r s t u _
theorem Fd.e2{a b:Str}(H:Fd K x st f d)(X:K.In h)(G:h.Ns mainGlobals mg)
  (hb:∀(kV doc pm:Value) (an:Option Addr) (cdv ct i j:Value),bindArgs (PySem.W.fnOf x x (fU st) (dH st) (aC st) .none kV doc pm an cdv ct) ⟨[i,j],[]⟩=pure [(a,i),(b,j)]:=by intros;rfl):Ent K mg x st f d [a,b]:=
 H.e X G fun p q r s t u us hl=>match us,hl with|[_,_],_=>hb p q r s t u _ _
theorem Fd.e3{a b c:Str}(H:Fd K x st f d)(X:K.In h)(G:h.Ns mainGlobals mg)
  (hb:∀(kV doc pm:Value) (an:Option Addr) (cdv ct i j k:Value),bindArgs (PySem.W.fnOf x x (fU st) (dH st) (aC st) .none kV doc pm an cdv ct) ⟨[i,j,k],[]⟩=pure [(a,i),(b,j),(c,k)]:=by intros;rfl):Ent K mg x st f d [a,b,c]:=
 H.e X G fun p q r s t u us hl=>match us,hl with|[_,_,_],_=>hb p q r s t u _ _ _
theorem Fd.e4{a b c e:Str}(H:Fd K x st f d)(X:K.In h)(G:h.Ns mainGlobals mg)
  (hb:∀(kV doc pm:Value) (an:Option Addr) (cdv ct i j k l:Value),bindArgs (PySem.W.fnOf x x (fU st) (dH st) (aC st) .none kV doc pm an cdv ct) ⟨[i,j,k,l],[]⟩=pure [(a,i),(b,j),(c,k),(e,l)]:=by intros;rfl):Ent K mg x st f d [a,b,c,e]:=
 H.e X G fun p q r s t u us hl=>match us,hl with|[_,_,_,_],_=>hb p q r s t u _ _ _ _
theorem Fd.e5{a b c e g:Str}(H:Fd K x st f d)(X:K.In h)(G:h.Ns mainGlobals mg)
  (hb:∀(kV doc pm:Value) (an:Option Addr) (cdv ct i j k l m:Value),bindArgs (PySem.W.fnOf x x (fU st) (dH st) (aC st) .none kV doc pm an cdv ct) ⟨[i,j,k,l,m],[]⟩=pure [(a,i),(b,j),(c,k),(e,l),(g,m)]:=by intros;rfl):Ent K mg x st f d [a,b,c,e,g]:=
 H.e X G fun p q r s t u us hl=>match us,hl with|[_,_,_,_,_],_=>hb p q r s t u _ _ _ _ _
end
theorem qz{X:Cx}{pos:Pos}(i:Nat)(h7:X.N.Nodup)(h10:QE X e te)(h8:X.N[i]?=some x:=by rfl)(h9:Loc X.env.scope x:=by first|exact Or.inl rfl|exact Or.inr rfl)
  (h11:autoParam (swapsWith e (some (.Name x pos')) pos.line X.env=pure false) L2.qau._auto_1) (h12:autoParam (X.fn x=true \/ X.env.scope.names.lookup x=some .local) L2.qau._auto_1):QS X (.Assign [.Name x pos'] e pos) (qK te (ir i)):=Ih h7 h8 h9 h10 h11 h12
theorem qx{X:Cx}{j k:Nat}{f:Addr}{fd:FuncData}{ps:List Str}{sp:Sp}{W:XW}{x:Str}{st:Stmt}{p pos:Pos}{e:Expr}{es:List Expr}{t:TA}(h15:cD X.prog X.w X.K X.mg X.base (CXE X.prog X.w) j f fd ps sp)(E:Ent X.K X.mg x st f fd ps)(h16:jM k X.A)(h22:Thr X W)(h23:QA X (e ::es) t)
  (hj:j<=k:=by decide) (h17:Gl X x:=by rfl) (h24:autoParam ((x==Str.ofString "__debug__")=false) L2.qau._auto_1) (h25:autoParam (starEach (e ::es) X.env=(false,eval e X.env) ::starEach es X.env) L2.qau._auto_1) (h26:autoParam (((backTo pos (starEach es X.env)).any fun x=>x.1)=false) L2.qau._auto_1):
  QE X (.Call (.Name x p) (e ::es) [] pos) (tD sp [] W t):=Du (h15.mono hj) h16 h17 E.m E.F.kp E.b .nil h22 h23 h24 h25 h26
theorem jc{X:Cx}(h11:X.mg "len" = none)(h:QE X e te)(h10:Gl X "len":=by rfl)(hs:isStar e=false:=by rfl)(h16:autoParam (starEach [e] X.env=(false,eval e X.env) ::starEach [] X.env) L2.qau._auto_1)(h17:autoParam (((backTo pos (starEach [] X.env)).any fun x=>x.1)=false) L2.qau._auto_1):
  QE X (.Call (.Name "len" p) [e] [] pos) (tCB (fun xs H Q=>∃ p ys,xs=[.ref p] /\ (SqL X.K H p ys \/ SqT X.K H p ys) /\ Q (.int ys.length) H) (eS te lx)):=jR vC h10 h11 boot_len (ag h av hs) (by decide) (by decide) h16 h17
theorem qi(h7:IxR X r)(h8:QE X a ta)(h9:QE X b tb)(h10:wq b:=by exact fun _ _=>rfl):QE X (.Subscript a b pos) (tOp r ta tb):=Jh h7 h8 h9 h10
theorem b7(h8:OpR X (compareOp op) r)(h9:QE X a ta)(h10:QE X b tb)(h11:behindInMarks op b=false:=by exact jd _):QT X (.Compare a [op] [b] pos) (uC (tOp r ta tb)):=qq h8 h9 h10 h11
theorem qap{X:Cx}{apos cpos pos:Pos}{r:V->List V->Hp->VK->Prop}(h15:MtR X "list.append" r)(h16:QE X o to)(h:QE X e te)(hs:isStar e=false:=by rfl)
  (h18:autoParam (attributeBase o "append" X.env (eval o X.env)=eval o X.env) L2.qau._auto_1) (h19:autoParam (((((backTo cpos (starEach [e] X.env)).all fun x=>!x.1)&&(backToKw cpos (keywordEach [] X.env)).all fun x=>x.1.isSome)&&decide (([e].length+([]:List Keyword).length+if([]:List Keyword).isEmpty=true then 0 else 1)<30))=true) L2.qau._auto_1)
  (h20:autoParam ((apos.endLine==cpos.line)=true) L2.qau._auto_1) (h21:autoParam (starEach [e] X.env=(false,eval e X.env) ::starEach [] X.env) L2.qau._auto_1) (h22:autoParam (((backTo cpos (starEach [] X.env)).any fun x=>x.1)=false) L2.qau._auto_1) (h5:autoParam (swapsWith (.Call (.Attribute o "append" apos) [e] [] cpos) none pos.line X.env=pure false) L2.qau._auto_1):
  QS X (.Expr (.Call (.Attribute o "append" apos) [e] [] cpos) pos) (tN (tBM X.K "list" r to (eS te lx))):=zE (FZ PySem.F.plainAttrs_list PySem.F.slot_list_append PySem.F.type_list_append h15 h16 (ag h av hs) h18 h19 h20 h21 h22) h5
theorem qex{X:Cx}{apos cpos pos:Pos}{r:V->List V->Hp->VK->Prop}(h15:MtR X "list.extend" r)(h16:QE X o to)(h:QE X e te)(hs:isStar e=false:=by rfl)
  (h18:autoParam (attributeBase o "extend" X.env (eval o X.env)=eval o X.env) L2.qau._auto_1) (h19:autoParam (((((backTo cpos (starEach [e] X.env)).all fun x=>!x.1)&&(backToKw cpos (keywordEach [] X.env)).all fun x=>x.1.isSome)&&decide (([e].length+([]:List Keyword).length+if([]:List Keyword).isEmpty=true then 0 else 1)<30))=true) L2.qau._auto_1)
  (h20:autoParam ((apos.endLine==cpos.line)=true) L2.qau._auto_1) (h21:autoParam (starEach [e] X.env=(false,eval e X.env) ::starEach [] X.env) L2.qau._auto_1) (h22:autoParam (((backTo cpos (starEach [] X.env)).any fun x=>x.1)=false) L2.qau._auto_1) (h5:autoParam (swapsWith (.Call (.Attribute o "extend" apos) [e] [] cpos) none pos.line X.env=pure false) L2.qau._auto_1):
  QS X (.Expr (.Call (.Attribute o "extend" apos) [e] [] cpos) pos) (tN (tBM X.K "list" r to (eS te lx))):=zE (FZ PySem.F.plainAttrs_list PySem.F.slot_list_extend PySem.F.type_list_extend h15 h16 (ag h av hs) h18 h19 h20 h21 h22) h5
end L2.E
namespace L2.P
open PySem PySem.Spec PyProof.Rows L2 L2.E
theorem iF{K:PySem.W.Frag}{cls:String->Option Addr}{mk:ah->OE}(h:JP K cls te i mp)(k:JE K cls (fun _ _ _ _=>False) tk mk):JP K cls (tOp (EW K) te tk) i (pIx i mp mk):=Jz h k
end L2.P
namespace L2.P
open PySem
theorem OV.get_nil(t:OV):t.get []=some t:=by unfold OV.get;rfl
theorem OV.j6(t u:OV):t.put [] u=u:=by unfold OV.put;rfl
theorem OV.pd{ts:List OV}{j:Nat}{u:OV}(h:ts[j]?=some u)(π:List Stp):(OV.ol ts).get (.ix j ::π)=u.get π:=by
 rw[OV.get];simp[OV.at1,h]
theorem OV.yP{ts:List OV}{j:Nat}{u x:OV}(h:ts[j]?=some u)(π:List Stp):(OV.ol ts).put (.ix j ::π) x=.ol (ts.set j (u.put π x)):=by
 rw[OV.put];simp[OV.at1,h,OV.il]
theorem br{ρ:ah}{i:Nat}{s:Sl}{t:OV}(h:ρ[i]?=some (some s))(hs:slT s=some t):gb i ρ=some t:=by
 unfold gb;rw[h];exact hs
theorem jl{ρ:ah}{i j:Nat}{ts:List OV}{mk:ah->OE}{r:RV}{k:Int}(h:gb i ρ=some (.ol ts))(hk:mk ρ=.ok r)(hr:r.pv=.int k)(hj:ixP ts.length k=some j):pIx i aI mk ρ=some [.ix j]:=by
 unfold pIx;rw[h];simp[aI,OV.get_nil,hk,hr,hj]
theorem va{ρ:ah}{i j j2:Nat}{ts us:List OV}{mp:MP}{mk:ah->OE}{r:RV}{k:Int}(h:gb i ρ=some (.ol ts))(hp:mp ρ=some [.ix j])(hu:ts[j]?=some (.ol us))(hk:mk ρ=.ok r)(hr:r.pv=.int k)(hj:ixP us.length k=some j2):pIx i mp mk ρ=some [.ix j,.ix j2]:=by
 unfold pIx;rw[h,hp];simp[OV.pd hu,OV.get_nil,hk,hr,hj]
theorem subAt_one{ρ:ah}{i j:Nat}{ts:List OV}{mp:MP}{u:OV}(h:gb i ρ=some (.ol ts))(hp:mp ρ=some [.ix j])(hu:ts[j]?=some u):subAt i mp ρ=some u:=by
 unfold subAt;rw[h,hp];simp[OV.pd hu,OV.get_nil]
theorem qH{ρ:ah}{i j j2:Nat}{ts us:List OV}{mp:MP}{u:OV}(h:gb i ρ=some (.ol ts))(hp:mp ρ=some [.ix j,.ix j2])(hv:ts[j]?=some (.ol us))(hu:us[j2]?=some u):subAt i mp ρ=some u:=by
 unfold subAt;rw[h,hp];simp[OV.pd hv,OV.pd hu,OV.get_nil]
theorem gS{ρ:ah}{i:Nat}{t:OV}(h:gb i ρ=some t):subAt i aI ρ=some t:=by
 unfold subAt;rw[h];simp[aI,OV.get_nil]
theorem lV{ρ:ah}{i:Nat}{mp:MP}{x:PV}(h:subAt i mp ρ=some (.sh x)):cM i mp ρ=.ok (.sh x):=by unfold cM;rw[h]
theorem tK{ρ:ah}{i:Nat}{mp:MP}{ts:List OV}(h:subAt i mp ρ=some (.ol ts)):eQ i mp ρ=.ok (.sh (.int ts.length)):=by unfold eQ;rw[h]
theorem tL{ρ:ah}{i:Nat}{mp:MP}{ts:List OV}(h:subAt i mp ρ=some (.ol ts)):cX i mp ρ=.ok (!ts.isEmpty):=by unfold cX;rw[h]
theorem EF{ρ:ah}{i:Nat}{io:Bool}{ts:List OV}{x:OV}(h:ρ[i]?=some (some (.tr io (.ol (ts++[x]))))):u1 i aI ρ=.ok (ρ.set i (some (.tr io (.ol ts)))) (slO x):=by
 unfold u1;rw[h];simp[aI,OV.get_nil,OV.j6]
theorem rZ{ρ:ah}{i:Nat}{io:Bool}{ts:List OV}{x:OV}{md:ah->OD}(h:ρ[i]?=some (some (.tr io (.ol ts))))(hd:md ρ=.ok x)(hl:ts.length<lim):bK i aI md ρ=.nx (ρ.set i (some (.tr io (.ol (ts++[x]))))):=by
 unfold bK wO;rw[h];simp only[aI,OV.get_nil,hd,hl,if_true,OV.j6]
theorem zq{ρ:ah}{i j j2:Nat}{io:Bool}{ts us xs:List OV}{x:OV}{mp:MP}{md:ah->OD}(h:ρ[i]?=some (some (.tr io (.ol ts))))(hp:mp ρ=some [.ix j,.ix j2])(hv:ts[j]?=some (.ol us))(hu:us[j2]?=some (.ol xs))(hd:md ρ=.ok x)(hl:xs.length<lim):
  bK i mp md ρ=.nx (ρ.set i (some (.tr io (.ol (ts.set j (.ol (us.set j2 (.ol (xs++[x]))))))))):=by
 unfold bK wO;rw[h,hp];simp only[OV.pd hv,OV.pd hu,OV.get_nil,hd,hl,if_true,OV.yP hv,OV.yP hu,OV.j6]
theorem sm{ρ:ah}{i j j2:Nat}{io:Bool}{ts us:List OV}{x:OV}{mp:MP}{mk:ah->OE}{md:ah->OD}{r:RV}{k:Int}(h:ρ[i]?=some (some (.tr io (.ol ts))))(hp:mp ρ=some [.ix j])(hv:ts[j]?=some (.ol us))(hk:mk ρ=.ok r)(hr:r.pv=.int k)(hj:ixP us.length k=some j2)(hd:md ρ=.ok x):
  nc i mp mk md ρ=.nx (ρ.set i (some (.tr io (.ol (ts.set j (.ol (us.set j2 x))))))):=by
 unfold nc wO;rw[hd];dsimp only;rw[h,hp];simp only[OV.pd hv,OV.get_nil,hk,o8,hr,hj,OV.yP hv,OV.j6]
theorem CW{ρ:ah}{i:Nat}{io:Bool}{ts:List OV}{ys:List PV}{me:ah->OE}(h:ρ[i]?=some (some (.tr io (.ol ts))))(he:me ρ=.ok (.fr ys) \/ me ρ=.ok (.sh (.lst ys)))(hl:ts.length+ys.length<=lim):dE i aI me ρ=.nx (ρ.set i (some (.tr io (.ol (ts++ys.map .sh))))):=by
 unfold dE wO;rw[h]
 rcases he with he|he<;>simp only[aI,OV.get_nil,he,o8,hl,if_true,OV.j6]
theorem aP{m n:ah->OS}{ρ ρ':ah}(h:m ρ=.nx ρ'):aA m n ρ=n ρ':=by unfold aA;rw[h];rfl
theorem HL{m n:ah->OS}{ρ ρ':ah}{v:RV}(h:m ρ=.rt ρ' v):aA m n ρ=.rt ρ' v:=by unfold aA;rw[h];rfl
theorem DC(ρ:ah):aT ρ=.nx ρ:=rfl
theorem HC{c:ah->OT}{a b:ah->OS}{ρ:ah}(h:c ρ=.ok true):bj c a b ρ=a ρ:=by unfold bj;rw[h];rfl
theorem IZ{c:ah->OT}{a b:ah->OS}{ρ:ah}(h:c ρ=.ok false):bj c a b ρ=b ρ:=by unfold bj;rw[h];rfl
theorem sk{c:ah->OT}{a n:ah->OS}{ρ:ah}(h:c ρ=.ok false):aA (bj c a aT) n ρ=n ρ:=aP (Eq.trans (IZ h) (DC _))
theorem st{c:ah->OT}{a b n:ah->OS}{ρ ρ':ah}{r:RV}(h:c ρ=.ok true)(k:a ρ=.rt ρ' r):aA (bj c a b) n ρ=.rt ρ' r:=HL (Eq.trans (HC h) k)
theorem tS{X:OS}{ρ:ah}{x:PV}(h:X=.rt ρ (.sh x)):fin X=.ok (.sh x):=by rw[h];rfl
end L2.P
namespace L2.E
open PySem PySem.Spec PyProof.Rows L2
end L2.E
namespace L2.P
open PySem PySem.Spec PyProof.Rows L2 L2.E
end L2.P
namespace L2.E
open PySem PySem.Spec PyProof.Rows L2
end L2.E
namespace L2.P
open PySem PySem.Spec PyProof.Rows L2 L2.E
end L2.P
namespace L2.E
open PySem PySem.Spec PyProof.Rows L2
end L2.E
namespace L2.P
open PySem PySem.Spec PyProof.Rows L2 L2.E
end L2.P
namespace L2.P
open PySem PySem.Spec PyProof.Rows L2 L2.E PySem.SeqAt
end L2.P
namespace L2.P
open PySem
noncomputable def ins(n:Int):List Int->List Int
 |[]=>[n]
 |m ::ms=>if n<=m then n ::m ::ms else m ::ins n ms
end L2.P
namespace L2
open PySem PySem.Spec PyProof.Rows PySem.W
end L2
namespace L2.E
open PySem PySem.Spec PyProof.Rows L2
end L2.E
namespace L2.P
open PySem PySem.Spec PyProof.Rows L2 L2.E
section
variable{K:PySem.W.Frag}{cls:String->Option Addr}{W:XW}{Av G S₀ S S' H H' B B':Hp}{ρ:ah}{σ:St}{Q:VK}{F:Nat->List Addr}
theorem qG.rX{n:Int}{x:PV}{v:V}(hx:Rep K S x v):∀{kvs:List (Int×PV)} {us:List (Key×V)},qG K S kvs us->qG K S (kvs++[(n,x)]) (us++[(Sum.inl n,v)])
 |_,_,.nil=>.cons ⟨rfl,hx⟩ .nil
 |_ ::_,_ ::_,.cons h t=>.cons h (qG.rX hx t)
end
end L2.P
namespace L2.P
open PySem
end L2.P
namespace L2.E
open PySem PySem.Spec PyProof.Rows L2
end L2.E
namespace L2.P
open PySem PySem.Spec PyProof.Rows L2 L2.E
end L2.P
namespace L2.P
open PySem
abbrev DT:=List (List Int×PV)
end L2.P
namespace HT
open PySem PyProof.Rows
end HT
namespace L2
open PySem PySem.Spec PyProof.Rows
abbrev E3:=List Key×Addr×V
noncomputable def R3(p:E3)(q:List Key×Addr×Value):Prop:=p.1=q.1 /\ p.2.1=q.2.1 /\ RelV p.2.2 q.2.2
end L2
namespace L2.E
open PySem PySem.Spec PyProof.Rows L2
end L2.E
namespace L2.P
open PySem PySem.Spec PyProof.Rows L2 L2.E
end L2.P
namespace HT
open PySem PyProof.Rows
section
open PySem.SeqAt
open PySem.AutoSeq1 (wpAny_loadPart')
variable{prog:Program}{w:World}{A:Around}{E:Value->Shared->Prop}{s:Shared}
end
end HT
namespace PySem
end PySem
namespace L2
open PySem PySem.Spec PyProof.Rows
end L2
namespace L2.P
open PySem PySem.Spec PyProof.Rows L2 L2.E
end L2.P
namespace HT
open PySem PyProof.Rows
end HT
namespace L2
open PySem PySem.Spec PyProof.Rows
end L2
namespace L2.E
open PySem PySem.Spec PyProof.Rows L2
end L2.E
namespace L2.P
open PySem
end L2.P
namespace L2.P
open PySem PySem.Spec PyProof.Rows L2 L2.E
end L2.P
namespace L2.P
open PySem
end L2.P
namespace L2.P
open PySem PySem.Spec PyProof.Rows L2 L2.E
end L2.P
namespace L2.P
open PySem
end L2.P
namespace L2.P
open PySem PySem.Spec PyProof.Rows L2 L2.E PySem.SeqAt
end L2.P
namespace L2.P
open PySem
noncomputable def mO:List Int->List Int->Bool
 |[],[]=>false
 |[],_ ::_=>true
 |_ ::_,[]=>false
 |a ::as,b ::bs=>if a=b then mO as bs else decide (a<b)
theorem vh:∀ x,mO x x=false
 |[]=>rfl
 |a ::as=>by rw[mO,if_pos rfl,vh as]
theorem y2:∀{x y z:List Int},mO x y=true->mO y z=true->mO x z=true
 |[],[],_,h,_=>by simp[mO]at h
 |[],_ ::_,[],_,h=>by simp[mO]at h
 |[],_ ::_,_ ::_,_,_=>rfl
 |_ ::_,[],_,h,_=>by simp[mO]at h
 |_ ::_,_ ::_,[],_,h=>by simp[mO]at h
 | a ::as,b ::bs,c ::cs,h1,h2=>by
   rw[mO]at h1 h2 ⊢
   by_cases e1:a=b
   . subst e1
     by_cases e2:a=c
     . rw[if_pos rfl]at h1;rw[if_pos e2]at h2 ⊢;exact y2 h1 h2
     . rw[if_neg e2]at h2 ⊢;exact h2
   . rw[if_neg e1]at h1;have l1:=of_decide_eq_true h1
     by_cases e2:b=c
     . subst e2;rw[if_neg e1];exact h1
     . rw[if_neg e2]at h2;have l2:=of_decide_eq_true h2;rw[if_neg (by omega)];exact decide_eq_true (by omega)
theorem ze:∀{x y:List Int},x≠y->mO x y=false->mO y x=true
 |[],[],h,_=>absurd rfl h
 |[],_ ::_,_,h=>by simp[mO]at h
 |_ ::_,[],_,_=>rfl
 | a ::as,b ::bs,h,h1=>by
   rw[mO]at h1 ⊢
   by_cases e1:a=b
   . subst e1
     rw[if_pos rfl]at h1 ⊢
     exact ze (fun z=>h (by rw[z])) h1
   . rw[if_neg e1]at h1;rw[if_neg (Ne.symm e1)];have:=of_decide_eq_false h1;exact decide_eq_true (by omega)
end L2.P
namespace HT
open PySem PyProof.Rows PySem.W
open L2.P (mO vh y2 ze)
noncomputable def B8(h:Heap)(ns:List Int)(a:Addr):Prop:=∃ o its n,h.get? a=some o /\ o.cls=.type "tuple" /\ o.data=.seq its n /\ IntsAre its.toList ns
theorem B8.typeIs{s:Shared}{ns:List Int}{a:Addr}(x:B8 s.heap ns a):s.TypeIs (.ref a) "tuple":=let ⟨o,_,_,h1,h2,_⟩:=x;⟨o,h1,h2⟩
section
variable{prog:Program}{w:World}{A:Around}{E:Value->Shared->Prop}{s:Shared}
theorem lt_int{a b:Int}{t u:Tok}{Q:Value->Shared->Prop}(h:Q (.bool (decide (a<b))) s):wpAny (model prog w) A (richCompare .Lt (.int a t) (.int b u)) Q E s:=
 wpAny_richCompare_same (op:=.Lt) (typeIs_int s a t) (typeIs_int s b u) slot_int_lt (call_int_lt ⟨(fun e=>nomatch e),h⟩)
end
variable{n:Nat}{lt:Nat->Nat->Bool}
noncomputable abbrev Gt(p:Array Nat)(i:Nat):Nat:=p.getD i 0
variable{p:Array Nat}
open L2.P (mO vh y2 ze)
end HT
namespace L2
open PySem PySem.Spec PyProof.Rows
open L2.P (mO)
end L2
namespace L2.P
open PySem PySem.Spec PyProof.Rows L2 L2.E
end L2.P
namespace L2
open PySem PySem.Spec PyProof.Rows
end L2
namespace L2.E
open PySem PySem.Spec PyProof.Rows L2
end L2.E
namespace L2.P
open PySem PySem.Spec PyProof.Rows L2 L2.E
end L2.P
namespace HT
open PySem PyProof.Rows
end HT
namespace L2
open PySem PySem.Spec PyProof.Rows
end L2
namespace L2.E
open PySem PySem.Spec PyProof.Rows L2
end L2.E
namespace L2.P
open PySem PySem.Spec PyProof.Rows L2 L2.E
end L2.P
namespace L2.P
open PySem
abbrev ST:=List (Int×List Int)×SetTable
end L2.P
namespace HT
open PySem PyProof.Rows L2.P
theorem B8.key{prog:Program}{w:World}{h:Heap}{ns:List Int}{a:Addr}(x:B8 h ns a):IsTupleKey (intKind prog w) h ns a:=by
 obtain⟨o,its,n,h1,h2,h3,h4⟩:=x
 refine⟨o,its,n,h1,h2,h3,?_⟩
 have go:∀{vs:List Value} {ns:List Int},IntsAre vs ns->ItemsAre (intKind prog w) ns vs:=by
  intro vs ns i
  induction i with
  |nil=>exact .nil
  |cons n t _ ih=>exact .cons (intKind_is _ _ _ _) ih
 exact go h4
noncomputable def ElR(h:Heap)(e:Int×Value)(q:Int×List Int):Prop:=e.1=q.1 /\ ∃ a,e.2=.ref a /\ B8 h q.2 a
noncomputable abbrev IU(h:Heap)(es:List (Int×Value))(qs:List (Int×List Int)):Prop:=Paired (ElR h) es qs
theorem IU.hash{h:Heap}{es:List (Int×Value)}{qs:List (Int×List Int)}(r:IU h es qs):es.map (·.1)=qs.map (·.1):=by
 induction r with
 |nil=>rfl
 |cons r t ih=>rw[List.map_cons,List.map_cons,r.1,ih]
end HT
namespace L2
open PySem PySem.Spec PyProof.Rows
end L2
namespace L2.E
open PySem PySem.Spec PyProof.Rows L2
end L2.E
namespace L2.P
open PySem PySem.Spec PyProof.Rows L2 L2.E
end L2.P
namespace L2.P
open PySem
noncomputable def m7(i j:Int):List PV:=(List.range (j - i).toNat).map fun k:Nat=>.int (i+(k:Int))
noncomputable def iE(ma mb:ah->OE)(ι:List Nat)(mc:ah->OT)(me:ah->OE):ah->OE:=fun ρ=>(ma ρ).bind fun a=>(mb ρ).bind fun b=>match a.pv,b.pv with
 |.int i,.int j=>if(-(2 ^ 62)<=i /\ i<2 ^ 62) /\ -(2 ^ 62)<=j /\ j<2 ^ 62 then noX (fk mc me (cp ι ρ) (m7 i j))else .bad
 |_,_=>.bad
noncomputable def jB(n:Nat):List PV:=(List.range n).map fun k:Nat=>.int ((n:Int) - 1 - (k:Int))
noncomputable def B9(i:Nat)(me:ah->OE)(mb:ah->OS):ah->OS:=fun ρ=>(me ρ).bY ρ fun r=>match r.pv with
 |.int j=>if -1<=j /\ j<2 ^ 62 then dZ i mb (jB (j+1).toNat) ρ else .bad
 |_=>.bad
end L2.P
namespace L2
open PySem PySem.Spec PyProof.Rows
noncomputable def ItD(n:Nat):It:=⟨fun i _=>i<n,fun i H x H'=>H'=H /\ x=.int ((n:Int) - 1 - i),fun i _=>n<=i⟩
theorem xS{P:Program}{w:World}{K:PySem.W.Frag}{tg:Expr}(it:Addr)(n:Nat):Turn P w K tg (ItD n) [it] it (fun i h=>IsRangeIter h it ((n:Int) - 1+(i:Nat)*(-1)) ((n:Int) - (i:Nat)) (-1)) where
 mem:=by simp
 obj:=fun i h st b hb=>by
  have e:b=it:=by simpa using hb
  subst e
  exact⟨_,st,fun v z=>by
   have z':Data.fields _=Data.cell v:=z
   cases z'⟩
 keep:=fun i h h' st k=>k it (by simp) _ st
 item:=by
  intro X hP hw hK hc i pins s σ H E I hf st hg;subst hP hw hK;obtain⟨f0,f1,f2,f3,f4,f5⟩:=hf it (by simp);have W:=Walks.range (prog:=X.prog) (w:=X.w) (I.ok.hd hc) it ((n:Int) - 1) (-1) n
  refine W.item i s _ _ hg st fun v h' tk hv st' kk=>?_
  obtain⟨t,rfl⟩:=hv
  have I1:Inv X pins σ H { s with heap:=h',toks:=tk }:=I.turned (fun b o hb e=>kk b o (by simpa using hb) e) f0 f1 f3 f4 f5
  refine⟨_,rfl,zV (s:={ s with heap:=h',toks:=tk }) (n:="range_iterator") st' rfl rfl (by decide) ⟨.int ((n:Int) - 1 - i),H,I1,⟨t,?_⟩,⟨rfl,rfl⟩,st',fun b hb=>(hf b hb).1⟩⟩
  rw[show(n:Int) - 1+(i:Int)*(-1)=(n:Int) - 1 - i by omega]
 done:=by
  intro X hP hw hK hc i pins s σ H E I hf st hg;subst hP hw hK;obtain⟨f0,f1,f2,f3,f4,f5⟩:=hf it (by simp)
  exact wpAny_pyNext_range_end (I.ok.hd hc) st (by have:n<=i:=hg;omega) fun h' eb=>⟨rfl,I.turned (t':=s.toks) (fun b o hb e=>eb b o hb e) f0 f1 f3 f4 f5⟩
 self:=fun _ _ _ _ _ st h=>wpAny_pyIter_rangeiter st h
section
variable{X:Cx}{tg:Expr}
noncomputable def CA(ta:TA):TI:=fun σ H R=>ta σ H fun vs H1=>∃ j:Int,vs=[.int j,.int (-1),.int (-1)] /\ -1<=j /\ j<2 ^ 62 /\ R (ItD (j+1).toNat) H1
theorem Fe(j:Int)(h:-1<=j):Builtin.Range.rangeSize j (-1) (-1)=j+1:=by
 unfold Builtin.Range.rangeSize;rw[if_neg (by decide),show(-(-1):Int)=1 from rfl,Int.ediv_one]
 split<;>omega
theorem GK(j:Int)(h:-1<=j)(h2:j<2 ^ 62):Builtin.Range.small j (-1) (-1)=true:=by
 unfold Builtin.Range.small;rw[Fe j h];simp[Builtin.Range.rangeFitsLong];omega
theorem A8{a b c:Expr}{ta:TA}{p pos:Pos}(hg:Gl X "range")(hm:X.mg "range" = none)(ha:PA X [a,b,c] ta)(hs:starEach [a,b,c] X.env=(false,eval a X.env) ::starEach [b,c] X.env)(hs2:starEach [b,c] X.env=[(false,eval b X.env),(false,eval c X.env)]):
  PI X tg (.Call (.Name "range" p) [a,b,c] [] pos) (CA ta):=by
 intro pins s σ H R I h;refine Call_ (qL I hg hm boot_range (PyProof.Rows.callWith_type1 (thn (ha pos pins s σ H _ I h) fun us s1 ⟨vs,H1,I1,r1,q1⟩=>?_) hs (by rw[hs2];rfl)));obtain⟨j,e,q1,q2,q⟩:=q1;subst e
 cases r1 with
 | cons r rr=>
   cases rr with
   | cons r' rr=>
     cases rr with
     | cons r'' rr=>
       cases rr;obtain⟨t,rfl⟩:=r;obtain⟨t',rfl⟩:=r';obtain⟨t'',rfl⟩:=r'';refine call_range_3 (by decide) ?_ (Or.inl (PyProof.noPylong_small (by omega)));refine wpAny_pyIter_range (IsRange.new ..) (GK j q1 q2) ?_;generalize hh1:s1.heap.push { cls:=.type "range",data:=.fields #[.int j t,.int (-1) t',.int (-1) t''] }=h1
       have I2:Inv X pins σ H1 { s1 with heap:=h1 }:=by rw[<- hh1];exact I1.kept (t':=s1.toks) fun b o e=>Heap.get?_push_of_some _ e
       refine⟨h1.objs.size,[h1.objs.size],_,_,H1,rfl,I2.kept (t':=s1.toks) fun b o e=>Heap.get?_push_of_some _ e,xS _ (j+1).toNat,?_,fun b hb=>?_,q⟩
       . have e1:(((j+1).toNat:Nat):Int) - 1+((0:Nat):Int)*(-1)=j:=by omega
         have e2:(((j+1).toNat:Nat):Int) - ((0:Nat):Int)=Builtin.Range.rangeSize j (-1) (-1):=by rw[Fe j q1];omega
         show IsRangeIter _ _ ((((j+1).toNat:Nat):Int) - 1+((0:Nat):Int)*(-1)) ((((j+1).toNat:Nat):Int) - ((0:Nat):Int)) (-1);rw[e1,e2];exact Heap.get?_push_size _ rfl
       . have e:b=h1.objs.size:=by simpa using hb
         subst e;exact I2.Bl (Nat.le_refl _) (I2.hok.fresh (Nat.le_refl _))
end
end L2
namespace L2.E
open PySem PySem.Spec PyProof.Rows L2
theorem A1{X:Cx}{tg:Expr}{a b c:Expr}{ta:TA}{p pos:Pos}(hg:Gl X "range")(hm:X.mg "range" = none)(ha:QA X [a,b,c] ta)(hs:starEach [a,b,c] X.env=(false,eval a X.env) ::starEach [b,c] X.env:=by rfl)(hs2:starEach [b,c] X.env=[(false,eval b X.env),(false,eval c X.env)]:=by rfl):QI X tg (.Call (.Name "range" p) [a,b,c] [] pos) (CA ta):=⟨A8 hg hm ha.out hs hs2⟩
end L2.E
namespace L2.P
open PySem PySem.Spec PyProof.Rows L2 L2.E
section
variable{K:PySem.W.Frag}{cls:String->Option Addr}{W:XW}{Av G S₀ S S' H H':Hp}{ρ:ah}{σ:St}{Q:VK}
theorem yW{n k:Nat}(h:k<n):(jB n).drop k=.int ((n:Int) - 1 - (k:Int)) ::(jB n).drop (k+1):=by
 have hl:k<(jB n).length:=by unfold jB;simpa using h
 have e:(jB n)[k]?=some (.int ((n:Int) - 1 - (k:Int))):=by unfold jB;simp[h]
 rw[List.drop_eq_getElem_cons hl];rw[List.getElem?_eq_getElem hl]at e;rw[Option.some.inj e]
theorem ED{i:Nat}{te:TE}{tb:TS}{me:ah->OE}{mb:ah->OS}(he:JE K cls W te me)(hb:JS K cls W tb mb):JS K cls W (BA (CA (eS te (eS (tUn (rU fun i=>.int (-i)) (tC (.int 1))) (eS (tUn (rU fun i=>.int (-i)) (tC (.int 1))) lx)))) (ir i) tb) (B9 i me mb):=by
 intro Av G S₀ ρ σ S H D I p
 refine he.goS I p fun r v S1 H1 I1 w1 r1 p1=>?_
 cases e:r.pv with
 | int j=>
   rw[e]at p1
   have hv:v=.int j:=by have:=r1.rd I1.sh;rw[e]at this;exact cw this
   subst hv
   dsimp only at p1
   split at p1
   . rename_i hj
     refine⟨1,rfl,⟨1,rfl,⟨j,rfl,hj.1,hj.2,?_⟩⟩⟩
     refine⟨fun i m σ' H'=>m=(j+1).toNat - i /\ i<=(j+1).toNat /\ ∃ ρ' S',SR K cls Av G S₀ ρ' σ' S' H' /\ aD S1 S' /\ fW K cls W Av G S₀ S' D (dZ _ mb ((jB (j+1).toNat).drop i) ρ'),⟨_,rfl,Nat.zero_le _,ρ,S1,I1,aD.refl _,p1⟩,?_⟩
     rintro k m σ' H' ⟨rfl,hk,ρ',S',I',s',p'⟩
     by_cases hlt:k<(j+1).toNat
     . refine .inr ⟨hlt,fun σ2 H2=>∃ ρ2 S2,SR K cls Av G S₀ ρ2 σ2 S2 H2 /\ aD S1 S2 /\ fW K cls W Av G S₀ S2 D (dZ _ mb ((jB (j+1).toNat).drop (k+1)) ρ2),fun σ2 H2 z=>⟨_,by omega,rfl,hlt,z⟩,fun x H2 y=>?_⟩;obtain⟨e1,e2⟩:=y;subst e1 e2;rw[yW hlt]at p'
       refine qU hb I' ?_ p' fun ρ2 σ2 S3 H3 I3 s3 p3=>⟨ρ2,S3,I3,s'.trans s3,p3⟩
       unfold Rep;rfl
     . rw[List.drop_of_length_le (by unfold jB;simp;omega)]at p';exact .inl ⟨by show _<=k;omega,p' σ' S' H' I' (aD.refl _)⟩
   . exact p1.elim
 |_=>rw[e]at p1;exact p1.elim
theorem Bk{i j:Int}{k:Nat}{x:PV}(h:(m7 i j)[k]?=some x):k<(j - i).toNat /\ x=.int (i+(k:Int)):=by
 unfold m7 at h;rw[List.getElem?_map]at h;obtain⟨y,h1,rfl⟩:=Option.map_eq_some_iff.mp h;have hk:=(List.getElem?_eq_some_iff.mp h1).1;rw[List.getElem?_range (by simpa using hk)]at h1;cases h1
 exact⟨by simpa using hk,rfl⟩
theorem qZ{ta tb te:TE}{tc:TT}{ma mb me:ah->OE}{mc:ah->OT}{ι:List Nat}(hι:ι.Nodup)(ha:JE K cls W ta ma)(hb:JE K cls W tb mb)(hc:JT K cls (fun _ _ _ _=>False) tc mc)(he:JE K cls (fun _ _ _ _=>False) te me):JE K cls W (pL (B7 (eS ta (eS tb lx))) ι tc te) (iE ma mb ι mc me):=by
 intro Av G S₀ ρ σ S H Q I p
 refine ha.go I p fun r v S1 H1 I1 w1 r1 p1=>?_
 refine hb.go I1 p1 fun r2 v2 S2 H2 I2 w2 r3 p2=>?_
 have ra:=r1.rd I1.sh;have rb:=r3.rd I2.sh
 cases e:r.pv with
 | int i=>
   cases e2:r2.pv with
   | int j=>
     rw[e,e2]at p2;rw[e]at ra;rw[e2]at rb;have hv:=cw ra;have hv2:=cw rb;subst hv hv2
     dsimp only at p2
     split at p2
     . rename_i hj
       refine⟨i,j,rfl,⟨hj.1.1,hj.1.2,hj.2.1,hj.2.2⟩,?_⟩
       cases em:fk mc me (cp ι ρ) (m7 i j)with
       |exc c fs=>rw[em]at p2;exact p2.elim
       |bad=>rw[em]at p2;exact p2.elim
       | ok ys=>
         rw[em]at p2;simp only[noX]at p2;split at p2
         . rename_i hlen
           have hln:(m7 i j).length=(j - i).toNat:=by unfold m7;simp
           refine xU hι hc he I2 em hlen (fun k H' x g hx=>?_) (fun H' g=>by rw[hln];exact Nat.le_refl _) fun D S' H' w nD sD ⟨us,hD,rr⟩=>p2 (.ref D) S' H' w ⟨D,us,rfl,nD,sD,hD,rr⟩
           obtain⟨hk,rfl⟩:=Bk hx
           refine⟨hk,?_⟩
           rintro v' H2 ⟨rfl,rfl⟩
           exact⟨rfl,by unfold Rep;rfl⟩
         . exact p2.elim
     . exact p2.elim
   |_=>rw[e,e2]at p2;exact p2.elim
 |_=>rw[e]at p2;exact p2.elim
end
end L2.P
namespace L2.E
open PySem PySem.Spec PyProof.Rows L2
theorem Bs{M:Model}{A:Around}{E:Value->Shared->Prop}{s:Shared}{scope:Scope}{globals:Addr}{cl:List (Str×Addr)}{qual:Str}{func:Option Addr}{code:Value}{builtins:Addr}{outer:Env}{x:Str}{Q:Env->Shared->Prop}
  (hp:∀ h,pushCells h scope.names=h.push { cls:=.type "cell",data:=.cell none }) (hcf:∀ n,cellsFrom n scope.names cl=(x,n) ::cl)
  (hQ:∀ h',h'.Ns s.heap.objs.size (fun _=>none)->h'.IsCell (s.heap.objs.size+1) none->(∀ b o,s.heap.get? b=some o->h'.get? b=some o) ->
    Q (newEnv scope s.heap.objs.size globals ((x,s.heap.objs.size+1) ::cl) qual func code (some outer) builtins) { s with heap:=h' }):
  wpAny M A (newFunctionEnv scope globals cl [] qual func code (some outer) builtins) Q E s:=by
 simp only[newFunctionEnv,Option.isSome_some,if_true];refine wpAny_bind (wpAny_alloc (wpAny_bind (wpAny_layCells _ (fun name kind cells=>by cases hkc:kind==NameKind.cell<;>simp[hkc]) _ _ _ _ ?_)));rw[hp,hcf,show({ s with heap:=s.heap.push { cls:=.type "dict",data:=.dict #[] } }:Shared).heap.objs.size=s.heap.objs.size+1 from Heap.size_push ..];rw[List.forIn_nil];refine wpAny_bind (wpAny_pure (wpAny_pure (hQ _ ((Heap.Ns.new s.heap (.type "dict")).keeps fun b o e=>Heap.get?_push_of_some _ e) ⟨{ cls:=.type "cell",data:=.cell none },by have q:=Heap.get?_push_size (o:={ cls:=.type "cell",data:=.cell none }) (s.heap.push { cls:=.type "dict",data:=.dict #[] }) rfl;rwa [Heap.size_push]at q,rfl⟩ fun b o e=>Heap.get?_push_of_some _ (Heap.get?_push_of_some _ e))))
noncomputable abbrev rL(X:Cx)(scope:Scope)(cl:List (Str×Addr))(N:List Str)(x:Str)(C:Addr)(s₀:Shared)(H₀:Hp)(ex:List Addr):Cx:=
 { prog:=X.prog,w:=X.w,K:=X.K,mg:=X.mg,base:=X.base,A:=X.A,N:=N,s₀:=s₀,H₀:=H₀,env:=compEnvC scope ((x,C+1) ::cl) C X.env,outer:=X.stack,stack:=X.stack,ex:=ex,fn:=fun y=>y==x,calm:=X.calm,pn:=[],xe:=fun _ _=>False }
structure we(X:Cx)(scope:Scope)(cl:List (Str×Addr))(M:List Str)(ι:List Nat)(x:Str):Prop where
 clos:closureFor scope X.env=pure cl
 kind:scope.kind=.function
 push:∀ h,pushCells h scope.names=h.push { cls:=.type "cell",data:=.cell none }
 out:∀ n,cellsFrom n scope.names cl=(x,n) ::cl
 locs:(scope.names.all fun p=>p.2 != .local||scope.names.lookup p.1==some .local)=true
 var:(relabel scope X.env).names.lookup x=some .cell
 names:M.map some=ι.map fun i=>X.N[i]?
 cells:M.map (fun y=>scope.names.lookup y)=M.map fun _=>some .free
 kinds:M.map X.env.kindOf=M.map fun _=>some .cell
 same:M.map (fun y=>cl.lookup y)=M.map fun y=>X.env.cells.lookup y
 sub:cl.map (fun p=>X.env.cells.lookup p.1)=cl.map fun p=>some p.2
 all:((relabel scope X.env).names.all fun p=>!(p.2 == .free||p.2 == .cell)||(p.1==x||(cl.lookup p.1).isSome))=true
 nd:(M++[x]).Nodup
section
variable{X:Cx}{scope:Scope}{cl:List (Str×Addr)}{M:List Str}{ι:List Nat}{x:Str}
theorem jx{x y:Str}{C c:Addr}(h:List.lookup y ((x,C) ::cl)=some c):(y=x /\ c=C) \/ (y≠x /\ cl.lookup y=some c):=by
 rw[List.lookup_cons]at h
 cases e:y==x with
 |true=>rw[e]at h;exact .inl ⟨beq_iff_eq.mp e,(Option.some.inj h).symm⟩
 |false=>rw[e]at h;exact .inr ⟨by simpa using e,h⟩
theorem Ep{pins:List (Addr×Obj)}{s:Shared}{h₁:Heap}(S:we X scope cl M ι x)(I:Inv X pins σ H s)(hex:∀ b∈ex,kM X pins H b /\ b<s.heap.objs.size)(hn:h₁.Ns s.heap.objs.size (fun _=>none))(hcl:h₁.IsCell (s.heap.objs.size+1) none)
  (hk:∀ b o,s.heap.get? b=some o->h₁.get? b=some o):Inv (rL X scope cl (M++[x]) x s.heap.objs.size s H ex) [] (pick ι σ++[none]) H { s with heap:=h₁ }:=by
 have sub:∀ y c,cl.lookup y=some c->X.env.cells.lookup y=some c:=fun y c h=>nG S.sub (PySem.mem_of_lookup h)
 have old:∀ y c,cl.lookup y=some c->c<s.heap.objs.size:=fun y c h=>let ⟨_,q⟩:=I.cell y c (sub y c h);q.lt
 have fsx:∀ b∈ex,b∉frs X.stack:=fun b hb z=>by
  obtain⟨⟨_,f1,f2,_⟩,_⟩:=hex b hb
  rcases List.mem_cons.mp (I.vc b z)with e|e
  . exact f1 e
  . exact f2 e
 have base0:∀ b o,X.base.get? b=some o->b∉ex:=fun b o e z=>by
  obtain⟨⟨_,_,_,f3,_⟩,_⟩:=hex b z
  rcases f3 with f|f
  . exact I.ok.noex b o e f
  . exact absurd (Nat.lt_of_lt_of_le (Heap.lt_size e) (Nat.le_trans I.ok.bsz f)) (Nat.lt_irrefl _)
 have hl:ι.length=M.length:=by simpa using (congrArg List.length S.names).symm
 refine⟨⟨I.ok.mod,S.kind,I.ok.glob,I.ok.blt,Nat.le_refl _,fun y z c h1 h2=>?_,fun y hy=>?_,fun y c z h=>?_,I.ok.hd,I.ok.frames,.inl rfl,
  fun b hb=>⟨Nat.ne_of_lt (hex b hb).2,fun y c h z=>?_⟩,I.bs,Nat.le_trans I.ok.bsz I.sz,base0,fsx,I.stack,I.rR⟩,
  rfl,I.bare,Un.kept hk,⟨_,hn,fun i y v e1 e2 e3=>?_⟩,fun y c h=>?_,I.fresh,fun y c h=>?_,fun p hp=>absurd (show p∈([]:List (Addr×Obj)) from hp) (by simp),I.hok.kept hk,?_⟩
 . rcases jx h1 with⟨a1,a2⟩|⟨a1,a2⟩<;>rcases jx h2 with⟨b1,b2⟩|⟨b1,b2⟩
   . rw[a1,b1]
   . subst a2;exact absurd (old _ _ b2) (Nat.not_lt.mpr (Nat.le_succ _))
   . subst b2;exact absurd (old _ _ a2) (Nat.not_lt.mpr (Nat.le_succ _))
   . exact I.ok.inj y z c (sub _ _ a2) (sub _ _ b2)
 . have hm:∃ k,(relabel scope X.env).names.lookup y = some k /\ (k = .cell \/ k = .free):=by
    rcases hy with h|h
    . exact⟨_,h,.inl rfl⟩
    . exact⟨_,h,.inr rfl⟩
   obtain⟨k,h1,h2⟩:=hm;have q:=List.all_eq_true.mp S.all (y,k) (PySem.mem_of_lookup h1)
   show ∃ c,List.lookup y ((x,s.heap.objs.size+1) ::cl)=some c
   rw[List.lookup_cons]
   cases e:y==x with
   |true=>exact⟨_,rfl⟩
   | false=>
     have q':(cl.lookup y).isSome=true:=by
      dsimp only at q
      rw[e]at q
      rcases h2 with rfl|rfl<;>exact q
     exact Option.isSome_iff_exists.mp q'
 . rcases jx h with⟨a1,a2⟩|⟨a1,a2⟩
   . subst a2;exact Nat.le_succ _
   . exact absurd (beq_iff_eq.mp z) a1
 . rcases jx h with⟨a1,a2⟩|⟨a1,a2⟩
   . subst a2;subst z;exact absurd (hex _ hb).2 (Nat.not_lt.mpr (Nat.le_succ _))
   . exact(hex b hb).1.2.2.2.2.1 y c (sub _ _ a2) z
 . have hiM:i < M.length:=by
    by_cases hlt:i<M.length
    . exact hlt
    . exfalso
      have hl2:(pick ι σ).length=M.length:=by unfold pick;rw[List.length_map,hl]
      rw[List.getElem?_append_right (by omega),hl2]at e2
      have:i - M.length=0 \/ 1<=i - M.length:=by omega
      rcases this with z|z
      . rw[z]at e2;cases e2
      . rw[List.getElem?_eq_none (by simpa using z)]at e2;cases e2
   rw[List.getElem?_append_left hiM]at e1
   have hyM:y∈M:=List.mem_of_getElem? e1
   have e2':((σ[ι[i]]?).join)=some v:=by
    rw[List.getElem?_append_left (by unfold pick;rw[List.length_map];omega)]at e2;unfold pick at e2;rw[List.getElem?_map,List.getElem?_eq_getElem (by omega)]at e2;exact Option.some.inj e2
   have e4:σ[ι[i]]?=some (some v):=by
    cases q:σ[ι[i]]? with
    |none=>rw[q]at e2';cases e2'
    |some w=>rw[q]at e2';exact congrArg some e2'
   have e5:X.N[ι[i]]?=some y:=by
    have q:=congrArg (fun l=>l[i]?) S.names;rw[List.getElem?_map,List.getElem?_map,e1,List.getElem?_eq_getElem (by omega)]at q
    exact(Option.some.inj q).symm
   have kc:X.env.kindOf y=some .cell:=nG S.kinds hyM
   obtain⟨m,hm,hl⟩:=I.loc;obtain⟨u,r,q⟩:=hl _ y v e5 e4 (.inr (.inl kc))
   refine⟨u,r,.inr ⟨pS (nG S.cells hyM),?_⟩⟩
   rcases q with⟨k,_⟩|⟨_,c,e,o,ho,hd⟩
   . rw[kc]at k;cases k
   . refine⟨c,?_,o,hk _ _ ho,hd⟩
     show List.lookup y ((x,s.heap.objs.size+1) ::cl)=some c
     have hne:(y==x)=false:=by
      have:=List.nodup_append.mp S.nd
      simpa using fun e=>this.2.2 y hyM x (by simp) e
     rw[List.lookup_cons,hne]
     exact(nG S.same hyM).trans e
 . rcases jx h with⟨a1,a2⟩|⟨a1,a2⟩
   . subst a2;exact⟨none,hcl⟩
   . obtain⟨v,o,ho,hd⟩:=I.cell y c (sub _ _ a2)
     exact⟨v,o,hk _ _ ho,hd⟩
 . rcases jx h with⟨a1,a2⟩|⟨a1,a2⟩
   . subst a2;exact I.hok.fresh (Nat.le_succ _)
   . exact I.freeC y c (sub _ _ a2)
 . show(pick ι σ++[none]).length=(M++[x]).length
   unfold pick;simp[hl]
theorem CT{pins:List (Addr×Obj)}{s s':Shared}(I:Inv X pins σ H s)(hC:C=s.heap.objs.size)(hex:∀ b∈ex,kM X pins H b)(J:Inv (rL X scope cl N x C s H ex) [] σ' H' s'):Inv X pins σ H' s':=by
 subst hC
 exact I.CF (ch:=ex) J.os J.base J.hok J.bare fun b hb=>by
  obtain⟨_,f1,_,f3,f4,f5⟩:=hex b hb
  exact⟨f3,f1,f4,f5⟩
theorem zg{i:Nat}{y:Str}{py spos:Pos}{elt iter c:Expr}{px pos:Pos}{wi:TI}{tc:TT}{te:TE}(S:we X scope cl M ι x)(hc:X.calm=true)(hi:PI X (.Name x px) iter wi)(hcd:∀ C s₀ H₀ ex,PT (rL X scope cl (M++[x]) x C s₀ H₀ ex) c tc)(he:∀ C s₀ H₀ ex,PE (rL X scope cl (M++[x]) x C s₀ H₀ ex) elt te)
  (hN:X.N.Nodup) (hiy:X.N[i]?=some y) (hy:Loc X.env.scope y) (hsw:swapsWith (.ListComp elt [⟨.Name x px,iter,[c],0⟩] scope pos) (some (.Name y py)) spos.line X.env=pure true) (hf:X.fn y=true \/ X.env.scope.names.lookup y=some .local:=by first|exact .inl rfl|exact .inr rfl|assumption)
  (hs:∀ v,foldedSetIterable iter X.env v=pure v:=by intro _;rfl):PS X (.Assign [.Name y py] (.ListComp elt [⟨.Name x px,iter,[c],0⟩] scope pos) spos) (qK (pL wi ι tc te) (ir i)):=by
 intro pins s σ H D0 I h;rw[exec_Assign_Name_used _ _ _ _ hsw];refine wpAny_bind (wpAny_standAt (wpAny_bind ?_));show wpAny _ _ (do let _ <- comprehension (.ListComp elt [⟨.Name x px,iter,[c],0⟩] scope pos) scope X.env _ (newList []) false (eval iter X.env) (some (assign (.Name y py) X.env))) _ _ s;refine wpAny_bind (wpAny_mono (wpAny_comprehension_free (use:=some (assign (.Name y py) X.env)) (Q:=fun _ s'=>∃ σ' H',Inv X pins σ' H' s' /\ D0.nx σ' H') rfl hs S.clos S.kind (fun y hy hl=>?_) (wpAny_mono (hi pins s σ H _ I h) (fun v s1 h1=>wpAny_mono h1 (fun itv s2 h2=>?_) fun _ _ z=>z) fun _ _ z=>z)) (fun _ s' hq=>wpAny_pure (wpAny_pure hq)) fun _ _ e=>e)
 . have q:=List.all_eq_true.mp S.locs y hy;rw[hl]at q
   simpa using q
 obtain⟨it,fp,tn,J,H2,rfl,I2,T,st2,f2,hW⟩:=h2;have I3:=I2.CD (ys:=[]) (its:=[]) (t':=s2.toks) .nil (Nat.zero_le _);obtain⟨W,⟨m0,w0⟩,turn⟩:=hW s2.heap.objs.size I2.fresh
 have fpo:∀ b∈fp,b<s2.heap.objs.size:=fun b hb=>let ⟨_,e,_⟩:=T.obj _ _ st2 b hb;Heap.lt_size e
 have f3:∀ b∈fp,kM X pins (upd H2 s2.heap.objs.size (.lst [])) b:=fun b hb=>by
  obtain⟨q0,q⟩:=f2 b hb
  exact⟨by rw[bQ (Nat.ne_of_lt (fpo b hb))];exact q0,q⟩
 show wpAny _ _ (newObj (.type "list") _ none) _ _ s2;refine wpAny_newObj_type (Bs S.push S.out fun h₁ hn₁ hc₁ kk₁=>?_)
 have hsz:(s2.heap.push { cls:=.type "list",dict:=none,data:=.seq ([]:List Value).toArray }).objs.size=s2.heap.objs.size+1:=Heap.size_push ..
 have hk₁:∀ b o,(s2.heap.push { cls:=.type "list",dict:=none,data:=.seq ([]:List Value).toArray }).get? b=some o->h₁.get? b=some o:=kk₁
 have J0:=Ep S I3 (ex:=fp) (fun b hb=>⟨f3 b hb,Nat.lt_of_lt_of_le (fpo b hb) (by rw[hsz];exact Nat.le_succ _)⟩) hn₁ hc₁ hk₁
 have old:∀ b∈fp,∀ o,s2.heap.get? b=some o->h₁.get? b=some o:=fun b _ o e=>hk₁ b o (Heap.get?_push_of_some _ e)
 have st₁:tn 0 h₁:=T.keep _ _ _ st2 old
 have loop:codeAny (model X.prog X.w) X.A (.compLoop (.ListComp elt [⟨.Name x px,iter,[c],0⟩] scope pos) 0 (.ref it) (.ref s2.heap.objs.size) (compEnvC scope ((x,s2.heap.objs.size+1+1) ::cl) (s2.heap.objs.size+1) X.env))
   (compPost (model X.prog X.w) X.A X.xe (some (assign (.Name y py) X.env)) (fun _ s'=>∃ σ' H',Inv X pins σ' H' s' /\ D0.nx σ' H') (.ref s2.heap.objs.size) (s2.heap.objs.size+1)) { s2 with heap:=h₁ }:=by
  rw[hsz]at J0
  refine codeAny_loop rfl (fun n s'=>∃ i H' ys v,Inv (rL X scope cl (M++[x]) x (s2.heap.objs.size+1) { s2 with heap:=s2.heap.push { cls:=.type "list",data:=.seq ([]:List Value).toArray },toks:=s2.toks } (upd H2 s2.heap.objs.size (.lst [])) fp) [] (pick ι σ++[v]) H' s' /\ tn i s'.heap /\ (∀ b∈fp,H' b=none) /\ W i n ys H')
   (fun n s' hI=>?_) m0 ⟨0,_,[],none,J0,st₁,fun b hb=>(f3 b hb).1,w0⟩
  obtain⟨i,H',ys,v,J',st',fr',w'⟩:=hI;obtain⟨hD,alt⟩:=turn i n ys H' w'
  have fpY:∀{G:Hp},(∀ b∈fp,G b=none)->∀ b∈fp,kM (rL X scope cl (M++[x]) x (s2.heap.objs.size+1) { s2 with heap:=s2.heap.push { cls:=.type "list",data:=.seq ([]:List Value).toArray },toks:=s2.toks } (upd H2 s2.heap.objs.size (.lst [])) fp) [] G b:=fun hG b hb=>
   ⟨hG b hb,(J'.ok.exf b hb).1,J'.ok.exfs b hb,.inl hb,(J'.ok.exf b hb).2,fun p hp=>absurd (show p∈([]:List (Addr×Obj)) from hp) (by simp)⟩
  show wpAny _ _ ((compTurn _ 0 (.ref it) (.ref s2.heap.objs.size) (compEnvC scope ((x,s2.heap.objs.size+1+1) ::cl) (s2.heap.objs.size+1) X.env)).onRaise _) _ _ s';refine wpAny_noted (wpAny_noRaise ?_);rw[compTurn_list];refine wpAny_bind (wpAny_standAt (wpAny_bind ?_))
  rcases alt with⟨stop,qn⟩|⟨go,step⟩
  . refine thn (T.done (rL X scope cl (M++[x]) x (s2.heap.objs.size+1) _ _ fp) rfl rfl rfl hc i [] s' _ H' _ J' (fpY fr') st' stop) fun r s4 ⟨hr,J4⟩=>?_
    subst hr;refine wpAny_pure ?_;obtain⟨m,hm,_⟩:=id J4.loc
    have I4:Inv X pins σ H' s4:=CT I3 hsz.symm f3 J4
    obtain⟨oC,es,ep,hoC,rC⟩:=id hm
    have fC:kM X pins H' (s2.heap.objs.size+1):=I3.Bl (by rw[hsz];exact Nat.le_refl _) J4.free
    obtain⟨_,c1,c2,c3,c4,c5⟩:=id fC
    have I5:=I4.pinned (fp:=[s2.heap.objs.size+1]) (fun b hb=>by
     have z:b=s2.heap.objs.size+1:=by simpa using hb
     subst z;exact fC) fun b hb=>by
     have z:b=s2.heap.objs.size+1:=by simpa using hb
     subst z
     exact⟨oC,hoC,fun v z=>by rw[rC.1]at z;cases z⟩
    show wpAny _ _ (assign (.Name y py) X.env (.ref s2.heap.objs.size)) _ _ s4;refine wpAny_assign_Name (gg I5 hN hiy hy (v:=.ref s2.heap.objs.size) rfl (fun s5 I6=>?_) hf)
    have hC5:s5.heap.get? (s2.heap.objs.size+1)=some oC:=(I6.pin (_,oC) (List.mem_append_right _ (List.mem_append_right _ (cf (List.mem_singleton.mpr rfl) hoC)))).1
    refine⟨m,⟨oC,es,ep,hC5,rC⟩,fun h' sb=>⟨_,H',(I6.fK).turned (t':=s5.toks) (it:=s2.heap.objs.size+1) (fun b o hb e=>(sb.2 b hb).trans e) J4.free c1 c3 c4 c5,qn⟩⟩
  . refine thn (T.item (rL X scope cl (M++[x]) x (s2.heap.objs.size+1) _ _ fp) rfl rfl rfl hc i [] s' _ H' _ J' (fpY fr') st' go) fun r s4 ⟨u,hr,h4⟩=>?_
    subst hr;refine wpAny_bind (thn h4 fun _ s5 ⟨z,H5,J5,r5,y5,st5,fr5⟩=>?_)
    have J5':=J5.pinned (fpY fr5) (T.obj _ _ st5)
    have hxN:(M++[x])[M.length]?=some x:=by simp
    refine wpAny_bind ?_;refine wpAny_assign_Name ?_;refine gg (X:=rL X scope cl (M++[x]) x (s2.heap.objs.size+1) _ _ fp) (i:=M.length) (v:=z) J5' S.nd hxN (.inr S.var) r5 (fun s6 J6=>?_) (.inl (beq_self_eq_true x))
    have hlp:(pick ι σ).length=M.length:=by
     have q:=congrArg List.length S.names;rw[List.length_map,List.length_map]at q;unfold pick;rw[List.length_map,q]
    have hset:(pick ι σ++[v]).set M.length (some z)=pick ι σ++[some z]:=by
     rw[<- hlp,List.set_append_right _ _ (Nat.le_refl _),Nat.sub_self];rfl
    rw[hset]at J6;refine wpAny_bind (wpAny_tests_one (thn (hcd _ _ _ _ _ s6 _ H5 _ J6 (step z H5 y5)) fun b s7 ⟨H7,J7,hD7,q7⟩=>?_))
    cases b with
    | true=>
      rw[if_pos rfl]at q7;refine wpAny_bind (wpAny_bind (thn (he _ _ _ _ _ s7 _ H7 _ J7 q7) fun yv s8 ⟨y,H8,J8,r8,hD8,hz8,m',hm',w8⟩=>?_));refine wpAny_bind (thn (bx (X:=rL X scope cl (M++[x]) x (s2.heap.objs.size+1) _ _ fp) _ s8 _ H8 (.ref s2.heap.objs.size) [y] (.ref s2.heap.objs.size) [yv] (fun _ G=>G=upd H8 s2.heap.objs.size (.lst (ys++[y]))) J8 rfl (.cons r8 .nil) ⟨_,_,y,rfl,rfl,hD8,hz8,rfl⟩) fun _ s9 ⟨_,H9,J9,_,e9⟩=>?_);subst e9;refine wpAny_pure (wpAny_pure ⟨rfl,m',hm',i+1,_,_,some z,J9.fK,?_,fun b hb=>?_,w8⟩)
      . exact T.keep _ _ _ st5 fun b hb o e=>(J9.pin (b,o) (List.mem_append_right _ (List.mem_append_right _ (cf hb e)))).1
      . obtain⟨o,e,d⟩:=T.obj _ _ st5 b hb
        exact(J9.pin (b,o) (List.mem_append_right _ (List.mem_append_right _ (cf hb e)))).2.1
    | false=>
      rw[if_neg (by decide)]at q7;obtain⟨m',hm',w8⟩:=q7;refine wpAny_pure ⟨rfl,m',hm',i+1,_,_,some z,J7.fK,?_,fun b hb=>?_,w8⟩
      . exact T.keep _ _ _ st5 fun b hb o e=>(J7.pin (b,o) (List.mem_append_right _ (List.mem_append_right _ (cf hb e)))).1
      . obtain⟨o,e,d⟩:=T.obj _ _ st5 b hb
        exact(J7.pin (b,o) (List.mem_append_right _ (List.mem_append_right _ (cf hb e)))).2.1
 rw[hsz]at *;exact codeAny_compStart_list loop (T.self X.A 0 _ _ _ st₁ loop)
theorem zb{i:Nat}{y:Str}{px pos:Pos}{elt iter c:Expr}{wi:TI}{tc:TT}{te:TE}{py spos:Pos}(hN:X.N.Nodup)(hiy:X.N[i]?=some y)(hy:Loc X.env.scope y)(S:we X scope cl M ι x)(hc:X.calm=true)(hi:QI X (.Name x px) iter wi)(hcd:∀ C s₀ H₀ ex,QT (rL X scope cl (M++[x]) x C s₀ H₀ ex) c tc)(he:∀ C s₀ H₀ ex,QE (rL X scope cl (M++[x]) x C s₀ H₀ ex) elt te)
  (hsw:swapsWith (.ListComp elt [⟨.Name x px,iter,[c],0⟩] scope pos) (some (.Name y py)) spos.line X.env=pure true:=by rfl) (hf:X.fn y=true \/ X.env.scope.names.lookup y=some .local:=by first|exact .inl rfl|exact .inr rfl|assumption)
  (hs:∀ v,foldedSetIterable iter X.env v=pure v:=by intro _;rfl):QS X (.Assign [.Name y py] (.ListComp elt [⟨.Name x px,iter,[c],0⟩] scope pos) spos) (qK (pL wi ι tc te) (ir i)):=⟨zg S hc hi.out (fun a b c d=>(hcd a b c d).out) (fun a b c d=>(he a b c d).out) hN hiy hy hsw hf hs⟩
end
end L2.E
namespace PG
noncomputable def eB(n:Int):Bool:=(decide (0<=n)&&decide (n<55296))||(decide (57343<n)&&decide (n<=1114111))
noncomputable def aZ(n:Int):List Int:=if n<128 then[n]else if n<2048 then[192+n/64,128+n%64]else if n<65536 then[224+n/4096,128+n/64%64,128+n%64]else[240+n/262144,128+n/4096%64,128+n/64%64,128+n%64]
noncomputable def cell(ns:List Int)(k:Int):Int:=if ns=[]then 0 else ns.getD (k%(ns.length:Int)).toNat 0
noncomputable def mix(ns:List Int)(k:Int):Int:=
 let a:=(cell ns k+104729*(k+1))%4294967291
 let b:=a*48271%4294967279
 (b/64*69621+b)%4294967231
noncomputable def menu:List Int:=[34,92,47,8,12,10,13,9,0,31,127]
noncomputable def point(n:Int):Int:=
 if n%8<2 then 32+n/8%95 else if n%8<4 then menu.getD (n/8%11).toNat 0 else if n%8=4 then 128+n/8%1920
 else if n%8=5 then 2048+n/8%53248 else if n%8=6 then 57344+n/8%8192 else 65536+n/8%1048576
noncomputable def sF(ns:List Int)(k:Int):Int:=if mix ns k/5%8=3 then mix ns k/40%14 else mix ns k%5
noncomputable def points(ns:List Int)(k:Int):List Int:=(List.range (sF ns k).toNat).map fun j:Nat=>point (mix ns (k+1+(j:Int)))
theorem yJ(ns:List Int)(k:Int):0<=mix ns k /\ mix ns k<4294967231:=by unfold mix;dsimp only;omega
theorem xF(ns:List Int)(k:Int):0<=sF ns k /\ sF ns k<14:=by
 have:=yJ ns k
 unfold sF;split<;>omega
theorem Em(i:Nat)(h:i<11):0<=menu.getD i 0 /\ menu.getD i 0<128:=by
 revert h;revert i;decide
theorem BQ(n:Int):eB (point n)=true:=by
 unfold point eB;have h11:=Em (n/8%11).toNat (by omega);simp only[Bool.or_eq_true,Bool.and_eq_true,decide_eq_true_eq];split
 . omega
 . split
   . omega
   . split
     . omega
     . split
       . omega
       . split<;>omega
theorem n6(ns:List Int)(k:Int):(points ns k).all eB=true:=by
 rw[List.all_eq_true];intro x hx;unfold points at hx;obtain⟨j,_,rfl⟩:=List.mem_map.mp hx;exact BQ _
theorem pA(ns:List Int)(k:Int):(points ns k).length<14:=by
 have:=xF ns k;unfold points;rw[List.length_map,List.length_range];omega
end PG
namespace PG
noncomputable def pN(b:Int):Int×Int:=if b=224 then(160,191)else if b=237 then(128,159)else(128,191)
noncomputable def oh(b:Int):Int×Int:=if b=240 then(144,191)else if b=244 then(128,143)else(128,191)
noncomputable def spans(b:Int):Option (List (Int×Int)):=if 0<=b /\ b<128 then some []else if 194<=b /\ b<224 then some [(128,191)]else if 224<=b /\ b<240 then some [pN b,(128,191)]else if 240<=b /\ b<245 then some [oh b,(128,191),(128,191)]else none
noncomputable def eat:List (Int×Int)->List Int->Option Nat
 |[],_=>none
 |_ ::_,[]=>some 0
 |s ::ss,c ::cs=>if s.1<=c /\ c<=s.2 then(eat ss cs).map (·+1)else some 0
noncomputable def fh:List (Int×Int)->Int->List Int->Int
 |[],_,[]=>-1
 |_ ::_,k,[]=>k
 |s ::ws,k,b ::r=>if s.1<=b /\ b<=s.2 then fh ws (k+1) r else k
 | [],k,b ::r=>match spans b with
   |some ws=>fh ws (k+1) r
   |none=>k
theorem tF:∀(ss:List (Int×Int)) (k:Int) (cs:List Int),fh ss k cs=match eat ss cs with
  |some j=>k+j
  |none=>fh [] (k+ss.length) (cs.drop ss.length)
 |[],k,cs=>by simp[eat]
 |s ::ss,k,[]=>by simp[fh,eat]
 | s ::ss,k,c ::cs=>by
   have ih:=tF ss (k+1) cs
   by_cases h:s.1<=c /\ c<=s.2
   . simp only[fh,eat,h,and_self,if_true];rw[ih]
     cases e:eat ss cs with
     |none=>simp;congr 1;omega
     |some j=>show k+1+(j:Int)=k+((j+1:Nat):Int);omega
   . simp[fh,eat,h]
noncomputable def mark(k:Nat):Int:=[0,192,224,240].getD k 0
noncomputable def val(b:Int)(cs:List Int):Int:=cs.foldl (fun n c=>n*64+c - 128) (b - mark cs.length)
theorem zu:∀(ss:List (Int×Int)) (cs:List Int),eat ss cs=none->ss.length<=cs.length
 |[],cs,_=>by simp
 |s ::ss,[],h=>by simp[eat]at h
 | s ::ss,c ::cs,h=>by
   by_cases hc:s.1<=c /\ c<=s.2
   . simp only[eat,hc,and_self,if_true,Option.map_eq_none_iff]at h;have:=zu ss cs h
     simp;omega
   . simp[eat,hc]at h
theorem CY{b:Int}{ss:List (Int×Int)}{cs:List Int}(hs:spans b=some ss)(he:eat ss cs=none):eB (val b (cs.take ss.length))=true /\ aZ (val b (cs.take ss.length))=b ::cs.take ss.length /\ ss.length<=3:=by
 unfold spans at hs;split at hs
 . cases hs;rename_i h
   refine⟨?_,?_,by simp⟩
   . simp[val,mark,eB];omega
   . simp[val,mark,aZ];omega
 split at hs
 . cases hs;rename_i h1 h
   match cs,he with
   |[],he=>simp[eat]at he
   | c ::cs,he=>
     have hc:128<=c /\ c<=191:=by
      by_cases hc:128<=c /\ c<=191
      . exact hc
      . simp[eat,hc]at he
     refine⟨?_,?_,by simp⟩
     . simp[val,mark,eB];omega
     . have e1:¬ (b - 192)*64+c - 128<128:=by omega
       have e2:(b - 192)*64+c - 128<2048:=by omega
       simp[val,mark,aZ,e1,e2];omega
 split at hs
 . cases hs;rename_i h1 h2 h
   match cs,he with
   |[],he=>simp[eat]at he
   | [c],he=>
     exfalso
     by_cases hc:(pN b).1<=c /\ c<=(pN b).2<;>simp[eat,hc]at he
   | c ::d ::cs,he=>
     have hc:(pN b).1<=c /\ c<=(pN b).2:=by
      by_cases hc:(pN b).1<=c /\ c<=(pN b).2
      . exact hc
      . simp[eat,hc]at he
     have hd:128<=d /\ d<=191:=by
      by_cases hd:128<=d /\ d<=191
      . exact hd
      . simp[eat,hc,hd]at he
     have hb:128<=c /\ c<=191 /\ (b=224->160<=c) /\ (b=237->c<=159):=by
      unfold pN at hc;split at hc
      . simp at hc;omega
      . split at hc
        . simp at hc;omega
        . simp at hc;omega
     refine⟨?_,?_,by simp⟩
     . simp[val,mark,eB];omega
     . have e1:¬ ((b - 224)*64+c - 128)*64+d - 128<128:=by omega
       have e2:¬ ((b - 224)*64+c - 128)*64+d - 128<2048:=by omega
       have e3:((b - 224)*64+c - 128)*64+d - 128<65536:=by omega
       simp[val,mark,aZ,e1,e2,e3];omega
 split at hs
 . cases hs;rename_i h1 h2 h3 h
   match cs,he with
   |[],he=>simp[eat]at he
   | [c],he=>
     exfalso
     by_cases hc:(oh b).1<=c /\ c<=(oh b).2<;>simp[eat,hc]at he
   | [c,d],he=>
     exfalso
     by_cases hc:(oh b).1<=c /\ c<=(oh b).2<;>by_cases hd:128<=d /\ d<=191<;>simp[eat,hc,hd]at he
   | c ::d ::e ::cs,he=>
     have hc:(oh b).1<=c /\ c<=(oh b).2:=by
      by_cases hc:(oh b).1<=c /\ c<=(oh b).2
      . exact hc
      . simp[eat,hc]at he
     have hd:128<=d /\ d<=191:=by
      by_cases hd:128<=d /\ d<=191
      . exact hd
      . simp[eat,hc,hd]at he
     have hE:128<=e /\ e<=191:=by
      by_cases hE:128<=e /\ e<=191
      . exact hE
      . simp[eat,hc,hd,hE]at he
     have hb:128<=c /\ c<=191 /\ (b=240->144<=c) /\ (b=244->c<=143):=by
      unfold oh at hc;split at hc
      . simp at hc;omega
      . split at hc
        . simp at hc;omega
        . simp at hc;omega
     refine⟨?_,?_,by simp⟩
     . simp[val,mark,eB];omega
     . have e1:¬ (((b - 240)*64+c - 128)*64+d - 128)*64+e - 128<128:=by omega
       have e2:¬ (((b - 240)*64+c - 128)*64+d - 128)*64+e - 128<2048:=by omega
       have e3:¬ (((b - 240)*64+c - 128)*64+d - 128)*64+e - 128<65536:=by omega
       simp[val,mark,aZ,e1,e2,e3];omega
 cases hs
theorem jT{n:Int}(h:eB n=true):0<=n /\ n<=1114111:=by
 unfold eB at h;simp only[Bool.or_eq_true,Bool.and_eq_true,decide_eq_true_eq]at h;omega
theorem Ay{n m:Int}{r q:List Int}(hn:eB n=true)(hm:eB m=true)(h:aZ n++r=aZ m++q):n=m /\ r=q:=by
 have rn:=jT hn;have rm:=jT hm;unfold aZ at h
 by_cases a1:n<128<;>by_cases b1:m<128<;>by_cases a2:n<2048<;>by_cases b2:m<2048<;>by_cases a3:n<65536<;>by_cases b3:m<65536 <;>
  simp only[a1,a2,a3,b1,b2,b3,if_true,if_false,List.cons_append,List.nil_append,List.cons.injEq]at h <;>
  first
   |(exfalso;omega)
   |exact⟨by omega,by first|exact h.2|exact h.2.2|exact h.2.2.2|exact h.2.2.2.2⟩
theorem ym:∀{l m:List Int},l.all eB=true->m.all eB=true->l.flatMap aZ=m.flatMap aZ->l=m
 |[],[],_,_,_=>rfl
 | [],b ::m,_,_,h=>by
   exfalso;rw[List.flatMap_nil,List.flatMap_cons]at h
   have:aZ b=[]:=(List.append_eq_nil_iff.mp h.symm).1
   unfold aZ at this
   repeat' split at this
   all_goals simp at this
 | a ::l,[],_,_,h=>by
   exfalso;rw[List.flatMap_nil,List.flatMap_cons]at h
   have:aZ a=[]:=(List.append_eq_nil_iff.mp h).1
   unfold aZ at this
   repeat' split at this
   all_goals simp at this
 | a ::l,b ::m,h1,h2,h=>by
   rw[List.all_cons,Bool.and_eq_true]at h1 h2;rw[List.flatMap_cons,List.flatMap_cons]at h;obtain⟨e1,e2⟩:=Ay h1.1 h2.1 h;rw[e1,ym h1.2 h2.2 e2]
end PG
namespace L2.P
open PySem
@[simp] theorem get_nil(t:OV):t.get []=some t:=by cases t<;>rfl
@[simp] theorem j6(t u:OV):t.put [] u=u:=by cases t<;>rfl
@[simp] theorem FG(s:String):(Str.ofString s).cps.all (·<0x110000)=true:=by
  rw[Str.ofString_eq_toList,List.all_toArray,List.all_map];rw[List.all_eq_true];intro c _;have:=c.valid;simp only[Function.comp,decide_eq_true_eq]
  rcases this with h|⟨_,h⟩
  . exact Nat.lt_of_lt_of_le h (by decide)
  . exact h
theorem toNat_inj:∀(xs ys:List Char),xs.map Char.toNat=ys.map Char.toNat->xs=ys
 |[],[],_=>rfl
 |[],_ ::_,h=>by cases h
 |_ ::_,[],h=>by cases h
 | x ::xs,y ::ys,h=>by
   rw[List.map_cons,List.map_cons]at h
   injection h with h1 h2
   have:x=y:=Char.ext (UInt32.toNat_inj.mp h1)
   rw[this,toNat_inj xs ys h2]
theorem bO(a b:String):Str.ofString a=Str.ofString b↔a=b:=by
 constructor
 . intro h;rw[Str.ofString_eq_toList,Str.ofString_eq_toList]at h
   injection h with h
   have h2:a.toList.map Char.toNat=b.toList.map Char.toNat:=by
    have:=congrArg Array.toList h
    simpa using this
   exact String.toList_inj.mp (toNat_inj _ _ h2)
 . intro h;rw[h]
@[simp] theorem Eo(a b:String):(Str.ofString a==Str.ofString b)=decide (a=b):=by
  by_cases h:a=b
  . subst h;simp
  . have:Str.ofString a≠Str.ofString b:=fun z=>h ((bO a b).mp z)
    simp[h,this]
@[simp] theorem JY(a b:String):gk (.str (Str.ofString a)) (.str (Str.ofString b))=decide (a=b):=by simp[gk]
@[simp] theorem KU(a:String)(n:Nat):jV (.str (Str.ofString a)) n=true:=by simp[jV]
end L2.P
namespace PJ
open PySem L2.P
inductive JV where
 |lf (x:PV)|row (vs:List JV)|fld (ns:List (List Int)) (vs:List JV)
noncomputable def mem(n:List Int)(x:PV):PV:=.tup [.tup (n.map .int),x]
mutual
noncomputable def enc:JV->PV
 |.lf x=>x
 |.row vs=>.tup [.str "row",.tup (Ct vs)]
 |.fld ns vs=>.tup [.str "fields",.tup (List.zipWith mem ns (Ct vs))]
noncomputable def Ct:List JV->List PV
 |[]=>[]
 |v ::vs=>enc v ::Ct vs
end
noncomputable def named(n:Int):List Int:=if n<6 then([[],[97],[97,98],[126,47],[48],[233]]:List (List Int)).getD n.toNat []else[98+n]
noncomputable def small(n:Int):PV:=
 if n%6<3 then([.non,.bl true,.bl false]:List PV).getD (n%6).toNat .non
 else if n%6=3 then .tup [.str "text",.tup ((([[97],[34,10],[],[233,128512]]:List (List Int)).getD (n/6%4).toNat []).map .int)]
 else if n%6=4 then .tup [.str "number",.int (1+n/6%9),.int (n/6/9%5 - 2)]
 else if n/6%2=0 then .tup [.str "number",.int 0,.int 0]else .tup [.str "number",.int (-10*(n/6) - 3),.int 0]
abbrev Fr:=Bool×List JV
noncomputable def names(k:Nat):List (List Int):=(List.range k).map fun j:Nat=>named (j:Int)
noncomputable def items(f:Fr):List PV:=if f.1 then List.zipWith mem (names f.2.length) (Ct f.2)else Ct f.2
end PJ
namespace PG
open L2.P PySem
inductive It where
 |sp (lo hi:Int)|white|value|lead|figures|fraction|exponent|sign|text|escape|code|coded|hex|hexd|hexcf|row|mrow|fields|mfields|name
 deriving DecidableEq
noncomputable def LA:It->PV
 |.sp lo hi=>.tup [.int lo,.int hi]
 |.white=>.str "white" | .value=>.str "value" | .lead=>.str "lead" | .figures=>.str "figures" | .fraction=>.str "fraction" | .exponent=>.str "exponent" | .sign=>.str "sign"
 |.text=>.str "text" | .escape=>.str "escape" | .code=>.str "code" | .coded=>.str "code d" | .hex=>.str "hex" | .hexd=>.str "hex d" | .hexcf=>.str "hex c to f"
 |.row=>.str "row" | .mrow=>.str "more row" | .fields=>.str "fields" | .mfields=>.str "more fields" | .name=>.str "name"
noncomputable def loose:It->Bool
 |.white=>true|.figures=>true|.fraction=>true|.exponent=>true|.sign=>true
 |_=>false
noncomputable def opn:It->Bool
 |.row=>true|.mrow=>true|.fields=>true|.mfields=>true
 |_=>false
noncomputable def wht(b:Int):Bool:=decide (9=b)||(decide (10=b)||(decide (13=b)||decide (32=b)))
noncomputable def fig(b:Int):Bool:=decide (48<=b)&&decide (b<=57)
noncomputable def dr(b:Int):Option Int:=if 48<=b /\ b<=57 then some (b - 48)else if 65<=b /\ b<=70 then some (b - 55)else if 97<=b /\ b<=102 then some (b - 87)else none
noncomputable def C7(b:Int):Option (List It):=if b=48 then some [.fraction,.exponent]else if 48<=b /\ b<=57 then some [.figures,.fraction,.exponent]else none
noncomputable def FW(b:Int):Option (List It):=
 if b=91 then some [.white,.row]else if b=123 then some [.white,.fields]else if b=34 then some [.text]else if b=45 then some [.lead]
 else if b=110 then some [.sp 117 117,.sp 108 108,.sp 108 108]else if b=116 then some [.sp 114 114,.sp 117 117,.sp 101 101]else if b=102 then some [.sp 97 97,.sp 108 108,.sp 115 115,.sp 101 101]
 else C7 b
noncomputable def Fo:List It:=[.white,.sp 58 58,.white,.value,.white,.mfields]
noncomputable def tls(b:Int):Option (List It):=
 if 0<=b /\ b<128 then some []else if 194<=b /\ b<224 then some [.sp 128 191]
 else if 224<=b /\ b<240 then some [if b=224 then .sp 160 191 else if b=237 then .sp 128 159 else .sp 128 191,.sp 128 191]
 else if 240<=b /\ b<245 then some [if b=240 then .sp 144 191 else if b=244 then .sp 128 143 else .sp 128 191,.sp 128 191,.sp 128 191]
 else none
noncomputable def Gp(b:Int):Option (List It):=if b=34 then some []else if b=92 then some [.escape,.text]else if b<32 then none else(tls b).map (·++[.text])
noncomputable def HZ(b:Int):Bool:=b=34||b=92||b=47||b=98||b=102||b=110||b=114||b=116
noncomputable def Lj(b:Int):Option (List It):=if b=117 then some [.code]else if HZ b then some []else none
noncomputable def K7(w:Int):Option (List It):=if w<8 then some [.hex,.hex]else if w<12 then some [.hex,.hex,.sp 92 92,.sp 117 117,.hexd,.hexcf,.hex,.hex]else none
noncomputable def bh:It->Int->Option (List It)
 |.sp lo hi,b=>if lo<=b /\ b<=hi then some []else none
 |.white,b=>if wht b then some [.white]else none
 |.value,b=>FW b
 |.lead,b=>C7 b
 |.figures,b=>if 48<=b /\ b<=57 then some [.figures]else none
 |.fraction,b=>if b=46 then some [.sp 48 57,.figures]else none
 |.exponent,b=>if b=101 \/ b=69 then some [.sign,.sp 48 57,.figures]else none
 |.sign,b=>if b=43 \/ b=45 then some []else none
 |.text,b=>Gp b
 |.escape,b=>Lj b
 |.code,b=>(dr b).bind fun w=>if w=13 then some [.coded]else some [.hex,.hex,.hex]
 |.coded,b=>(dr b).bind K7
 |.hex,b=>(dr b).map fun _=>[]
 |.hexd,b=>(dr b).bind fun w=>if w=13 then some []else none
 |.hexcf,b=>(dr b).bind fun w=>if 12<=w then some []else none
 |.row,b=>if b=93 then some []else(FW b).map (·++[.white,.mrow])
 |.mrow,b=>if b=44 then some [.white,.value,.white,.mrow]else if b=93 then some []else none
 |.fields,b=>if b=125 then some []else if b=34 then some (.text ::Fo)else none
 |.mfields,b=>if b=44 then some (.white ::.name ::Fo)else if b=125 then some []else none
 |.name,b=>if b=34 then some [.text]else none
noncomputable def cnt(st:List It):Nat:=(st.filter opn).length
noncomputable def gon:List It->Int->List It×Bool
 |[],_=>([],false)
 | it ::st,b=>match bh it b with
   |some l=>(l++st,decide (cnt (l++st)<=64))
   |none=>if loose it then gon st b else(st,false)
noncomputable def tk:List It->List Int->List It×Nat
 |st,[]=>(st,0)
 |st,b ::r=>if(gon st b).2 then((tk (gon st b).1 r).1,(tk (gon st b).1 r).2+1)else((gon st b).1,0)
noncomputable def st0:List It:=[.white,.value,.white]
noncomputable def flt(row:List Int):Option Nat:=if(tk st0 row).2=row.length /\ (tk st0 row).1.all loose=true then none else some (tk st0 row).2
noncomputable def wk(st:List It):OV:=.ob "Walk" ["coming"] [.ol ((st.reverse.map LA).map .sh)]
end PG
namespace PG
inductive Sg where
 |pl (p:Int)|sh (c p:Int)|hx (a b c d:Int)|pr (a b c d e f g h:Int)
noncomputable def pts:Sg->List Int
 |.pl p=>[p]
 |.sh c _=>[92,c]
 |.hx a b c d=>[92,117,a,b,c,d]
 |.pr a b c d e f g h=>[92,117,a,b,c,d,92,117,e,f,g,h]
noncomputable def hv(b:Int):Int:=(dr b).getD 0
noncomputable def cod(a b c d:Int):Int:=16*(16*(16*hv a+hv b)+hv c)+hv d
noncomputable def qN:Sg->Int
 |.pl p=>p
 |.sh _ p=>p
 |.hx a b c d=>cod a b c d
 |.pr a b c d e f g h=>65536+1024*(cod a b c d - 55296)+cod e f g h - 56320
noncomputable def shP:List (Int×Int):=[(34,34),(92,92),(47,47),(98,8),(102,12),(110,10),(114,13),(116,9)]
noncomputable def Sok:Sg->Prop
 |.pl p=>eB p=true /\ 32<=p /\ p≠34 /\ p≠92
 |.sh c p=>(c,p)∈shP
 |.hx a b c d=>(dr a).isSome=true /\ (dr b).isSome=true /\ (dr c).isSome=true /\ (dr d).isSome=true /\ ¬ (55296<=cod a b c d /\ cod a b c d<=57343)
 |.pr a b c d e f g h=>(dr a=some 13 /\ 8<=hv b /\ hv b<12 /\ (dr b).isSome=true /\ (dr c).isSome=true /\ (dr d).isSome=true) /\ dr e=some 13 /\ 12<=hv f /\ (dr f).isSome=true /\ (dr g).isSome=true /\ (dr h).isSome=true
noncomputable def nh(s:Sg):List Int:=(pts s).flatMap aZ
theorem eT{b w:Int}(h:dr b=some w):0<=w /\ w<16 /\ 48<=b /\ b<=102 /\ b≠92 /\ b≠117:=by
 unfold dr at h;split at h
 . injection h with h;omega
 . split at h
   . injection h with h;omega
   . split at h
     . injection h with h;omega
     . cases h
theorem gU{b w:Int}(h:dr b=some w):hv b=w:=by unfold hv;rw[h];rfl
theorem j5{n:Int}(h:n<128):aZ n=[n]:=by unfold aZ;rw[if_pos h]
theorem EE{it:It}{st:List It}{b:Int}{r:List Int}(h:bh it b=none)(hl:loose it=true):tk (it ::st) (b ::r)=tk st (b ::r):=by
 simp[tk,gon,h,hl]
noncomputable def Goes(st:List It)(bs:List Int)(st':List It):Prop:=∀ r,tk st (bs++r)=((tk st' r).1,(tk st' r).2+bs.length)
theorem some_of{b:Int}(h:(dr b).isSome=true):∃ w,dr b=some w:=Option.isSome_iff_exists.mp h
theorem si{a b c d:Int}(ha:(dr a).isSome=true)(hb:(dr b).isSome=true)(hc:(dr c).isSome=true)(hd:(dr d).isSome=true):aZ a=[a] /\ aZ b=[b] /\ aZ c=[c] /\ aZ d=[d]:=by
 obtain⟨w1,e1⟩:=some_of ha;obtain⟨w2,e2⟩:=some_of hb;obtain⟨w3,e3⟩:=some_of hc;obtain⟨w4,e4⟩:=some_of hd;have:=eT e1;have:=eT e2;have:=eT e3;have:=eT e4
 exact⟨j5 (by omega),j5 (by omega),j5 (by omega),j5 (by omega)⟩
noncomputable def inner(ss:List Sg):List Int:=ss.flatMap nh
theorem xy{p:Int}(h:eB p=true)(k:Int)(r:List Int):fh [] k (aZ p++r)=fh [] (k+(aZ p).length) r:=by
 have hr:=jT h
 have hs:p<55296 \/ 57343<p:=by
  unfold eB at h;simp only[Bool.or_eq_true,Bool.and_eq_true,decide_eq_true_eq]at h;omega
 unfold aZ
 by_cases c1:p<128
 . rw[if_pos c1]
   have e:spans p=some []:=by unfold spans;rw[if_pos (by omega)]
   simp[fh,e]
 . rw[if_neg c1]
   by_cases c2:p<2048
   . rw[if_pos c2]
     have e:spans (192+p/64)=some [(128,191)]:=by unfold spans;rw[if_neg (by omega),if_pos (by omega)]
     have i1:(128:Int)<=128+p%64 /\ 128+p%64<=191:=by omega
     simp[fh,e,i1]
     congr 1
     omega
   . rw[if_neg c2]
     by_cases c3:p<65536
     . rw[if_pos c3]
       have e:spans (224+p/4096)=some [pN (224+p/4096),(128,191)]:=by unfold spans;rw[if_neg (by omega),if_neg (by omega),if_pos (by omega)]
       have i1:(pN (224+p/4096)).1<=128+p/64%64 /\ 128+p/64%64<=(pN (224+p/4096)).2:=by
        unfold pN;split
        . dsimp only;omega
        . split<;>(dsimp only;omega)
       have i2:(128:Int)<=128+p%64 /\ 128+p%64<=191:=by omega
       simp[fh,e,i1,i2]
       congr 1
       omega
     . rw[if_neg c3]
       have e:spans (240+p/262144)=some [oh (240+p/262144),(128,191),(128,191)]:=by unfold spans;rw[if_neg (by omega),if_neg (by omega),if_neg (by omega),if_pos (by omega)]
       have i1:(oh (240+p/262144)).1<=128+p/4096%64 /\ 128+p/4096%64<=(oh (240+p/262144)).2:=by
        unfold oh;split
        . dsimp only;omega
        . split<;>(dsimp only;omega)
       have i2:(128:Int)<=128+p/64%64 /\ 128+p/64%64<=191:=by omega
       have i3:(128:Int)<=128+p%64 /\ 128+p%64<=191:=by omega
       simp[fh,e,i1,i2,i3]
       congr 1
       omega
theorem yF(l:List Int)(h:l.all eB=true):∀ k,fh [] k (l.flatMap aZ)=-1:=by
 induction l with
 |nil=>intro k;rfl
 | cons p l ih=>
   intro k;simp only[List.all_cons,Bool.and_eq_true]at h;rw[List.flatMap_cons,xy h.1,ih h.2]
theorem sT(ss:List Sg):inner ss=(ss.flatMap pts).flatMap aZ:=by
 unfold inner nh
 induction ss with
 |nil=>rfl
 |cons s ss ih=>rw[List.flatMap_cons,List.flatMap_cons,List.flatMap_append,ih]
theorem i7{b:Int}(h:(dr b).isSome=true):eB b=true:=by
 obtain⟨w,e⟩:=some_of h;have:=eT e;unfold eB;simp only[Bool.or_eq_true,Bool.and_eq_true,decide_eq_true_eq];omega
theorem Ig(s:Sg)(h:Sok s):(pts s).all eB=true:=by
 cases s with
 |pl p=>simp[pts,h.1]
 | sh c p=>
   simp only[Sok,shP,List.mem_cons,Prod.mk.injEq,List.not_mem_nil,or_false]at h
   rcases h with h|h|h|h|h|h|h|h<;>(obtain⟨rfl,rfl⟩:=h;decide)
 | hx a b c d=>
   obtain⟨ha,hb,hc,hd,_⟩:=h
   have i1:eB 92=true:=rfl
   have i2:eB 117=true:=rfl
   simp[pts,i7 ha,i7 hb,i7 hc,i7 hd,i1,i2]
 | pr a b c d e f g h'=>
   obtain⟨⟨f1,_,_,hb,hc,hd⟩,f5,_,hf,hg,hh⟩:=h
   have i1:eB 92=true:=rfl
   have i2:eB 117=true:=rfl
   simp[pts,i7 (b:=a) (by rw[f1];rfl),i7 hb,i7 hc,i7 hd,i7 (b:=e) (by rw[f5];rfl),i7 hf,i7 hg,i7 hh,i1,i2]
theorem zP(ss:List Sg)(h:∀ s∈ss,Sok s):(ss.flatMap pts).all eB=true:=by
 rw[List.all_eq_true];intro x hx;obtain⟨s,hs,hxs⟩:=List.mem_flatMap.mp hx;exact List.all_eq_true.mp (Ig s (h s hs)) x hxs
theorem Goes.skip{it:It}{st st':List It}{b:Int}{bs:List Int}(h:bh it b=none)(hl:loose it=true)(k:Goes st (b ::bs) st'):Goes (it ::st) (b ::bs) st':=fun r=>by
 rw[List.cons_append,EE h hl,<- List.cons_append,k]
noncomputable def txt(ss:List Sg):List Int:=34 ::(inner ss++[34])
end PG
namespace PG
noncomputable abbrev isF(b:Int):Prop:=48<=b /\ b<=57
noncomputable def ck(n:Nat):List Int:=if n<10 then[48+(n:Int)]else ck (n/10)++[48+((n%10:Nat):Int)]
termination_by n
decreasing_by omega
noncomputable def dz(n:Nat):List Int:=if n=0 then[]else ck n
theorem HM(n:Nat):ck n=dz (n/10)++[48+((n%10:Nat):Int)]:=by
 rw[ck];unfold dz
 by_cases h:n<10
 . rw[if_pos h,if_pos (by omega),Nat.mod_eq_of_lt h];rfl
 . rw[if_neg h,if_neg (by omega)]
theorem xw(n:Nat):∀ b∈ck n,isF b:=by
 induction n using Nat.strongRecOn with
 | _ n ih=>
   intro b hb;rw[ck]at hb;split at hb
   . simp at hb;unfold isF;omega
   . rcases List.mem_append.mp hb with z|z
     . exact ih (n/10) (by omega) b z
     . simp at z;unfold isF;omega
theorem Ef(n:Nat):ck n≠[]:=by rw[HM];simp
theorem AE(n:Nat)(h:0<n):∃ d r,ck n=d ::r /\ 49<=d /\ d<=57 /\ ∀ b∈r,isF b:=by
 induction n using Nat.strongRecOn with
 | _ n ih=>
   rw[ck];split
   . exact⟨48+(n:Int),[],rfl,by omega,by omega,fun b hb=>by cases hb⟩
   . obtain⟨d,r,e,h1,h2,h3⟩:=ih (n/10) (by omega) (by omega);rw[e]
     refine⟨d,r++[48+((n%10:Nat):Int)],rfl,h1,h2,fun b hb=>?_⟩
     rcases List.mem_append.mp hb with z|z
     . exact h3 b z
     . simp at z;unfold isF;omega
theorem AH:ck 0=[48]:=by rw[ck];rfl
theorem nO(k:Nat):∀ n:Nat,n<10 ^ (k+1)->(ck n).length<=k+1:=by
 induction k with
 |zero=>intro n h;rw[ck,if_pos (by simpa using h)];simp
 | succ k ih=>
   intro n h;rw[ck];split
   . simp
   . have:n/10<10 ^ (k+1):=by rw[Nat.pow_succ]at h;omega
     have:=ih (n/10) this
     simp;omega
noncomputable def cv(ds:List Int):Int:=ds.foldl (fun n d=>10*n+d - 48) 0
theorem EJ(ds:List Int)(d:Int):cv (ds++[d])=10*cv ds+d - 48:=by simp[cv]
theorem EA(n:Nat):cv (ck n)=n:=by
 induction n using Nat.strongRecOn with
 | _ n ih=>
   rw[ck];split
   . simp[cv];omega
   . rw[EJ,ih (n/10) (by omega)];omega
structure Nm where
 neg:Bool
 ip:List Int
 fr:List Int
 ex:Option (Int×List Int×List Int)
noncomputable def frB(fr:List Int):List Int:=if fr=[]then[]else 46 ::fr
noncomputable def exB:Option (Int×List Int×List Int)->List Int
 |none=>[]
 |some (e,s,ds)=>e ::(s++ds)
noncomputable def nb(m:Nm):List Int:=(if m.neg then[45]else[])++(m.ip++(frB m.fr++exB m.ex))
structure Nok(m:Nm):Prop where
 ip:(m.ip=[48]) \/ ∃ d r,m.ip=d ::r /\ 49<=d /\ d<=57 /\ ∀ b∈r,isF b
 fr:∀ b∈m.fr,isF b
 ex:∀ e s ds,m.ex=some (e,s,ds)->(e=101 \/ e=69) /\ (s=[] \/ s=[43] \/ s=[45]) /\ ds≠[] /\ ∀ b∈ds,isF b
end PG
namespace PG
open L2.P PySem
noncomputable def out:List Bool->List It
 |[]=>[.white]
 |r ::fs=>.white ::(if r then .mrow else .mfields) ::out fs
noncomputable def hd(r e:Bool):It:=if r then(if e then .row else .mrow)else(if e then .fields else .mfields)
noncomputable def stk(r e:Bool)(fs:List Bool):List It:=.white ::hd r e ::out fs
inductive Wd where|null|tru|fal
noncomputable def wdb:Wd->List Int
 |.null=>[110,117,108,108]|.tru=>[116,114,117,101]|.fal=>[102,97,108,115,101]
inductive Lf where|wd(w:Wd)|nm(m:Nm)|tx(l:List Sg)
noncomputable def lfb:Lf->List Int
 |.wd w=>wdb w|.nm m=>nb m|.tx l=>txt l
noncomputable def Lok:Lf->Prop
 |.wd _=>True|.nm m=>Nok m|.tx l=>∀ s∈l,Sok s
noncomputable def tb(b:Int):Prop:=wht b=true \/ isF b \/ b=46 \/ b=101 \/ b=69 \/ b=43 \/ b=45
theorem Goes.whole{a b:List It}{xs:List Int}(h:Goes a xs b):(tk a xs).2=xs.length:=by
 have:=h [];rw[List.append_nil]at this;rw[this];simp[tk]
end PG
namespace L2.plainglass_k13_nodes_asked
open PySem L2.P PG
noncomputable def fP(c:String):Option Bool:=if c = "GlassError" then some true else if c = "NoNode" then some true else none
noncomputable def g8(c:String):Option Bool:=if c = "NoNode" then some true else none
noncomputable def t9:ah -> OS:=
    (aA (bj (cO (ak 0))
    (b0 (mOp cV (ak 0) (mOp bM (ak 1) (mUn kn (ak 0)))))
    aT)
    (b0 (mC (.int 0))))
noncomputable def gK:List PV->OE:=fnP 2 2 t9
noncomputable def q9:ah -> OS:=
    (b0 (mOp bM (mOp bR (mOp rO (mOp cG (ak 2) (mC (.int 64))) (mC (.int 69621))) (ak 2)) (mC (.int 4294967231))))
noncomputable def rE:ah -> OS:=
    (aA (aN 2 (mOp bM (mOp rO (ak 2) (mC (.int 48271))) (mC (.int 4294967279))))
    q9)
noncomputable def u6:ah -> OS:=
    (aA (aN 2 (mOp bM (mOp bR (aX gK (aq (ak 0) (aq (ak 1) aL))) (mOp rO (mC (.int 104729)) (mOp bR (ak 1) (mC (.int 1))))) (mC (.int 4294967291))))
    rE)
noncomputable def bN:List PV->OE:=fnP 2 3 u6
noncomputable def iR:ah -> OS:=
    (dB 4)
noncomputable def kx:ah -> OS:=
    (aA (bj (cX 2 aI)
    (aA (bK 2 (pIx 2 (pIx 2 aI (mUn eM (mC (.int 1)))) (mC (.int 1))) (mD (jF (aE (mOp gEq (cM 2 (pIx 2 (pIx 2 aI (mUn eM (mC (.int 1)))) (mC (.int 0)))) (mC (.str "row")))) (ak 4) (gq (aq (cM 3 (pIx 3 aI (mC (.int 3)))) (aq (ak 4) aL))))))
    (bj (aE (mOp gEq (cM 2 (pIx 2 (pIx 2 aI (mUn eM (mC (.int 1)))) (mC (.int 0)))) (mC (.str "fields"))))
    (nc 1 (pIx 1 aI (mOp lZ (cM 3 (pIx 3 aI (mC (.int 2)))) (mC (.int 1)))) (mC (.int 3)) (mD (eQ 1 aI)))
    aT))
    aT)
    iR)
noncomputable def iI:ah -> OS:=
    (aA (aN 4 (gq (aq (cM 3 (pIx 3 aI (mC (.int 0)))) (aq (mUn kD (cM 3 (pIx 3 aI (mC (.int 1))))) aL))))
    kx)
noncomputable def oG:ah -> OS:=
    (aA (nc 1 (pIx 1 aI (cM 3 (pIx 3 aI (mC (.int 2))))) (mC (.int 3)) (mD (eQ 1 aI)))
    iI)
noncomputable def oS:ah -> OS:=
    (aA (nc 1 (pIx 1 aI (cM 3 (pIx 3 aI (mC (.int 2))))) (mC (.int 2)) (mD (eQ 0 aI)))
    oG)
noncomputable def oZ:ah -> OS:=
    (aA (bK 0 aI (mD (jF (aE (mOp gEq (cM 3 (pIx 3 aI (mC (.int 0)))) (mC (.str "row")))) (mC (.int 93)) (mC (.int 125)))))
    oS)
noncomputable def nM:ah -> OS:=
    (aA (la 3 (u1 2 aI))
    oZ)
noncomputable def cg:List Sl->OI:=fnI 3 5 nM
noncomputable def iK:ah -> OE:=
    (mOp cV (cN (aq (mC (.int 32)) (aq (mC (.int 9)) (aq (mC (.int 10)) (aq (mC (.int 13)) aL))))) (mOp bM (mOp cG (mOp cG (ak 0) (mC (.int 4))) (mOp bR (mC (.int 1)) (mOp rO (mC (.int 3)) (ak 1)))) (mC (.int 4))))
noncomputable def nV:ah -> OS:=
    (aA (bj (aE (mOp gGt (mOp bM (ak 0) (mC (.int 4))) (mC (.int 0))))
    (b0 (cN aL))
    aT)
    (b0 (vo (mOp bR (mOp bM (mOp cG (ak 0) (mC (.int 64))) (mC (.int 3))) (mC (.int 1))) [0] iK)))
noncomputable def bV:List PV->OE:=fnP 1 1 nV
noncomputable def dQ:ah -> OS:=
    (b0 (mOp bR (mC (.int 65536)) (mOp bM (ak 2) (mC (.int 1048576)))))
noncomputable def dO:ah -> OS:=
    (aA (bj (aE (mOp gEq (ak 1) (mC (.int 6))))
    (b0 (mOp bR (mC (.int 57344)) (mOp bM (ak 2) (mC (.int 8192)))))
    aT)
    dQ)
noncomputable def dX:ah -> OS:=
    (aA (bj (aE (mOp gEq (ak 1) (mC (.int 5))))
    (b0 (mOp bR (mC (.int 2048)) (mOp bM (ak 2) (mC (.int 53248)))))
    aT)
    dO)
noncomputable def dS:ah -> OS:=
    (aA (bj (aE (mOp gEq (ak 1) (mC (.int 4))))
    (b0 (mOp bR (mC (.int 128)) (mOp bM (ak 2) (mC (.int 1920)))))
    aT)
    dX)
noncomputable def dW:ah -> OS:=
    (aA (bj (aE (mOp gLt (ak 1) (mC (.int 4))))
    (b0 (mOp cV (cN (aq (mC (.int 34)) (aq (mC (.int 92)) (aq (mC (.int 47)) (aq (mC (.int 8)) (aq (mC (.int 12)) (aq (mC (.int 10)) (aq (mC (.int 13)) (aq (mC (.int 9)) (aq (mC (.int 0)) (aq (mC (.int 31)) (aq (mC (.int 127)) aL)))))))))))) (mOp bM (ak 2) (mC (.int 11)))))
    aT)
    dS)
noncomputable def dR:ah -> OS:=
    (aA (bj (aE (mOp gLt (ak 1) (mC (.int 2))))
    (b0 (mOp bR (mC (.int 32)) (mOp bM (ak 2) (mC (.int 95)))))
    aT)
    dW)
noncomputable def dU:ah -> OS:=
    (aA (aN 2 (mOp cG (ak 0) (mC (.int 8))))
    dR)
noncomputable def fI:ah -> OS:=
    (aA (aN 1 (mOp bM (ak 0) (mC (.int 8))))
    dU)
noncomputable def cH:List PV->OE:=fnP 1 3 fI
noncomputable def jC:ah -> OE:=
    (aX cH (aq (aX bN (aq (ak 0) (aq (mOp bR (mOp bR (ak 1) (mC (.int 1))) (ak 2)) aL))) aL))
noncomputable def jN:ah -> OS:=
    (b0 (vo (ak 3) [0,1] jC))
noncomputable def jP:ah -> OS:=
    (aA (bj (aE (mOp gEq (mOp bM (mOp cG (ak 2) (mC (.int 5))) (mC (.int 8))) (mC (.int 3))))
    (aN 3 (mOp bM (mOp cG (ak 2) (mC (.int 40))) (mC (.int 14))))
    aT)
    jN)
noncomputable def jE:ah -> OS:=
    (aA (aN 3 (mOp bM (ak 2) (mC (.int 5))))
    jP)
noncomputable def lO:ah -> OS:=
    (aA (aN 2 (aX bN (aq (ak 0) (aq (ak 1) aL))))
    jE)
noncomputable def de:List PV->OE:=fnP 2 4 lO
noncomputable def pB:ah -> OS:=
    (aA (bj (aE (mOp gEq (mOp bM (ak 1) (mC (.int 2))) (mC (.int 0))))
    (b0 (cN (aq (mOp bR (mC (.int 97)) (mOp bM (mOp cG (ak 1) (mC (.int 2))) (mC (.int 3)))) aL)))
    aT)
    (b0 (aX de (aq (ak 0) (aq (mOp bR (mC (.int 11)) (mOp bM (mOp cG (ak 1) (mC (.int 2))) (mC (.int 37)))) aL)))))
noncomputable def fD:List PV->OE:=fnP 2 2 pB
noncomputable def gj:ah -> OS:=
    (aA (aN 2 (mOp oq (cN (aq (mOp bR (mC (.int 128)) (mOp bM (ak 0) (mC (.int 64)))) aL)) (ak 2)))
    (aN 0 (mOp cG (ak 0) (mC (.int 64)))))
noncomputable def gn:ah -> OS:=
    (b0 (mOp oq (cN (aq (mOp bR (mOp cV (cN (aq (mC (.int 192)) (aq (mC (.int 224)) (aq (mC (.int 240)) aL)))) (mOp lZ (ak 1) (mC (.int 1)))) (ak 0)) aL)) (ak 2)))
noncomputable def gm:ah -> OS:=
    (aA (oJ 3 (ak 1)
    gj)
    gn)
noncomputable def gi:ah -> OS:=
    (aA (aN 2 (cN aL))
    gm)
noncomputable def gw:ah -> OS:=
    (aA (aN 1 (mOp bR (mOp bR (mC (.int 1)) (mUn kT (mOp gGe (ak 0) (mC (.int 2048))))) (mUn kT (mOp gGe (ak 0) (mC (.int 65536))))))
    gi)
noncomputable def i5:ah -> OS:=
    (aA (bj (aE (mOp gLt (ak 0) (mC (.int 128))))
    (b0 (cN (aq (ak 0) aL)))
    aT)
    gw)
noncomputable def dn:List PV->OE:=fnP 1 4 i5
noncomputable def kf:ah -> OS:=
    (aA (aN 4 (mOp bM (ak 0) (mC (.int 16))))
    (aA (bj (aE (mOp gLt (ak 4) (mC (.int 10))))
    (aN 2 (mOp oq (cN (aq (mOp bR (mC (.int 48)) (ak 4)) aL)) (ak 2)))
    (aN 2 (mOp oq (cN (aq (mOp bR (jF (cO (ak 1)) (mC (.int 55)) (mC (.int 87))) (ak 4)) aL)) (ak 2))))
    (aN 0 (mOp cG (ak 0) (mC (.int 16))))))
noncomputable def rp:ah -> OS:=
    (b0 (mOp oq (cN (aq (mC (.int 92)) (aq (mC (.int 117)) aL))) (ak 2)))
noncomputable def rq:ah -> OS:=
    (aA (oJ 3 (mC (.int 4))
    kf)
    rp)
noncomputable def uQ:ah -> OS:=
    (aA (aN 2 (cN aL))
    rq)
noncomputable def fS:List PV->OE:=fnP 2 5 uQ
noncomputable def pW:ah -> OS:=
    (b0 (mOp oq (aX fS (aq (mOp bR (mC (.int 55296)) (mOp cG (ak 4) (mC (.int 1024)))) (aq (mOp gEq (ak 3) (mC (.int 1))) aL))) (aX fS (aq (mOp bR (mC (.int 56320)) (mOp bM (ak 4) (mC (.int 1024)))) (aq (mOp gEq (ak 3) (mC (.int 0))) aL)))))
noncomputable def qm:ah -> OS:=
    (aA (aN 4 (mOp lZ (ak 0) (mC (.int 65536))))
    pW)
noncomputable def jo:ah -> OS:=
    (aA (bj (aE (mOp gLt (ak 0) (mC (.int 65536))))
    (b0 (aX fS (aq (ak 0) (aq (mOp gEq (ak 3) (mC (.int 1))) aL))))
    aT)
    qm)
noncomputable def dI:ah -> OS:=
    (aA (bj (dJ (aE (mOp gGt (ak 3) (mC (.int 1)))) (dJ (aE (mOp gGe (ak 0) (mC (.int 32)))) (dJ (aE (mOp gNe (ak 0) (mC (.int 34)))) (aE (mOp gNe (ak 0) (mC (.int 92)))))))
    (b0 (aX dn (aq (ak 0) aL)))
    aT)
    jo)
noncomputable def lX:ah -> OS:=
    (aA (bj (dJ (aE (mOp gEq (ak 3) (mC (.int 0)))) (aE (xp false (ak 0) 2 aI)))
    (b0 (cN (aq (mC (.int 92)) (aq (Am 2 aI (ak 0)) aL))))
    aT)
    dI)
noncomputable def ig:ah -> OS:=
    (aA (aN 3 (mOp bM (ak 1) (mC (.int 5))))
    lX)
noncomputable def sG:ah -> OS:=
    (aA (oQ 2 (Hg [(34,34),(92,92),(47,47),(8,98),(12,102),(10,110),(13,114),(9,116)]))
    ig)
noncomputable def gH:List PV->OE:=fnP 2 5 sG
noncomputable def jq:ah -> OS:=
    (aA (aN 2 (mOp oq (ak 2) (aX gH (aq (ak 4) (aq (mOp bR (mOp cG (ak 1) (mOp bR (mC (.int 1)) (mOp bM (ak 3) (mC (.int 7))))) (ak 3)) aL)))))
    (aN 3 (mOp bR (ak 3) (mC (.int 1)))))
noncomputable def pR:ah -> OS:=
    (b0 (mOp oq (ak 2) (cN (aq (mC (.int 34)) aL))))
noncomputable def p5:ah -> OS:=
    (aA (mK 4 (ak 0)
    jq)
    pR)
noncomputable def qj:ah -> OS:=
    (aA (aN 3 (mC (.int 0)))
    p5)
noncomputable def sZ:ah -> OS:=
    (aA (aN 2 (cN (aq (mC (.int 34)) aL)))
    qj)
noncomputable def eP:List PV->OE:=fnP 2 5 sZ
noncomputable def kL:ah -> OS:=
    (dB 5)
noncomputable def kC:ah -> OS:=
    (aA (bj (dJ (cX 3 aI) (aE (mOp gEq (cM 3 (pIx 3 (pIx 3 aI (mUn eM (mC (.int 1)))) (mC (.int 0)))) (mC (.str "fields")))))
    (aA (aN 6 (aX fD (aq (ak 0) (aq (mOp cG (ak 4) (mC (.int 13))) aL))))
    (aA (aN 5 (mUn kD (ak 6)))
    (aA (aN 7 (eQ 1 aI))
    (aA (cK 6 (dE 1 aI (aX eP (aq (ak 6) (aq (mOp cG (ak 4) (mC (.int 17))) aL)))))
    (aA (bK 2 aI (mD (cN (aq (mC (.str "name")) (aq (ak 7) (aq (eQ 1 aI) (aq (mC (.int 0)) aL)))))))
    (aA (dE 1 aI (aX bV (aq (mOp cG (ak 4) (mC (.int 19))) aL)))
    (aA (bK 1 aI (mD (mC (.int 58))))
    (dE 1 aI (aX bV (aq (mOp cG (ak 4) (mC (.int 23))) aL))))))))))
    aT)
    kL)
noncomputable def oW:ah -> OS:=
    (aA (bj (dJ (cX 3 aI) (cO (cM 3 (pIx 3 (pIx 3 aI (mUn eM (mC (.int 1)))) (mC (.int 1))))))
    (aA (bK 1 aI (mD (mC (.int 44))))
    (dE 1 aI (aX bV (aq (mOp cG (ak 4) (mC (.int 11))) aL))))
    aT)
    kC)
noncomputable def oY:ah -> OS:=
    (aA (aN 5 (gq aL))
    oW)
noncomputable def jZ:ah -> OS:=
    (aA (dE 1 aI (aX bV (aq (mOp cG (ak 4) (mC (.int 3))) aL)))
    oY)
noncomputable def eJ:List Sl->OI:=fnI 5 8 jZ
noncomputable def gv:ah -> OT:=
    (aE (mOp gEq (mOp bM (ak 0) (mC (.int 10))) (mC (.int 0))))
noncomputable def iQ:ah -> OS:=
    (aA (aN 0 (mOp cG (ak 0) (mC (.int 10))))
    (aN 1 (mOp bR (ak 1) (mC (.int 1)))))
noncomputable def oH:ah -> OS:=
    (b0 (gq (aq (ak 0) (aq (ak 1) aL))))
noncomputable def oP:ah -> OS:=
    (aA (cu gv
    iQ fuel)
    oH)
noncomputable def nj:ah -> OS:=
    (aA (bj (aE (mOp gEq (ak 0) (mC (.int 0))))
    (b0 (gq (aq (mC (.int 0)) (aq (mC (.int 0)) aL))))
    aT)
    oP)
noncomputable def dF:List PV->OE:=fnP 2 2 nj
noncomputable def ft:ah -> OE:=
    (mUn Ae (ak 0))
noncomputable def gX:ah -> OE:=
    (mOp bR (mC (.int 48)) (ak 0))
noncomputable def eE:ah -> OS:=
    (aN 4 (mOp bR (mOp rO (ak 4) (mC (.int 10))) (ak 5)))
noncomputable def fB:ah -> OS:=
    (aA (cL 3 (mOp bR (mC (.int 48)) (ak 5)))
    (aA (aN 4 (mOp bR (mOp rO (ak 4) (mC (.int 10))) (ak 5)))
    (aN 6 (mOp lZ (ak 6) (mC (.int 1))))))
noncomputable def eh:ah -> OE:=
    (mUn CN (ak 0))
noncomputable def i6:ah -> OS:=
    (cK 3 (b0 (gq (aq (ak 3) (aq (aX dF (aq (ak 4) (aq (ak 6) aL))) aL)))))
noncomputable def nL:ah -> OS:=
    (aA (bj (cO (ak 1))
    (aN 4 (mUn eM (ak 4)))
    aT)
    i6)
noncomputable def nu:ah -> OS:=
    (aA (bj (aE (mOp gEq (mOp bM (mOp cG (ak 0) (mC (.int 31))) (mC (.int 3))) (mC (.int 1))))
    (aA (aN 7 (mOp bM (mOp cG (ak 0) (mC (.int 37))) (mC (.int 30))))
    (aA (cL 3 (mOp cV (cN (aq (mC (.int 101)) (aq (mC (.int 69)) aL))) (mOp bM (mOp cG (ak 0) (mC (.int 41))) (mC (.int 2)))))
    (aA (aN 8 (mOp gEq (mOp bM (mOp cG (ak 0) (mC (.int 43))) (mC (.int 3))) (mC (.int 1))))
    (aA (bj (cO (ak 8))
    (cL 3 (mC (.int 45)))
    (bj (aE (mOp gEq (mOp bM (mOp cG (ak 0) (mC (.int 43))) (mC (.int 3))) (mC (.int 2))))
    (cL 3 (mC (.int 43)))
    aT))
    (aA (bj (aE (mOp gEq (mOp bM (mOp cG (ak 0) (mC (.int 47))) (mC (.int 4))) (mC (.int 1))))
    (cL 3 (mC (.int 48)))
    aT)
    (aA (aN 3 (mOp oq (ak 3) (nJ (mUn nH (ak 7)) [] eh)))
    (aN 6 (mOp bR (ak 6) (jF (cO (ak 8)) (mUn eM (ak 7)) (ak 7))))))))))
    aT)
    nL)
noncomputable def m9:ah -> OS:=
    (aA (bj (aE (mOp gEq (mOp bM (mOp cG (ak 0) (mC (.int 17))) (mC (.int 3))) (mC (.int 1))))
    (aA (cL 3 (mC (.int 46)))
    (mK 5 (yS (cN (aq (mOp bM (mOp cG (ak 0) (mC (.int 19))) (mC (.int 10))) (aq (mOp bM (mOp cG (ak 0) (mC (.int 23))) (mC (.int 4))) (aq (mC (.int 0)) aL)))) (mC .non) (oB (mOp bR (mC (.int 1)) (mOp bM (mOp cG (ak 0) (mC (.int 29))) (mC (.int 3))))))
    fB))
    aT)
    nu)
noncomputable def m3:ah -> OS:=
    (aA (aN 6 (mC (.int 0)))
    m9)
noncomputable def nR:ah -> OS:=
    (aA (cK 2 (mK 5 (ak 2)
    eE))
    m3)
noncomputable def mZ:ah -> OS:=
    (aA (aN 4 (mC (.int 0)))
    nR)
noncomputable def nX:ah -> OS:=
    (aA (aN 3 (mOp oq (ak 3) (qD (ak 2) [] gX)))
    mZ)
noncomputable def nC:ah -> OS:=
    (aA (aN 3 (jF (cO (ak 1)) (cN (aq (mC (.int 45)) aL)) (cN aL)))
    nX)
noncomputable def ng:ah -> OS:=
    (aA (aN 2 (nJ (mUn nH (mOp bM (mOp cG (ak 0) (mC (.int 3))) (mC (.int 100000)))) [] ft))
    nC)
noncomputable def pV:ah -> OS:=
    (aA (aN 1 (mOp gEq (mOp bM (ak 0) (mC (.int 3))) (mC (.int 0))))
    ng)
noncomputable def eL:List PV->OE:=fnP 1 9 pV
noncomputable def jk:ah -> OS:=
    (b0 (gq (aq (mC (.str "number")) (aq (mOp cC (ak 4) (mC (.int 0))) (aq (gq (aq (mC (.str "number")) (aq (mOp cC (mOp cC (ak 4) (mC (.int 1))) (mC (.int 0))) (aq (mOp cC (mOp cC (ak 4) (mC (.int 1))) (mC (.int 1))) aL)))) aL)))))
noncomputable def oo:ah -> OS:=
    (aA (aN 4 (aX eL (aq (mOp cG (ak 1) (mC (.int 7))) aL)))
    jk)
noncomputable def ox:ah -> OS:=
    (aA (bj (aE (mOp gEq (ak 2) (mC (.int 3))))
    (aA (aN 3 (aX de (aq (ak 0) (aq (mOp bR (mC (.int 7)) (mOp bM (ak 1) (mC (.int 41)))) aL))))
    (cK 3 (b0 (gq (aq (mC (.str "text")) (aq (aX eP (aq (ak 3) (aq (mOp cG (ak 1) (mC (.int 30))) aL))) (aq (gq (aq (mC (.str "text")) (aq (mUn kD (ak 3)) aL))) aL)))))))
    aT)
    oo)
noncomputable def oi:ah -> OS:=
    (aA (bj (aE (mOp gEq (ak 2) (mC (.int 2))))
    (b0 (gq (aq (mC (.str "false")) (aq (cN (aq (mC (.int 102)) (aq (mC (.int 97)) (aq (mC (.int 108)) (aq (mC (.int 115)) (aq (mC (.int 101)) aL)))))) (aq (mC (.bl false)) aL)))))
    aT)
    ox)
noncomputable def ou:ah -> OS:=
    (aA (bj (aE (mOp gEq (ak 2) (mC (.int 1))))
    (b0 (gq (aq (mC (.str "true")) (aq (cN (aq (mC (.int 116)) (aq (mC (.int 114)) (aq (mC (.int 117)) (aq (mC (.int 101)) aL))))) (aq (mC (.bl true)) aL)))))
    aT)
    oi)
noncomputable def jj:ah -> OS:=
    (aA (bj (aE (mOp gEq (ak 2) (mC (.int 0))))
    (b0 (gq (aq (mC (.str "null")) (aq (cN (aq (mC (.int 110)) (aq (mC (.int 117)) (aq (mC (.int 108)) (aq (mC (.int 108)) aL))))) (aq (mC .non) aL)))))
    aT)
    ou)
noncomputable def kj:ah -> OS:=
    (aA (aN 2 (mOp bM (mOp cG (ak 1) (mC (.int 5))) (mC (.int 6))))
    jj)
noncomputable def bS:List PV->OE:=fnP 2 5 kj
noncomputable def gu:ah -> OS:=
    (aA (aN 7 (aX bN (aq (ak 0) (aq (ak 6) aL))))
    (bj (dJ (cX 4 aI) (aE (mOp gEq (mOp bM (ak 7) (mC (.int 5))) (mC (.int 1)))))
    (aA (dE 2 aI (aX bV (aq (mOp cG (ak 7) (mC (.int 3))) aL)))
    (la 5 (kl cg [.t 2 aI,.t 3 aI,.t 4 aI])))
    (bj (pH (cX 4 aI) (aE (mOp gEq (ak 6) (mC (.int 0)))))
    (aA (la 8 (kl eJ [.e (ak 0),.t 2 aI,.t 3 aI,.t 4 aI,.e (ak 7)]))
    (aA (aN 9 (eQ 2 aI))
    (bj (pH (aE (mOp gGt (mOp bM (ak 7) (mC (.int 5))) (mC (.int 2)))) (dJ (aE (mOp gEq (ak 6) (mC (.int 0)))) (aE (mOp gGt (mOp bM (ak 7) (mC (.int 9))) (mC (.int 0))))))
    (aA (aN 10 (mOp cV (cN (aq (mC (.str "row")) (aq (mC (.str "fields")) aL))) (mOp bM (mOp cG (ak 7) (mC (.int 5))) (mC (.int 2)))))
    (aA (bK 2 aI (mD (jF (aE (mOp gEq (ak 10) (mC (.str "row")))) (mC (.int 91)) (mC (.int 123)))))
    (aA (bK 4 aI (mDl (mDc (mD (ak 10)) (mDc (mD (cN aL)) (mDc (mD (eQ 3 aI)) (mDc (mD (ak 8)) mDn))))))
    (bK 3 aI (mD (cN (aq (ak 10) (aq (ak 9) (aq (mC (.int 0)) (aq (mC (.int 0)) aL))))))))))
    (aA (aN 11 (aX bS (aq (ak 0) (aq (ak 7) aL))))
    (aA (dE 2 aI (mOp cC (ak 11) (mC (.int 1))))
    (aA (bK 3 aI (mD (cN (aq (mOp cC (ak 11) (mC (.int 0))) (aq (ak 9) (aq (eQ 2 aI) (aq (mOp bR (eQ 3 aI) (mC (.int 1))) aL)))))))
    (aA (aN 5 (mOp cC (ak 11) (mC (.int 2))))
    (bj (dJ (cX 4 aI) (aE (mOp gEq (cM 4 (pIx 4 (pIx 4 aI (mUn eM (mC (.int 1)))) (mC (.int 0)))) (mC (.str "fields")))))
    (aA (nc 3 (pIx 3 aI (mUn eM (mC (.int 2)))) (mC (.int 3)) (mD (eQ 3 aI)))
    (bK 4 (pIx 4 (pIx 4 aI (mUn eM (mC (.int 1)))) (mC (.int 1))) (mD (gq (aq (ak 8) (aq (ak 5) aL))))))
    (bj (cX 4 aI)
    (bK 4 (pIx 4 (pIx 4 aI (mUn eM (mC (.int 1)))) (mC (.int 1))) (mD (ak 5)))
    aT)))))))))
    aT)))
noncomputable def gr:ah -> OT:=
    (cX 4 aI)
noncomputable def iN:ah -> OS:=
    (la 5 (kl cg [.t 2 aI,.t 3 aI,.t 4 aI]))
noncomputable def kA:ah -> OE:=
    (mUn kD (ak 0))
noncomputable def o1:ah -> OS:=
    (ny 3 (ny 2 (b0 (gq (aq (ak 2) (aq (qD (ak 3) [] kA) (aq (ak 5) aL)))))))
noncomputable def kq:ah -> OS:=
    (aA (dE 2 aI (aX bV (aq (aX bN (aq (ak 0) (aq (mC (.int 61)) aL))) aL)))
    o1)
noncomputable def oO:ah -> OS:=
    (aA (cu gr
    iN fuel)
    kq)
noncomputable def kO:ah -> OS:=
    (aA (oJ 6 (ak 1)
    gu)
    oO)
noncomputable def oy:ah -> OS:=
    (aA (aN 5 (mC .non))
    kO)
noncomputable def oD:ah -> OS:=
    (aA (oQ 4 (mD (cN aL)))
    oy)
noncomputable def oV:ah -> OS:=
    (aA (oQ 3 (mD (cN aL)))
    oD)
noncomputable def nv:ah -> OS:=
    (aA (oQ 2 (mD (cN aL)))
    oV)
noncomputable def fJ:List PV->OE:=fnP 2 12 nv
noncomputable def kU:ah -> OT:=
    (aE (mOp gLt (ak 3) (mOp cC (mOp cV (ak 0) (ak 1)) (mC (.int 3)))))
noncomputable def nY:ah -> OS:=
    (aA (cL 2 (ak 3))
    (aN 3 (mOp cC (mOp cV (ak 0) (ak 3)) (mC (.int 3)))))
noncomputable def uy:ah -> OS:=
    (dB 2)
noncomputable def uT:ah -> OS:=
    (aA (bj (aE (mOp gIn (mOp cC (mOp cV (ak 0) (ak 1)) (mC (.int 0))) (gq (aq (mC (.str "row")) (aq (mC (.str "fields")) aL)))))
    (aA (aN 3 (mOp bR (ak 1) (mC (.int 1))))
    (cu kU
    nY fuel))
    aT)
    uy)
noncomputable def zU:ah -> OS:=
    (aA (aN 2 (cN aL))
    uT)
noncomputable def iL:List PV->OE:=fnP 2 4 zU
noncomputable def yn:ah -> OS:=
    (b0 (mOp cV (ak 3) (ak 2)))
noncomputable def xE:ah -> OS:=
    (aA (bj (aE (mOp gEq (mOp cC (mOp cV (ak 0) (ak 1)) (mC (.int 0))) (mC (.str "fields"))))
    (b0 (mOp bR (mOp cV (ak 3) (ak 2)) (mC (.int 1))))
    aT)
    yn)
noncomputable def sI:ah -> OS:=
    (aA (bj (oM (aE (g9 gLe gLt (mC (.int 0)) (ak 2) (mUn kn (ak 3)))))
    (vT "NoNode" (aq (mC (.str "no value in this place")) aL))
    aT)
    xE)
noncomputable def yO:ah -> OS:=
    (aA (aN 3 (aX iL (aq (ak 0) (aq (ak 1) aL))))
    sI)
noncomputable def mx:List PV->OE:=fnP 3 4 yO
noncomputable def lI:ah -> OS:=
    (dB 3)
noncomputable def lF:ah -> OS:=
    (aA (v5 4 (aN 3 (aX mx (aq (ak 0) (aq (ak 1) (aq (ak 2) aL))))) fP
    (aN 3 (jF (cO (D6 4 fun c=>c == "NoNode")) (mUn eM (mC (.int 2))) (mUn eM (mC (.int 3))))))
    lI)
noncomputable def pf:ah -> OS:=
    (aA (aN 3 (mUn eM (mC (.int 1))))
    lF)
noncomputable def dP:List PV->OE:=fnP 3 5 pf
noncomputable def rA:ah -> OS:=
    (b0 (g9 gLe gLe (mC (.int 48)) (ak 0) (mC (.int 57))))
noncomputable def fw:List PV->OE:=fnP 1 1 rA
noncomputable def oI:ah -> OS:=
    (b0 (mC .non))
noncomputable def oX:ah -> OS:=
    (aA (bj (aE (g9 gLe gLe (mC (.int 97)) (ak 0) (mC (.int 102))))
    (b0 (mOp lZ (ak 0) (mC (.int 87))))
    aT)
    oI)
noncomputable def o2:ah -> OS:=
    (aA (bj (aE (g9 gLe gLe (mC (.int 65)) (ak 0) (mC (.int 70))))
    (b0 (mOp lZ (ak 0) (mC (.int 55))))
    aT)
    oX)
noncomputable def rj:ah -> OS:=
    (aA (bj (cO (aX fw (aq (ak 0) aL)))
    (b0 (mOp lZ (ak 0) (mC (.int 48))))
    aT)
    o2)
noncomputable def eI:List PV->OE:=fnP 1 1 rj
noncomputable def xr:ah -> OS:=
    (aN 2 (mOp bR (mOp rO (mC (.int 16)) (ak 2)) (aX eI (aq (ak 3) aL))))
noncomputable def xn:ah -> OS:=
    (dB 2)
noncomputable def xu:ah -> OS:=
    (aA (mK 3 (yS (ak 0) (oB (mOp bR (ak 1) (mC (.int 2)))) (oB (mOp bR (ak 1) (mC (.int 6)))))
    xr)
    xn)
noncomputable def Cj:ah -> OS:=
    (aA (aN 2 (mC (.int 0)))
    xu)
noncomputable def kJ:List PV->OE:=fnP 2 4 Cj
noncomputable def eX:ah -> OS:=
    (b0 (mC (.int 6)))
noncomputable def fb:ah -> OS:=
    (aA (bj (aE (g9 gLe gLe (mC (.int 55296)) (aX kJ (aq (ak 0) (aq (ak 1) aL))) (mC (.int 57343))))
    (b0 (mOp rO (mC (.int 2)) (mC (.int 6))))
    aT)
    eX)
noncomputable def eW:ah -> OS:=
    (aA (bj (aE (mOp gNe (mOp cV (ak 0) (mOp bR (ak 1) (mC (.int 1)))) (mC (.int 117))))
    (b0 (mC (.int 2)))
    aT)
    fb)
noncomputable def gT:ah -> OS:=
    (aA (bj (aE (mOp gNe (mOp cV (ak 0) (ak 1)) (mC (.int 92))))
    (b0 (mC (.int 1)))
    aT)
    eW)
noncomputable def cU:List PV->OE:=fnP 2 2 gT
noncomputable def nk:ah -> OS:=
    (b0 (mUn (vB [(34,.int 34),(92,.int 92),(47,.int 47),(98,.int 8),(102,.int 12),(110,.int 10),(114,.int 13),(116,.int 9)]) (ak 0)))
noncomputable def dw:List PV->OE:=fnP 1 1 nk
noncomputable def fG:ah -> OS:=
    (b0 (mOp lZ (mOp bR (mOp bR (mC (.int 65536)) (mOp rO (mC (.int 1024)) (mOp lZ (aX kJ (aq (ak 0) (aq (ak 1) aL))) (mC (.int 55296))))) (aX kJ (aq (ak 0) (aq (mOp bR (ak 1) (mC (.int 6))) aL)))) (mC (.int 56320))))
noncomputable def fL:ah -> OS:=
    (aA (bj (aE (mOp gEq (ak 2) (mC (.int 6))))
    (b0 (aX kJ (aq (ak 0) (aq (ak 1) aL))))
    aT)
    fG)
noncomputable def fo:ah -> OS:=
    (aA (bj (aE (mOp gEq (ak 2) (mC (.int 2))))
    (b0 (aX dw (aq (mOp cV (ak 0) (mOp bR (ak 1) (mC (.int 1)))) aL)))
    aT)
    fL)
noncomputable def gY:ah -> OS:=
    (aA (bj (aE (mOp gEq (ak 2) (mC (.int 1))))
    (b0 (mOp cV (ak 0) (ak 1)))
    aT)
    fo)
noncomputable def cP:List PV->OE:=fnP 3 3 gY
noncomputable def dc:ah -> OT:=
    (aE (mOp gLt (ak 2) (mUn kn (ak 0))))
noncomputable def ef:ah -> OS:=
    (aA (aN 3 (aX cU (aq (ak 0) (aq (ak 2) aL))))
    (aA (cL 1 (aX cP (aq (ak 0) (aq (ak 2) (aq (ak 3) aL)))))
    (Bi 2 bR (ak 3))))
noncomputable def jf:ah -> OS:=
    (dB 1)
noncomputable def jh:ah -> OS:=
    (aA (cu dc
    ef fuel)
    jf)
noncomputable def fZ:ah -> OS:=
    (aA (aN 2 (mC (.int 0)))
    jh)
noncomputable def kg:ah -> OS:=
    (aA (aN 1 (cN aL))
    fZ)
noncomputable def cF:List PV->OE:=fnP 1 4 kg
noncomputable def fY:ah -> OS:=
    (b0 (mC (.tup ([128,191].map .int))))
noncomputable def fX:ah -> OS:=
    (aA (bj (aE (mOp gEq (ak 0) (mC (.int 237))))
    (b0 (gq (aq (mC (.int 128)) (aq (mC (.int 159)) aL))))
    aT)
    fY)
noncomputable def hJ:ah -> OS:=
    (aA (bj (aE (mOp gEq (ak 0) (mC (.int 224))))
    (b0 (gq (aq (mC (.int 160)) (aq (mC (.int 191)) aL))))
    aT)
    fX)
noncomputable def cj:List PV->OE:=fnP 1 1 hJ
noncomputable def gC:ah -> OS:=
    (b0 (mC (.tup ([128,191].map .int))))
noncomputable def gM:ah -> OS:=
    (aA (bj (aE (mOp gEq (ak 0) (mC (.int 244))))
    (b0 (gq (aq (mC (.int 128)) (aq (mC (.int 143)) aL))))
    aT)
    gC)
noncomputable def iB:ah -> OS:=
    (aA (bj (aE (mOp gEq (ak 0) (mC (.int 240))))
    (b0 (gq (aq (mC (.int 144)) (aq (mC (.int 191)) aL))))
    aT)
    gM)
noncomputable def cy:List PV->OE:=fnP 1 1 iB
noncomputable def jA:ah -> OS:=
    (b0 (mC .non))
noncomputable def jv:ah -> OS:=
    (aA (bj (aE (g9 gLe gLt (mC (.int 240)) (ak 0) (mC (.int 245))))
    (b0 (cN (aq (aX cy (aq (ak 0) aL)) (aq (mC (.tup ([128,191].map .int))) (aq (mC (.tup ([128,191].map .int))) aL)))))
    aT)
    jA)
noncomputable def jz:ah -> OS:=
    (aA (bj (aE (g9 gLe gLt (mC (.int 224)) (ak 0) (mC (.int 240))))
    (b0 (cN (aq (aX cj (aq (ak 0) aL)) (aq (mC (.tup ([128,191].map .int))) aL))))
    aT)
    jv)
noncomputable def jt:ah -> OS:=
    (aA (bj (aE (g9 gLe gLt (mC (.int 194)) (ak 0) (mC (.int 224))))
    (b0 (cN (aq (mC (.tup ([128,191].map .int))) aL)))
    aT)
    jz)
noncomputable def n8:ah -> OS:=
    (aA (bj (aE (g9 gLe gLt (mC (.int 0)) (ak 0) (mC (.int 128))))
    (b0 (cN aL))
    aT)
    jt)
noncomputable def ib:List PV->OE:=fnP 1 1 n8
noncomputable def fj:ah -> OS:=
    (aA (bj (pH (aE (mOp gEq (ak 3) (mUn kn (ak 0)))) (oM (aE (g9 gLe gLe (mOp cC (ak 4) (mC (.int 0))) (mOp cV (ak 0) (ak 3)) (mOp cC (ak 4) (mC (.int 1)))))))
    vq
    aT)
    (Bi 3 bR (mC (.int 1))))
noncomputable def jY:ah -> OS:=
    (dB 3)
noncomputable def j8:ah -> OS:=
    (aA (cK 2 (mK 4 (ak 2)
    fj))
    jY)
noncomputable def ka:ah -> OS:=
    (aA (aN 3 (mOp bR (ak 1) (mC (.int 1))))
    j8)
noncomputable def j9:ah -> OS:=
    (aA (bj (aE (mOp CO (ak 2) (mC .non)))
    vq
    aT)
    ka)
noncomputable def mM:ah -> OS:=
    (aA (aN 2 (aX ib (aq (mOp cV (ak 0) (ak 1)) aL)))
    j9)
noncomputable def cY:List PV->OE:=fnP 2 5 mM
noncomputable def iU:ah -> OS:=
    (aN 3 (mOp lZ (mOp bR (mOp rO (ak 3) (mC (.int 64))) (ak 4)) (mC (.int 128))))
noncomputable def oK:ah -> OS:=
    (dB 3)
noncomputable def oN:ah -> OS:=
    (aA (mK 4 (yS (ak 0) (oB (mOp bR (ak 1) (mC (.int 1)))) (oB (ak 2)))
    iU)
    oK)
noncomputable def qY:ah -> OS:=
    (aA (aN 3 (mOp lZ (mOp cV (ak 0) (ak 1)) (mOp cC (mC (.tup ([0,192,224,240].map .int))) (mOp lZ (mOp lZ (ak 2) (ak 1)) (mC (.int 1))))))
    oN)
noncomputable def fE:List PV->OE:=fnP 3 5 qY
noncomputable def jS:ah -> OT:=
    (aE (mOp gLt (ak 2) (mUn kn (ak 0))))
noncomputable def lu:ah -> OS:=
    (aA (aN 3 (aX cY (aq (ak 0) (aq (ak 2) aL))))
    (aA (cL 1 (aX fE (aq (ak 0) (aq (ak 2) (aq (ak 3) aL)))))
    (aN 2 (ak 3))))
noncomputable def tJ:ah -> OS:=
    (dB 1)
noncomputable def sM:ah -> OS:=
    (aA (cu jS
    lu fuel)
    tJ)
noncomputable def sY:ah -> OS:=
    (aA (aN 2 (mC (.int 0)))
    sM)
noncomputable def xf:ah -> OS:=
    (aA (aN 1 (cN aL))
    sY)
noncomputable def jD:List PV->OE:=fnP 1 4 xf
noncomputable def uW:ah -> OS:=
    (b0 (aX cF (aq (aX jD (aq (yS (ak 0) (oB (mOp bR (mOp cC (ak 3) (mC (.int 1))) (mC (.int 1)))) (oB (mOp lZ (mOp cC (ak 3) (mC (.int 2))) (mC (.int 1))))) aL)) aL)))
noncomputable def uE:ah -> OS:=
    (aA (bj (aE (mOp y0 (mOp cC (ak 3) (mC (.int 0))) (gq (aq (mC (.str "text")) (aq (mC (.str "name")) aL)))))
    vq
    aT)
    uW)
noncomputable def zD:ah -> OS:=
    (aA (aN 3 (mOp cV (ak 1) (ak 2)))
    uE)
noncomputable def j7:List PV->OE:=fnP 3 4 zD
noncomputable def jO:ah -> OS:=
    (bj (aE (mOp ot (aX j7 (aq (ak 0) (aq (ak 1) (aq (ak 4) aL)))) (mUn ia (ak 3))))
    (b0 (mOp bR (ak 4) (mC (.int 1))))
    aT)
noncomputable def qe:ah -> OS:=
    (aA (bj (aE (mOp ot (mOp cC (mOp cV (ak 1) (ak 2)) (mC (.int 0))) (mC (.str "fields"))))
    (mK 4 (aX iL (aq (ak 1) (aq (ak 2) aL)))
    jO)
    aT)
    (vT "NoNode" (aq (mC (.str "no member of this name")) aL)))
noncomputable def fu:List PV->OE:=fnP 4 5 qe
noncomputable def jU:ah -> OS:=
    (dB 4)
noncomputable def jJ:ah -> OS:=
    (aA (D4 (aN 4 (aX fu (aq (ak 0) (aq (ak 1) (aq (ak 2) (aq (ak 3) aL)))))) g8
    (aN 4 (mUn eM (mC (.int 2)))))
    jU)
noncomputable def lz:ah -> OS:=
    (aA (aN 4 (mUn eM (mC (.int 1))))
    jJ)
noncomputable def cQ:List PV->OE:=fnP 4 5 lz
noncomputable def rf:ah -> OS:=
    (b0 (uK (mIs "int" (ak 0)) (BL (mIs "bool" (ak 0)))))
noncomputable def dm:List PV->OE:=fnP 1 1 rf
noncomputable def jL:ah -> OE:=
    (aX dm (aq (ak 0) aL))
noncomputable def pJ:ah -> OS:=
    (b0 (uK (mIs "list" (ak 0)) (mUn Gv (qD (ak 0) [] jL))))
noncomputable def eK:List PV->OE:=fnP 1 1 pJ
noncomputable def Df:ah -> OS:=
    (b0 (mUn kn (aX iL (aq (ak 0) (aq (ak 1) aL)))))
noncomputable def mY:List PV->OE:=fnP 2 2 Df
noncomputable def dq:ah -> OS:=
    (bj (dJ (aE (mOp gLt (ak 6) (ak 2))) (dJ (aE (mOp gIn (mOp cC (mOp cV (ak 1) (ak 6)) (mC (.int 0))) (gq (aq (mC (.str "row")) (aq (mC (.str "fields")) aL))))) (aE (mOp gGt (mOp cC (mOp cV (ak 1) (ak 6)) (mC (.int 3))) (ak 2)))))
    (cL 3 (ak 6))
    aT)
noncomputable def ez:ah -> OT:=
    (aE (mOp gLt (ak 10) (mOp cC (mOp cV (ak 1) (ak 7)) (mC (.int 3)))))
noncomputable def bZ:ah -> OS:=
    (aA (aN 11 (mOp bR (ak 10) (mUn kT (mOp gEq (mOp cC (mOp cV (ak 1) (ak 7)) (mC (.int 0))) (mC (.str "fields"))))))
    (aA (bj (aE (mOp gEq (ak 11) (ak 8)))
    (aA (aN 12 (mOp cC (mOp cC (mOp cV (ak 5) (mC (.int 0))) (mC (.int 1))) (ak 9)))
    (aN 5 (cN (aq (jF (aE (mOp gEq (mOp cC (mOp cV (ak 1) (ak 7)) (mC (.int 0))) (mC (.str "fields")))) (mOp cC (ak 12) (mC (.int 1))) (ak 12)) aL))))
    aT)
    (aA (aN 10 (mOp cC (mOp cV (ak 1) (ak 10)) (mC (.int 3))))
    (aN 9 (mOp bR (ak 9) (mC (.int 1)))))))
noncomputable def fR:ah -> OS:=
    (aA (aN 7 (mOp cV (ak 3) (ak 6)))
    (aA (aN 8 (jF (aE (mOp gLt (mOp bR (ak 6) (mC (.int 1))) (mUn kn (ak 3)))) (mOp cV (ak 3) (mOp bR (ak 6) (mC (.int 1)))) (ak 4)))
    (aA (aN 9 (mC (.int 0)))
    (aA (aN 10 (mOp bR (ak 7) (mC (.int 1))))
    (cu ez
    bZ fuel)))))
noncomputable def kY:ah -> OS:=
    (b0 (mOp cV (ak 5) (mC (.int 0))))
noncomputable def kQ:ah -> OS:=
    (aA (oJ 6 (mUn kn (ak 3))
    fR)
    kY)
noncomputable def lb:ah -> OS:=
    (aA (oJ 6 (mUn kn (ak 1))
    dq)
    kQ)
noncomputable def kW:ah -> OS:=
    (aA (aN 5 (cN (aq (ak 0) aL)))
    lb)
noncomputable def lj:ah -> OS:=
    (aA (aN 4 (ak 2))
    kW)
noncomputable def mR:ah -> OS:=
    (aA (aN 3 (cN aL))
    lj)
noncomputable def cT:List PV->OE:=fnP 3 13 mR
noncomputable def sA:ah -> OE:=
    (ak 2)
noncomputable def vF:ah -> OE:=
    (ak 2)
noncomputable def wD:ah -> OT:=
    (aE (mOp gGt (mOp cC (mOp cV (ak 0) (ak 2)) (mC (.int 3))) (ak 1)))
noncomputable def so:ah -> OT:=
    (oM (cO (iE (mOp bR (ak 1) (mC (.int 1))) (ak 2) [0,2] wD vF)))
noncomputable def rS:ah -> OS:=
    (bj (aE (mOp ot (mOp cC (mOp cC (ak 10) (ak 11)) (mC (.int 0))) (ak 9)))
    (aN 7 (mOp bR (mOp cV (ak 4) (ak 11)) (mC (.int 1))))
    aT)
noncomputable def yf:ah -> OS:=
    (b0 (uK (aX dm (aq (ak 8) aL)) (uK (mOp gEq (ak 8) (ak 7)) (mOp ot (ak 2) (mOp cC (ak 1) (mC (.int 1)))))))
noncomputable def sN:ah -> OS:=
    (aA (cK 2 (aN 8 (aX cQ (aq (mOp cC (ak 1) (mC (.int 0))) (aq (ak 2) (aq (ak 3) (aq (mOp cV (cN (aq (ak 9) (aq (mUn ia (ak 9)) aL))) (mOp bM (aX bN (aq (ak 0) (aq (mC (.int 54)) aL))) (mC (.int 2)))) aL)))))))
    yf)
noncomputable def xb:ah -> OS:=
    (aA (bj (aE (mOp ot (mOp cC (mOp cV (ak 2) (ak 3)) (mC (.int 0))) (mC (.str "fields"))))
    (aA (cK 2 (aN 10 (mOp cC (aX cT (aq (mOp cC (ak 1) (mC (.int 2))) (aq (ak 2) (aq (ak 3) aL)))) (mC (.int 1)))))
    (aA (bj (dJ (cO (ak 4)) (aE (mOp gEq (mOp bM (aX bN (aq (ak 0) (aq (mC (.int 56)) aL))) (mC (.int 3))) (mC (.int 0)))))
    (aN 9 (mOp cC (mOp cC (ak 10) (mOp bM (aX bN (aq (ak 0) (aq (mC (.int 55)) aL))) (mUn kn (ak 4)))) (mC (.int 0))))
    aT)
    (B9 11 (mOp lZ (mUn kn (ak 10)) (mC (.int 1)))
    rS)))
    aT)
    sN)
noncomputable def wW:ah -> OS:=
    (aA (aN 7 (mUn eM (mC (.int 2))))
    xb)
noncomputable def xV:ah -> OS:=
    (aA (aN 9 (gq (aq (mOp bR (mC (.int 97)) (mOp bM (aX bN (aq (ak 0) (aq (mC (.int 57)) aL))) (mC (.int 4)))) aL)))
    wW)
noncomputable def xP:ah -> OS:=
    (aA (bj (pH (oM (cO (aX dm (aq (ak 8) aL)))) (aE (mOp gNe (ak 8) (ak 7))))
    (b0 (mC (.bl false)))
    aT)
    xV)
noncomputable def ye:ah -> OS:=
    (aA (cK 2 (aN 8 (aX dP (aq (ak 2) (aq (ak 3) (aq (ak 6) aL))))))
    xP)
noncomputable def xl:ah -> OS:=
    (aA (bj (aE (g9 gLe gLt (mC (.int 0)) (ak 6) (mUn kn (ak 4))))
    (aN 7 (mOp bR (mOp cV (ak 4) (ak 6)) (mUn kT (mOp ot (mOp cC (mOp cV (ak 2) (ak 3)) (mC (.int 0))) (mC (.str "fields"))))))
    aT)
    ye)
noncomputable def Ac:ah -> OS:=
    (aA (aN 7 (mUn eM (mC (.int 2))))
    xl)
noncomputable def zz:ah -> OS:=
    (aA (aN 6 (mOp lZ (mOp bM (aX bN (aq (ak 0) (aq (mC (.int 58)) aL))) (mOp bR (mUn kn (ak 4)) (mC (.int 4)))) (mC (.int 2))))
    Ac)
noncomputable def zA:ah -> OS:=
    (aA (cK 2 (cK 5 (bj (pH (oM (cO (aX eK (aq (ak 5) aL)))) (pH (aE (mOp BC (ak 5) (ak 4))) (pH (aE (mOp gNe (aX mY (aq (ak 2) (aq (ak 3) aL))) (mUn kn (ak 4)))) (oM (cO (aX dm (aq (aX mY (aq (ak 2) (aq (ak 3) aL))) aL)))))))
    (b0 (mC (.bl false)))
    aT)))
    zz)
noncomputable def zK:ah -> OS:=
    (aA (cK 2 (aN 5 (aX iL (aq (ak 2) (aq (ak 3) aL)))))
    zA)
noncomputable def zJ:ah -> OS:=
    (aA (bj (aE (mOp gIn (mOp cC (mOp cV (ak 2) (ak 3)) (mC (.int 0))) (gq (aq (mC (.str "row")) (aq (mC (.str "fields")) aL)))))
    (aN 4 (iE (mOp bR (ak 3) (mC (.int 1))) (mOp cC (mOp cV (ak 2) (ak 3)) (mC (.int 3))) [2,3] so sA))
    aT)
    zK)
noncomputable def Ab:ah -> OS:=
    (aA (aN 4 (cN aL))
    zJ)
noncomputable def An:ah -> OS:=
    (aA (bj (aE (mOp gEq (mOp bM (aX bN (aq (ak 0) (aq (mC (.int 59)) aL))) (mC (.int 3))) (mC (.int 0))))
    (aN 3 (mC (.int 0)))
    aT)
    Ab)
noncomputable def Af:ah -> OS:=
    (aA (aN 3 (mOp bM (aX bN (aq (ak 0) (aq (mC (.int 60)) aL))) (mUn kn (ak 2))))
    An)
noncomputable def zW:ah -> OS:=
    (aA (aN 2 (mUn ia (mOp cC (ak 1) (mC (.int 1)))))
    Af)
noncomputable def Fz:ah -> OS:=
    (aA (aN 1 (aX fJ (aq (ak 0) (aq (mOp bR (mC (.int 2)) (mOp bM (aX bN (aq (ak 0) (aq (mC (.int 62)) aL))) (mC (.int 10)))) aL))))
    zW)
noncomputable def u2:List PV->OE:=fnP 1 12 Fz
theorem mB(ns:List Int)(k:Int):gK [.lst (ns.map .int),.int k]=.ok (.sh (.int (PG.cell ns k))):=by
 unfold gK t9 PG.cell
 cases ns with
 |nil=>simp
 | cons n r=>
   have hp:(0:Int)<(r.length:Int)+1:=by omega
   have hm:0<=k%((r.length:Int)+1):=Int.emod_nonneg _ (by omega)
   have hm2:k%((r.length:Int)+1)<(r.length:Int)+1:=Int.emod_lt_of_pos _ hp
   have hi:(k%((r.length:Int)+1)).toNat<(n ::r).length:=by rw[List.length_cons];omega
   have ha:atP (PV.int n ::r.map .int) (k%((r.length:Int)+1))=some (.int ((n ::r).getD (k%((r.length:Int)+1)).toNat 0)):=by
    rw[Dd _ _ hm]
    have:(PV.int n ::r.map .int)=(n ::r).map .int:=rfl
    rw[this,List.getElem?_map,List.getElem?_eq_getElem hi,List.getD_eq_getElem?_getD,List.getElem?_eq_getElem hi];rfl
   simp[hp,ha]
theorem bp(ns:List Int)(k:Int):bN [.lst (ns.map .int),.int k]=.ok (.sh (.int (PG.mix ns k))):=by
 unfold PG.mix;simp[q9,rE,u6,bN,mB]
theorem dj(n:Int):dm [.int n]=.ok (.sh (.bl true)):=by
 unfold dm rf;simp
theorem kh(n:Int):cH [.int n]=.ok (.sh (.int (PG.point n))):=by
 unfold PG.point
 have ha:atP [PV.int 34,.int 92,.int 47,.int 8,.int 12,.int 10,.int 13,.int 9,.int 0,.int 31,.int 127] (n/8%11)=some (.int (PG.menu.getD (n/8%11).toNat 0)):=by
  have h0:0<=n/8%11:=by omega
  have hi:(n/8%11).toNat<PG.menu.length:=by show _<11;omega
  rw[Dd _ _ h0]
  show(PG.menu.map PV.int)[_]?=_
  rw[List.getElem?_map,List.getD_eq_getElem?_getD,List.getElem?_eq_getElem hi];rfl
 by_cases h1:n%8<2
 . simp[dQ,dO,dX,dS,dW,dR,dU,fI,cH,h1]
 . by_cases h2:n%8<4
   . simp[dQ,dO,dX,dS,dW,dR,dU,fI,cH,h1,h2,ha]
   . by_cases h3:n%8=4
     . simp[dQ,dO,dX,dS,dW,dR,dU,fI,cH,h3]
     . by_cases h4:n%8=5
       . simp[dQ,dO,dX,dS,dW,dR,dU,fI,cH,h4]
       . by_cases h5:n%8=6
         . simp[dQ,dO,dX,dS,dW,dR,dU,fI,cH,h5]
         . simp[dQ,dO,dX,dS,dW,dR,dU,fI,cH,h1,h2,h3,h4,h5]
theorem fV(ns:List Int)(k:Int):de [.lst (ns.map .int),.int k]=.ok (.fr ((PG.points ns k).map .int)):=by
 have hs:=xF ns k;have hm:=yJ ns k
 have el:∀ m:Nat,cS jC [some (.sh (.lst (ns.map .int))),some (.sh (.int k))] (cz m) =
   .ok ((List.range m).map fun j:Nat=>.int (PG.point (PG.mix ns (k+1+(j:Int))))):=fun m=>by
  unfold cz
  refine jy _ fun j _=>?_
  simp[jC,bp,kh]
 have hp:(PG.points ns k).map PV.int=(List.range (sF ns k).toNat).map fun j:Nat=>.int (PG.point (PG.mix ns (k+1+(j:Int)))):=by
  unfold PG.points;rw[List.map_map];rfl
 rw[hp]
 have hl:(sF ns k).toNat<=lim:=fe (by omega)
 unfold sF at hs hl ⊢
 by_cases h3:PG.mix ns k/5%8=3
 . rw[if_pos h3]at hs hl ⊢
   have h1:-4611686018427387904<=PG.mix ns k/40%14 /\ PG.mix ns k/40%14<4611686018427387904:=by omega
   simp[de,lO,jE,jP,jN,bp,h3,cp,el,h1];unfold lim;omega
 . rw[if_neg h3]at hs hl ⊢
   have h1:-4611686018427387904<=PG.mix ns k%5 /\ PG.mix ns k%5<4611686018427387904:=by omega
   simp[de,lO,jE,jP,jN,bp,h3,cp,el,h1];unfold lim;omega
theorem jX(n:Int)(h:eB n=true):dn [.int n]=.ok (.fr ((aZ n).map .int)):=by
 have hn:0<=n:=by
  unfold eB at h;simp only[Bool.or_eq_true,Bool.and_eq_true,decide_eq_true_eq]at h;omega
 unfold aZ
 by_cases h1:n<128
 . simp[gj,gn,gm,gi,gw,i5,dn,h1]
 . by_cases h2:n<2048
   . have g2:¬ 2048<=n:=by omega
     have g3:¬ 65536<=n:=by omega
     simp[gj,gn,gm,gi,gw,i5,dn,h1,h2,g2,g3,cz,List.range_succ]
   . by_cases h3:n<65536
     . have g2:2048<=n:=by omega
       have g3:¬ 65536<=n:=by omega
       have e1:n/64/64=n/4096:=by omega
       simp[gj,gn,gm,gi,gw,i5,dn,h1,h2,h3,g2,g3,cz,List.range_succ,e1]
     . have g2:2048<=n:=by omega
       have g3:65536<=n:=by omega
       have e1:n/64/64=n/4096:=by omega
       have e2:n/4096/64=n/262144:=by omega
       simp[gj,gn,gm,gi,gw,i5,dn,h1,h2,h3,g2,g3,cz,List.range_succ,e1,e2]
noncomputable def fgB(big:Bool)(w:Int):Int:=if w<10 then 48+w else(if big then 55 else 87)+w
noncomputable def zp(n:Int)(big:Bool):Sg:=.hx (fgB big (n/16/16/16%16)) (fgB big (n/16/16%16)) (fgB big (n/16%16)) (fgB big (n%16))
noncomputable def rP:List (Int×Int):=[(34,34),(92,92),(47,47),(8,98),(12,102),(10,110),(13,114),(9,116)]
noncomputable def Ej(n m:Int)(b1 b2:Bool):Sg:=.pr (fgB b1 (n/16/16/16%16)) (fgB b1 (n/16/16%16)) (fgB b1 (n/16%16)) (fgB b1 (n%16)) (fgB b2 (m/16/16/16%16)) (fgB b2 (m/16/16%16)) (fgB b2 (m/16%16)) (fgB b2 (m%16))
noncomputable def oA(p n:Int):Sg:=
 if n%5=0 /\ (rP.lookup p).isSome=true then .sh ((rP.lookup p).getD 0) p
 else if 1<n%5 /\ 32<=p /\ p≠34 /\ p≠92 then .pl p
 else if p<65536 then zp p (decide (n%5=1))
 else Ej (55296+(p - 65536)/1024) (56320+(p - 65536)%1024) (decide (n%5=1)) (decide (n%5=0))
theorem pQ(big:Bool){w:Int}(h:0<=w /\ w<16):dr (fgB big w)=some w:=by
 unfold fgB dr
 by_cases h1:w<10
 . rw[if_pos h1,if_pos (by omega)];congr 1;omega
 . cases big
   . simp only[h1,if_false,Bool.false_eq_true];rw[if_neg (by omega),if_neg (by omega),if_pos (by omega)];congr 1;omega
   . simp only[h1,if_false,if_true];rw[if_neg (by omega),if_pos (by omega)];congr 1;omega
theorem uN{p:Int}(h:(rP.lookup p).isSome=true):((rP.lookup p).getD 0,p)∈shP:=by
 unfold rP at h ⊢
 simp only[List.lookup]at h ⊢
 repeat' split
 all_goals first
  |(rename_i e;have e':=eq_of_beq e;subst e';decide)
  |(simp_all;done)
theorem pZ(n:Int)(big:Bool)(h:0<=n /\ n<65536):(dr (fgB big (n/16/16/16%16))=some (n/16/16/16%16) /\ dr (fgB big (n/16/16%16))=some (n/16/16%16) /\ dr (fgB big (n/16%16))=some (n/16%16) /\ dr (fgB big (n%16))=some (n%16)) /\
  cod (fgB big (n/16/16/16%16)) (fgB big (n/16/16%16)) (fgB big (n/16%16)) (fgB big (n%16))=n:=by
 have e1:=pQ big (w:=n/16/16/16%16) (by omega);have e2:=pQ big (w:=n/16/16%16) (by omega);have e3:=pQ big (w:=n/16%16) (by omega);have e4:=pQ big (w:=n%16) (by omega)
 refine⟨⟨e1,e2,e3,e4⟩,?_⟩
 simp only[cod,gU e1,gU e2,gU e3,gU e4];omega
theorem qb(p n:Int)(h:eB p=true):Sok (oA p n) /\ qN (oA p n)=p:=by
 have hr:=jT h
 have hs:p<55296 \/ 57343<p:=by
  unfold eB at h;simp only[Bool.or_eq_true,Bool.and_eq_true,decide_eq_true_eq]at h;omega
 unfold oA;split
 . rename_i c;exact⟨uN c.2,rfl⟩
 . split
   . rename_i c;exact⟨⟨h,c.2.1,c.2.2.1,c.2.2.2⟩,rfl⟩
   . split
     . rename_i c;obtain⟨⟨e1,e2,e3,e4⟩,ec⟩:=pZ p (decide (n%5=1)) (by omega)
       exact⟨⟨by rw[e1];rfl,by rw[e2];rfl,by rw[e3];rfl,by rw[e4];rfl,by rw[ec];omega⟩,ec⟩
     . rename_i c;obtain⟨⟨e1,e2,e3,e4⟩,ec⟩:=pZ (55296+(p - 65536)/1024) (decide (n%5=1)) (by omega);obtain⟨⟨f1,f2,f3,f4⟩,fc⟩:=pZ (56320+(p - 65536)%1024) (decide (n%5=0)) (by omega)
       have g1:(55296+(p - 65536)/1024)/16/16/16%16=13:=by omega
       have g2:(56320+(p - 65536)%1024)/16/16/16%16=13:=by omega
       refine⟨⟨⟨by rw[e1,g1],by rw[gU e2];omega,by rw[gU e2];omega,by rw[e2];rfl,by rw[e3];rfl,by rw[e4];rfl⟩,by rw[f1,g2],by rw[gU f2];omega,by rw[f2];rfl,by rw[f3];rfl,by rw[f4];rfl⟩,?_⟩
       show 65536+1024*(cod _ _ _ _ - 55296)+cod _ _ _ _ - 56320=p;rw[ec,fc];omega
noncomputable def x5(n:Int)(big:Bool):List Int:=[92,117,fgB big (n/16/16/16%16),fgB big (n/16/16%16),fgB big (n/16%16),fgB big (n%16)]
theorem p6(n:Int)(big:Bool)(found:List Int)(k:Int)(x:Option Sl)(hl:found.length<=10):kf [some (.sh (.int n)),some (.sh (.bl big)),some (.ow (found.map .int)),some (.sh (.int k)),x]=.nx [some (.sh (.int (n/16))),some (.sh (.bl big)),some (.ow ((fgB big (n%16) ::found).map .int)),some (.sh (.int k)),some (.sh (.int (n%16)))]:=by
 have hlim:1+found.length<=lim:=fe (by omega)
 unfold fgB
 by_cases h:n%16<10
 . simp -implicitDefEqProofs [kf,h,hlim]
 . cases big<;>simp -implicitDefEqProofs [kf,h,hlim]
theorem iA(n:Int)(big:Bool):fS [.int n,.bl big]=.ok (.fr ((x5 n big).map .int)):=by
 have h1:=p6 n big [] 0 none (by simp);have h2:=p6 (n/16) big [fgB big (n%16)] 1 (some (.sh (.int (n%16)))) (by simp);have h3:=p6 (n/16/16) big [fgB big (n/16%16),fgB big (n%16)] 2 (some (.sh (.int (n/16%16)))) (by simp);have h4:=p6 (n/16/16/16) big [fgB big (n/16/16%16),fgB big (n/16%16),fgB big (n%16)] 3 (some (.sh (.int (n/16/16%16)))) (by simp);simp only[List.map_cons,List.map_nil]at h1 h2 h3 h4
 have hr:cz 4=[.int 0,.int 1,.int 2,.int 3]:=rfl
 have hb:(-4611686018427387904:Int)<=4 /\ (4:Int)<4611686018427387904:=by omega
 simp -implicitDefEqProofs [rp,rq,uQ,fS,hr,h1,h2,h3,h4,x5]
theorem pw(n:Int)(big:Bool)(h:0<=n /\ n<65536):nh (zp n big)=x5 n big:=by
 obtain⟨⟨e1,e2,e3,e4⟩,_⟩:=pZ n big h;obtain⟨g1,g2,g3,g4⟩:=si (by rw[e1];rfl) (by rw[e2];rfl) (by rw[e3];rfl) (by rw[e4];rfl);show aZ 92++(aZ 117++(aZ _++(aZ _++(aZ _++(aZ _++[])))))=_;rw[g1,g2,g3,g4];rfl
theorem Aq(n m:Int)(b1 b2:Bool)(h:0<=n /\ n<65536)(h':0<=m /\ m<65536):nh (Ej n m b1 b2)=x5 n b1++x5 m b2:=by
 rw[<- pw n b1 h,<- pw m b2 h']
 show([92,117,_,_,_,_,92,117,_,_,_,_]:List Int).flatMap aZ=([92,117,_,_,_,_]:List Int).flatMap aZ++([92,117,_,_,_,_]:List Int).flatMap aZ
 rw[<- List.flatMap_append];rfl
theorem lU(p n:Int)(h:eB p=true):gH [.int p,.int n]=.ok (.fr ((nh (oA p n)).map .int)):=by
 have hr:=jT h;have h8:=jX p h
 have hl:(rP.map fun p=>(p.1,PV.int p.2)).lookup p=(rP.lookup p).map .int:=by
  unfold rP;simp only[List.map,List.lookup]
  repeat' split
  all_goals rfl
 obtain⟨kv,hkv⟩:∃ kv,kv=rP.map fun p=>(p.1,PV.int p.2):=⟨_,rfl⟩
 rw[<- hkv]at hl
 have hset:oQ 2 (Hg [(34,34),(92,92),(47,47),(8,98),(12,102),(10,110),(13,114),(9,116)]) [some (.sh (.int p)),some (.sh (.int n)),none,none,none]=.nx [some (.sh (.int p)),some (.sh (.int n)),some (.tr false (.di kv)),none,none]:=by rw[hkv];rfl
 have hi:∀ a b c d,subAt 2 aI [a,b,some (.tr false (.di kv)),c,d]=some (.di kv):=fun a b c d=>by simp[subAt,gb,slT,aI]
 clear hkv
 have e1:fin (ig [some (.sh (.int p)),some (.sh (.int n)),some (.tr false (.di kv)),none,none])=.ok (.fr ((nh (oA p n)).map .int)):=by
  unfold oA
  by_cases c1:n%5=0 /\ (rP.lookup p).isSome=true
  . rw[if_pos c1];obtain⟨c,hc⟩:=Option.isSome_iff_exists.mp c1.2;have hm:=uN c1.2
    rw[hc]at hm hl ⊢
    have hby:nh (.sh c p)=[92,c]:=by
     simp only[Option.getD_some,shP,List.mem_cons,Prod.mk.injEq,List.not_mem_nil,or_false]at hm
     rcases hm with h|h|h|h|h|h|h|h<;>(obtain⟨rfl,rfl⟩:=h;rfl)
    simp only[Option.map_some]at hl;simp -implicitDefEqProofs [ig,lX,c1.1,xp,Am,hi,hl,hby]
  . rw[if_neg c1]
    have hg1:∀ x,dJ (aE (mOp gEq (ak 3) (mC (.int 0)))) (aE (xp false (ak 0) 2 aI)) [some (.sh (.int p)),some (.sh (.int n)),some (.tr false (.di kv)),some (.sh (.int (n%5))),x]=.ok false:=fun x=>by
     by_cases z:n%5=0
     . have:rP.lookup p = none:=by
        cases e:rP.lookup p with
        |none=>rfl
        |some c=>exact absurd ⟨z,by rw[e];rfl⟩ c1
       rw[this]at hl;simp only[Option.map_none]at hl;simp -implicitDefEqProofs [z,xp,hi,hl]
     . simp -implicitDefEqProofs [z]
    have e2:fin (dI [some (.sh (.int p)),some (.sh (.int n)),some (.tr false (.di kv)),some (.sh (.int (n % 5))),none]) = .ok (.fr ((nh (if 1 < n % 5 /\ 32 <= p /\ p ≠ 34 /\ p ≠ 92 then .pl p
          else if p<65536 then zp p (decide (n%5=1))else Ej (55296+(p - 65536)/1024) (56320+(p - 65536)%1024) (decide (n%5=1)) (decide (n%5=0)))).map .int)):=by
     have e3:fin (jo [some (.sh (.int p)),some (.sh (.int n)),some (.tr false (.di kv)),some (.sh (.int (n%5))),none])=.ok (.fr ((nh (if p<65536 then zp p (decide (n%5=1))else Ej (55296+(p - 65536)/1024) (56320+(p - 65536)%1024) (decide (n%5=1)) (decide (n%5=0)))).map .int)):=by
      by_cases c3:p<65536
      . rw[if_pos c3,pw p _ (by omega)];simp -implicitDefEqProofs [jo,c3,iA]
      . rw[if_neg c3,Aq _ _ _ _ (by omega) (by omega)]
        have hlim:(x5 (55296+(p - 65536)/1024) (decide (n%5=1))).length+(x5 (56320+(p - 65536)%1024) (decide (n%5=0))).length<=lim:=by simp[x5]
        simp -implicitDefEqProofs [jo,c3,qm,pW,iA,hlim]
     by_cases d1:1<n%5
     . by_cases d2:32<=p
       . by_cases d3:p=34
         . rw[if_neg (fun z=>z.2.2.1 d3)];simp -implicitDefEqProofs [dI,d1,d2,d3]
           simpa [d3]using e3
         . by_cases d4:p=92
           . rw[if_neg (fun z=>z.2.2.2 d4)];simp -implicitDefEqProofs [dI,d1,d2,d3,d4]
             simpa [d4]using e3
           . rw[if_pos ⟨d1,d2,d3,d4⟩]
             have hb:nh (.pl p)=aZ p:=by show aZ p++[]=_;simp
             rw[hb];simp -implicitDefEqProofs [dI,d1,d2,d3,d4,h8]
       . rw[if_neg (fun z=>d2 z.2.1)];simp -implicitDefEqProofs [dI,d1,d2];exact e3
     . rw[if_neg (fun z=>d1 z.1)];simp -implicitDefEqProofs [dI,d1];exact e3
    have hs:ig [some (.sh (.int p)),some (.sh (.int n)),some (.tr false (.di kv)),none,none]=dI [some (.sh (.int p)),some (.sh (.int n)),some (.tr false (.di kv)),some (.sh (.int (n%5))),none]:=by
     have h3:aN 3 (mOp bM (ak 1) (mC (.int 5))) [some (.sh (.int p)),some (.sh (.int n)),some (.tr false (.di kv)),none,none]=.nx [some (.sh (.int p)),some (.sh (.int n)),some (.tr false (.di kv)),some (.sh (.int (n%5))),none]:=by simp -implicitDefEqProofs
     simp only[ig,qF,h3,mI,lX,BS,hg1,gJ,Bool.false_eq_true,if_false,DG]
    rw[hs];exact e2
 simp -implicitDefEqProofs only[gH,sG,zT,qt,List.map_cons,List.map_nil,List.length_cons,List.length_nil,List.replicate,List.cons_append,List.nil_append,qF,hset,mI]
 exact e1
noncomputable def lts:List Int->Int->Nat->List Sg
 |[],_,_=>[]
 |p ::l,n,k=>oA p (n/(1+(k:Int)%7)+k) ::lts l n (k+1)
theorem Cz(l:List Int):∀ n k,l.all eB=true->(lts l n k).map qN=l:=by
 induction l with
 |nil=>intro n k _;rfl
 | cons p l ih=>
   intro n k h;simp only[List.all_cons,Bool.and_eq_true]at h;simp only[lts,List.map_cons,ih n (k+1) h.2,(qb p _ h.1).2]
theorem C2(l:List Int):∀ n k,l.all eB=true->∀ s∈lts l n k,Sok s:=by
 induction l with
 |nil=>intro n k _ s hs;cases hs
 | cons p l ih=>
   intro n k h s hs;simp only[List.all_cons,Bool.and_eq_true]at h
   rcases List.mem_cons.mp hs with z|z
   . subst z;exact(qb p _ h.1).1
   . exact ih n (k+1) h.2 s z
theorem CM(s:Sg)(h:Sok s):(nh s).length<=12:=by
 cases s with
 | pl p=>
   show(aZ p++[]).length<=12
   rw[List.append_nil];unfold aZ
   repeat' split
   all_goals simp
 | sh c p=>
   simp only[Sok,shP,List.mem_cons,Prod.mk.injEq,List.not_mem_nil,or_false]at h
   rcases h with h|h|h|h|h|h|h|h<;>(obtain⟨rfl,rfl⟩:=h;decide)
 | hx a b c d=>
   obtain⟨ha,hb,hc,hd,_⟩:=h;obtain⟨e1,e2,e3,e4⟩:=si ha hb hc hd
   show(aZ 92++(aZ 117++(aZ a++(aZ b++(aZ c++(aZ d++[])))))).length<=12
   rw[e1,e2,e3,e4,show aZ 92=[92] from rfl,show aZ 117=[117] from rfl];simp
 | pr a b c d e f g h'=>
   obtain⟨⟨f1,_,_,hb,hcc,hd⟩,f5,_,hf,hg,hh⟩:=h;obtain⟨e1,e2,e3,e4⟩:=si (by rw[f1];rfl) hb hcc hd;obtain⟨e5,e6,e7,e8⟩:=si (by rw[f5];rfl) hf hg hh
   show(aZ 92++(aZ 117++(aZ a++(aZ b++(aZ c++(aZ d++(aZ 92++(aZ 117++(aZ e++(aZ f++(aZ g++(aZ h'++[])))))))))))).length<=12
   rw[e1,e2,e3,e4,e5,e6,e7,e8,show aZ 92=[92] from rfl,show aZ 117=[117] from rfl];simp
theorem Bf(l:List Int)(n:Int)(a:Option Sl):∀(k:Nat) (found:List Int) (x:Option Sl),l.all eB=true->found.length+12*l.length<=100000->∃ x',dZ 4 jq (l.map .int) [a,some (.sh (.int n)),some (.ow (found.map .int)),some (.sh (.int (k:Int))),x]=.nx [a,some (.sh (.int n)),some (.ow ((found++PG.inner (lts l n k)).map .int)),some (.sh (.int ((k+l.length:Nat):Int))),x']:=by
 induction l with
 |nil=>intro k found x _ _;exact⟨x,by simp[lts,PG.inner]⟩
 | cons p l ih=>
   intro k found x hp hl;simp only[List.all_cons,Bool.and_eq_true]at hp;simp only[List.length_cons]at hl;have hs:=lU p (n/(1+(k:Int)%7)+k) hp.1;have h12:=CM _ (qb p (n/(1+(k:Int)%7)+k) hp.1).1
   have hlim:found.length+(nh (oA p (n/(1+(k:Int)%7)+k))).length<=lim:=fe (by omega)
   obtain⟨x',h⟩:=ih (k+1) (found++nh (oA p (n/(1+(k:Int)%7)+k))) (some (.sh (.int p))) hp.2 (by simp;omega)
   refine⟨x',?_⟩
   have hd:(0:Int)<1+(k:Int)%7:=by omega
   have hd2:1+(k:Int)%7<1073741824:=by omega
   have ht:jq [a,some (.sh (.int n)),some (.ow (found.map .int)),some (.sh (.int (k:Int))),some (.sh (.int p))]=.nx [a,some (.sh (.int n)),some (.ow ((found++nh (oA p (n/(1+(k:Int)%7)+k))).map .int)),some (.sh (.int ((k+1:Nat):Int))),some (.sh (.int p))]:=by
    simp -implicitDefEqProofs [jq,hd,hd2,hs,hlim]
   rw[List.map_cons,dv];simp only[List.set_cons_succ,List.set_cons_zero,ht,dG,h]
   have e:k+1+l.length=k+(l.length+1):=by omega
   simp[lts,PG.inner,e]
theorem zO(l:List Int):∀ n k,(PG.inner (lts l n k)).length<=12*l.length \/ l.all eB=false:=by
 induction l with
 |nil=>intro n k;left;simp[lts,PG.inner]
 | cons p l ih=>
   intro n k
   by_cases h1:eB p=true
   . rcases ih n (k+1)with h|h
     . left;have h12:=CM _ (qb p (n/(1+(k:Int)%7)+k) h1).1
       show(nh _++PG.inner (lts l n (k+1))).length<=_
       rw[List.length_append,List.length_cons];omega
     . right;simp[h]
   . right;simp[h1]
theorem iD(l:List Int)(n:Int)(h:l.all eB=true)(hl:l.length<=1000):eP [.lst (l.map .int),.int n]=.ok (.fr ((PG.txt (lts l n 0)).map .int)):=by
 obtain⟨x',h1⟩:=Bf l n (some (.sh (.lst (l.map .int)))) 0 [34] none h (by simp;omega)
 have hlen:(PG.inner (lts l n 0)).length<=12*l.length:=by
  rcases zO l n 0 with z|z
  . exact z
  . rw[h]at z;cases z
 have hlim:(PG.inner (lts l n 0)).length+1+1<=lim:=fe (by omega)
 simp only[List.map_cons,List.map_nil,Int.ofNat_zero,Int.cast_ofNat_Int]at h1
 simp -implicitDefEqProofs only[eP,sZ,zT,qt,List.map_cons,List.map_nil,List.length_cons,List.length_nil,List.replicate,List.cons_append,List.nil_append,qF]
 simp -implicitDefEqProofs [qj,p5,h1,pR,hlim,PG.txt]
noncomputable def low:Nat->Int->Int×Nat
 |0,n=>(n,0)
 |k+1,n=>if n%10=0 then((low k (n/10)).1,(low k (n/10)).2+1)else(n,0)
noncomputable def sv(s ds:List Int):Int:=if s=[45]then -cv ds else cv ds
noncomputable def exV:Option (Int×List Int×List Int)->Int
 |none=>0
 |some (_,s,ds)=>sv s ds
noncomputable def mwV(m:Nm):Int:=if m.neg then -cv (m.ip++m.fr)else cv (m.ip++m.fr)
noncomputable def dN(m:Nat):List Nat:=(Nat.toDigits 10 m).map Char.toNat
theorem DA(m:Nat):(Str.ofString (toString ((m:Nat):Int))).cps.toList=dN m:=by
 rw[Str.ofString_eq_toList]
 have:(toString ((m:Nat):Int)).toList=Nat.toDigits 10 m:=by
  show(Nat.repr m).toList=_
  simp[Nat.repr]
 rw[this];rfl
theorem CS(m:Nat):wt (Str.ofString (toString ((m:Nat):Int)))=(dN m).map fun c=>PV.str ⟨#[c]⟩:=by
 unfold wt;rw[DA]
theorem CP:∀ d:Nat,d<10->(Nat.digitChar d).toNat=48+d:=by decide
theorem sf(m:Nat):(dN m).map (fun c:Nat=>(c:Int))=ck m:=by
 induction m using Nat.strongRecOn with
 | _ m ih=>
   rw[ck]
   by_cases h:m<10
   . rw[if_pos h];unfold dN;rw[Nat.toDigits_of_lt_base h];simp[CP m h]
   . rw[if_neg h,<- ih (m/10) (by omega)];unfold dN;rw[Nat.toDigits_of_base_le (by decide) (by omega)];simp[CP (m%10) (by omega)]
theorem Gu(m:Nat):∀ c∈dN m,48<=c /\ c<=57:=by
 intro c hc
 have h1:(c:Int)∈ck m:=by rw[<- sf];exact List.mem_map.mpr ⟨c,hc,rfl⟩
 have:=xw m _ h1;unfold isF at this;omega
theorem Gs(m:Nat):(dN m).length=(ck m).length:=by rw[<- sf];simp
theorem ER(m:Nat)(h:m<100000):((m:Nat):Int).natAbs.log2<1920:=by
 have e:((m:Nat):Int).natAbs=m:=by omega
 rw[e]
 by_cases h0:m=0
 . subst h0;decide
 . have:=(Nat.log2_lt h0 (k:=17)).mpr (by omega);omega
theorem xo{me:ah->OE}{f:Nat->PV}(m:Nat)(h:m<100000)(hme:∀ c∈dN m,me ([]++[some (.sh (.str ⟨#[c]⟩))])=.ok (.sh (f c)))(ma:ah->OE)(ρ:ah)(ha:ma ρ=.ok (.sh (.int (m:Int)))):
  nJ (mUn nH ma) [] me ρ=.ok (.fr ((dN m).map f)):=by
 have h2:(dN m).length<=lim:=by
  rw[Gs];have:=nO 4 m (by omega);exact fe (by omega)
 have e1:(mUn nH ma) ρ=.ok (.sh (.str (Str.ofString (toString (m:Int))))):=by
  have:nH (.int m)=some (.sh (.str (Str.ofString (toString (m:Int))))):=if_pos (ER m h)
  simp[ha,this]
 have hel:cS me [] ((dN m).map fun c=>PV.str ⟨#[c]⟩)=.ok ((dN m).map f):=jy _ hme
 rw[Dv,e1];simp only[OE.bind,RV.pv,CS,cp,List.map_nil,hel];simp[noX,h2]
theorem JF(c:Nat)(h:48<=c /\ c<=57):ft ([]++[some (.sh (.str ⟨#[c]⟩))])=.ok (.sh (.int ((c:Int) - 48))):=by
 have:Ae (.str ⟨#[c]⟩)=some (.sh (.int ((c:Int) - 48))):=if_pos h
 simp[ft,this]
theorem Ij(c:Nat):eh ([]++[some (.sh (.str ⟨#[c]⟩))])=.ok (.sh (.int (c:Int))):=by
 have:CN (.str ⟨#[c]⟩)=some (.sh (.int ((⟨#[c]⟩:Str).cps.getD 0 0:Nat))):=rfl
 simp[eh,this]
noncomputable def ws(ds:List Int):List Int:=ds.map (· - 48)
theorem wl1(l:List Int):∀(w:Int) (a b c d x e f g:Option Sl),∃ x',dZ 5 eE (l.map .int) [a,b,c,d,some (.sh (.int w)),x,e,f,g]=.nx [a,b,c,d,some (.sh (.int (l.foldl (fun n d=>n*10+d) w))),x',e,f,g]:=by
 induction l with
 |nil=>intro w a b c d x e f g;exact⟨x,rfl⟩
 | cons y l ih=>
   intro w a b c d x e f g;obtain⟨x',h⟩:=ih (w*10+y) a b c d (some (.sh (.int y))) e f g
   refine⟨x',?_⟩
   have ht:eE [a,b,c,d,some (.sh (.int w)),some (.sh (.int y)),e,f,g]=.nx [a,b,c,d,some (.sh (.int (w*10+y))),some (.sh (.int y)),e,f,g]:=by simp -implicitDefEqProofs [eE]
   rw[List.map_cons,dv];simp only[List.set_cons_succ,List.set_cons_zero,ht,dG,h,List.foldl_cons]
theorem wl2(l:List Int):∀(row:List Int) (w p:Int) (a b c x f g:Option Sl),row.length+l.length<=1000->∃ x',dZ 5 fB (l.map .int) [a,b,c,some (.ow (row.map .int)),some (.sh (.int w)),x,some (.sh (.int p)),f,g]=.nx [a,b,c,some (.ow ((row++l.map (48+·)).map .int)),some (.sh (.int (l.foldl (fun n d=>n*10+d) w))),x',some (.sh (.int (p - l.length))),f,g]:=by
 induction l with
 |nil=>intro row w p a b c x f g _;exact⟨x,by simp⟩
 | cons y l ih=>
   intro row w p a b c x f g hl;simp only[List.length_cons]at hl;obtain⟨x',h⟩:=ih (row++[48+y]) (w*10+y) (p - 1) a b c (some (.sh (.int y))) f g (by simp;omega)
   refine⟨x',?_⟩
   have hlim:row.length<lim:=kB (by omega)
   have ht:fB [a,b,c,some (.ow (row.map .int)),some (.sh (.int w)),some (.sh (.int y)),some (.sh (.int p)),f,g]=.nx [a,b,c,some (.ow ((row++[48+y]).map .int)),some (.sh (.int (w*10+y))),some (.sh (.int y)),some (.sh (.int (p - 1))),f,g]:=by simp -implicitDefEqProofs [fB,hlim]
   rw[List.map_cons,dv];simp only[List.set_cons_succ,List.set_cons_zero,ht,dG,h,List.foldl_cons]
   have e1:p - 1 - (l.length:Int)=p - ((l.length:Int)+1):=by omega
   simp[e1]
theorem zG(ds:List Int):∀ w,(ws ds).foldl (fun n d=>n*10+d) w=ds.foldl (fun n d=>10*n+d - 48) w:=by
 induction ds with
 |nil=>intro w;rfl
 | cons d ds ih=>
   intro w
   simp only[ws,List.map_cons,List.foldl_cons]at ih ⊢
   have:w*10+(d - 48)=10*w+d - 48:=by omega
   rw[this];exact ih _
theorem G6(ds:List Int):(ws ds).map (48+·)=ds:=by
 unfold ws;rw[List.map_map]
 conv=>rhs;rw[<- List.map_id ds]
 refine List.map_congr_left fun x _=>?_
 show 48+(x - 48)=x;omega
theorem Cu(xs ys:List Int):cv (xs++ys)=ys.foldl (fun n d=>10*n+d - 48) (cv xs):=by
 unfold cv;rw[List.foldl_append]
noncomputable def bA(n:Int):List Int:=if n/17%3=1 then([48+n/19%10,48+n/23%4,48]:List Int).take (1+n/29%3).toNat else[]
noncomputable def eU(n:Int):Option (Int×List Int×List Int):=if n/31%3=1 then some (if n/41%2=0 then 101 else 69,if n/43%3=1 then[45]else if n/43%3=2 then[43]else[],(if n/47%4=1 then[48]else[])++ck (n/37%30).toNat)else none
noncomputable def dk(n:Int):Nm:=⟨decide (n%3=0),ck (n/3%100000).toNat,bA n,eU n⟩
theorem xt(n:Int):Nok (dk n) where
 ip:=by
  by_cases h:(n/3%100000).toNat=0
  . left;show ck _=_;rw[h,AH]
  . right;exact AE _ (by omega)
 fr:=fun b hb=>by
  have hb':b∈bA n:=hb
  unfold bA at hb';split at hb'
  . have:=List.mem_of_mem_take hb';simp at this;unfold isF;omega
  . cases hb'
 ex:=fun e s ds h=>by
  have h':eU n=some (e,s,ds):=h
  unfold eU at h';split at h'
  . injection h' with h'
    injection h' with h1 h'
    injection h' with h2 h3
    refine⟨?_,?_,?_,?_⟩
    . rw[<- h1];split<;>simp
    . rw[<- h2];split
      . simp
      . split<;>simp
    . rw[<- h3];intro z;exact Ef _ (List.append_eq_nil_iff.mp z).2
    . rw[<- h3];intro b hb
      rcases List.mem_append.mp hb with z|z
      . split at z
        . simp at z;subst z;decide
        . cases z
      . exact xw _ b z
  . cases h'
noncomputable abbrev nE(n:Int)(a b c d e f g:Option Sl):ah:=[some (.sh (.int n)),some (.sh (.bl (decide (n%3=0)))),a,b,c,d,e,f,g]
theorem wY(k:Nat):∀(n p:Int) (F:Nat),n≠0->n.natAbs<10 ^ k->k<F->cu gv iQ F [some (.sh (.int n)),some (.sh (.int p))]=.nx [some (.sh (.int (low k n).1)),some (.sh (.int (p+(low k n).2)))]:=by
 induction k with
 |zero=>intro n p F h0 h _;simp at h;omega
 | succ k ih=>
   intro n p F h0 h hF
   obtain⟨F,rfl⟩:∃ G,F=G+1:=⟨F - 1,by omega⟩
   unfold cu low
   by_cases hm:n%10=0
   . rw[Nat.pow_succ]at h
     have h1:n/10≠0:=by omega
     have h2:(n/10).natAbs<10 ^ k:=by generalize 10 ^ k=z at h;omega
     have:=ih (n/10) (p+1) F h1 h2 (by omega)
     have hc:gv [some (.sh (.int n)),some (.sh (.int p))]=.ok true:=by simp[gv,hm]
     have hb:iQ [some (.sh (.int n)),some (.sh (.int p))]=.nx [some (.sh (.int (n/10))),some (.sh (.int (p+1)))]:=by simp[iQ]
     simp[hc,hb,hm,this,Int.add_assoc,Int.add_comm 1]
   . simp[gv,hm]
noncomputable def pairOf(k:Nat)(n p:Int):PV:=if n=0 then .tup [.int 0,.int 0]else .tup [.int (low k n).1,.int (p+(low k n).2)]
theorem Dm(k:Nat)(n p:Int)(h:n.natAbs<10 ^ k)(hk:k<=90000):dF [.int n,.int p]=.ok (.sh (pairOf k n p)):=by
 unfold pairOf
 by_cases h0:n=0
 . rw[if_pos h0,h0];simp -implicitDefEqProofs [dF,nj]
 . rw[if_neg h0];have:=wY k n p fuel h0 h (by unfold fuel;omega);simp -implicitDefEqProofs [dF,nj,oP,oH,h0,this]
theorem Dc(ds:List Int)(h:∀ b∈ds,isF b):0<=cv ds /\ cv ds<10 ^ ds.length:=by
 have key:∀(ds:List Int) (w:Int) (k:Nat),(∀ b∈ds,isF b)->0<=w /\ w<10 ^ k->0<=ds.foldl (fun n d=>10*n+d - 48) w /\ ds.foldl (fun n d=>10*n+d - 48) w<10 ^ (k+ds.length):=by
  intro ds
  induction ds with
  |nil=>intro w k _ hw;simpa using hw
  | cons d ds ih=>
    intro w k hd hw;have h1:=hd d List.mem_cons_self;unfold isF at h1
    have h2:(10:Int) ^ (k+1)=10 ^ k*10:=Int.pow_succ 10 k
    have:=ih (10*w+d - 48) (k+1) (fun b hb=>hd b (List.mem_cons_of_mem _ hb)) ⟨by omega,by rw[h2];omega⟩;rw[List.foldl_cons,List.length_cons];rw[show k+1+ds.length=k+(ds.length+1) by omega]at this;exact this
 have:=key ds 0 0 h (by simp);rw[Nat.zero_add]at this;exact this
theorem Br(m:Nm)(h:Nok m)(k:Nat)(hk:(m.ip++m.fr).length<=k):(mwV m).natAbs<10 ^ k:=by
 have hip:∀ b∈m.ip++m.fr,isF b:=by
  intro b hb
  rcases List.mem_append.mp hb with z|z
  . rcases h.ip with e|⟨d,r,e,h1,h2,h3⟩
    . rw[e]at z;simp at z;subst z;decide
    . rw[e]at z
      rcases List.mem_cons.mp z with y|y
      . unfold isF;omega
      . exact h3 b y
  . exact h.fr b z
 obtain⟨b1,b2⟩:=Dc _ hip
 have b3:(10:Int) ^ (m.ip++m.fr).length<=10 ^ k:=by
  have:=Nat.pow_le_pow_right (n:=10) (by decide) hk
  have e1:((10 ^ (m.ip++m.fr).length:Nat):Int)=(10:Int) ^ (m.ip++m.fr).length:=by norm_cast
  have e2:((10 ^ k:Nat):Int)=(10:Int) ^ k:=by norm_cast
  omega
 have e2:((10 ^ k:Nat):Int)=(10:Int) ^ k:=by norm_cast
 unfold mwV
 split<;>omega
theorem jm(n:Int)(hn:0<=n):eL [.int n]=.ok (.sh (.tup [.lst ((PG.nb (dk n)).map .int),pairOf 20 (mwV (dk n)) (exV (dk n).ex - (dk n).fr.length)])):=by
 obtain⟨K,hK⟩:∃ K:Nat,K=(n/3%100000).toNat:=⟨_,rfl⟩
 have hK1:n/3%100000=(K:Int):=by omega
 have hK2:K<100000:=by omega
 have hdl:=nO 4 K (by omega)
 obtain⟨sg,hsg⟩:∃ sg:List Int,sg=if n%3=0 then[45]else[]:=⟨_,rfl⟩
 have hsl:sg.length<=1:=by rw[hsg];split<;>simp
 have ok:=xt n
 have hfl:(bA n).length<=3:=by unfold bA;split<;>simp;omega
 have hb20:=Br (dk n) ok 20 (by show(ck (n/3%100000).toNat++bA n).length<=20;rw[<- hK];simp;omega);have hpl:=Dm 20 (mwV (dk n)) (exV (dk n).ex - (dk n).fr.length) hb20 (by decide)
 have c1:aN 2 (nJ (mUn nH (mOp bM (mOp cG (ak 0) (mC (.int 3))) (mC (.int 100000)))) [] ft) (nE n none none none none none none none)=.nx (nE n (some (.ow ((ws (ck K)).map .int))) none none none none none none):=by
  have:=xo (me:=ft) (f:=fun c=>.int ((c:Int) - 48)) K hK2 (fun c hc=>JF c (Gu K c hc)) (mOp bM (mOp cG (ak 0) (mC (.int 3))) (mC (.int 100000))) (nE n none none none none none none none) (by simp -implicitDefEqProofs [hK1]);rw[yQ,this]
  have e:(dN K).map (fun c:Nat=>PV.int ((c:Int) - 48))=(ws (ck K)).map .int:=by
   rw[<- sf];simp[ws,List.map_map,Function.comp_def]
  rw[e];rfl
 have c2:aN 3 (jF (cO (ak 1)) (cN (aq (mC (.int 45)) aL)) (cN aL)) (nE n (some (.ow ((ws (ck K)).map .int))) none none none none none none)=.nx (nE n (some (.ow ((ws (ck K)).map .int))) (some (.ow (sg.map .int))) none none none none none):=by
  rw[hsg]
  by_cases h:n%3=0<;>simp -implicitDefEqProofs [h]
 have hel:cS gX [] ((ws (ck K)).map .int)=.ok ((ck K).map .int):=by
  have:(ck K).map PV.int=(ws (ck K)).map fun x=>.int (48+x):=by
   conv=>lhs;rw[<- G6 (ck K)]
   rw[List.map_map];rfl
  rw[this]
  exact jy _ fun x _=>by simp -implicitDefEqProofs [gX]
 have hdlim:(ck K).length<=lim:=fe (by omega)
 have hslim:sg.length+(ck K).length<=lim:=fe (by omega)
 have c3:aN 3 (mOp oq (ak 3) (qD (ak 2) [] gX)) (nE n (some (.ow ((ws (ck K)).map .int))) (some (.ow (sg.map .int))) none none none none none)=.nx (nE n (some (.ow ((ws (ck K)).map .int))) (some (.ow ((sg++ck K).map .int))) none none none none none):=by
  simp -implicitDefEqProofs [cp,hel,hdlim,hslim]
 obtain⟨x1,w1⟩:=wl1 (ws (ck K)) 0 (some (.sh (.int n))) (some (.sh (.bl (decide (n%3=0))))) (some (.sh (.lst ((ws (ck K)).map .int)))) (some (.ow ((sg++ck K).map .int))) none none none none;rw[zG]at w1
 have w1':dZ 5 eE ((ws (ck K)).map .int) (nE n (some (.sh (.lst ((ws (ck K)).map .int)))) (some (.ow ((sg++ck K).map .int))) (some (.sh (.int 0))) none none none none)=.nx (nE n (some (.sh (.lst ((ws (ck K)).map .int)))) (some (.ow ((sg++ck K).map .int))) (some (.sh (.int (cv (ck K))))) x1 none none none):=w1
 obtain⟨W,hW⟩:∃ W,W=ws (ck K):=⟨_,rfl⟩
 obtain⟨R1,hR1⟩:∃ R1,R1=sg++ck K:=⟨_,rfl⟩
 have hR1l:R1.length<=6:=by rw[hR1];simp;omega
 obtain⟨V1,hV1⟩:∃ V1,V1=cv (ck K):=⟨_,rfl⟩
 rw[<- hW,<- hR1,<- hV1]at w1';rw[<- hW]at c1 c2;rw[<- hW,<- hR1]at c3
 have c4:∃ x2,bj (aE (mOp gEq (mOp bM (mOp cG (ak 0) (mC (.int 17))) (mC (.int 3))) (mC (.int 1)))) (aA (cL 3 (mC (.int 46))) (mK 5 (yS (cN (aq (mOp bM (mOp cG (ak 0) (mC (.int 19))) (mC (.int 10))) (aq (mOp bM (mOp cG (ak 0) (mC (.int 23))) (mC (.int 4))) (aq (mC (.int 0)) aL)))) (mC .non) (oB (mOp bR (mC (.int 1)) (mOp bM (mOp cG (ak 0) (mC (.int 29))) (mC (.int 3)))))) fB)) aT
   (nE n (some (.sh (.lst (W.map .int)))) (some (.ow (R1.map .int))) (some (.sh (.int V1))) x1 (some (.sh (.int 0))) none none) =
   .nx (nE n (some (.sh (.lst (W.map .int)))) (some (.ow ((R1++frB (bA n)).map .int))) (some (.sh (.int ((bA n).foldl (fun n d=>10*n+d - 48) V1)))) x2 (some (.sh (.int (-((bA n).length:Int))))) none none):=by
  by_cases h17:n/17%3=1
  . obtain⟨L,hL⟩:∃ L:List Int,L=([n/19%10,n/23%4,0]:List Int).take (1+n/29%3).toNat:=⟨_,rfl⟩
    have hLf:bA n=L.map (48+·):=by
     unfold bA;rw[if_pos h17,hL,List.map_take];simp
    have hLl:L.length=(1+n/29%3).toNat:=by rw[hL];simp;omega
    have hcut:tj [PV.int (n/19%10),.int (n/23%4),.int 0] none (some (1+n/29%3))=L.map .int:=by
     have e1:rK 3 3 (some (1+n/29%3))=(1+n/29%3).toNat:=by
      unfold rK;dsimp only;rw[if_neg (by omega)];omega
     show([PV.int (n/19%10),.int (n/23%4),.int 0].drop 0).take (rK 3 3 (some (1+n/29%3)) - 0)=_
     rw[e1,hL,List.map_take];rfl
    obtain⟨x2,w2⟩:=wl2 L (R1++[46]) V1 0 (some (.sh (.int n))) (some (.sh (.bl (decide (n%3=0))))) (some (.sh (.lst (W.map .int)))) x1 none none (by simp;omega)
    refine⟨x2,?_⟩
    have hne:bA n≠[]:=by
     rw[hLf];intro z;have:=congrArg List.length z;simp[hLl]at this;omega
    have hfold:L.foldl (fun n d=>n*10+d) V1=(bA n).foldl (fun n d=>10*n+d - 48) V1:=by
     have:=zG (bA n) V1;rw[<- this,hLf]
     congr 1
     unfold ws;rw[List.map_map]
     conv=>lhs;rw[<- List.map_id L]
     refine List.map_congr_left fun x _=>?_
     show x=48+x - 48;omega
    have hrow:R1++[46]++L.map (48+·)=R1++frB (bA n):=by
     unfold frB;rw[if_neg hne,hLf];simp
    rw[hfold,hrow]at w2
    have hlen:(0:Int) - (L.length:Int)=-((bA n).length:Int):=by rw[hLf];simp
    rw[hlen]at w2
    have hl1:R1.length<lim:=kB (by omega)
    have w2':=w2
    simp only[List.map_append,List.map_cons,List.map_nil]at w2';simp -implicitDefEqProofs [h17,hl1,hcut,w2']
  . refine⟨x1,?_⟩
    have hf:bA n=[]:=by unfold bA;rw[if_neg h17]
    rw[hf];simp -implicitDefEqProofs [h17,frB]
 obtain⟨x2,c4⟩:=c4
 obtain⟨R2,hR2⟩:∃ R2,R2=R1++frB (bA n):=⟨_,rfl⟩
 have hR2l:R2.length<=10:=by
  rw[hR2];unfold frB
  split<;>simp<;>omega
 have hV2:(bA n).foldl (fun n d=>10*n+d - 48) V1=cv (ck K++bA n):=by rw[Cu,hV1]
 rw[hV2,<- hR2]at c4
 obtain⟨V2,hV2e⟩:∃ V2,V2=cv (ck K++bA n):=⟨_,rfl⟩
 rw[<- hV2e]at c4
 have c5:∃ y z,bj (aE (mOp gEq (mOp bM (mOp cG (ak 0) (mC (.int 31))) (mC (.int 3))) (mC (.int 1)))) (aA (aN 7 (mOp bM (mOp cG (ak 0) (mC (.int 37))) (mC (.int 30)))) (aA (cL 3 (mOp cV (cN (aq (mC (.int 101)) (aq (mC (.int 69)) aL))) (mOp bM (mOp cG (ak 0) (mC (.int 41))) (mC (.int 2))))) (aA (aN 8 (mOp gEq (mOp bM (mOp cG (ak 0) (mC (.int 43))) (mC (.int 3))) (mC (.int 1)))) (aA (bj (cO (ak 8)) (cL 3 (mC (.int 45))) (bj (aE (mOp gEq (mOp bM (mOp cG (ak 0) (mC (.int 43))) (mC (.int 3))) (mC (.int 2)))) (cL 3 (mC (.int 43))) aT)) (aA (bj (aE (mOp gEq (mOp bM (mOp cG (ak 0) (mC (.int 47))) (mC (.int 4))) (mC (.int 1)))) (cL 3 (mC (.int 48))) aT) (aA (aN 3 (mOp oq (ak 3) (nJ (mUn nH (ak 7)) [] eh))) (aN 6 (mOp bR (ak 6) (jF (cO (ak 8)) (mUn eM (ak 7)) (ak 7)))))))))) aT
   (nE n (some (.sh (.lst (W.map .int)))) (some (.ow (R2.map .int))) (some (.sh (.int V2))) x2 (some (.sh (.int (-((bA n).length:Int))))) none none) =
   .nx (nE n (some (.sh (.lst (W.map .int)))) (some (.ow ((R2++exB (eU n)).map .int))) (some (.sh (.int V2))) x2 (some (.sh (.int (exV (eU n) - (bA n).length)))) y z):=by
  by_cases h31:n/31%3=1
  . obtain⟨M,hM⟩:∃ M:Nat,M=(n/37%30).toNat:=⟨_,rfl⟩
    have hM1:n/37%30=(M:Int):=by omega
    refine⟨some (.sh (.int (M:Int))),some (.sh (.bl (decide (n/43%3=1)))),?_⟩
    obtain⟨eb,heb⟩:∃ eb:Int,eb=if n/41%2=0 then 101 else 69:=⟨_,rfl⟩
    obtain⟨sx,hsx⟩:∃ sx:List Int,sx=if n/43%3=1 then[45]else if n/43%3=2 then[43]else[]:=⟨_,rfl⟩
    obtain⟨zx,hzx⟩:∃ zx:List Int,zx=if n/47%4=1 then[48]else[]:=⟨_,rfl⟩
    have hex:eU n=some (eb,sx,zx++ck M):=by unfold eU;rw[if_pos h31,heb,hsx,hzx,hM]
    have hsxl:sx.length <= 1:=by rw [hsx]; split
                                 . simp
                                 . split<;>simp
    have hzxl:zx.length<=1:=by rw[hzx];split<;>simp
    have hml:=nO 4 M (by omega)
    have hat:atP [PV.int 101,.int 69] (n/41%2)=some (.int eb):=by
     have:n/41%2=0 \/ n/41%2=1:=by omega
     rw[heb]
     rcases this with h|h<;>rw[h]<;>rfl
    have hcvz:cv (zx++ck M)=(M:Int):=by
     have:cv (ck M)=M:=EA M
     rw[hzx];split
     . rw[Cu];exact this
     . exact this
    have hexv:exV (eU n)=if n/43%3=1 then -(M:Int)else(M:Int):=by
     rw[hex];show sv sx (zx++ck M)=_;unfold sv;rw[hcvz,hsx]
     by_cases h1:n/43%3=1
     . simp[h1]
     . by_cases h2:n/43%3=2<;>simp[h1,h2]
    have l1:R2.length<lim:=kB (by omega)
    have l2:R2.length+1<lim:=kB (by omega)
    obtain⟨R3,hR3⟩:∃ R3,R3=R2++[eb]:=⟨_,rfl⟩
    have g1:cL 3 (mOp cV (cN (aq (mC (.int 101)) (aq (mC (.int 69)) aL))) (mOp bM (mOp cG (ak 0) (mC (.int 41))) (mC (.int 2)))) (nE n (some (.sh (.lst (W.map .int)))) (some (.ow (R2.map .int))) (some (.sh (.int V2))) x2 (some (.sh (.int (-((bA n).length:Int))))) (some (.sh (.int (M:Int)))) none)=.nx (nE n (some (.sh (.lst (W.map .int)))) (some (.ow (R3.map .int))) (some (.sh (.int V2))) x2 (some (.sh (.int (-((bA n).length:Int))))) (some (.sh (.int (M:Int)))) none):=by
     rw[hR3];simp -implicitDefEqProofs [hat,l1]
    have hR3l:R3.length<=11:=by rw[hR3];simp;omega
    have l3:R3.length<lim:=kB (by omega)
    obtain⟨R4,hR4⟩:∃ R4,R4=R3++sx:=⟨_,rfl⟩
    have g2:bj (cO (ak 8)) (cL 3 (mC (.int 45))) (bj (aE (mOp gEq (mOp bM (mOp cG (ak 0) (mC (.int 43))) (mC (.int 3))) (mC (.int 2)))) (cL 3 (mC (.int 43))) aT) (nE n (some (.sh (.lst (W.map .int)))) (some (.ow (R3.map .int))) (some (.sh (.int V2))) x2 (some (.sh (.int (-((bA n).length:Int))))) (some (.sh (.int (M:Int)))) (some (.sh (.bl (decide (n/43%3=1))))))=.nx (nE n (some (.sh (.lst (W.map .int)))) (some (.ow (R4.map .int))) (some (.sh (.int V2))) x2 (some (.sh (.int (-((bA n).length:Int))))) (some (.sh (.int (M:Int)))) (some (.sh (.bl (decide (n/43%3=1)))))):=by
     rw[hR4,hsx]
     by_cases h1:n/43%3=1
     . simp -implicitDefEqProofs [h1,l3]
     . by_cases h2:n/43%3=2<;>simp -implicitDefEqProofs [h1,h2,l3]
    have hR4l:R4.length<=12:=by rw[hR4];simp;omega
    have l4:R4.length<lim:=kB (by omega)
    obtain⟨R5,hR5⟩:∃ R5,R5=R4++zx:=⟨_,rfl⟩
    have g3:bj (aE (mOp gEq (mOp bM (mOp cG (ak 0) (mC (.int 47))) (mC (.int 4))) (mC (.int 1)))) (cL 3 (mC (.int 48))) aT (nE n (some (.sh (.lst (W.map .int)))) (some (.ow (R4.map .int))) (some (.sh (.int V2))) x2 (some (.sh (.int (-((bA n).length:Int))))) (some (.sh (.int (M:Int)))) (some (.sh (.bl (decide (n/43%3=1))))))=.nx (nE n (some (.sh (.lst (W.map .int)))) (some (.ow (R5.map .int))) (some (.sh (.int V2))) x2 (some (.sh (.int (-((bA n).length:Int))))) (some (.sh (.int (M:Int)))) (some (.sh (.bl (decide (n/43%3=1)))))):=by
     rw[hR5,hzx]
     by_cases h1:n/47%4=1<;>simp -implicitDefEqProofs [h1,l4]
    have hR5l:R5.length<=13:=by rw[hR5];simp;omega
    have l5:R5.length+(ck M).length<=lim:=fe (by omega)
    have hcs:=xo (me:=eh) (f:=fun c=>.int (c:Int)) M (by omega) (fun c _=>Ij c) (ak 7) (nE n (some (.sh (.lst (W.map .int)))) (some (.ow (R5.map .int))) (some (.sh (.int V2))) x2 (some (.sh (.int (-((bA n).length:Int))))) (some (.sh (.int (M:Int)))) (some (.sh (.bl (decide (n/43%3=1)))))) (by simp)
    have hdd:(dN M).map (fun c:Nat=>PV.int (c:Int))=(ck M).map .int:=by rw[<- sf,List.map_map];rfl
    rw[hdd]at hcs
    have g4:aN 3 (mOp oq (ak 3) (nJ (mUn nH (ak 7)) [] eh)) (nE n (some (.sh (.lst (W.map .int)))) (some (.ow (R5.map .int))) (some (.sh (.int V2))) x2 (some (.sh (.int (-((bA n).length:Int))))) (some (.sh (.int (M:Int)))) (some (.sh (.bl (decide (n/43%3=1))))))=.nx (nE n (some (.sh (.lst (W.map .int)))) (some (.ow ((R5++ck M).map .int))) (some (.sh (.int V2))) x2 (some (.sh (.int (-((bA n).length:Int))))) (some (.sh (.int (M:Int)))) (some (.sh (.bl (decide (n/43%3=1)))))):=by
     simp -implicitDefEqProofs only[yQ,Jt,hcs,Hc,List.getElem?_cons_succ,List.getElem?_cons_zero,AO,I0,Ju,HA,List.length_map,l5,if_true,DE,o8,EO,List.set_cons_succ,List.set_cons_zero,List.map_append]
    have hRex:R5++ck M=R2++exB (eU n):=by
     rw[hex,hR5,hR4,hR3];show _=R2++(eb ::(sx++(zx++ck M)));simp
    rw[hRex]at g4
    have g5:aN 6 (mOp bR (ak 6) (jF (cO (ak 8)) (mUn eM (ak 7)) (ak 7))) (nE n (some (.sh (.lst (W.map .int)))) (some (.ow ((R2++exB (eU n)).map .int))) (some (.sh (.int V2))) x2 (some (.sh (.int (-((bA n).length:Int))))) (some (.sh (.int (M:Int)))) (some (.sh (.bl (decide (n/43%3=1))))))=.nx (nE n (some (.sh (.lst (W.map .int)))) (some (.ow ((R2++exB (eU n)).map .int))) (some (.sh (.int V2))) x2 (some (.sh (.int (exV (eU n) - (bA n).length)))) (some (.sh (.int (M:Int)))) (some (.sh (.bl (decide (n/43%3=1)))))):=by
     rw[hexv];generalize (R2++exB (eU n)).map PV.int=RR
     by_cases h1:n/43%3=1
     . have e:-((bA n).length:Int) + -(M:Int)=-(M:Int) - (bA n).length:=by omega
       simp -implicitDefEqProofs [h1,e]
     . have e:-((bA n).length:Int)+(M:Int)=(M:Int) - (bA n).length:=by omega
       simp -implicitDefEqProofs [h1,e]
    have g0:aN 7 (mOp bM (mOp cG (ak 0) (mC (.int 37))) (mC (.int 30))) (nE n (some (.sh (.lst (W.map .int)))) (some (.ow (R2.map .int))) (some (.sh (.int V2))) x2 (some (.sh (.int (-((bA n).length:Int))))) none none)=.nx (nE n (some (.sh (.lst (W.map .int)))) (some (.ow (R2.map .int))) (some (.sh (.int V2))) x2 (some (.sh (.int (-((bA n).length:Int))))) (some (.sh (.int (M:Int)))) none):=by
     simp -implicitDefEqProofs [hM1]
    have g1b:aN 8 (mOp gEq (mOp bM (mOp cG (ak 0) (mC (.int 43))) (mC (.int 3))) (mC (.int 1))) (nE n (some (.sh (.lst (W.map .int)))) (some (.ow (R3.map .int))) (some (.sh (.int V2))) x2 (some (.sh (.int (-((bA n).length:Int))))) (some (.sh (.int (M:Int)))) none)=.nx (nE n (some (.sh (.lst (W.map .int)))) (some (.ow (R3.map .int))) (some (.sh (.int V2))) x2 (some (.sh (.int (-((bA n).length:Int))))) (some (.sh (.int (M:Int)))) (some (.sh (.bl (decide (n/43%3=1)))))):=by
     simp -implicitDefEqProofs
    have gt:aE (mOp gEq (mOp bM (mOp cG (ak 0) (mC (.int 31))) (mC (.int 3))) (mC (.int 1))) (nE n (some (.sh (.lst (W.map .int)))) (some (.ow (R2.map .int))) (some (.sh (.int V2))) x2 (some (.sh (.int (-((bA n).length:Int))))) none none)=.ok true:=by
     simp -implicitDefEqProofs [h31]
    rw[BS,gt];simp only[gJ,if_true,qF,g0,mI,g1,g1b,g2,g3,g4,g5]
  . refine⟨none,none,?_⟩
    have hex:eU n=none:=by unfold eU;rw[if_neg h31]
    rw[hex]
    have e:(0:Int) - ((bA n).length:Int)=-((bA n).length:Int):=by omega
    simp -implicitDefEqProofs [h31,exB,exV,e]
 obtain⟨y,z,c5⟩:=c5
 have hnb:R2++exB (eU n)=PG.nb (dk n):=by
  rw[hR2,hR1,hsg];show _=(if(decide (n%3=0))=true then[45]else[])++(ck (n/3%100000).toNat++(frB (bA n)++exB (eU n)));rw[<- hK];simp
 rw[hnb]at c5
 have hmw:(if n%3=0 then -V2 else V2)=mwV (dk n):=by
  rw[hV2e];show _=(if decide (n%3=0)=true then -cv (ck (n/3%100000).toNat++bA n)else cv (ck (n/3%100000).toNat++bA n));rw[<- hK];simp
 have c6:bj (cO (ak 1)) (aN 4 (mUn eM (ak 4))) aT (nE n (some (.sh (.lst (W.map .int)))) (some (.ow ((PG.nb (dk n)).map .int))) (some (.sh (.int V2))) x2 (some (.sh (.int (exV (eU n) - (bA n).length)))) y z)=.nx (nE n (some (.sh (.lst (W.map .int)))) (some (.ow ((PG.nb (dk n)).map .int))) (some (.sh (.int (mwV (dk n))))) x2 (some (.sh (.int (exV (eU n) - (bA n).length)))) y z):=by
  rw[<- hmw]
  by_cases h:n%3=0<;>simp -implicitDefEqProofs [h]
 have hpl':dF [.int (mwV (dk n)),.int (exV (eU n) - (bA n).length)]=.ok (.sh (pairOf 20 (mwV (dk n)) (exV (eU n) - (bA n).length))):=hpl
 have c7:fin (i6 (nE n (some (.sh (.lst (W.map .int)))) (some (.ow ((PG.nb (dk n)).map .int))) (some (.sh (.int (mwV (dk n))))) x2 (some (.sh (.int (exV (eU n) - (bA n).length)))) y z))=.ok (.sh (.tup [.lst ((PG.nb (dk n)).map .int),pairOf 20 (mwV (dk n)) (exV (eU n) - (bA n).length)])):=by
  generalize PG.nb (dk n)=RR;simp -implicitDefEqProofs [i6,fT,hpl']
 have c0:aN 1 (mOp gEq (mOp bM (ak 0) (mC (.int 3))) (mC (.int 0))) [some (.sh (.int n)),none,none,none,none,none,none,none,none]=.nx (nE n none none none none none none none):=by
  simp -implicitDefEqProofs
 have c3b:aN 4 (mC (.int 0)) (nE n (some (.ow (W.map .int))) (some (.ow (R1.map .int))) none none none none none)=.nx (nE n (some (.ow (W.map .int))) (some (.ow (R1.map .int))) (some (.sh (.int 0))) none none none none):=by simp -implicitDefEqProofs
 have c3c:cK 2 (mK 5 (ak 2) eE) (nE n (some (.ow (W.map .int))) (some (.ow (R1.map .int))) (some (.sh (.int 0))) none none none none)=.nx (nE n (some (.sh (.lst (W.map .int)))) (some (.ow (R1.map .int))) (some (.sh (.int V1))) x1 none none none):=by
  simp -implicitDefEqProofs [fT,w1']
 have c3d:aN 6 (mC (.int 0)) (nE n (some (.sh (.lst (W.map .int)))) (some (.ow (R1.map .int))) (some (.sh (.int V1))) x1 none none none)=.nx (nE n (some (.sh (.lst (W.map .int)))) (some (.ow (R1.map .int))) (some (.sh (.int V1))) x1 (some (.sh (.int 0))) none none):=by simp -implicitDefEqProofs
 simp -implicitDefEqProofs only[eL,pV,zT,qt,List.map_cons,List.map_nil,List.length_cons,List.length_nil,List.replicate,List.cons_append,List.nil_append,qF,c0,mI,ng,c1,nC,c2,nX,c3,mZ,c3b,nR,c3c,m3,c3d,m9,c4,nu,c5,nL,c6]
 exact c7
noncomputable def wc(j:Int):Int:=if j=0 then 32 else if j=1 then 9 else if j=2 then 10 else 13
noncomputable def lwh(n:Int):List Int:=if 0<n%4 then[]else(List.range (n/64%3+1).toNat).map fun k:Nat=>wc (n/4/(1+3*(k:Int))%4)
theorem Gf(j:Int):wht (wc j)=true:=by
 unfold wc;split
 . rfl
 . split
   . rfl
   . split<;>rfl
theorem Kx(n:Int):∀ b∈lwh n,wht b=true:=by
 unfold lwh;split
 . simp
 . intro b hb;obtain⟨k,_,rfl⟩:=List.mem_map.mp hb;exact Gf _
theorem fN(n:Int):(lwh n).length<=3:=by
 unfold lwh;split
 . simp
 . simp;omega
theorem Bg(n:Int)(j:Nat)(hj:j<3):iK [some (.sh (.int n)),some (.sh (.int j))]=.ok (.sh (.int (wc (n/4/(1+3*(j:Int))%4)))):=by
 have h:¬ (1+3*(j:Int))=0:=by omega
 obtain⟨r,hr⟩:∃ r,r=n/4/(1+3*(j:Int))%4:=⟨_,rfl⟩
 have h4:r=0 \/ r=1 \/ r=2 \/ r=3:=by omega
 rw[<- hr]
 have h5:0<(1+3*(j:Int)):=by omega
 have h6:(1+3*(j:Int))<1073741824:=by omega
 simp -implicitDefEqProofs [iK,h,h5,h6,<- hr]
 rcases h4 with h|h|h|h<;>rw[h]<;>rfl
theorem cR(n:Int):bV [.int n]=.ok (.fr ((lwh n).map .int)):=by
 have el:∀ m:Nat,m<=3->cS iK [some (.sh (.int n))] (cz m)=.ok ((List.range m).map fun j:Nat=>.int (wc (n/4/(1+3*(j:Int))%4))):=fun m hm=>by
  unfold cz
  refine jy _ fun j hj=>?_
  exact Bg n j (by have:=List.mem_range.mp hj;omega)
 have h1:-4611686018427387904<=n/64%3+1 /\ n/64%3+1<4611686018427387904:=by omega
 by_cases h:0<n%4
 . simp[bV,nV,h,lwh]
 . have hp:(lwh n).map PV.int = (List.range (n / 64 % 3 + 1).toNat).map fun j:Nat=>.int (wc (n / 4 / (1 + 3 * (j:Int)) % 4)):=by
    unfold lwh;rw[if_neg h,List.map_map];rfl
   rw[hp];have h2:=el (n/64%3+1).toNat (by omega);simp -implicitDefEqProofs [bV,nV,h,cp,h2,h1];unfold lim;omega
noncomputable def lnm(ns:List Int)(n:Int):List Int:=if n%2=0 then[97+n/2%3]else PG.points ns (11+n/2%37)
theorem tQ(ns:List Int)(n:Int):(lnm ns n).all eB=true /\ (lnm ns n).length<14:=by
 unfold lnm;split
 . refine⟨?_,by simp⟩
   have h:n/2%3=0 \/ n/2%3=1 \/ n/2%3=2:=by omega
   rcases h with h|h|h<;>rw[h]<;>decide
 . exact⟨n6 _ _,pA _ _⟩
theorem mv(ns:List Int)(n:Int):fD [.lst (ns.map .int),.int n]=.ok (.fr ((lnm ns n).map .int)):=by
 unfold lnm
 by_cases h:n%2=0
 . simp[fD,pB,h]
 . simp[fD,pB,h,fV]
noncomputable def gp(ns:List Int)(n:Int):Lf:=
 if n/5%6=0 then .wd .null else if n/5%6=1 then .wd .tru else if n/5%6=2 then .wd .fal
 else if n/5%6=3 then .tx (lts (PG.points ns (7+n%41)) (n/30) 0)else .nm (dk (n/7))
noncomputable def lfK:Lf->String
 |.wd .null=>"null" | .wd .tru=>"true" | .wd .fal=>"false" | .tx _=>"text" | .nm _=>"number"
theorem JJ(ns:List Int)(n:Int):Lok (gp ns n):=by
 unfold gp;split
 . trivial
 . split
   . trivial
   . split
     . trivial
     . split
       . exact C2 _ _ _ (n6 _ _)
       . exact xt _
theorem vV(k:Nat)(n p:Int):∃ a b,pairOf k n p=.tup [.int a,.int b]:=by
 unfold pairOf;split
 . exact⟨_,_,rfl⟩
 . exact⟨_,_,rfl⟩
noncomputable def da(row:List Int):OV:=.ol (row.map fun b=>.sh (.int b))
noncomputable def kS(k:Bool):PV:=.str (if k then "row" else "fields")
noncomputable def frO(k:Bool)(items:List PV)(i:Nat)(nm:List Int):OV:=.ol [.sh (kS k),.ol (items.map .sh),.sh (.int i),.sh (.tup (nm.map .int))]
noncomputable def ndO(s:PV)(a b c:Int):OV:=.ol [.sh s,.sh (.int a),.sh (.int b),.sh (.int c)]
noncomputable def brk(k:Bool):Int:=if k then 93 else 125
theorem yh(xs:List PV):uj (xs.map .sh)=some xs:=by
 induction xs with
 |nil=>rfl
 |cons x xs ih=>simp[uj,ih]
noncomputable abbrev cE(r:OV)(ns fs:List OV)(a b:Option Sl):ah:=[some (.tr true r),some (.tr true (.ol ns)),some (.tr true (.ol fs)),a,b]
theorem uI(row:List Int)(nodes fs:List OV)(k:Bool)(items:List PV)(i:Nat)(nm:List Int)(s:PV)(a b c:Int)(hi:nodes[i]?=some (ndO s a b c))(hr:row.length<100000)(hn:nodes.length<100000):
  nM (cE (da row) nodes (fs++[frO k items i nm]) none none) =
   iI (cE (da (row++[brk k])) (nodes.set i (ndO s a (row.length+1) nodes.length)) fs (some (.tr false (frO k items i nm))) none):=by
 have hil:i<nodes.length:=by
  rcases Nat.lt_or_ge i nodes.length with z|z
  . exact z
  . rw[List.getElem?_eq_none z]at hi;cases hi
 have e0:la 3 (u1 2 aI) (cE (da row) nodes (fs++[frO k items i nm]) none none) =
   .nx (cE (da row) nodes fs (some (.tr false (frO k items i nm))) none):=by
  unfold la;rw[EF (ts:=fs) (x:=frO k items i nm) rfl];simp[frO,slO,nio]
 have p3:∀(x y z u:Option Sl) (ix:ah->OE) (j:Nat) (v:OV),ix [x,y,z,some (.tr false (frO k items i nm)),u]=.ok (.sh (.int j))->j<4->[OV.sh (kS k),.ol (items.map .sh),.sh (.int i),.sh (.tup (nm.map .int))][j]?=some v->subAt 3 (pIx 3 aI ix) [x,y,z,some (.tr false (frO k items i nm)),u]=some v:=fun x y z u ix j v h1 h2 h3=>
  subAt_one (br rfl rfl) (jl (br rfl rfl) h1 rfl (by simp[ixP];omega)) h3
 unfold nM;rw[aP e0];unfold oZ
 have hd:∀(x y z u:Option Sl),mD (jF (aE (mOp gEq (cM 3 (pIx 3 aI (mC (.int 0)))) (mC (.str "row")))) (mC (.int 93)) (mC (.int 125))) [x,y,z,some (.tr false (frO k items i nm)),u]=.ok (.sh (.int (brk k))):=fun x y z u=>by
  have:=lV (p3 x y z u (mC (.int 0)) 0 (.sh (kS k)) rfl (by omega) rfl)
  cases k<;>simp -implicitDefEqProofs [mD,jF,aE,this,kS,brk,gEq,eqS,bO]
 have e1:bK 0 aI (mD (jF (aE (mOp gEq (cM 3 (pIx 3 aI (mC (.int 0)))) (mC (.str "row")))) (mC (.int 93)) (mC (.int 125)))) (cE (da row) nodes fs (some (.tr false (frO k items i nm))) none) =
   .nx (cE (da (row++[brk k])) nodes fs (some (.tr false (frO k items i nm))) none):=by
  rw[rZ (ts:=row.map fun b=>.sh (.int b)) rfl (hd _ _ _ _) (by rw[List.length_map];exact fe (n:=row.length+1) (by omega))];simp[da]
 rw[aP e1]
 have px:∀(x z u:Option Sl) (ns:List OV),ns.length=nodes.length->pIx 1 aI (cM 3 (pIx 3 aI (mC (.int 2)))) [x,some (.tr true (.ol ns)),z,some (.tr false (frO k items i nm)),u]=some [.ix i]:=fun x z u ns hns=>
  jl (br rfl rfl) (lV (p3 x _ z u (mC (.int 2)) 2 (.sh (.int i)) rfl (by omega) rfl)) rfl (by simp[ixP];omega)
 unfold oS
 have e2:nc 1 (pIx 1 aI (cM 3 (pIx 3 aI (mC (.int 2))))) (mC (.int 2)) (mD (eQ 0 aI)) (cE (da (row++[brk k])) nodes fs (some (.tr false (frO k items i nm))) none) =
   .nx (cE (da (row++[brk k])) (nodes.set i (ndO s a (row.length+1) c)) fs (some (.tr false (frO k items i nm))) none):=by
  have hl:=tK (gS (ρ:=(cE (da (row++[brk k])) nodes fs (some (.tr false (frO k items i nm))) none)) (i:=0) (br rfl rfl));rw[sm (j2:=2) rfl (px _ _ _ nodes rfl) hi rfl rfl rfl (x:=.sh (.int (row.length+1))) (by unfold mD;rw[hl];simp)];rfl
 rw[aP e2];unfold oG
 have e3:nc 1 (pIx 1 aI (cM 3 (pIx 3 aI (mC (.int 2))))) (mC (.int 3)) (mD (eQ 1 aI)) (cE (da (row++[brk k])) (nodes.set i (ndO s a (row.length+1) c)) fs (some (.tr false (frO k items i nm))) none) =
   .nx (cE (da (row++[brk k])) (nodes.set i (ndO s a (row.length+1) nodes.length)) fs (some (.tr false (frO k items i nm))) none):=by
  have hl:=tK (gS (ρ:=(cE (da (row++[brk k])) (nodes.set i (ndO s a (row.length+1) c)) fs (some (.tr false (frO k items i nm))) none)) (i:=1) (br rfl rfl))
  have hi2:(nodes.set i (ndO s a (row.length+1) c))[i]?=some (ndO s a (row.length+1) c):=by simp[hil]
  rw[sm (j2:=3) rfl (px _ _ _ _ (by simp)) hi2 rfl rfl rfl (x:=.sh (.int nodes.length)) (by unfold mD;rw[hl];simp)];simp[ndO]
 rw[aP e3]
theorem uL(x y z:Option Sl)(k:Bool)(items:List PV)(i:Nat)(nm:List Int)(hit:items.length<100000):
  aN 4 (gq (aq (cM 3 (pIx 3 aI (mC (.int 0)))) (aq (mUn kD (cM 3 (pIx 3 aI (mC (.int 1))))) aL))) [x,y,z,some (.tr false (frO k items i nm)),none] =
   .nx [x,y,z,some (.tr false (frO k items i nm)),some (.sh (.tup [kS k,.tup items]))]:=by
 have p3:∀(ix:ah->OE) (j:Nat) (v:OV),ix [x,y,z,some (.tr false (frO k items i nm)),none]=.ok (.sh (.int j))->j<4->[OV.sh (kS k),.ol (items.map .sh),.sh (.int i),.sh (.tup (nm.map .int))][j]?=some v->subAt 3 (pIx 3 aI ix) [x,y,z,some (.tr false (frO k items i nm)),none]=some v:=fun ix j v h1 h2 h3=>
  subAt_one (br rfl rfl) (jl (br rfl rfl) h1 rfl (by simp[ixP];omega)) h3
 have h0:=lV (p3 (mC (.int 0)) 0 (.sh (kS k)) rfl (by omega) rfl)
 have h1:cM 3 (pIx 3 aI (mC (.int 1))) [x,y,z,some (.tr false (frO k items i nm)),none]=.ok (.al items):=by
  unfold cM;rw[p3 (mC (.int 1)) 1 (.ol (items.map .sh)) rfl (by omega) rfl];simp only[yh]
 simp -implicitDefEqProofs [aN,h0,h1,kD]
theorem yM(row:List Int)(nodes:List OV)(k:Bool)(items:List PV)(i:Nat)(nm:List Int)(s:PV)(a b c:Int)(hi:nodes[i]?=some (ndO s a b c))(hr:row.length<100000)(hn:nodes.length<100000)(hit:items.length<100000):
  cg [.tr true (da row),.tr true (.ol nodes),.tr true (.ol [frO k items i nm])] =
   .ok (.tup [kS k,.tup items]) [some (da (row++[brk k])),some (.ol (nodes.set i (ndO s a (row.length+1) nodes.length))),some (.ol [])]:=by
 unfold cg fnI;have e:=uI row nodes [] k items i nm s a b c hi hr hn;rw[List.nil_append]at e
 have e0:km 5 [.tr true (da row),.tr true (.ol nodes),.tr true (.ol [frO k items i nm])]=(cE (da row) nodes [frO k items i nm] none none):=rfl
 rw[if_pos (show List.length [Sl.tr true (da row),Sl.tr true (.ol nodes),Sl.tr true (.ol [frO k items i nm])]=3 from rfl),e0,e];unfold iI;rw[aP (uL _ _ _ k items i nm hit)];unfold kx;have h:=tL (gS (ρ:=(cE (da (row++[brk k])) (nodes.set i (ndO s a (row.length+1) nodes.length)) [] (some (.tr false (frO k items i nm))) (some (.sh (.tup [kS k,.tup items]))))) (i:=2) (br rfl rfl));simp -implicitDefEqProofs [bj,h,iR,dB,yV,qh]
theorem yB(row:List Int)(nodes gs:List OV)(k k':Bool)(items items':List PV)(i i':Nat)(nm nm':List Int)(s s2:PV)(a b c a2 b2 c2:Int)(hi:nodes[i]?=some (ndO s a b c))(hr:row.length<100000)(hn:nodes.length<100000)(hit:items.length<100000)(hit':items'.length<100000)
  (h2:k'=false->1<=i /\ nodes[i - 1]?=some (ndO s2 a2 b2 c2)):
  cg [.tr true (da row),.tr true (.ol nodes),.tr true (.ol (gs++[frO k' items' i' nm']++[frO k items i nm]))] =
   .ok (.tup [kS k,.tup items]) [some (da (row++[brk k])),some (.ol (if k' then nodes.set i (ndO s a (row.length+1) nodes.length)else(nodes.set i (ndO s a (row.length+1) nodes.length)).set (i - 1) (ndO s2 a2 b2 nodes.length))),
    some (.ol (gs++[frO k' (items'++[if k' then .tup [kS k,.tup items]else .tup [.tup (nm.map .int),.tup [kS k,.tup items]]]) i' nm']))]:=by
 have hil:i<nodes.length:=by
  rcases Nat.lt_or_ge i nodes.length with z|z
  . exact z
  . rw[List.getElem?_eq_none z]at hi;cases hi
 unfold cg fnI;have e:=uI row nodes (gs++[frO k' items' i' nm']) k items i nm s a b c hi hr hn
 have e0:km 5 [.tr true (da row),.tr true (.ol nodes),.tr true (.ol (gs++[frO k' items' i' nm']++[frO k items i nm]))]=(cE (da row) nodes (gs++[frO k' items' i' nm']++[frO k items i nm]) none none):=rfl
 rw[if_pos (show List.length [Sl.tr true (da row),Sl.tr true (.ol nodes),Sl.tr true (.ol (gs++[frO k' items' i' nm']++[frO k items i nm]))]=3 from rfl),e0,e];unfold iI;rw[aP (uL _ _ _ k items i nm hit)];unfold kx;generalize hN:nodes.set i (ndO s a (row.length+1) nodes.length)=N
 have hNl:N.length=nodes.length:=by rw[<- hN];simp
 generalize hv:PV.tup [kS k,.tup items]=val;generalize hR:da (row++[brk k])=R;have h:=tL (gS (ρ:=(cE R N (gs++[frO k' items' i' nm']) (some (.tr false (frO k items i nm))) (some (.sh val)))) (i:=2) (br rfl rfl))
 have hg:∀ u:OV,(gs++[u])[gs.length]?=some u:=fun u=>by simp
 have px:∀(x y w v:Option Sl) (u:OV),pIx 2 aI (mUn eM (mC (.int 1))) [x,y,some (.tr true (.ol (gs++[u]))),w,v]=some [.ix gs.length]:=fun x y w v u=>
  jl (br rfl rfl) (r:=.sh (.int (-1))) (by simp) rfl (by simp[ixP];omega)
 have p0:∀(x y w v:Option Sl) (its:List PV),cM 2 (pIx 2 (pIx 2 aI (mUn eM (mC (.int 1)))) (mC (.int 0))) [x,y,some (.tr true (.ol (gs++[frO k' its i' nm']))),w,v]=.ok (.sh (kS k')):=fun x y w v its=>
  lV (qH (br rfl rfl) (va (br rfl rfl) (px _ _ _ _ _) (hg _) (k:=0) (j2:=0) rfl rfl rfl) (hg _) rfl)
 have e1:bK 2 (pIx 2 (pIx 2 aI (mUn eM (mC (.int 1)))) (mC (.int 1))) (mD (jF (aE (mOp gEq (cM 2 (pIx 2 (pIx 2 aI (mUn eM (mC (.int 1)))) (mC (.int 0)))) (mC (.str "row")))) (ak 4) (gq (aq (cM 3 (pIx 3 aI (mC (.int 3)))) (aq (ak 4) aL)))))
   (cE R N (gs++[frO k' items' i' nm']) (some (.tr false (frO k items i nm))) (some (.sh val))) =
   .nx (cE R N (gs++[frO k' (items'++[if k' then val else .tup [.tup (nm.map .int),val]]) i' nm']) (some (.tr false (frO k items i nm))) (some (.sh val))):=by
  have p3:cM 3 (pIx 3 aI (mC (.int 3))) (cE R N (gs++[frO k' items' i' nm']) (some (.tr false (frO k items i nm))) (some (.sh val)))=.ok (.sh (.tup (nm.map .int))):=
   lV (subAt_one (br rfl rfl) (jl (br rfl rfl) (k:=3) (j:=3) rfl rfl rfl) rfl)
  have hd:mD (jF (aE (mOp gEq (cM 2 (pIx 2 (pIx 2 aI (mUn eM (mC (.int 1)))) (mC (.int 0)))) (mC (.str "row")))) (ak 4) (gq (aq (cM 3 (pIx 3 aI (mC (.int 3)))) (aq (ak 4) aL))))
    (cE R N (gs++[frO k' items' i' nm']) (some (.tr false (frO k items i nm))) (some (.sh val)))=.ok (.sh (if k' then val else .tup [.tup (nm.map .int),val])):=by
   have q0:=p0 (some (.tr true R)) (some (.tr true (.ol N))) (some (.tr false (frO k items i nm))) (some (.sh val)) items'
   cases k'<;>simp -implicitDefEqProofs [mD,jF,aE,q0,p3,kS,gEq,eqS,bO]
  rw[zq (j:=gs.length) (j2:=1) rfl (va (br rfl rfl) (px _ _ _ _ _) (hg _) (k:=1) (j2:=1) rfl rfl rfl) (hg _) (xs:=items'.map .sh) rfl hd (by rw[List.length_map];exact fe (n:=items'.length+1) (by omega))];simp[frO]
 cases k' with
 | true=>
   have q0:=p0 (some (.tr true R)) (some (.tr true (.ol N))) (some (.tr false (frO k items i nm))) (some (.sh val)) (items'++[val]);rw[if_pos rfl]at e1
   have hb:(!(gs++[frO true items' i' nm']).isEmpty)=true:=by simp
   rw[hb]at h;refine Eq.trans (congrArg _ (aP (ρ':=(cE R N (gs++[frO true (items'++[val]) i' nm']) (some (.tr false (frO k items i nm))) (some (.sh val)))) ?_)) ?_
   . unfold bj;rw[h];refine Eq.trans (aP e1) ?_;simp -implicitDefEqProofs [bj,aE,q0,kS,gEq,eqS,bO]
   . simp -implicitDefEqProofs [iR,dB,yV,qh]
 | false=>
   obtain⟨h1,h3⟩:=h2 rfl;have q0:=p0 (some (.tr true R)) (some (.tr true (.ol N))) (some (.tr false (frO k items i nm))) (some (.sh val)) (items'++[.tup [.tup (nm.map .int),val]]);rw[if_neg (by simp)]at e1
   have hb:(!(gs++[frO false items' i' nm']).isEmpty)=true:=by simp
   rw[hb]at h
   have hN1:N[i - 1]?=some (ndO s2 a2 b2 c2):=by rw[<- hN,List.getElem?_set_ne (by omega)];exact h3
   have hp2:mOp lZ (cM 3 (pIx 3 aI (mC (.int 2)))) (mC (.int 1)) (cE R N (gs++[frO false (items'++[.tup [.tup (nm.map .int),val]]) i' nm']) (some (.tr false (frO k items i nm))) (some (.sh val)))=.ok (.sh (.int (i - 1:Int))):=by
    have q2:=lV (ρ:=(cE R N (gs++[frO false (items'++[.tup [.tup (nm.map .int),val]]) i' nm']) (some (.tr false (frO k items i nm))) (some (.sh val)))) (i:=3) (mp:=pIx 3 aI (mC (.int 2))) (x:=.int i) (subAt_one (br rfl rfl) (jl (br rfl rfl) (k:=2) (j:=2) rfl rfl rfl) rfl);simp[q2]
   have hl:=tK (gS (ρ:=(cE R N (gs++[frO false (items'++[.tup [.tup (nm.map .int),val]]) i' nm']) (some (.tr false (frO k items i nm))) (some (.sh val)))) (i:=1) (br rfl rfl))
   have e3:=sm (ρ:=(cE R N (gs++[frO false (items'++[.tup [.tup (nm.map .int),val]]) i' nm']) (some (.tr false (frO k items i nm))) (some (.sh val)))) (i:=1) (io:=true) (ts:=N) (j:=i - 1) (j2:=3) (mk:=mC (.int 3)) (md:=mD (eQ 1 aI)) (x:=.sh (.int N.length)) rfl
    (jl (i:=1) (ts:=N) (br (s:=.tr true (.ol N)) rfl rfl) hp2 rfl (by rw[show((i:Int) - 1)=((i - 1:Nat):Int) by omega];unfold ixP;rw[if_pos (by omega),if_pos (by omega)];simp)) hN1 rfl rfl rfl (by unfold mD;rw[hl])
   refine Eq.trans (congrArg _ (aP (ρ':=(cE R (N.set (i - 1) (ndO s2 a2 b2 N.length)) (gs++[frO false (items'++[.tup [.tup (nm.map .int),val]]) i' nm']) (some (.tr false (frO k items i nm))) (some (.sh val)))) ?_)) ?_
   . unfold bj;rw[h];refine Eq.trans (aP e1) ?_;simp -implicitDefEqProofs [bj,aE,q0,kS,gEq,eqS,bO];exact e3
   . rw[hNl];simp -implicitDefEqProofs [iR,dB,yV,qh]
structure Fr where
 k:Bool
 items:List PV
 i:Nat
 nm:List Int
structure Nd where
 s:String
 a:Int
 b:Int
 c:Int
structure Bd where
 row:List Int
 nodes:List Nd
 frs:List Fr
 val:PV
noncomputable def Fr.o(f:Fr):OV:=frO f.k f.items f.i f.nm
noncomputable def Nd.o(d:Nd):OV:=ndO (.str d.s) d.a d.b d.c
noncomputable def iZ(fs:List Fr):OV:=.ol (fs.reverse.map Fr.o)
noncomputable def jI(ns:List Nd):OV:=.ol (ns.map Nd.o)
theorem ju(f:Fr)(fs:List Fr):iZ (f ::fs)=.ol (fs.reverse.map Fr.o++[f.o]):=by simp[iZ]
noncomputable def full:List Fr->Bool
 |f ::_=>!f.items.isEmpty
 |[]=>false
noncomputable def inF:List Fr->Bool
 |f ::_=>!f.k
 |[]=>false
theorem oU{ρ:ah}{i:Nat}{io:Bool}{fs:List Fr}(h:ρ[i]?=some (some (.tr io (iZ fs)))):cX i aI ρ=.ok (!fs.isEmpty):=by
 rw[tL (gS (br h rfl))]
 cases fs<;>simp
theorem DD{ρ:ah}{i:Nat}{io:Bool}{f:Fr}{fs:List Fr}(h:ρ[i]?=some (some (.tr io (iZ (f ::fs))))):pIx i aI (mUn eM (mC (.int 1))) ρ=some [.ix fs.length]:=by
 rw[ju]at h;exact jl (br h rfl) (r:=.sh (.int (-1))) (by simp) rfl (by simp[ixP];omega)
theorem r6(f:Fr)(fs:List Fr):(fs.reverse.map Fr.o++[f.o])[fs.length]?=some f.o:=by simp
theorem sE{ρ:ah}{i:Nat}{io:Bool}{f:Fr}{fs:List Fr}(k:Int)(j:Nat)(hk:k=j)(hj:j<4)(h:ρ[i]?=some (some (.tr io (iZ (f ::fs))))):pIx i (pIx i aI (mUn eM (mC (.int 1)))) (mC (.int k)) ρ=some [.ix fs.length,.ix j]:=by
 have h1:=DD h;rw[ju]at h;subst hk;refine va (br h rfl) h1 (r6 f fs) (k:=j) rfl rfl ?_;simp[ixP];omega
theorem BP{ρ:ah}{i:Nat}{io:Bool}{fs:List Fr}(h:ρ[i]?=some (some (.tr io (iZ fs)))):
  dJ (cX i aI) (aE (mOp gEq (cM i (pIx i (pIx i aI (mUn eM (mC (.int 1)))) (mC (.int 0)))) (mC (.str "fields")))) ρ=.ok (inF fs):=by
 cases fs with
 |nil=>simp[dJ,oU h,inF]
 | cons f fs=>
   have hi:=sE 0 0 rfl (by omega) h
   have h':=h
   rw[ju]at h';have hp:=lV (qH (br h' rfl) hi (r6 f fs) rfl)
   cases hk:f.k<;>simp -implicitDefEqProofs [dJ,oU h,inF,aE,hp,hk,kS,gEq,eqS,bO]
theorem Iq{ρ:ah}{i:Nat}{io:Bool}{fs:List Fr}(h:ρ[i]?=some (some (.tr io (iZ fs)))):
  dJ (cX i aI) (cO (cM i (pIx i (pIx i aI (mUn eM (mC (.int 1)))) (mC (.int 1))))) ρ=.ok (full fs):=by
 cases fs with
 |nil=>simp[dJ,oU h,full]
 | cons f fs=>
   have hi:=sE 1 1 rfl (by omega) h
   have h':=h
   rw[ju]at h'
   have hp:cM i (pIx i (pIx i aI (mUn eM (mC (.int 1)))) (mC (.int 1))) ρ=.ok (.al f.items):=by
    unfold cM;rw[qH (br h' rfl) hi (r6 f fs) (u:=.ol (f.items.map .sh)) rfl];simp only[yh]
   simp -implicitDefEqProofs [dJ,oU h,full,cO,hp,uh]
noncomputable def iC(fs:List Fr)(row:List Int)(n:Int):List Int:=row++lwh (n/3)++(if full fs then 44 ::lwh (n/11)else[])
noncomputable def mL(ns:List Int)(n:Int):List Sg:=lts (lnm ns (n/13)) (n/17) 0
noncomputable def r9(ns:List Int)(n:Int):List Int:=lwh (n/19)++58 ::lwh (n/23)
noncomputable def bW(ns:List Int)(B:Bd)(n:Int):List Int:=if inF B.frs then iC B.frs B.row n++PG.txt (mL ns n)++r9 ns n else iC B.frs B.row n
noncomputable def aS(ns:List Int)(B:Bd)(n:Int):List Nd:=if inF B.frs then B.nodes++[⟨"name",(iC B.frs B.row n).length,(iC B.frs B.row n++PG.txt (mL ns n)).length,0⟩]else B.nodes
noncomputable def dM(ns:List Int)(B:Bd)(n:Int):List Int:=if inF B.frs then lnm ns (n/13)else[]
theorem tf(fs:List Fr)(row:List Int)(n:Int):(iC fs row n).length<=row.length+7:=by
 unfold iC;have h1:=fN (n/3);have h2:=fN (n/11)
 cases full fs<;>simp<;>omega
theorem zF(l:List Int)(n:Int)(h:l.all eB=true)(h2:l.length<14):(PG.txt (lts l n 0)).length<=158:=by
 rcases zO l n 0 with z|z
 . simp[PG.txt];omega
 . rw[h]at z;cases z
theorem qC(ns:List Int)(n:Int):(PG.txt (mL ns n)).length<=158:=zF _ _ (tQ ns _).1 (tQ ns _).2
theorem oe(ns:List Int)(B:Bd)(n:Int):(bW ns B n).length<=B.row.length+180:=by
 unfold bW r9;have h1:=tf B.frs B.row n;have h2:=qC ns n;have h3:=fN (n/19);have h4:=fN (n/23)
 cases inF B.frs<;>simp<;>omega
theorem ki{ρ:ah}{i:Nat}{io:Bool}{row ys:List Int}{me:ah->OE}(h:ρ[i]?=some (some (.tr io (da row))))(he:me ρ=.ok (.fr (ys.map .int)) \/ me ρ=.ok (.sh (.lst (ys.map .int))))(hl:row.length+ys.length<=1000000):dE i aI me ρ=.nx (ρ.set i (some (.tr io (da (row++ys))))):=by
 rw[CW (ts:=row.map fun b=>.sh (.int b)) h he (by rw[List.length_map,List.length_map];exact fe hl)];simp[da,Function.comp_def]
theorem vN{ρ:ah}{i:Nat}{io:Bool}{row:List Int}{b:Int}{md:ah->OD}(h:ρ[i]?=some (some (.tr io (da row))))(hd:md ρ=.ok (.sh (.int b)))(hl:row.length<1000000):bK i aI md ρ=.nx (ρ.set i (some (.tr io (da (row++[b]))))):=by
 rw[rZ (ts:=row.map fun b=>.sh (.int b)) h hd (by rw[List.length_map];exact fe (n:=row.length+1) (by omega))];simp[da]
theorem vY{ρ:ah}{i:Nat}{io:Bool}{nds:List Nd}{d:Nd}{md:ah->OD}(h:ρ[i]?=some (some (.tr io (jI nds))))(hd:md ρ=.ok d.o)(hl:nds.length<1000000):bK i aI md ρ=.nx (ρ.set i (some (.tr io (jI (nds++[d]))))):=by
 rw[rZ (ts:=nds.map Nd.o) h hd (by rw[List.length_map];exact fe (n:=nds.length+1) (by omega))];simp[jI]
theorem sa{ρ:ah}{i:Nat}{io:Bool}{row:List Int}(h:ρ[i]?=some (some (.tr io (da row)))):eQ i aI ρ=.ok (.sh (.int row.length)):=by
 rw[tK (gS (br h rfl)),List.length_map]
theorem wB{ρ:ah}{i:Nat}{io:Bool}{nds:List Nd}(h:ρ[i]?=some (some (.tr io (jI nds)))):eQ i aI ρ=.ok (.sh (.int nds.length)):=by
 rw[tK (gS (br h rfl)),List.length_map]
noncomputable abbrev gE(ns row:List Int)(ds:List Nd)(fs:List Fr)(n:Int)(a b c:Option Sl):ah:=[some (.sh (.lst (ns.map .int))),some (.tr true (da row)),some (.tr true (jI ds)),some (.tr true (iZ fs)),some (.sh (.int n)),a,b,c]
theorem D8(ns:List Int)(B:Bd)(n:Int)(hr:B.row.length<100000)(hn:B.nodes.length<100000):
  eJ [.sh (.lst (ns.map .int)),.tr true (da B.row),.tr true (jI B.nodes),.tr true (iZ B.frs),.sh (.int n)] =
   .ok (.tup ((dM ns B n).map .int)) [none,some (da (bW ns B n)),some (jI (aS ns B n)),some (iZ B.frs),none]:=by
 have hw:∀(ρ:ah) (d:Int),ρ[4]?=some (some (.sh (.int n)))->0<d->d<1000->aX bV (aq (mOp cG (ak 4) (mC (.int d))) aL) ρ=.ok (.fr ((lwh (n/d)).map .int)):=fun ρ d h h1 h2=>by
  have h3:¬ d=0:=by omega
  have h4:d<1073741824:=by omega
  simp[h,h1,h3,h4,cR]
 have hbl:=tf B.frs B.row n
 have e0:jZ (gE ns B.row B.nodes B.frs n none none none) =
   kC (gE ns (iC B.frs B.row n) B.nodes B.frs n (some (.sh (.tup []))) none none):=by
  unfold jZ;rw[aP (ki rfl (.inl (hw _ 3 rfl (by omega) (by omega))) (by have:=fN (n/3);omega))];unfold oY;rw[aP (ρ':=(gE ns (B.row++lwh (n/3)) B.nodes B.frs n (some (.sh (.tup []))) none none)) (by simp[aN])];unfold oW;refine aP ?_;unfold bj;rw[Iq (fs:=B.frs) rfl];have h3:=fN (n/3);have h11:=fN (n/11)
  cases hf:full B.frs with
  |false=>simp[iC,hf,aT]
  | true=>
    refine Eq.trans (aP (vN (row:=B.row++lwh (n/3)) rfl rfl (by simp;omega))) ?_;refine Eq.trans (ki rfl (.inl (hw _ 11 rfl (by omega) (by omega))) (by simp;omega)) ?_;simp[iC,hf]
 unfold eJ fnI;rw[if_pos (show List.length [Sl.sh (.lst (ns.map .int)),.tr true (da B.row),.tr true (jI B.nodes),.tr true (iZ B.frs),.sh (.int n)]=5 from rfl)];show yV 5 (jZ _)=_;rw[show km 8 [.sh (.lst (ns.map .int)),.tr true (da B.row),.tr true (jI B.nodes),.tr true (iZ B.frs),.sh (.int n)]=(gE ns B.row B.nodes B.frs n none none none) from rfl,e0];unfold kC
 cases hf:inF B.frs with
 | false=>
   rw[aP (ρ':=(gE ns (iC B.frs B.row n) B.nodes B.frs n (some (.sh (.tup []))) none none)) (by
    unfold bj;rw[BP (fs:=B.frs) rfl,hf]
    rfl)]
   simp[dM,bW,aS,hf,kL,dB,yV,qh]
 | true=>
   generalize hrow:iC B.frs B.row n=row;rw[hrow]at hbl;have ht:=qC ns n;have h19:=fN (n/19);have h23:=fN (n/23);have hnm:=mv ns (n/13);have htx:=iD (lnm ns (n/13)) (n/17) (tQ ns _).1 (by have:=(tQ ns (n/13)).2;omega)
   change eP _=.ok (.fr ((PG.txt (mL ns n)).map .int))at htx
   rw[aP (ρ':=(gE ns (bW ns B n) (aS ns B n) B.frs n (some (.sh (.tup ((dM ns B n).map .int)))) (some (.sh (.lst ((lnm ns (n/13)).map .int)))) (some (.sh (.int row.length))))) (by
    unfold bj;rw[BP (fs:=B.frs) rfl,hf];show aA _ _ _=_;rw[aP (ρ':=(gE ns row B.nodes B.frs n (some (.sh (.tup []))) (some (.ow ((lnm ns (n/13)).map .int))) none)) (by simp[aN,hnm])];rw[aP (ρ':=(gE ns row B.nodes B.frs n (some (.sh (.tup ((dM ns B n).map .int)))) (some (.ow ((lnm ns (n/13)).map .int))) none)) (by simp[aN,kD,dM,hf])];rw[aP (ρ':=(gE ns row B.nodes B.frs n (some (.sh (.tup ((dM ns B n).map .int)))) (some (.ow ((lnm ns (n/13)).map .int))) (some (.sh (.int row.length))))) (by unfold aN;rw[sa (row:=row) rfl];simp)]
    rw[aP (ρ':=(gE ns (row++PG.txt (mL ns n)) B.nodes B.frs n (some (.sh (.tup ((dM ns B n).map .int)))) (some (.sh (.lst ((lnm ns (n/13)).map .int)))) (some (.sh (.int row.length))))) (by
     unfold cK
     exact ki (row:=row) rfl (.inl (by simp[fT,htx])) (by omega))]
    rw[aP (vY (nds:=B.nodes) (d:=⟨"name",row.length,(row++PG.txt (mL ns n)).length,0⟩) rfl (by
     have:=sa (ρ:=(gE ns (row++PG.txt (mL ns n)) B.nodes B.frs n (some (.sh (.tup ((dM ns B n).map .int)))) (some (.sh (.lst ((lnm ns (n/13)).map .int)))) (some (.sh (.int row.length))))) (i:=1) (row:=row++PG.txt (mL ns n)) rfl
     simp[mD,this,Nd.o,ndO]) (by omega))]
    rw[aP (ki (row:=row++PG.txt (mL ns n)) rfl (.inl (hw _ 19 rfl (by omega) (by omega))) (by simp;omega))];rw[aP (vN (row:=row++PG.txt (mL ns n)++lwh (n/19)) rfl rfl (by simp;omega))];rw[ki (row:=row++PG.txt (mL ns n)++lwh (n/19)++[58]) rfl (.inl (hw _ 23 rfl (by omega) (by omega))) (by simp;omega)]
    simp[bW,aS,hf,hrow,r9])]
   simp[kL,dB,yV,qh]
noncomputable def lfV(ns:List Int)(n:Int):PV:=
 if n/5%6=0 then .non else if n/5%6=1 then .bl true else if n/5%6=2 then .bl false
 else if n/5%6=3 then .tup [.str "text",.tup ((PG.points ns (7+n%41)).map .int)]
 else match pairOf 20 (mwV (dk (n/7))) (exV (dk (n/7)).ex - (dk (n/7)).fr.length)with
  |.tup [.int a,.int b]=>.tup [.str "number",.int a,.int b]
  |_=>.non
theorem EM(ns:List Int)(n:Int)(hn:0<=n):bS [.lst (ns.map .int),.int n]=.ok (.sh (.tup [.str (lfK (gp ns n)),.lst ((lfb (gp ns n)).map .int),lfV ns n])):=by
 have e1:=fV ns (7+n%41);have e2:=iD (PG.points ns (7+n%41)) (n/30) (n6 _ _) (by have:=pA ns (7+n%41);omega);have e3:=jm (n/7) (by omega)
 have e0:bS [.lst (ns.map .int),.int n]=fin (jj [some (.sh (.lst (ns.map .int))),some (.sh (.int n)),some (.sh (.int (n/5%6))),none,none]):=by
  unfold bS fnP;rw[if_pos (show List.length [PV.lst (ns.map .int),.int n]=2 from rfl),show jG 5 [PV.lst (ns.map .int),.int n]=[some (.sh (.lst (ns.map .int))),some (.sh (.int n)),none,none,none] from rfl];unfold kj;rw[aP (ρ':=[some (.sh (.lst (ns.map .int))),some (.sh (.int n)),some (.sh (.int (n/5%6))),none,none]) (by simp[aN])]
 rw[e0]
 have no:∀ i:Int,¬ n/5%6=i->aE (mOp gEq (ak 2) (mC (.int i))) [some (.sh (.lst (ns.map .int))),some (.sh (.int n)),some (.sh (.int (n/5%6))),none,none]=.ok false:=fun i h=>by simp[aE,h]
 have yes:∀ i:Int,n/5%6=i->aE (mOp gEq (ak 2) (mC (.int i))) [some (.sh (.lst (ns.map .int))),some (.sh (.int n)),some (.sh (.int (n/5%6))),none,none]=.ok true:=fun i h=>by simp[aE,h]
 unfold gp lfV
 by_cases h0:n/5%6=0
 . rw[if_pos h0,if_pos h0];exact tS (ρ:=[some (.sh (.lst (ns.map .int))),some (.sh (.int n)),some (.sh (.int (n/5%6))),none,none]) (st (yes 0 h0) (by simp[lfK,lfb,wdb]))
 rw[if_neg h0,if_neg h0]
 by_cases h1:n/5%6=1
 . rw[if_pos h1,if_pos h1];exact tS (ρ:=[some (.sh (.lst (ns.map .int))),some (.sh (.int n)),some (.sh (.int (n/5%6))),none,none]) ((sk (no 0 h0)).trans (st (yes 1 h1) (by simp[lfK,lfb,wdb])))
 rw[if_neg h1,if_neg h1]
 by_cases h2:n/5%6=2
 . rw[if_pos h2,if_pos h2];exact tS (ρ:=[some (.sh (.lst (ns.map .int))),some (.sh (.int n)),some (.sh (.int (n/5%6))),none,none]) ((sk (no 0 h0)).trans ((sk (no 1 h1)).trans (st (yes 2 h2) (by simp[lfK,lfb,wdb]))))
 rw[if_neg h2,if_neg h2]
 by_cases h3:n/5%6=3
 . rw[if_pos h3,if_pos h3];exact tS (ρ:=[some (.sh (.lst (ns.map .int))),some (.sh (.int n)),some (.sh (.int (n/5%6))),some (.sh (.lst ((PG.points ns (7+n%41)).map .int))),none]) ((sk (no 0 h0)).trans ((sk (no 1 h1)).trans ((sk (no 2 h2)).trans (st (yes 3 h3) ((aP (ρ':=[some (.sh (.lst (ns.map .int))),some (.sh (.int n)),some (.sh (.int (n/5%6))),some (.ow ((PG.points ns (7+n%41)).map .int)),none]) (by simp[aN,e1])).trans (by simp[cK,fT,e2,kD,lfK,lfb]))))))
 rw[if_neg h3,if_neg h3];obtain⟨a,b,hab⟩:=vV 20 (mwV (dk (n/7))) (exV (dk (n/7)).ex - (dk (n/7)).fr.length)
 rw[hab]at e3 ⊢
 exact tS (ρ:=[some (.sh (.lst (ns.map .int))),some (.sh (.int n)),some (.sh (.int (n/5%6))),none,some (.sh (.tup [.lst ((PG.nb (dk (n/7))).map .int),.tup [.int a,.int b]]))]) ((sk (no 0 h0)).trans ((sk (no 1 h1)).trans ((sk (no 2 h2)).trans ((sk (no 3 h3)).trans ((aP (ρ':=[some (.sh (.lst (ns.map .int))),some (.sh (.int n)),some (.sh (.int (n/5%6))),none,some (.sh (.tup [.lst ((PG.nb (dk (n/7))).map .int),.tup [.int a,.int b]]))]) (by simp[aN,e3])).trans (by simp[jk,cC,atP,ixP,lfK,lfb]))))))
theorem AU(n:Int):(PG.nb (dk n)).length<=30:=by
 have h1:(ck (n/3%100000).toNat).length<=5:=nO 4 _ (by omega)
 have h2:(ck (n/37%30).toNat).length<=2:=nO 1 _ (by omega)
 have h3:(frB (bA n)).length<=4:=by
  have:(bA n).length<=3:=by unfold bA;split<;>simp;omega
  unfold frB
  split<;>simp;omega
 have h4:(exB (eU n)).length<=6:=by
  unfold eU;split
  . have hs:(if n/43%3=1 then[45]else if n/43%3=2 then[43]else[]:List Int).length<=1:=by split;simp;split<;>simp
    have ht:(if n/47%4=1 then[48]else[]:List Int).length<=1:=by split<;>simp
    simp only[exB,List.length_append,List.length_cons];omega
  . simp[exB]
 unfold PG.nb dk;simp only[List.length_append]
 split<;>simp<;>omega
theorem zL(ns:List Int)(n:Int):(lfb (gp ns n)).length<=160:=by
 unfold gp;split
 . simp[lfb,wdb]
 . split
   . simp[lfb,wdb]
   . split
     . simp[lfb,wdb]
     . split
       . have:=zF (PG.points ns (7+n%41)) (n/30) (n6 _ _) (pA _ _);simp only[lfb];omega
       . have:=AU (n/7);simp only[lfb];omega
noncomputable def il(nm:List Int)(v:PV):List Fr->List Fr
 |[]=>[]
 |g ::gs=>{ g with items:=g.items++[if g.k then v else .tup [.tup (nm.map .int),v]] } ::gs
noncomputable def Bd.close(B:Bd):Bd:=match B.frs with
 |[]=>B
 | f ::fs=>⟨B.row ++ [brk f.k],
     let ns:=B.nodes.modify f.i fun d=>{ d with b:=B.row.length+1,c:=B.nodes.length }
     if inF fs then ns.modify (f.i - 1) fun d=>{ d with c:=B.nodes.length } else ns,
     il f.nm (.tup [kS f.k,.tup f.items]) fs,.tup [kS f.k,.tup f.items]⟩
noncomputable def kN(k:Bool):String:=if k then "row" else "fields"
noncomputable def Bd.opn(ns:List Int)(B:Bd)(n:Int):Bd:=
 ⟨bW ns B n++[if n/5%2=0 then 91 else 123],aS ns B n++[⟨kN (n/5%2=0),(bW ns B n).length,0,0⟩],⟨n/5%2=0,[],(aS ns B n).length,dM ns B n⟩ ::B.frs,B.val⟩
noncomputable def Bd.leaf(ns:List Int)(B:Bd)(n:Int):Bd:=
 ⟨bW ns B n++lfb (gp ns n),
   let ds:=aS ns B n++[⟨lfK (gp ns n),(bW ns B n).length,(bW ns B n++lfb (gp ns n)).length,(aS ns B n).length+1⟩]
   if inF B.frs then ds.modify (ds.length - 2) fun d=>{ d with c:=ds.length } else ds,
   il (dM ns B n) (lfV ns n) B.frs,lfV ns n⟩
noncomputable def Bd.step(ns:List Int)(B:Bd)(k:Nat):Bd:=
 if B.frs.isEmpty=false /\ PG.mix ns k%5=1 then Bd.close { B with row:=B.row++lwh (PG.mix ns k/3) }
 else if B.frs.isEmpty=false \/ k=0 then
  if PG.mix ns k%5>2 \/ (k=0 /\ PG.mix ns k%9>0)then B.opn ns (PG.mix ns k)else B.leaf ns (PG.mix ns k)
 else B
noncomputable def FOk(N K:Nat):List Fr->Prop
 |[]=>True
 |f ::fs=>f.i<N /\ f.items.length<=K /\ (fs≠[]->1<=f.i) /\ FOk N K fs
theorem FOk.mono{N K N' K':Nat}(h1:N<=N')(h2:K<=K'):∀{fs:List Fr},FOk N K fs->FOk N' K' fs
 |[],_=>trivial
 |_ ::_,h=>⟨Nat.lt_of_lt_of_le h.1 h1,Nat.le_trans h.2.1 h2,h.2.2.1,FOk.mono h1 h2 h.2.2.2⟩
theorem FOk.il{N K:Nat}(nm:List Int)(v:PV){fs:List Fr}(h:FOk N K fs):FOk N (K+1) (il nm v fs):=by
 cases fs with
 |nil=>trivial
 |cons g gs=>exact⟨h.1,by simp;exact h.2.1,h.2.2.1,FOk.mono (Nat.le_refl _) (Nat.le_succ _) h.2.2.2⟩
structure Bok(B:Bd)(k:Nat):Prop where
 row:B.row.length<=400*k
 nodes:B.nodes.length<=2*k
 frs:FOk B.nodes.length k B.frs
 dep:B.frs.length<=k
theorem sJ(nm:List Int)(v:PV)(fs:List Fr):(il nm v fs).length=fs.length:=by cases fs<;>simp[il]
theorem kd(ns:List Int)(B:Bd)(n:Int):(aS ns B n).length=B.nodes.length+(if inF B.frs then 1 else 0):=by
 unfold aS;cases inF B.frs<;>simp
theorem Bok.close{B:Bd}{k:Nat}(h:Bok B k)(ws:List Int)(hw:ws.length<=3):Bok (Bd.close { B with row:=B.row++ws }) (k+1):=by
 have h1:=h.row;have h2:=h.nodes;have h3:=h.frs;have h4:=h.dep;unfold Bd.close
 cases e:B.frs with
 |nil=>rw[e]at h3 h4;exact⟨by simp;omega,by simp;omega,by simp[e];trivial,by simp[e]⟩
 | cons f fs=>
   rw[e]at h3 h4;simp only[List.length_cons]at h4
   refine⟨by simp;omega,?_,?_,?_⟩
   . simp only;split<;>simp<;>omega
   . have:FOk B.nodes.length (k+1) (il f.nm (.tup [kS f.k,.tup f.items]) fs):=FOk.il _ _ h3.2.2.2
     simp only;split<;>simpa using this
   . simp only[sJ];omega
theorem Bok.opn{B:Bd}{k:Nat}(h:Bok B k)(ns:List Int)(n:Int):Bok (B.opn ns n) (k+1):=by
 have h1:=h.row;have h2:=h.nodes;have h3:=h.frs;have h4:=h.dep;have hb:=oe ns B n;have hl:=kd ns B n;unfold Bd.opn
 refine⟨by simp;omega,?_,?_,by simp;omega⟩
 . simp only[List.length_append,List.length_singleton]
   split at hl<;>omega
 . simp only[List.length_append,List.length_singleton]
   refine⟨by simp,by simp,?_,FOk.mono (by omega) (by omega) h3⟩
   intro hf
   simp only
   cases e:B.frs with
   |nil=>exact absurd e hf
   |cons g gs=>rw[e]at h3;have:=h3.1;omega
theorem Bok.leaf{B:Bd}{k:Nat}(h:Bok B k)(ns:List Int)(n:Int):Bok (B.leaf ns n) (k+1):=by
 have h1:=h.row;have h2:=h.nodes;have h3:=h.frs;have h4:=h.dep;have hb:=oe ns B n;have hf:=zL ns n;have hl:=kd ns B n
 have hN:(B.leaf ns n).nodes.length=(aS ns B n).length+1:=by unfold Bd.leaf;simp only;split<;>simp
 refine⟨by unfold Bd.leaf;simp;omega,by rw[hN];split at hl<;>omega,?_,by unfold Bd.leaf;simp only[sJ];omega⟩
 rw[hN];exact FOk.mono (by omega) (Nat.le_refl _) (FOk.il _ _ h3)
theorem Bok.mono{B:Bd}{k k':Nat}(h:Bok B k)(hk:k<=k'):Bok B k':=
 ⟨by have:=h.row;omega,by have:=h.nodes;omega,FOk.mono (Nat.le_refl _) hk h.frs,by have:=h.dep;omega⟩
theorem Bok.step{B:Bd}{k:Nat}(h:Bok B k)(ns:List Int):Bok (B.step ns k) (k+1):=by
 unfold Bd.step;split
 . exact h.close _ (fN _)
 . split
   . split
     . exact h.opn ns _
     . exact h.leaf ns _
   . exact h.mono (by omega)
theorem qo(g:Nd->Nd):∀(nodes:List Nd) (i:Nat) (d:Nd),nodes[i]?=some d->(nodes.map Nd.o).set i (g d).o=(nodes.modify i g).map Nd.o
 |[],i,d,h=>by simp at h
 |x ::xs,0,d,h=>by simp at h;subst h;simp
 | x ::xs,i+1,d,h=>by
   simp at h;simp[qo g xs i d h]
theorem zc{nodes:List Nd}{i:Nat}(h:i<nodes.length):∃ d,nodes[i]?=some d:=⟨nodes[i],by simp[h]⟩
theorem Aj{nodes:List Nd}{i:Nat}{d:Nd}(h:nodes[i]?=some d):(nodes.map Nd.o)[i]?=some (ndO (.str d.s) d.a d.b d.c):=by
 rw[List.getElem?_map,h];rfl
theorem DV(B:Bd)(k:Nat)(h:Bok B k)(hk:k<=100)(hf:B.frs≠[]):
  cg [.tr true (da B.row),.tr true (jI B.nodes),.tr true (iZ B.frs)]=.ok B.close.val [some (da B.close.row),some (jI B.close.nodes),some (iZ B.close.frs)]:=by
 have h1:=h.row;have h2:=h.nodes;have h3:=h.frs;unfold Bd.close
 cases e:B.frs with
 |nil=>exact absurd e hf
 | cons f fs=>
   rw[e]at h3;obtain⟨d,hd⟩:=zc h3.1;have hit:=h3.2.1
   cases e2:fs with
   | nil=>
     have:=yM B.row (B.nodes.map Nd.o) f.k f.items f.i f.nm (.str d.s) d.a d.b d.c (Aj hd) (by omega) (by rw[List.length_map];omega) (by omega);refine Eq.trans this ?_;have hs:=qo (fun d=>{ d with b:=B.row.length+1,c:=B.nodes.length }) B.nodes f.i d hd;simp only[inF,il,iZ,jI,List.length_map,Bool.false_eq_true,if_false,<- hs];rfl
   | cons g gs=>
     rw[e2]at h3;have h1i:=h3.2.2.1 (by simp)
     have hit':=h3.2.2.2.2.1
     obtain⟨d2,hd2⟩:=zc (nodes:=B.nodes) (i:=f.i - 1) (by have:=h3.1;omega);have:=yB B.row (B.nodes.map Nd.o) (gs.reverse.map Fr.o) f.k g.k f.items g.items f.i g.i f.nm g.nm (.str d.s) (.str d2.s) d.a d.b d.c d2.a d2.b d2.c (Aj hd) (by omega) (by rw[List.length_map];omega) (by omega) (by omega) (fun _=>⟨h1i,Aj hd2⟩);have hs:=qo (fun d=>{ d with b:=B.row.length+1,c:=B.nodes.length }) B.nodes f.i d hd
     have hd2':(B.nodes.modify f.i fun d=>{ d with b:=B.row.length+1,c:=B.nodes.length })[f.i - 1]?=some d2:=by
      rw[List.getElem?_modify,hd2];simp;intro z;omega
     have hs2:=qo (fun d=>{ d with c:=B.nodes.length }) _ (f.i - 1) d2 hd2';rw[<- hs]at hs2;refine Eq.trans (congrArg cg ?_) (Eq.trans this ?_)
     . simp[iZ,jI,Fr.o]
     . cases hg:g.k
       . simp only[inF,il,iZ,jI,List.length_map,hg,Bool.not_false,Bool.false_eq_true,if_true,if_false,<- hs2];simp[Nd.o,Fr.o]
       . simp only[inF,il,iZ,jI,List.length_map,hg,Bool.not_true,Bool.false_eq_true,if_true,if_false,<- hs];simp[Nd.o,Fr.o]
noncomputable def bE(ns:List Int)(m:Int)(B:Bd)(a b c d e f:Option Sl):ah:=[some (.sh (.lst (ns.map .int))),some (.sh (.int m)),some (.tr false (da B.row)),some (.tr false (jI B.nodes)),some (.tr false (iZ B.frs)),some (.sh B.val),a,b,c,d,e,f]
theorem sO(ns:List Int)(m:Int)(B:Bd)(k:Nat)(h:Bok B k)(hk:k<=100)(hf:B.frs≠[])(a b c d e f:Option Sl):
  la 5 (kl cg [.t 2 aI,.t 3 aI,.t 4 aI]) (bE ns m B a b c d e f)=.nx (bE ns m B.close a b c d e f):=by
 have e1:qc [.t 2 aI,.t 3 aI,.t 4 aI] (bE ns m B a b c d e f)=some [.tr true (da B.row),.tr true (jI B.nodes),.tr true (iZ B.frs)]:=by
  simp[qc,AS,bE,aI,OV.get_nil]
 unfold la kl;rw[e1];simp only[DV B k h hk hf];simp[fi,ku,bE,aI,OV.j6,nio]
theorem yD(ns:List Int)(m:Int)(B:Bd)(k:Nat)(h:Bok B k)(hk:k<=100)(a:Option Sl)(n:Int)(c d e f:Option Sl):
  la 8 (kl eJ [.e (ak 0),.t 2 aI,.t 3 aI,.t 4 aI,.e (ak 7)]) (bE ns m B a (some (.sh (.int n))) c d e f) =
   .nx (bE ns m ⟨bW ns B n,aS ns B n,B.frs,B.val⟩ a (some (.sh (.int n))) (some (.sh (.tup ((dM ns B n).map .int)))) d e f):=by
 have h1:=h.row;have h2:=h.nodes
 have e1:qc [.e (ak 0),.t 2 aI,.t 3 aI,.t 4 aI,.e (ak 7)] (bE ns m B a (some (.sh (.int n))) c d e f)=some [.sh (.lst (ns.map .int)),.tr true (da B.row),.tr true (jI B.nodes),.tr true (iZ B.frs),.sh (.int n)]:=by
  simp[qc,AS,bE,aI,OV.get_nil,lG]
 unfold la kl;rw[e1];simp only[D8 ns B n (by omega) (by omega)];simp[fi,ku,bE,aI,OV.j6,nio]
noncomputable abbrev bF(ns:List Int)(m:Int)(C B:Bd)(n:Int)(a e f:Option Sl):ah:=bE ns m C a (some (.sh (.int n))) (some (.sh (.tup ((dM ns B n).map .int)))) (some (.sh (.int (bW ns B n).length))) e f
noncomputable abbrev bG(ns:List Int)(m:Int)(B:Bd)(n:Int)(a e f:Option Sl):ah:=bF ns m ⟨bW ns B n,aS ns B n,B.frs,B.val⟩ B n a e f
theorem Jj(k:Bool):kS k=.str (kN k):=by cases k<;>rfl
theorem Be(ns:List Int)(m:Int)(B:Bd)(k:Nat)(h:Bok B k)(hk:k<=100)(a:Option Sl)(n:Int)(e f:Option Sl):∃ e',
  (aA (aN 10 (mOp cV (cN (aq (mC (.str "row")) (aq (mC (.str "fields")) aL))) (mOp bM (mOp cG (ak 7) (mC (.int 5))) (mC (.int 2)))))
  (aA (bK 2 aI (mD (jF (aE (mOp gEq (ak 10) (mC (.str "row")))) (mC (.int 91)) (mC (.int 123)))))
  (aA (bK 4 aI (mDl (mDc (mD (ak 10)) (mDc (mD (cN aL)) (mDc (mD (eQ 3 aI)) (mDc (mD (ak 8)) mDn))))))
  (bK 3 aI (mD (cN (aq (ak 10) (aq (ak 9) (aq (mC (.int 0)) (aq (mC (.int 0)) aL))))))))))
  (bG ns m B n a e f) =
  .nx (bF ns m (B.opn ns n) B n a e' f):=by
 have h1:=h.row;have h2:=h.nodes;have h4:=h.dep;have hb:=oe ns B n;have hl:=kd ns B n
 have hl':(aS ns B n).length<=B.nodes.length+1:=by split at hl<;>omega
 refine⟨some (.sh (kS (n/5%2=0))),?_⟩
 have hz:n/5%2=0 \/ n/5%2=1:=by omega
 rw[aP (ρ':=bG ns m B n a (some (.sh (kS (n/5%2=0)))) f) (by
  rcases hz with z|z<;>simp[aN,bE,z,cV,atP,ixP,kS])]
 rw[aP (vN (row:=bW ns B n) (b:=if n/5%2=0 then 91 else 123) rfl (by
  rcases hz with z|z<;>simp -implicitDefEqProofs [mD,jF,aE,bE,z,kS,gEq,eqS,bO]) (by omega))]
 rw[aP (rZ (ts:=B.frs.reverse.map Fr.o) (x:=Fr.o ⟨n/5%2=0,[],(aS ns B n).length,dM ns B n⟩) rfl (by
  have:=wB (ρ:=(bG ns m B n a (some (.sh (kS (n/5%2=0)))) f).set 2 (some (.tr false (da (bW ns B n++[if n/5%2=0 then 91 else 123]))))) (i:=3) (nds:=aS ns B n) rfl;simp only[mDl,mDc,mD,this]
  simp[mDn,bE,Fr.o,frO,mDl]) (by simp;exact fe (n:=B.frs.length+1) (by omega)))]
 rw[vY (nds:=aS ns B n) (d:=⟨kN (n/5%2=0),(bW ns B n).length,0,0⟩) rfl (by
  simp[mD,bE,Nd.o,ndO,Jj]) (by omega)]
 simp[bE,Bd.opn,iZ]
theorem LV(n:Int):(if n/5%2=0 then true else false)=decide (n/5%2=0):=by simp
theorem rX{ρ:ah}{i:Nat}{io:Bool}{g:Fr}{gs:List Fr}{x:PV}{md:ah->OD}(h:ρ[i]?=some (some (.tr io (iZ (g ::gs)))))(hd:md ρ=.ok (.sh x))(hl:g.items.length<1000):
  bK i (pIx i (pIx i aI (mUn eM (mC (.int 1)))) (mC (.int 1))) md ρ=.nx (ρ.set i (some (.tr io (iZ ({ g with items:=g.items++[x] } ::gs))))):=by
 have hi:=sE 1 1 rfl (by omega) h;rw[ju]at h;rw[zq h hi (r6 g gs) (xs:=g.items.map .sh) rfl hd (by rw[List.length_map];exact fe (n:=g.items.length+1) (by omega))];rw[ju];simp[Fr.o,frO,List.set_append_right]
theorem A7(ns:List Int)(m:Int)(B:Bd)(k:Nat)(h:Bok B k)(hk:k<=100)(a:Option Sl)(n:Int)(hn:0<=n)(e f:Option Sl):∃ f',
  (aA (aN 11 (aX bS (aq (ak 0) (aq (ak 7) aL))))
  (aA (dE 2 aI (mOp cC (ak 11) (mC (.int 1))))
  (aA (bK 3 aI (mD (cN (aq (mOp cC (ak 11) (mC (.int 0))) (aq (ak 9) (aq (eQ 2 aI) (aq (mOp bR (eQ 3 aI) (mC (.int 1))) aL)))))))
  (aA (aN 5 (mOp cC (ak 11) (mC (.int 2))))
  (bj (dJ (cX 4 aI) (aE (mOp gEq (cM 4 (pIx 4 (pIx 4 aI (mUn eM (mC (.int 1)))) (mC (.int 0)))) (mC (.str "fields")))))
  (aA (nc 3 (pIx 3 aI (mUn eM (mC (.int 2)))) (mC (.int 3)) (mD (eQ 3 aI)))
  (bK 4 (pIx 4 (pIx 4 aI (mUn eM (mC (.int 1)))) (mC (.int 1))) (mD (gq (aq (ak 8) (aq (ak 5) aL))))))
  (bj (cX 4 aI)
  (bK 4 (pIx 4 (pIx 4 aI (mUn eM (mC (.int 1)))) (mC (.int 1))) (mD (ak 5)))
  aT))))))
  (bG ns m B n a e f) =
  .nx (bF ns m (B.leaf ns n) B n a e f'):=by
 have h1:=h.row;have h2:=h.nodes;have h3:=h.frs;have h4:=h.dep;have hb:=oe ns B n;have hf:=zL ns n;have hl:=kd ns B n
 have hl':(aS ns B n).length<=B.nodes.length+1:=by split at hl<;>omega
 generalize hF:PV.tup [.str (lfK (gp ns n)),.lst ((lfb (gp ns n)).map .int),lfV ns n]=F
 refine⟨some (.sh F),?_⟩
 generalize hv:lfV ns n=v
 have hi0:atP [PV.str (lfK (gp ns n)),.lst ((lfb (gp ns n)).map .int),v] 0=some (PV.str (lfK (gp ns n))):=by simp[atP,ixP]
 rw[aP (ρ':=bG ns m B n a e (some (.sh F))) (by
  have:=EM ns n hn;rw[hF]at this
  simp[aN,bE,this])]
 rw[aP (ki (row:=bW ns B n) (ys:=lfb (gp ns n)) rfl (.inr (by simp[bE,<- hF,cC,atP,ixP])) (by omega))]
 rw[aP (vY (nds:=aS ns B n) (d:=⟨lfK (gp ns n),(bW ns B n).length,(bW ns B n++lfb (gp ns n)).length,(aS ns B n).length+1⟩) rfl (by
  have hx:=wB (ρ:=(bG ns m B n a e (some (.sh F))).set 2 (some (.tr false (da (bW ns B n++lfb (gp ns n)))))) (i:=3) (nds:=aS ns B n) rfl;have hy:=sa (ρ:=(bG ns m B n a e (some (.sh F))).set 2 (some (.tr false (da (bW ns B n++lfb (gp ns n)))))) (i:=2) (row:=bW ns B n++lfb (gp ns n)) rfl;simp only[mD,cN,aq,hx,hy,mOp]
  simp[bE,<- hF,cC,atP,ixP,Nd.o,ndO]) (by omega))]
 generalize hR:bW ns B n++lfb (gp ns n)=R;generalize hD:aS ns B n++[⟨lfK (gp ns n),(bW ns B n).length,R.length,(aS ns B n).length+1⟩]=D
 have hDl:D.length=(aS ns B n).length+1:=by rw[<- hD];simp
 rw[aP (ρ':=bF ns m ⟨R,D,B.frs,v⟩ B n a e (some (.sh F))) (by
  simp[aN,bE,<- hF,cC,atP,ixP,hv])]
 unfold bj;rw[BP (fs:=B.frs) rfl];unfold Bd.leaf;rw[hR];simp only[hD,hv]
 cases hg:B.frs with
 | nil=>
   have:=oU (ρ:=bF ns m ⟨R,D,[],v⟩ B n a e (some (.sh F))) (i:=4) (fs:=[]) rfl;simp[inF,il,this,aT]
 | cons g gs=>
   rw[hg]at h3;have hit:=h3.2.1;have ht:=oU (ρ:=bF ns m ⟨R,D,g ::gs,v⟩ B n a e (some (.sh F))) (i:=4) (fs:=g ::gs) rfl
   cases hgk:g.k with
   | true=>
     have hp:=rX (ρ:=bF ns m ⟨R,D,g ::gs,v⟩ B n a e (some (.sh F))) (i:=4) (g:=g) (gs:=gs) (x:=v) (md:=mD (ak 5)) rfl (by simp[mD,bE]) (by omega);simp[inF,il,ht,hgk,hp];simp[bE]
   | false=>
     have h2l:2<=D.length:=by
      have hq:inF B.frs=true:=by rw[hg];simp[inF,hgk]
      rw[hq]at hl;simp at hl;omega
     obtain⟨d2,hd2⟩:=zc (nodes:=D) (i:=D.length - 2) (by omega);have hs:=qo (fun d=>{ d with c:=D.length }) D (D.length - 2) d2 hd2
     have hput:=sm (ρ:=bF ns m ⟨R,D,g ::gs,v⟩ B n a e (some (.sh F))) (i:=3) (io:=false) (ts:=D.map Nd.o) (j:=D.length - 2) (j2:=3) (mk:=mC (.int 3)) (md:=mD (eQ 3 aI)) (x:=.sh (.int D.length)) (mp:=pIx 3 aI (mUn eM (mC (.int 2)))) rfl
      (jl (i:=3) (ts:=D.map Nd.o) (br (s:=.tr false (jI D)) rfl rfl) (r:=.sh (.int (-2))) (k:=-2) (by simp) rfl (by rw[List.length_map];unfold ixP;rw[if_neg (by omega),if_pos (by omega)];congr 1;omega)) (Aj hd2) rfl rfl rfl (by unfold mD;rw[wB (nds:=D) rfl])
     have e3:(D.map Nd.o).set (D.length - 2) (.ol ([.sh (.str d2.s),.sh (.int d2.a),.sh (.int d2.b),.sh (.int d2.c)].set 3 (.sh (.int D.length))))=(D.modify (D.length - 2) fun d=>{ d with c:=D.length }).map Nd.o:=hs
     rw[e3]at hput;have hp:=rX (ρ:=bF ns m ⟨R,D.modify (D.length - 2) fun d=>{ d with c:=D.length },g ::gs,v⟩ B n a e (some (.sh F))) (i:=4) (g:=g) (gs:=gs) (x:=.tup [.tup ((dM ns B n).map .int),v]) (md:=mD (gq (aq (ak 8) (aq (ak 5) aL)))) rfl (by simp[mD,bE]) (by omega)
     have:inF (g ::gs)=true:=by simp[inF,hgk]
     rw[this];refine Eq.trans (aP hput) ?_;refine Eq.trans hp ?_;simp[il,hgk,bE]
theorem Hi(ns:List Int)(m:Int)(B:Bd)(k:Nat)(h:Bok B k)(hk:k<=90)(b c d e f:Option Sl):∃ b' c' d' e' f',
  gu (bE ns m B (some (.sh (.int k))) b c d e f)=.nx (bE ns m (B.step ns k) (some (.sh (.int k))) b' c' d' e' f'):=by
 have hm:0<=PG.mix ns k:=(yJ ns k).1
 have h1:=h.row;unfold gu;rw[aP (ρ':=bE ns m B (some (.sh (.int k))) (some (.sh (.int (PG.mix ns k)))) c d e f) (by simp[aN,bE,bp])];unfold Bd.step
 generalize PG.mix ns k=n at hm ⊢
 have c1:dJ (cX 4 aI) (aE (mOp gEq (mOp bM (ak 7) (mC (.int 5))) (mC (.int 1)))) (bE ns m B (some (.sh (.int k))) (some (.sh (.int n))) c d e f)=.ok (decide (B.frs.isEmpty=false /\ n%5=1)):=by
  have:=oU (ρ:=bE ns m B (some (.sh (.int k))) (some (.sh (.int n))) c d e f) (i:=4) (fs:=B.frs) rfl
  unfold bE at this ⊢
  cases hf:B.frs.isEmpty<;>simp[dJ,this,hf,aE]
 unfold bj;rw[c1]
 by_cases hc1:B.frs.isEmpty=false /\ n%5=1
 . rw[if_pos hc1,decide_eq_true hc1]
   refine⟨some (.sh (.int n)),c,d,e,f,Eq.trans (aP (ρ':=bE ns m { B with row:=B.row++lwh (n/3) } (some (.sh (.int k))) (some (.sh (.int n))) c d e f) ?_) ?_⟩
   . exact ki (row:=B.row) rfl (.inl (by simp[bE,cR])) (by have:=fN (n/3);omega)
   . refine sO ns m { B with row:=B.row++lwh (n/3) } (k+1) ⟨?_,?_,?_,?_⟩ (by omega) ?_ _ _ _ _ _ _
     . have:=fN (n/3);simp;omega
     . have:=h.nodes;simp;omega
     . exact FOk.mono (Nat.le_refl _) (Nat.le_succ _) h.frs
     . have:=h.dep;simp;omega
     . simp only;intro z;rw[z]at hc1;exact absurd hc1.1 (by simp)
 . rw[if_neg hc1,decide_eq_false hc1]
   have c2:pH (cX 4 aI) (aE (mOp gEq (ak 6) (mC (.int 0)))) (bE ns m B (some (.sh (.int k))) (some (.sh (.int n))) c d e f)=.ok (decide (B.frs.isEmpty=false \/ k=0)):=by
    have:=oU (ρ:=bE ns m B (some (.sh (.int k))) (some (.sh (.int n))) c d e f) (i:=4) (fs:=B.frs) rfl
    unfold bE at this ⊢
    cases hf:B.frs.isEmpty<;>simp[pH,this,hf,aE]
   show ∃ b' c' d' e' f',OT.bY _ _ _=_
   rw[c2]
   by_cases hc2:B.frs.isEmpty=false \/ k=0
   . rw[if_pos hc2,decide_eq_true hc2];have hb:=yD ns m B k h (by omega) (some (.sh (.int k))) n c d e f
     have hs9:aN 9 (eQ 2 aI) (bE ns m ⟨bW ns B n,aS ns B n,B.frs,B.val⟩ (some (.sh (.int k))) (some (.sh (.int n))) (some (.sh (.tup ((dM ns B n).map .int)))) d e f)=.nx (bE ns m ⟨bW ns B n,aS ns B n,B.frs,B.val⟩ (some (.sh (.int k))) (some (.sh (.int n))) (some (.sh (.tup ((dM ns B n).map .int)))) (some (.sh (.int (bW ns B n).length))) e f):=by
      unfold aN;rw[sa (row:=bW ns B n) rfl];simp[bE]
     have c3:pH (aE (mOp gGt (mOp bM (ak 7) (mC (.int 5))) (mC (.int 2)))) (dJ (aE (mOp gEq (ak 6) (mC (.int 0)))) (aE (mOp gGt (mOp bM (ak 7) (mC (.int 9))) (mC (.int 0))))) (bE ns m ⟨bW ns B n,aS ns B n,B.frs,B.val⟩ (some (.sh (.int k))) (some (.sh (.int n))) (some (.sh (.tup ((dM ns B n).map .int)))) (some (.sh (.int (bW ns B n).length))) e f)=.ok (decide (n%5>2 \/ (k=0 /\ n%9>0))):=by
      by_cases h5:2<n%5
      . simp[pH,dJ,aE,bE,h5]
      . by_cases h0:k=0
        . by_cases h9:0<n%9<;>simp[pH,dJ,aE,bE,h5,h0,h9]
        . simp[pH,dJ,aE,bE,h5,h0]
     by_cases hc3:n%5>2 \/ (k=0 /\ n%9>0)
     . rw[if_pos hc3];obtain⟨e',he⟩:=Be ns m B k h (by omega) (some (.sh (.int k))) n e f
       refine⟨some (.sh (.int n)),some (.sh (.tup ((dM ns B n).map .int))),some (.sh (.int (bW ns B n).length)),e',f,Eq.trans (aP hb) (Eq.trans (aP hs9) ?_)⟩
       rw[c3,decide_eq_true hc3];exact he
     . rw[if_neg hc3];obtain⟨f',he⟩:=A7 ns m B k h (by omega) (some (.sh (.int k))) n hm e f
       refine⟨some (.sh (.int n)),some (.sh (.tup ((dM ns B n).map .int))),some (.sh (.int (bW ns B n).length)),e,f',Eq.trans (aP hb) (Eq.trans (aP hs9) ?_)⟩
       rw[c3,decide_eq_false hc3];exact he
   . rw[if_neg hc2,decide_eq_false hc2]
     exact⟨_,_,_,_,_,rfl⟩
noncomputable def bld(ns:List Int)(B:Bd)(i:Nat):Nat->Bd
 |0=>B
 |j+1=>bld ns (B.step ns i) (i+1) j
theorem zk(ns:List Int):∀(j i:Nat) (B:Bd),Bok B i->Bok (bld ns B i j) (i+j)
 |0,i,B,h=>h
 | j+1,i,B,h=>by
   have:=zk ns j (i+1) _ (h.step ns);rw[show i+(j+1)=i+1+j by omega];exact this
theorem tP(ns:List Int)(m:Int):∀(j i:Nat) (B:Bd) (a b c d e f:Option Sl),Bok B i->i+j<=90->∃ a' b' c' d' e' f',
  dZ 6 gu ((List.range' i j).map fun k:Nat=>.int k) (bE ns m B a b c d e f)=.nx (bE ns m (bld ns B i j) a' b' c' d' e' f')
 |0,i,B,a,b,c,d,e,f,_,_=>⟨_,_,_,_,_,_,rfl⟩
 | j+1,i,B,a,b,c,d,e,f,h,hij=>by
   obtain⟨b',c',d',e',f',hs⟩:=Hi ns m B i h (by omega) b c d e f;obtain⟨a2,b2,c2,d2,e2,f2,hl⟩:=tP ns m j (i+1) (B.step ns i) (some (.sh (.int i))) b' c' d' e' f' (h.step ns) (by omega)
   refine⟨a2,b2,c2,d2,e2,f2,?_⟩
   rw[List.range'_succ,List.map_cons,dv];rw[show(bE ns m B a b c d e f).set 6 (some (.sh (.int i)))=bE ns m B (some (.sh (.int i))) b c d e f from rfl,hs,dG];exact hl
noncomputable def cls(B:Bd):Nat->Bd
 |0=>B
 |j+1=>cls B.close j
theorem uO(B:Bd):B.close.frs.length=B.frs.length - 1:=by
 unfold Bd.close
 cases h:B.frs with
 |nil=>simp[h]
 |cons f fs=>simp[sJ]
theorem rh(ns:List Int)(m:Int):∀(j:Nat) (B:Bd) (k:Nat) (a b c d e f:Option Sl) (F:Nat),Bok B k->k+j<=100->B.frs.length=j->j<F ->
  cu gr iN F (bE ns m B a b c d e f)=.nx (bE ns m (cls B j) a b c d e f)
 | 0,B,k,a,b,c,d,e,f,F,h,hk,hj,hF=>by
   obtain⟨F,rfl⟩:∃ G,F=G+1:=⟨F - 1,by omega⟩
   have ht:=oU (ρ:=bE ns m B a b c d e f) (i:=4) (fs:=B.frs) rfl
   have:B.frs=[]:=List.length_eq_zero_iff.mp hj
   unfold cu gr;rw[ht,this];rfl
 | j+1,B,k,a,b,c,d,e,f,F,h,hk,hj,hF=>by
   obtain⟨F,rfl⟩:∃ G,F=G+1:=⟨F - 1,by omega⟩
   have ht:=oU (ρ:=bE ns m B a b c d e f) (i:=4) (fs:=B.frs) rfl
   have hne:B.frs≠[]:=by intro z;rw[z]at hj;simp at hj
   have hcl:=sO ns m B k h (by omega) hne a b c d e f;have hb:=h.close [] (by simp);rw[show({ B with row:=B.row++[] }:Bd)=B by cases B;simp]at hb;unfold cu;rw[show gr=cX 4 aI from rfl,ht]
   have he:B.frs.isEmpty=false:=by cases q:B.frs with|nil=>exact absurd q hne|cons _ _=>rfl
   rw[he];show OS.turn _ _=_;rw[show iN=la 5 (kl cg [.t 2 aI,.t 3 aI,.t 4 aI]) from rfl,hcl,dG];exact rh ns m j B.close (k+1) a b c d e f F hb (by omega) (by rw[uO];omega) (by omega)
noncomputable def bd0:Bd:=⟨[],[],[],.non⟩
noncomputable def ndP(d:Nd):PV:=.tup [.str d.s,.int d.a,.int d.b,.int d.c]
noncomputable def m4(ns:List Int)(m:Nat):Bd:=
 let B:=bld ns bd0 0 m
 let C:=cls B B.frs.length
 { C with row:=C.row++lwh (PG.mix ns 61) }
theorem zf:∀(j:Nat) (B:Bd) (k:Nat),Bok B k->Bok (cls B j) (k+j)
 |0,B,k,h=>h
 | j+1,B,k,h=>by
   have hb:=h.close [] (by simp);rw[show({ B with row:=B.row++[] }:Bd)=B by cases B;simp]at hb;have:=zf j B.close (k+1) hb;rw[show k+(j+1)=k+1+j by omega];exact this
theorem yy:Bok bd0 0:=⟨by simp[bd0],by simp[bd0],trivial,by simp[bd0]⟩
theorem yb:∀ row:List Int,tY (row.map fun b=>.sh (.int b))=some (row.map .int)
 |[]=>by simp[tY]
 |b ::row=>by simp[tY,pvO,yb row]
theorem xk:∀ ds:List Nd,tY (ds.map Nd.o)=some (ds.map fun d=>.lst [.str d.s,.int d.a,.int d.b,.int d.c])
 |[]=>by simp[tY]
 |d ::ds=>by simp[tY,pvO,xk ds,Nd.o,ndO]
theorem u9{ρ:ah}{i:Nat}{me:ah->OE}{P:ah->OS}{j:Int}(h1:me ρ=.ok (.sh (.int j)))(hi:-4611686018427387904<=j /\ j<4611686018427387904):oJ i me P ρ=dZ i P (cz j.toNat) ρ:=by
 simp -implicitDefEqProofs [oJ,h1,hi]
theorem A0(ns:List Int)(m:Nat)(hm:m<=20):∃ a b c d e f,oJ 6 (ak 1) gu (bE ns m bd0 none none none none none none)=.nx (bE ns m (bld ns bd0 0 m) a b c d e f):=by
 obtain⟨a,b,c,d,e,f,hl⟩:=tP ns m m 0 bd0 none none none none none none yy (by omega)
 refine⟨a,b,c,d,e,f,?_⟩
 have hr:cz (Int.toNat (m:Int))=(List.range' 0 m).map fun k:Nat=>.int k:=by simp[cz,List.range_eq_range']
 have h1:ak 1 (bE ns m bd0 none none none none none none)=.ok (.sh (.int m)):=by simp[bE]
 rw[u9 h1 (by omega),hr];exact hl
theorem AJ(ns:List Int)(m:Int)(C:Bd)(hC:C.nodes.length<=1000)(hR:C.row.length<=100000)(a b c d e f:Option Sl):
  ∃ ρ,kq (bE ns m C a b c d e f)=.rt ρ (.sh (.tup [.lst ((C.row++lwh (PG.mix ns 61)).map .int),.lst (C.nodes.map ndP),C.val])):=by
 have e3:dE 2 aI (aX bV (aq (aX bN (aq (ak 0) (aq (mC (.int 61)) aL))) aL)) (bE ns m C a b c d e f)=.nx (bE ns m { C with row:=C.row++lwh (PG.mix ns 61) } a b c d e f):=
  ki (row:=C.row) rfl (.inl (by simp[bE,bp,cR])) (by have:=fN (PG.mix ns 61);omega)
 refine⟨((bE ns m { C with row:=C.row++lwh (PG.mix ns 61) } a b c d e f).set 3 (some (.sh (.lst (C.nodes.map fun d=>.lst [.str d.s,.int d.a,.int d.b,.int d.c]))))).set 2 (some (.sh (.lst ((C.row++lwh (PG.mix ns 61)).map .int)))),?_⟩
 unfold kq;rw[aP e3];unfold o1 ny
 have z1:nZ 3 (bE ns m { C with row:=C.row++lwh (PG.mix ns 61) } a b c d e f)=(bE ns m { C with row:=C.row++lwh (PG.mix ns 61) } a b c d e f).set 3 (some (.sh (.lst (C.nodes.map fun d=>.lst [.str d.s,.int d.a,.int d.b,.int d.c])))):=by
  simp[nZ,bE,jI,pvO,xk]
 have z2:nZ 2 ((bE ns m { C with row:=C.row++lwh (PG.mix ns 61) } a b c d e f).set 3 (some (.sh (.lst (C.nodes.map fun d=>.lst [.str d.s,.int d.a,.int d.b,.int d.c])))))=((bE ns m { C with row:=C.row++lwh (PG.mix ns 61) } a b c d e f).set 3 (some (.sh (.lst (C.nodes.map fun d=>.lst [.str d.s,.int d.a,.int d.b,.int d.c]))))).set 2 (some (.sh (.lst ((C.row++lwh (PG.mix ns 61)).map .int)))):=by
  have:=yb (C.row++lwh (PG.mix ns 61));unfold nZ bE da;simp only[List.set_cons_succ,List.set_cons_zero,List.getElem?_cons_succ,List.getElem?_cons_zero,pvO,this,Option.map_some]
 rw[z1,z2]
 have hel:cS kA [] (C.nodes.map fun d=>.lst [.str d.s,.int d.a,.int d.b,.int d.c])=.ok (C.nodes.map ndP):=
  jy _ fun d _=>by simp[kA,kD,ndP]
 simp[bE,hel,cp];exact fe (by omega)
theorem EI(ns:List Int)(m:Nat)(hm:m<=20):fJ [.lst (ns.map .int),.int m]=.ok (.sh (.tup [.lst ((m4 ns m).row.map .int),.lst ((m4 ns m).nodes.map ndP),(m4 ns m).val])):=by
 have hok:=zk ns m 0 bd0 yy;rw[Nat.zero_add]at hok;obtain⟨a,b,c,d,e,f,e2⟩:=A0 ns m hm;have hdep:=hok.dep;have hcok:=zf (bld ns bd0 0 m).frs.length _ m hok;have hcr:=hcok.row;have hcn:=hcok.nodes
 have e1:nv [some (.sh (.lst (ns.map .int))),some (.sh (.int m)),none,none,none,none,none,none,none,none,none,none]=kO (bE ns m bd0 none none none none none none):=by
  unfold nv;rw[aP (ρ':=[some (.sh (.lst (ns.map .int))),some (.sh (.int m)),some (.tr false (da [])),none,none,none,none,none,none,none,none,none]) (by simp[oQ,mD,da])];unfold oV;rw[aP (ρ':=[some (.sh (.lst (ns.map .int))),some (.sh (.int m)),some (.tr false (da [])),some (.tr false (jI [])),none,none,none,none,none,none,none,none]) (by simp[oQ,mD,jI])];unfold oD;rw[aP (ρ':=[some (.sh (.lst (ns.map .int))),some (.sh (.int m)),some (.tr false (da [])),some (.tr false (jI [])),some (.tr false (iZ [])),none,none,none,none,none,none,none]) (by simp[oQ,mD,iZ])];unfold oy;rw[aP (ρ':=bE ns m bd0 none none none none none none) (by simp[aN,bE,bd0])]
 obtain⟨ρ,e4⟩:=AJ ns m _ (Nat.le_trans hcn (by omega)) (Nat.le_trans hcr (by omega)) a b c d e f
 have hw:∀ F,(bld ns bd0 0 m).frs.length<F->cu gr iN F (bE ns m (bld ns bd0 0 m) a b c d e f)=.nx (bE ns m (cls (bld ns bd0 0 m) (bld ns bd0 0 m).frs.length) a b c d e f):=fun F hF=>rh ns m _ (bld ns bd0 0 m) m a b c d e f F hok (by omega) rfl hF
 unfold fJ fnP;rw[if_pos (show List.length [PV.lst (ns.map .int),.int m]=2 from rfl),show jG 12 [PV.lst (ns.map .int),.int m]=[some (.sh (.lst (ns.map .int))),some (.sh (.int m)),none,none,none,none,none,none,none,none,none,none] from rfl,e1];unfold kO;rw[aP e2]
 have hF:(bld ns bd0 0 m).frs.length<fuel:=by unfold fuel;omega
 unfold oO;rw[aP (hw fuel hF),e4];rfl
noncomputable def wu(R:List Int)(d:Nd)(nm:List Int):Prop:=∃ pre ss post,R=pre++PG.txt ss++post /\ d.a=pre.length /\ d.b=(pre++PG.txt ss).length /\ (∀ s∈ss,Sok s) /\ ss.map qN=nm /\ (PG.txt ss).length<=158
noncomputable def Prt(P:Nat->Nat->PV->Prop)(N:List Nd)(R:List Int)(k:Bool)(s m:Nat)(x:PV):Prop:=
 s<m /\ if k then P s m x else ∃ d nm y,N[s]?=some d /\ d.s = "name" /\ d.c=m /\ wu R d nm /\ x=.tup [.tup (nm.map .int),y] /\ P (s+1) m y
noncomputable def Kid(P:Nat->Nat->PV->Prop)(N:List Nd)(R:List Int)(k:Bool):List PV->Nat->Nat->Prop
 |[],s,e=>s=e
 |x ::xs,s,e=>∃ m,Prt P N R k s m x /\ Kid P N R k xs m e
noncomputable def At(N:List Nd)(R:List Int):Nat->Nat->Nat->PV->Prop
 |0,_,_,_=>False
 |n+1,j,e,v=>∃ d,N[j]?=some d /\ d.c=e /\ j<e /\ ((d.s ≠ "row" /\ d.s ≠ "fields" /\ e=j+1) \/ ∃ k items,d.s=kN k /\ v=.tup [kS k,.tup items] /\ Kid (At N R n) N R k items (j+1) e)
theorem Kid.le{P:Nat->Nat->PV->Prop}{N:List Nd}{R:List Int}{k:Bool}:∀{xs:List PV} {s e:Nat},Kid P N R k xs s e->s<=e
 |[],_,_,h=>Nat.le_of_eq h
 |_ ::_,_,_,⟨_,h,q⟩=>by have:=h.1;have:=Kid.le q;omega
theorem wu.app{R:List Int}{d:Nd}{nm:List Int}(h:wu R d nm)(x:List Int):wu (R++x) d nm:=by
 obtain⟨p,ss,q,h1,h2⟩:=h
 exact⟨p,ss,q++x,by rw[h1];simp,h2⟩
theorem Kid.keep{P P':Nat->Nat->PV->Prop}{N N':List Nd}{R x:List Int}{k:Bool}{lo hi:Nat}(hP:∀ s m v,lo<=s->m<=hi->P s m v->P' s m v)(ha:∀ i,lo<=i->i<hi->N'[i]?=N[i]?):
  ∀{xs:List PV} {s e:Nat},lo<=s->e<=hi->Kid P N R k xs s e->Kid P' N' (R++x) k xs s e
 |[],_,_,_,_,h=>h
 | _ ::_,s,e,hs,he,⟨m,⟨h1,h⟩,q⟩=>by
   have hq:=Kid.le q
   refine⟨m,⟨h1,?_⟩,Kid.keep hP ha (by omega) he q⟩
   cases k with
   |true=>exact hP _ _ _ hs (by omega) h
   | false=>
     obtain⟨d,nm,y,a1,a2,a3,a4,a5,a6⟩:=h
     exact⟨d,nm,y,by rw[ha s hs (by omega)];exact a1,a2,a3,a4.app x,a5,hP _ _ _ (by omega) (by omega) a6⟩
theorem At.keep{N N':List Nd}{R x:List Int}:∀{n n' j e:Nat} {v:PV},n<=n'->(∀ i,j<=i->i<e->N'[i]?=N[i]?)->At N R n j e v->At N' (R++x) n' j e v
 | n+1,n',j,e,v,hn,ha,⟨d,h1,h2,h3,h4⟩=>by
   obtain⟨n',rfl⟩:∃ q,n'=q+1:=⟨n' - 1,by omega⟩
   refine⟨d,by rw[ha j (Nat.le_refl _) h3];exact h1,h2,h3,?_⟩
   rcases h4 with h4|⟨k,its,a1,a2,a3⟩
   . exact .inl h4
   . exact .inr ⟨k,its,a1,a2,Kid.keep (lo:=j+1) (hi:=e) (fun s m v q1 q2 q=>At.keep (by omega) (fun i b1 b2=>ha i (by omega) (by omega)) q) (fun i b1 b2=>ha i (by omega) b2) (Nat.le_refl _) (Nat.le_refl _) a3⟩
theorem Kid.snoc{P:Nat->Nat->PV->Prop}{N:List Nd}{R:List Int}{k:Bool}{x:PV}{m e:Nat}(hx:Prt P N R k m e x):∀{xs:List PV} {s:Nat},Kid P N R k xs s m->Kid P N R k (xs++[x]) s e
 |[],s,h=>by have h:s=m:=h;subst h;exact⟨e,hx,rfl⟩
 |_ ::_,_,⟨a,h,q⟩=>⟨a,h,Kid.snoc hx q⟩
noncomputable def Opn(N:List Nd)(R:List Int)(n:Nat):List Fr->Nat->Prop
 |[],e=>e=0
 | f ::fs,e=>(∃ d,N[f.i]?=some d /\ d.s=kN f.k) /\ Kid (At N R n) N R f.k f.items (f.i+1) e /\
   if inF fs then 1<=f.i /\ (∃ d,N[f.i - 1]?=some d /\ d.s = "name" /\ wu R d f.nm) /\ Opn N R n fs (f.i - 1)else Opn N R n fs f.i
theorem Opn.keep{N N':List Nd}{R x:List Int}{n n':Nat}(hn:n<=n'):∀{fs:List Fr} {e:Nat},(∀ i,i<e->N'[i]?=N[i]?)->Opn N R n fs e->Opn N' (R++x) n' fs e
 |[],_,_,h=>h
 | f ::fs,e,ha,⟨⟨d,h1,h2⟩,h3,h4⟩=>by
   have hl:=Kid.le h3
   refine⟨⟨d,by rw[ha _ (by omega)];exact h1,h2⟩,Kid.keep (lo:=f.i+1) (hi:=e) (fun s m v q1 q2 q=>At.keep hn (fun i b1 b2=>ha i (by omega)) q) (fun i _ b2=>ha i b2) (Nat.le_refl _) (Nat.le_refl _) h3,?_⟩
   split at h4
   . rename_i hF;obtain⟨b1,⟨d',b2,b3,b4⟩,b5⟩:=h4;rw[if_pos hF]
     exact⟨b1,⟨d',by rw[ha _ (by omega)];exact b2,b3,b4.app x⟩,Opn.keep hn (fun i hi=>ha i (by omega)) b5⟩
   . rename_i hF;rw[if_neg hF];exact Opn.keep hn (fun i hi=>ha i (by omega)) h4
noncomputable def Vi(n:Nat)(B:Bd):Prop:=(B.frs≠[] /\ Opn B.nodes B.row n B.frs B.nodes.length) \/ (B.frs=[] /\ At B.nodes B.row n 0 B.nodes.length B.val)
theorem Opn.put{N:List Nd}{R nm:List Int}{n e j:Nat}{v:PV}:∀{fs:List Fr},fs≠[]->At N R n j e v->(if inF fs then 1<=j /\ (∃ d,N[j - 1]?=some d /\ d.s = "name" /\ d.c=e /\ wu R d nm) /\ Opn N R n fs (j - 1)else Opn N R n fs j)->Opn N R n (il nm v fs) e
 | g ::gs,_,ha,h=>by
   have hje:j<e:=by
    cases n with
    |zero=>exact ha.elim
    |succ n=>obtain⟨_,_,_,q,_⟩:=ha;exact q
   cases hk:g.k with
   | true=>
     have hF:inF (g ::gs)=false:=by simp[inF,hk]
     rw[hF]at h;obtain⟨h1,h2,h3⟩:=h
     refine⟨by simpa [il]using h1,?_,h3⟩
     simp only[hk,if_true]at h2 ⊢
     exact Kid.snoc (show Prt (At N R n) N R true j e v from⟨hje,ha⟩) h2
   | false=>
     have hF:inF (g ::gs)=true:=by simp[inF,hk]
     rw[hF]at h;obtain⟨b1,⟨d,b2,b3,b4,b5⟩,h1,h2,h3⟩:=h
     refine⟨by simpa [il]using h1,?_,h3⟩
     simp only[hk,Bool.false_eq_true,if_false]at h2 ⊢
     exact Kid.snoc (show Prt (At N R n) N R false (j - 1) e (.tup [.tup (nm.map .int),v]) from⟨by omega,d,nm,v,b2,b3,b4,b5,rfl,by rw[show j - 1+1=j by omega];exact ha⟩) h2
theorem tU{α:Type}{f:α->α}{l:List α}{i j:Nat}(h:i≠j):(l.modify i f)[j]?=l[j]?:=by simp[List.getElem?_modify,h]
theorem Al{α:Type}{f:α->α}{l:List α}{i:Nat}:(l.modify i f)[i]?=l[i]?.map f:=by simp[List.getElem?_modify]
theorem DQ(fs:List Fr)(row:List Int)(n:Int):∃ x,iC fs row n=row++x:=⟨_,by unfold iC;rw[List.append_assoc]⟩
theorem Ci{ns:List Int}{B:Bd}{q:Nat}(h:Opn B.nodes B.row q B.frs B.nodes.length)(n:Int)(Y:List Nd)(X:List Int):
  if inF B.frs then 1<=(aS ns B n).length /\ (∃ d,(aS ns B n++Y)[(aS ns B n).length - 1]?=some d /\ d.s = "name" /\ wu (bW ns B n++X) d (dM ns B n)) /\ Opn (aS ns B n++Y) (bW ns B n++X) q B.frs ((aS ns B n).length - 1)
  else Opn (aS ns B n++Y) (bW ns B n++X) q B.frs (aS ns B n).length:=by
 obtain⟨x,hx⟩:=DQ B.frs B.row n
 cases hF:inF B.frs with
 | true=>
   simp only[aS,bW,dM,hF,if_true,List.length_append,List.length_singleton,Nat.add_sub_cancel]
   refine⟨by omega,⟨_,by rw[List.append_assoc,List.getElem?_append_right (Nat.le_refl _),Nat.sub_self];rfl,rfl,?_⟩,?_⟩
   . obtain⟨a,b⟩:=tQ ns (n/13)
     exact⟨_,mL ns n,r9 ns n++X,by simp,rfl,by simp,C2 _ _ _ a,Cz _ _ _ a,qC ns n⟩
   . rw[hx,List.append_assoc,List.append_assoc,List.append_assoc,List.append_assoc];exact Opn.keep (Nat.le_refl _) (fun i hi=>List.getElem?_append_left hi) h
 | false=>
   simp only[aS,bW,hF,Bool.false_eq_true,if_false];rw[hx,List.append_assoc];exact Opn.keep (Nat.le_refl _) (fun i hi=>List.getElem?_append_left hi) h
theorem zQ{ns:List Int}{B:Bd}{q:Nat}(h:Opn B.nodes B.row q B.frs B.nodes.length)(n:Int):Opn (B.opn ns n).nodes (B.opn ns n).row q (B.opn ns n).frs (B.opn ns n).nodes.length:=by
 have:=Ci h (ns:=ns) n [⟨kN (n/5%2=0),(bW ns B n).length,0,0⟩] [if n/5%2=0 then 91 else 123]
 exact⟨⟨⟨kN (n/5%2=0),(bW ns B n).length,0,0⟩,by simp[Bd.opn],rfl⟩,by simp[Bd.opn,Kid],this⟩
theorem Gz(x:Lf):lfK x ≠ "row" /\ lfK x ≠ "fields":=by
 cases x with
 |wd w=>cases w<;>decide
 |nm m=>exact⟨by simp[lfK],by simp[lfK]⟩
 |tx l=>exact⟨by simp[lfK],by simp[lfK]⟩
theorem xN{ns:List Int}{B:Bd}{q:Nat}(h:Opn B.nodes B.row q B.frs B.nodes.length)(n:Int):Vi (q+1) (B.leaf ns n):=by
 have hb:=Ci h (ns:=ns) n [⟨lfK (gp ns n),(bW ns B n).length,(bW ns B n++lfb (gp ns n)).length,(aS ns B n).length+1⟩] (lfb (gp ns n));have hk:=Gz (gp ns n)
 obtain⟨D,hD⟩:∃ D,D=aS ns B n++[⟨lfK (gp ns n),(bW ns B n).length,(bW ns B n++lfb (gp ns n)).length,(aS ns B n).length+1⟩]:=⟨_,rfl⟩
 have hl:D.length=(aS ns B n).length+1:=by rw[hD];simp
 rw[<- hD]at hb
 have hx:D[(aS ns B n).length]?=some ⟨lfK (gp ns n),(bW ns B n).length,(bW ns B n++lfb (gp ns n)).length,(aS ns B n).length+1⟩:=by rw[hD];simp
 have hat:∀ N':List Nd,N'[(aS ns B n).length]?=D[(aS ns B n).length]?->At N' (bW ns B n++lfb (gp ns n)) (q+1) (aS ns B n).length D.length (lfV ns n):=fun N' e=>
  ⟨_,e.trans hx,by rw[hl];rfl,by omega,.inl ⟨hk.1,hk.2,hl⟩⟩
 cases hf:B.frs with
 | nil=>
   rw[hf]at hb
   have h0:(aS ns B n).length=0:=hb
   have:=hat D rfl;rw[h0]at this;refine .inr ⟨by simp[Bd.leaf,hf,il],?_⟩;simp only[Bd.leaf,hf,inF,Bool.false_eq_true,if_false,<- hD];exact this
 | cons g gs=>
   refine .inl ⟨by simp[Bd.leaf,hf,il],?_⟩
   cases hF:inF B.frs with
   | true=>
     rw[hF]at hb;obtain⟨b1,⟨d,b2,b3,b4⟩,b5⟩:=hb
     have e2:D.length - 2=(aS ns B n).length - 1:=by omega
     simp only[Bd.leaf,hF,if_true,<- hD,List.length_modify]
     rw[hf]at hF b5 ⊢
     refine Opn.put (j:=(aS ns B n).length) (by simp) (hat _ (by rw[tU (by omega)])) ?_;rw[hF]
     refine⟨b1,⟨{ d with c:=D.length },by rw[e2,Al,b2];rfl,b3,rfl,b4⟩,?_⟩
     have:=Opn.keep (x:=[]) (N':=D.modify (D.length - 2) fun d=>{ d with c:=D.length }) (Nat.le_succ q) (fun i hi=>tU (by omega)) b5
     rwa [List.append_nil]at this
   | false=>
     rw[hF]at hb;simp only[Bd.leaf,hF,Bool.false_eq_true,if_false,<- hD]
     rw[hf]at hF hb ⊢
     refine Opn.put (j:=(aS ns B n).length) (by simp) (hat D rfl) ?_;rw[hF];have:=Opn.keep (x:=[]) (N':=D) (Nat.le_succ q) (fun i hi=>rfl) hb
     rwa [List.append_nil]at this
theorem uF{B:Bd}{q:Nat}(h:Opn B.nodes B.row q B.frs B.nodes.length)(hne:B.frs≠[]):Vi (q+1) B.close:=by
 cases hf:B.frs with
 |nil=>exact absurd hf hne
 | cons f fs=>
   rw[hf]at h;obtain⟨⟨d,h1,h2⟩,h3,h4⟩:=h;have hl:=Kid.le h3
   obtain⟨N',hN'⟩:∃ N',N'=B.close.nodes:=⟨_,rfl⟩
   have e0:N'=if inF fs then(B.nodes.modify f.i fun d=>{ d with b:=B.row.length+1,c:=B.nodes.length }).modify (f.i - 1) fun d=>{ d with c:=B.nodes.length } else B.nodes.modify f.i fun d=>{ d with b:=B.row.length+1,c:=B.nodes.length }:=by rw[hN'];simp[Bd.close,hf]
   have hlen:N'.length=B.nodes.length:=by rw[e0];split<;>simp
   have off:∀ i,i≠f.i->(inF fs=true->i≠f.i - 1)->N'[i]?=B.nodes[i]?:=fun i a b=>by
    rw[e0];split
    . rw[tU (fun z=>b ‹_› z.symm),tU (Ne.symm a)]
    . rw[tU (Ne.symm a)]
   have hi:1<=f.i \/ inF fs=false:=by
    cases hF:inF fs with
    |true=>rw[hF]at h4;exact .inl h4.1
    |false=>exact .inr rfl
   have at0:N'[f.i]?=some { d with b:=B.row.length+1,c:=B.nodes.length }:=by
    rw[e0];split
    . rename_i hF;rw[tU (by rcases hi with z|z;omega;rw[hF]at z;cases z),Al,h1];rfl
    . rw[Al,h1];rfl
   have hat:At N' (B.row++[brk f.k]) (q+1) f.i N'.length (.tup [kS f.k,.tup f.items]):=by
    refine⟨_,at0,by rw[hlen],by omega,.inr ⟨f.k,f.items,h2,rfl,?_⟩⟩
    rw[hlen];exact Kid.keep (lo:=f.i+1) (hi:=B.nodes.length) (fun s m v q1 q2 q=>At.keep (Nat.le_refl _) (fun i b1 b2=>off i (by omega) fun _=>by omega) q) (fun i b1 b2=>off i (by omega) fun _=>by omega) (Nat.le_refl _) (Nat.le_refl _) h3
   have hr:B.close.row=B.row++[brk f.k]:=by simp[Bd.close,hf]
   have hfr:B.close.frs=il f.nm (.tup [kS f.k,.tup f.items]) fs:=by simp[Bd.close,hf]
   have hv:B.close.val=.tup [kS f.k,.tup f.items]:=by simp[Bd.close,hf]
   cases hfs:fs with
   | nil=>
     rw[hfs]at h4 hfr
     have h0:f.i=0:=h4
     rw[h0]at hat;exact .inr ⟨hfr,by rw[hr,hv,<- hN'];exact hat⟩
   | cons g gs=>
     refine .inl ⟨by rw[hfr,hfs];simp[il],?_⟩;rw[hr,hfr,<- hN'];refine Opn.put (by rw[hfs];simp) hat ?_
     cases hF:inF fs with
     | true=>
       rw[hF]at h4;obtain⟨b1,⟨d',b2,b3,b4⟩,b5⟩:=h4
       refine⟨b1,⟨{ d' with c:=B.nodes.length },?_,b3,by rw[hlen],b4.app _⟩,Opn.keep (Nat.le_succ q) (fun i hi=>off i (by omega) fun _=>by omega) b5⟩
       rw[e0,if_pos hF,Al,tU (by omega),b2];rfl
     | false=>
       rw[hF]at h4;exact Opn.keep (Nat.le_succ q) (fun i hi=>off i (by omega) (by rw[hF];simp)) h4
theorem Vi.mono{n n':Nat}{B:Bd}(h:Vi n B)(hn:n<=n'):Vi n' B:=by
 rcases h with⟨a,b⟩|⟨a,b⟩
 . have:=Opn.keep (x:=[]) (N':=B.nodes) hn (fun i hi=>rfl) b;rw[List.append_nil]at this;exact .inl ⟨a,this⟩
 . have:=At.keep (x:=[]) (N':=B.nodes) hn (fun i _ hi=>rfl) b;rw[List.append_nil]at this;exact .inr ⟨a,this⟩
theorem Vi.step{ns:List Int}{B:Bd}{k:Nat}(h:Vi k B)(hk:k≠0):Vi (k+1) (B.step ns k):=by
 unfold Bd.step
 rcases h with⟨a,b⟩|⟨a,b⟩
 . split
   . exact uF (B:={ B with row:=B.row++lwh (PG.mix ns k/3) }) (Opn.keep (Nat.le_refl _) (fun i hi=>rfl) b) a
   . split
     . split
       . exact Vi.mono (n:=k) (.inl ⟨by simp[Bd.opn],zQ b _⟩) (Nat.le_succ k)
       . exact xN b _
     . exact Vi.mono (.inl ⟨a,b⟩) (Nat.le_succ k)
 . rw[if_neg (by rw[a];simp),if_neg (by rw[a];simp[hk])];exact Vi.mono (.inr ⟨a,b⟩) (Nat.le_succ k)
theorem Vi.first(ns:List Int):Vi 1 (bd0.step ns 0):=by
 have b:Opn bd0.nodes bd0.row 0 bd0.frs bd0.nodes.length:=rfl
 unfold Bd.step;rw[if_neg (by simp[bd0]),if_pos (.inr rfl)];split
 . exact Vi.mono (n:=0) (.inl ⟨by simp[Bd.opn],zQ b _⟩) (Nat.le_succ 0)
 . exact xN b _
theorem Co(ns:List Int):∀(j i:Nat) (B:Bd),Vi i B->i≠0->Vi (i+j) (bld ns B i j)
 |0,i,B,h,_=>h
 | j+1,i,B,h,hi=>by
   have:=Co ns j (i+1) _ (h.step (ns:=ns) hi) (by omega);rw[show i+(j+1)=i+1+j by omega];exact this
theorem BW:∀(j:Nat) (B:Bd) (k:Nat),Vi k B->B.frs.length=j->Vi (k+j) (cls B j) /\ (cls B j).frs=[]
 |0,B,k,h,hj=>⟨h,List.length_eq_zero_iff.mp hj⟩
 | j+1,B,k,h,hj=>by
   rcases h with⟨a,b⟩|⟨a,b⟩
   . have:=BW j B.close (k+1) (uF b a) (by rw[uO,hj];rfl);rw[show k+(j+1)=k+1+j by omega];exact this
   . rw[a]at hj;simp at hj
theorem Bv(ns:List Int)(m:Nat)(hm:1<=m):∃ n,At (m4 ns m).nodes (m4 ns m).row n 0 (m4 ns m).nodes.length (m4 ns m).val:=by
 obtain⟨m,rfl⟩:∃ q,m=q+1:=⟨m - 1,by omega⟩
 have h:=Co ns m 1 _ (Vi.first ns) (by omega);obtain⟨h1,h2⟩:=BW _ _ _ h rfl
 rcases h1 with⟨a,_⟩|⟨_,b⟩
 . exact absurd h2 a
 . exact⟨_,At.keep (Nat.le_refl _) (fun i _ _=>rfl) b⟩
noncomputable def KS(P:Nat->Nat->PV->Prop)(N:List Nd)(R:List Int)(k:Bool):List Nat->List PV->Nat->Nat->Prop
 |[],[],s,e=>s=e
 |a ::as,x ::xs,s,e=>a=s /\ ∃(d:Nd) (m:Nat),N[s]?=some d /\ d.c=m /\ Prt P N R k s m x /\ KS P N R k as xs m e
 |_,_,_,_=>False
theorem FE{N:List Nd}{R:List Int}{n:Nat}{k:Bool}{s m:Nat}{x:PV}(h:Prt (At N R n) N R k s m x):∃ d,N[s]?=some d /\ d.c=m:=by
 obtain⟨_,h⟩:=h
 cases k with
 | true=>
   cases n with
   |zero=>exact h.elim
   |succ n=>obtain⟨d,a,b,_⟩:=h;exact⟨d,a,b⟩
 |false=>obtain⟨d,_,_,a,_,b,_⟩:=h;exact⟨d,a,b⟩
theorem C6{N:List Nd}{R:List Int}{n:Nat}{k:Bool}:∀{xs:List PV} {s e:Nat},Kid (At N R n) N R k xs s e->∃ as,KS (At N R n) N R k as xs s e
 |[],_,_,h=>⟨[],h⟩
 | _ ::_,_,_,⟨_,h,q⟩=>by
   obtain⟨d,h1,h2⟩:=FE h;obtain⟨as,q⟩:=C6 q
   exact⟨_ ::as,rfl,d,_,h1,h2,h,q⟩
theorem uk{P:Nat->Nat->PV->Prop}{N:List Nd}{R:List Int}{k:Bool}(hP:∀ s m v,P s m v->∀ i,s<=i->i<m->∃ d,N[i]?=some d /\ i<d.c /\ d.c<=m){s m:Nat}{x:PV}(h:Prt P N R k s m x){i:Nat}(h1:s<=i)(h2:i<m):∃ d,N[i]?=some d /\ i<d.c /\ d.c<=m:=by
 obtain⟨hs,h⟩:=h
 cases k with
 |true=>exact hP _ _ _ h i h1 h2
 | false=>
   obtain⟨d,_,y,a,_,c,_,_,b⟩:=h
   by_cases e:i=s
   . exact⟨d,by rw[e];exact a,by omega,by omega⟩
   . exact hP _ _ _ b i (by omega) h2
theorem zR{P:Nat->Nat->PV->Prop}{N:List Nd}{R:List Int}{k:Bool}(hP:∀ s m v,P s m v->∀ i,s<=i->i<m->∃ d,N[i]?=some d /\ i<d.c /\ d.c<=m):∀{xs:List PV} {s e:Nat},Kid P N R k xs s e->∀ i,s<=i->i<e->∃ d,N[i]?=some d /\ i<d.c /\ d.c<=e
 |[],s,e,h,i,h1,h2=>by have h:s=e:=h;omega
 | _ ::_,s,e,⟨m,h,q⟩,i,h1,h2=>by
   have:=Kid.le q
   by_cases hm:i<m
   . obtain⟨d,a,b,c⟩:=uk hP h h1 hm
     exact⟨d,a,b,by omega⟩
   . exact zR hP q i (by omega) h2
theorem xB{N:List Nd}{R:List Int}:∀(n j e:Nat) (v:PV),At N R n j e v->∀ i,j<=i->i<e->∃ d,N[i]?=some d /\ i<d.c /\ d.c<=e
 | n+1,j,e,v,⟨d,h1,h2,h3,h4⟩,i,a,b=>by
   by_cases hi:i=j
   . exact⟨d,by rw[hi];exact h1,by omega,by omega⟩
   . rcases h4 with⟨_,_,z⟩|⟨_,_,_,_,q⟩
     . omega
     . exact zR (fun s m v=>xB n s m v) q i (by omega) b
noncomputable def seg(p:Nat->Bool)(a b:Nat):List Nat:=(List.range' a (b - a)).filter p
theorem wx(p:Nat->Bool){a b c:Nat}(h:a<=b)(g:b<=c):seg p a c=seg p a b++seg p b c:=by
 unfold seg;rw[<- List.filter_append,show b=a+1*(b - a) by omega,show c - (a+1*(b - a))=c - b by omega,show a+1*(b - a) - a=b - a by omega,List.range'_append,show c - a=b - a+(c - b) by omega]
theorem tG{p:Nat->Bool}{a b:Nat}(h:∀ j,a<=j->j<b->p j=false):seg p a b=[]:=by
 unfold seg;rw[List.filter_eq_nil_iff];intro j hj;rw[List.mem_range'_1]at hj;rw[h j hj.1 (by omega)];simp
theorem pP{p:Nat->Bool}{a b:Nat}(h:a<b):seg p a b=if p a then a ::seg p (a+1) b else seg p (a+1) b:=by
 unfold seg;rw[show b - a=b - (a+1)+1 by omega,List.range'_succ,List.filter_cons]
noncomputable def wp(N:List Nd)(i j:Nat):Bool:=decide (j<i)&&match N[j]? with
 |some d=>(d.s == "row" || d.s == "fields")&&decide ((i:Int)<d.c)
 |none=>false
noncomputable def Wy(N:List Nd)(R:List Int)(i:Nat)(vi:PV):List Nat->Nat->PV->Prop
 |[],j,v=>j=i /\ v=vi
 | a ::w,j,v=>a=j /\ ∃(n:Nat) (k:Bool) (as:List Nat) (its:List PV) (d:Nd) (e:Nat),N[j]?=some d /\ d.s=kN k /\ d.c=e /\ v=.tup [kS k,.tup its] /\ KS (At N R n) N R k as its (j+1) e /\
   ∃(t s:Nat) (x y:PV),as[t]?=some s /\ its[t]?=some x /\ (if k then x=y else ∃ z,x=.tup [z,y]) /\ Wy N R i vi w (if k then s else s+1) y
theorem C4{a b:Bool}(h:kN a=kN b):a=b:=by revert h;revert a b;decide
theorem FQ(k:Bool):(kN k == "row" || kN k == "fields")=true:=by revert k;decide
theorem DO(k:Bool):kN k ≠ "name":=by revert k;decide
theorem xA{N:List Nd}{R:List Int}{n i:Nat}{k k0:Bool}{di:Nd}(hi:N[i]?=some di)(hk:di.s=kN k){Q:PV->Prop}
  (hP:∀ j e v,At N R n j e v->j<=i->i<e->∃ vi,Q vi /\ Wy N R i vi (seg (wp N i) j e) j v):∀{xs:List PV} {s e:Nat},Kid (At N R n) N R k0 xs s e->s<=i->i<e ->
  ∃ vi,Q vi /\ ∃ as,KS (At N R n) N R k0 as xs s e /\ ∃(t s':Nat) (x y:PV),as[t]?=some s' /\ xs[t]?=some x /\ (if k0 then x=y else ∃ z,x=.tup [z,y]) /\ Wy N R i vi (seg (wp N i) s e) (if k0 then s' else s'+1) y
 |[],s,e,h,h1,h2=>by have h:s=e:=h;omega
 | x ::xs,s,e,⟨m,h,q⟩,h1,h2=>by
   have hle:=Kid.le q;have hsm:=h.1;have cat:=wx (wp N i) (Nat.le_of_lt hsm) hle;obtain⟨d,d1,d2⟩:=FE h
   by_cases hm:i<m
   . obtain⟨as,qs⟩:=C6 q
     have e2:seg (wp N i) m e=[]:=tG fun j a b=>by simp[wp];omega
     rw[e2,List.append_nil]at cat;rw[cat];have hh:=h.2
     cases k0 with
     | true=>
       obtain⟨vi,v1,v2⟩:=hP _ _ _ hh h1 hm
       exact⟨vi,v1,s ::as,⟨rfl,d,m,d1,d2,h,qs⟩,0,s,x,x,rfl,rfl,rfl,v2⟩
     | false=>
       obtain⟨d',nm,y,a1,a2,a3,a4,a5,a6⟩:=hh
       have hne:i≠s:=fun z=>DO k (by rw[<- hk,<- a2];rw[z,a1]at hi;cases hi;rfl)
       obtain⟨vi,v1,v2⟩:=hP _ _ _ a6 (by omega) hm
       have e3:wp N i s=false:=by simp[wp,a1,a2]
       rw[pP hsm,e3]
       exact⟨vi,v1,s ::as,⟨rfl,d,m,d1,d2,h,qs⟩,0,s,x,y,rfl,rfl,⟨_,a5⟩,v2⟩
   . obtain⟨vi,v1,as,v2,t,s',x',y,b1,b2,b3,b4⟩:=xA hi hk hP q (by omega) h2
     have e2:seg (wp N i) s m=[]:=tG fun j a b=>by
      obtain⟨d',c1,c2,c3⟩:=uk (fun s m v=>xB n s m v) h a b
      have:¬ (i:Int)<d'.c:=by omega
      simp[wp,c1,this]
     rw[cat,e2]
     exact⟨vi,v1,s ::as,⟨rfl,d,m,d1,d2,h,v2⟩,t+1,s',x',y,b1,b2,b3,b4⟩
theorem zo{N:List Nd}{R:List Int}{i:Nat}{k:Bool}{di:Nd}(hi:N[i]?=some di)(hk:di.s=kN k):∀(n j e:Nat) (v:PV),At N R n j e v->j<=i->i<e ->
  ∃ vi,(∃(n:Nat) (its:List PV) (as:List Nat) (e:Nat),di.c=e /\ vi=.tup [kS k,.tup its] /\ KS (At N R n) N R k as its (i+1) e) /\ Wy N R i vi (seg (wp N i) j e) j v
 | n+1,j,e,v,⟨d,h1,h2,h3,h4⟩,a,b=>by
   by_cases hj:i=j
   . rw[<- hj]at h1;rw[hi]at h1;cases h1
     have e2:seg (wp N i) j e=[]:=tG fun j' a b=>by simp[wp];omega
     rw[e2]
     rcases h4 with⟨z1,z2,_⟩|⟨k',its,c1,c2,c3⟩
     . rw[hk]at z1 z2;cases k
       . exact absurd rfl z2
       . exact absurd rfl z1
     . cases C4 (hk.symm.trans c1)
       obtain⟨as,c3⟩:=C6 c3
       exact⟨v,⟨n,its,as,e,h2,c2,by rw[hj];exact c3⟩,hj.symm,rfl⟩
   . rcases h4 with⟨_,_,z⟩|⟨k',its,c1,c2,c3⟩
     . omega
     . obtain⟨vi,v1,as,v2,w⟩:=xA hi hk (fun j e v=>zo hi hk n j e v) c3 (by omega) b
       have e3:wp N i j=true:=by simp only[wp,h1,c1,FQ,h2];simp;omega
       rw[pP h3,e3]
       exact⟨vi,v1,rfl,n,k',as,its,d,e,h1,c1,h2,c2,v2,w⟩
noncomputable def Bj(N:List Nd)(k j:Nat):Bool:=match N[j]? with
 |some d=>decide ((k:Int)<d.c)
 |none=>false
noncomputable def op(N:List Nd)(lo k:Nat):Bool:=(seg (Bj N k) lo k).isEmpty
theorem p9{N:List Nd}{R:List Int}{n lo:Nat}{k:Bool}:∀{as:List Nat} {xs:List PV} {s e:Nat},KS (At N R n) N R k as xs s e->s<=e /\ (lo<=s->(∀ j,lo<=j->j<s->∃ d,N[j]?=some d /\ d.c<=(s:Int))->seg (op N lo) s e=as)
 |[],[],s,e,h=>by have h:s=e:=h;subst h;exact⟨Nat.le_refl _,fun _ _=>by simp[seg]⟩
 | a ::as,x ::xs,s,e,⟨ha,d,m,h1,h0,h2,h3⟩=>by
   subst ha;obtain⟨i1,i2⟩:=p9 (lo:=lo) h3;have hlt:=h2.1
   refine⟨by omega,fun hlo hc=>?_⟩
   have p1:op N lo a=true:=by
    unfold op;rw[tG fun j q1 q2=>?_];rfl;obtain⟨d',b1,b2⟩:=hc j q1 q2;simp[Bj,b1];omega
   rw[wx _ (Nat.le_of_lt hlt) i1,pP hlt,p1,if_pos rfl,tG (a:=a+1),i2 (by omega)]
   . rfl
   . intro j q1 q2
     by_cases hj:j<a
     . obtain⟨d',b1,b2⟩:=hc j q1 hj
       exact⟨d',b1,by omega⟩
     . obtain⟨d',b1,b2,b3⟩:=uk (fun s m v=>xB n s m v) h2 (Nat.le_of_not_lt hj) q2
       exact⟨d',b1,b3⟩
   . intro j q1 q2;unfold op;rw[wx _ hlo (show a<=j by omega),pP (a:=a) (by omega),show Bj N j a=true by simp[Bj,h1];omega];simp
 |[],_ ::_,_,_,h=>h.elim
 |_ ::_,[],_,_,h=>h.elim
noncomputable def aO(a:Nat):PV:=.int (a:Int)
theorem dY{N:List Nd}{i:Nat}{d:Nd}(h:N[i]?=some d):atP (N.map ndP) (i:Int)=some (.tup [.str d.s,.int d.a,.int d.b,.int d.c]):=by rw[gA,List.getElem?_map,h];rfl
theorem sV{N:List Nd}{R:List Int}{n i e:Nat}{k:Bool}{d:Nd}(hd:N[i]?=some d)(hc:d.c=e):∀(as:List Nat) (xs:List PV) (s F:Nat) (found:List Nat),KS (At N R n) N R k as xs s e->found.length+as.length<=10000->as.length<F ->
  cu kU nY F [some (.sh (.lst (N.map ndP))),some (.sh (.int i)),some (.ow (found.map aO)),some (.sh (.int s))]=.nx [some (.sh (.lst (N.map ndP))),some (.sh (.int i)),some (.ow ((found++as).map aO)),some (.sh (.int e))]
 | [],[],s,F+1,found,h,_,_=>by
   have h:s=e:=h
   subst h;simp[cu,kU,dY hd,hc]
 | b ::as,x ::xs,a,F+1,found,⟨hb,d',m,h1,h2,h3,h4⟩,hl,hF=>by
   subst hb;have hle:=(p9 (lo:=0) h4).1;have hlt:=h3.1;have ih:=sV hd hc as xs m F (found++[b]) h4 (by simp at hl ⊢;omega) (by simp at hF;omega)
   have hfl:found.length<lim:=kB (by simp at hl;omega)
   have c1:kU [some (.sh (.lst (N.map ndP))),some (.sh (.int i)),some (.ow (found.map aO)),some (.sh (.int b))]=.ok true:=by
    simp[kU,dY hd,hc];omega
   have b1:nY [some (.sh (.lst (N.map ndP))),some (.sh (.int i)),some (.ow (found.map aO)),some (.sh (.int b))]=.nx [some (.sh (.lst (N.map ndP))),some (.sh (.int i)),some (.ow ((found++[b]).map aO)),some (.sh (.int m))]:=by
    simp[nY,dY h1,h2,hfl,aO]
   simp only[cu,c1,gJ,if_true,b1,dG,ih];simp
 |_,_,_,0,_,_,_,hF=>by omega
 |[],_ ::_,_,_+1,_,h,_,_=>h.elim
 |_ ::_,[],_,_+1,_,h,_,_=>h.elim
theorem vz{N:List Nd}{R:List Int}{n:Nat}{k:Bool}:∀{as:List Nat} {xs:List PV} {s e:Nat},KS (At N R n) N R k as xs s e->as.length+s<=e /\ as.length=xs.length
 |[],[],s,e,h=>by have h:s=e:=h;simp[h]
 | a ::as,x ::xs,s,e,⟨_,d,m,h1,h0,h2,h3⟩=>by
   have:=vz h3;have:=h2.1
   simp;omega
 |[],_ ::_,_,_,h=>h.elim
 |_ ::_,[],_,_,h=>h.elim
noncomputable def Ins(N:List Nd)(R:List Int)(i:Nat)(as:List Nat):Prop:=∃ d,N[i]?=some d /\ ((d.s ≠ "row" /\ d.s ≠ "fields" /\ as=[]) \/ ∃(k:Bool) (n:Nat) (its:List PV) (e:Nat),d.s=kN k /\ d.c=e /\ e<=5000 /\ KS (At N R n) N R k as its (i+1) e)
theorem zi(k:Bool):gIn (.str (kN k)) (.tup [.str "row",.str "fields"])=some (.sh (.bl true)):=by
 cases k<;>simp[gIn,vx,gQ,gk,kN,bO]
theorem zd{s:String}(h:s ≠ "row" /\ s ≠ "fields"):gIn (.str s) (.tup [.str "row",.str "fields"])=some (.sh (.bl false)):=by
 simp[gIn,vx,gQ,gk,bO,Ne.symm h.1,Ne.symm h.2]
theorem gz{N:List Nd}{R:List Int}{i:Nat}{as:List Nat}(h:Ins N R i as):iL [.lst (N.map ndP),.int i]=.ok (.fr (as.map aO)):=by
 obtain⟨d,hd,h⟩:=h;unfold iL zU uT uy
 rcases h with⟨h1,h2,rfl⟩|⟨k,n,its,e,hk,hc,he,h⟩
 . simp[dY hd,zd ⟨h1,h2⟩]
 . have hl:=vz h;have:=sV hd hc as its (i+1) fuel [] h (by simp;omega) (by unfold fuel;omega);simp at this;simp[dY hd,hk,zi,this]
theorem tR{N:List Nd}{R:List Int}{i:Nat}{as:List Nat}(h:Ins N R i as):mY [.lst (N.map ndP),.int i]=.ok (.sh (.int as.length)):=by
 unfold mY Df;simp[gz h]
theorem Bm(as:List Nat)(h:as.length<=10000):eK [.lst (as.map aO)]=.ok (.sh (.bl true)):=by
 unfold eK pJ
 have:cS jL [] (as.map aO)=.ok (as.map fun _=>.bl true):=jy _ fun n _=>by simp[jL,aO,dj]
 have e:og (as.map fun _=>PV.bl true)=some (as.map fun _=>true):=by
  have:=x4 (as.map fun _=>true)
  rwa [List.map_map]at this
 simp[this,Gv,cp,fe (Nat.le_trans h (by decide)),e]
theorem tm(as:List Nat){t a:Nat}(h:as[t]?=some a):atP (as.map aO) (t:Int)=some (.int a):=by rw[gA,List.getElem?_map,h];rfl
theorem vD{N:List Nd}{R:List Int}{i:Nat}{as:List Nat}{d:Nd}(h:Ins N R i as)(hd:N[i]?=some d){k:Int}{t a:Nat}(hk:k=t)(ha:as[t]?=some a):dP [.lst (N.map ndP),.int i,.int k]=.ok (.sh (.int (a+if d.s = "fields" then 1 else 0))):=by
 have hl:t<as.length:=by rcases Nat.lt_or_ge t as.length with z|z;exact z;rw[List.getElem?_eq_none z]at ha;cases ha
 have e:mx [.lst (N.map ndP),.int i,.int k]=.ok (.sh (.int (a+if d.s = "fields" then 1 else 0))):=by
  unfold mx yO sI xE yn
  by_cases hf:d.s = "fields" <;> simp[gz h,hk,hl,dY hd,tm as ha,hf,bO,gEq,eqS]
 unfold dP pf lF lI;simp[e]
theorem uS{N:List Nd}{R:List Int}{i:Nat}{as:List Nat}(h:Ins N R i as){k:Int}(hk:¬ (0<=k /\ k<as.length)):dP [.lst (N.map ndP),.int i,.int k]=.ok (.sh (.int (-2))):=by
 have e:mx [.lst (N.map ndP),.int i,.int k]=.exc "NoNode" []:=by
  unfold mx yO sI
  by_cases h0:0<=k
  . have:¬ k<as.length:=fun z=>hk ⟨h0,z⟩
    simp[gz h,h0,this]
  . simp[gz h,h0]
 unfold dP pf lF lI;simp[e,fP,Hb,rB]
theorem za(a b:Nat):m7 a b=(List.range' a (b - a)).map aO:=by
 unfold m7;rw[List.range'_eq_map_range,List.map_map,show((b:Int) - a).toNat=b - a by omega]
 exact List.map_congr_left fun k _=>by simp[aO]
theorem rz{mc:ah->OT}{me:ah->OE}{ρ:ah}{p:Nat->Bool}:∀ l:List Nat,(∀ k∈l,mc (ρ++[some (.sh (aO k))])=.ok (p k) /\ me (ρ++[some (.sh (aO k))])=.ok (.sh (aO k)))->fk mc me ρ (l.map aO)=.ok ((l.filter p).map aO)
 |[],_=>rfl
 | k ::l,h=>by
   obtain⟨h1,h2⟩:=h k List.mem_cons_self
   have ih:=rz l fun x hx=>h x (List.mem_cons_of_mem _ hx)
   rw[List.map_cons,fk,h1,List.filter_cons]
   cases p k
   . exact ih
   . simp only[h2,yY,lG,ih];rfl
theorem zZ(p:Nat->Bool)(a b:Nat):(seg p a b).length<=b:=Nat.le_trans (List.length_filter_le _ _) (by rw[List.length_range'];omega)
theorem xc{ρ:ah}{ma mb:ah->OE}{ι:List Nat}{mc:ah->OT}{me:ah->OE}{p:Nat->Bool}{a b:Nat}(h1:ma ρ=.ok (.sh (.int a)))(h2:mb ρ=.ok (.sh (.int b)))(ha:a<=100000)(hb:b<=100000)
  (h:∀ k,a<=k->k<b->mc (cp ι ρ++[some (.sh (aO k))])=.ok (p k) /\ me (cp ι ρ++[some (.sh (aO k))])=.ok (.sh (aO k))):iE ma mb ι mc me ρ=.ok (.fr ((seg p a b).map aO)):=by
 have:=rz (mc:=mc) (me:=me) (ρ:=cp ι ρ) (p:=p) (List.range' a (b - a)) fun k hk=>by
  rw[List.mem_range'_1]at hk;exact h k hk.1 (by omega)
 have hl:=zZ p a b
 have g1:(a:Int)<4611686018427387904:=by omega
 have g2:(b:Int)<4611686018427387904:=by omega
 unfold seg at hl;simp -implicitDefEqProofs [iE,h1,h2,g1,g2,za,this,noX,fe (show((List.range' a (b - a)).filter p).length<=1000000 by omega),seg]
theorem G7{N:List Nd}{i:Nat}{A B:Option Sl}{X:ah}{d:Nd}{e:Nat}(hd:N[i]?=some d)(hc:d.c=e)(he:e<=N.length)(hN:N.length<=5000):
  iE (mOp bR (ak 3) (mC (.int 1))) (mOp cC (mOp cV (ak 2) (ak 3)) (mC (.int 3))) [2,3] so sA (A ::B ::some (.ow (N.map ndP)) ::some (.sh (.int i)) ::X)=.ok (.fr ((seg (op N (i+1)) (i+1) e).map aO)):=by
 have hi:i<N.length:=by rcases Nat.lt_or_ge i N.length with z|z;exact z;rw[List.getElem?_eq_none z]at hd;cases hd
 refine xc (by simp) (by simp[dY hd,hc]) (by omega) (by omega) fun k k1 k2=>⟨?_,by simp[sA,cp,aO]⟩
 have:=xc (ρ:=[some (.ow (N.map ndP)),some (.sh (.int i)),some (.sh (aO k))]) (ma:=mOp bR (ak 1) (mC (.int 1))) (mb:=ak 2) (ι:=[0,2]) (mc:=wD) (me:=vF) (p:=Bj N k) (a:=i+1) (b:=k) (by simp) (by simp[aO]) (by omega) (by omega) fun j j1 j2=>⟨by
  have hj:N[j]?=some N[j]:=List.getElem?_eq_getElem (by omega)
  have:=dY hj
  simp[wD,cp,aO,this,Bj,hj],by simp[vF,cp,aO]⟩
 unfold so;show oM (cO _) [some (.ow (N.map ndP)),some (.sh (.int i)),some (.sh (aO k))]=_;simp only[oM,cO,this];simp[op,uh]
noncomputable abbrev vE(v:PV)(N:List Nd)(i:Nat)(w:Option Sl)(f x6 x7 x8 x9 x10 x11 x12:Option Sl):ah:=[some (.sh v),some (.sh (.lst (N.map ndP))),some (.sh (.int i)),w,some (.sh (.int i)),f,x6,x7,x8,x9,x10,x11,x12]
theorem zm{N:List Nd}{v:PV}{i:Nat}{f x7 x8 x9 x10 x11 x12:Option Sl}:∀(l ws:List Nat) (x6:Option Sl),(∀ j∈l,j<N.length)->ws.length+l.length<=10000 ->
  ∃ x6',dZ 6 dq (l.map aO) (vE v N i (some (.ow (ws.map aO))) f x6 x7 x8 x9 x10 x11 x12)=.nx (vE v N i (some (.ow ((ws++l.filter (wp N i)).map aO))) f x6' x7 x8 x9 x10 x11 x12)
 |[],ws,x6,_,_=>⟨x6,by simp⟩
 | j ::l,ws,x6,h,hl=>by
   obtain⟨d,hj⟩:∃ d,N[j]?=some d:=⟨_,List.getElem?_eq_getElem (h j List.mem_cons_self)⟩
   have hlim:ws.length<lim:=kB (by simp at hl;omega)
   have hb:dq (vE v N i (some (.ow (ws.map aO))) f (some (.sh (aO j))) x7 x8 x9 x10 x11 x12)=.nx (vE v N i (some (.ow ((if wp N i j then ws++[j]else ws).map aO))) f (some (.sh (aO j))) x7 x8 x9 x10 x11 x12):=by
    by_cases h1:j<i
    . by_cases h2:d.s = "row" \/ d.s = "fields"
      . have hk:∃ k,d.s=kN k:=by rcases h2 with z|z;exact⟨true,z⟩;exact⟨false,z⟩
        obtain⟨k,hk⟩:=hk
        have hw:wp N i j=decide ((i:Int)<d.c):=by simp only[wp,hj,hk,FQ,h1];simp
        by_cases h3:(i:Int)<d.c<;>simp[dq,aO,h1,dY hj,hk,zi,h3,hw,hlim]
      . have hn:=zd (s:=d.s) ⟨fun z=>h2 (.inl z),fun z=>h2 (.inr z)⟩
        have hw:wp N i j=false:=by simp[wp,hj];intro _ z;exact absurd z h2
        simp[dq,aO,h1,dY hj,hn,hw]
    . have hw:wp N i j=false:=by simp[wp,h1]
      simp[dq,aO,h1,hw]
   obtain⟨x6',ih⟩:=zm l (if wp N i j then ws++[j]else ws) (some (.sh (aO j))) (fun x hx=>h x (List.mem_cons_of_mem _ hx)) (by split<;>simp at hl ⊢<;>omega)
   refine⟨x6',?_⟩
   rw[List.map_cons,dv];simp only[List.set_cons_succ,List.set_cons_zero];rw[hb,dG,ih,List.filter_cons]
   cases wp N i j<;>simp
noncomputable def hr(k:Bool)(s:Nat):Nat:=if k then s else s+1
theorem vQ{N:List Nd}{v x y:PV}{its:List PV}{i a s m u g:Nat}{w x6 x11 x12:Option Sl}{d d':Nd}{k:Bool}(hd:N[a]?=some d)(hk:d.s=kN k)(hs:N[s]?=some d')(hm:d'.c=m):
  (hr k s≠g->∀ f,bZ (vE v N i w f x6 (some (.sh (aO a))) (some (.sh (aO g))) (some (.sh (.int u))) (some (.sh (.int s))) x11 x12)=.nx (vE v N i w f x6 (some (.sh (aO a))) (some (.sh (aO g))) (some (.sh (.int (u+1)))) (some (.sh (.int m))) (some (.sh (aO (hr k s)))) x12)) /\
  (hr k s=g->its[u]?=some x->(if k then x=y else ∃ z,x=.tup [z,y])->bZ (vE v N i w (some (.ow [.tup [kS k,.tup its]])) x6 (some (.sh (aO a))) (some (.sh (aO g))) (some (.sh (.int u))) (some (.sh (.int s))) x11 x12)=.nx (vE v N i w (some (.ow [y])) x6 (some (.sh (aO a))) (some (.sh (aO g))) (some (.sh (.int (u+1)))) (some (.sh (.int m))) (some (.sh (aO (hr k s)))) (some (.sh x)))):=by
 refine⟨fun h f=>?_,fun h hx hy=>?_⟩
 . cases k
   . have:¬ (s:Int)+1=g:=fun z=>h (by simp[hr];omega)
     simp[bZ,aO,dY hd,hk,dY hs,hm,kN,hr,gEq,eqS,bO,kT,this]
   . have:¬ (s:Int)=g:=fun z=>h (by simp[hr];omega)
     simp[bZ,aO,dY hd,hk,dY hs,hm,kN,hr,gEq,eqS,bO,kT,this]
 . subst h
   have hu:atP its (u:Int)=some x:=by rw[gA,hx]
   cases k
   . obtain⟨z,rfl⟩:=hy;simp[bZ,aO,dY hd,hk,dY hs,hm,kN,hr,gEq,eqS,bO,kT,hu]
   . have hy:x=y:=hy
     subst hy;simp[bZ,aO,dY hd,hk,dY hs,hm,kN,hr,gEq,eqS,bO,kT,hu]
theorem vt{N:List Nd}{R:List Int}{n:Nat}{k:Bool}:∀{as:List Nat} {xs:List PV} {s e:Nat},KS (At N R n) N R k as xs s e->s<=N.length->e<=N.length /\ ∀ a∈as,s<=a
 |[],[],s,e,h,hs=>by have h:s=e:=h;exact⟨by omega,by simp⟩
 | b ::as,x ::xs,s,e,⟨hb,d,m,h1,h0,h2,h3⟩,hs=>by
   have hlt:=h2.1;obtain⟨d',q,_⟩:=uk (fun s m v=>xB n s m v) h2 (i:=m - 1) (by omega) (by omega)
   have:m - 1<N.length:=by rcases Nat.lt_or_ge (m - 1) N.length with z|z;exact z;rw[List.getElem?_eq_none z]at q;cases q
   obtain⟨i1,i2⟩:=vt h3 (by omega)
   refine⟨i1,fun a ha=>?_⟩
   rcases List.mem_cons.mp ha with z|z
   . omega
   . have:=i2 a z;omega
 |[],_ ::_,_,_,h,_=>h.elim
 |_ ::_,[],_,_,h,_=>h.elim
theorem HB{N:List Nd}{v:PV}{i a s u g e:Nat}{w f x6 x11 x12:Option Sl}{d:Nd}(hd:N[a]?=some d)(hc:d.c=e):ez (vE v N i w f x6 (some (.sh (aO a))) (some (.sh (aO g))) (some (.sh (.int u))) (some (.sh (.int s))) x11 x12)=.ok (decide (s<e)):=by
 simp[ez,aO,dY hd,hc]
theorem Fh{N:List Nd}{R:List Int}{v:PV}{i a g e n:Nat}{w f x6 x12:Option Sl}{d:Nd}{k:Bool}(hd:N[a]?=some d)(hk:d.s=kN k)(hc:d.c=e):∀(as:List Nat) (xs:List PV) (s F u:Nat) (x11:Option Sl),KS (At N R n) N R k as xs s e->(∀ b∈as,hr k b≠g)->as.length<F ->
  ∃ y9 y10 y11,cu ez bZ F (vE v N i w f x6 (some (.sh (aO a))) (some (.sh (aO g))) (some (.sh (.int u))) (some (.sh (.int s))) x11 x12)=.nx (vE v N i w f x6 (some (.sh (aO a))) (some (.sh (aO g))) y9 y10 y11 x12)
 |_,_,_,0,_,_,_,_,hF=>by omega
 | [],[],s,F+1,u,x11,h,_,_=>by
   have h:s=e:=h
   exact⟨some (.sh (.int u)),some (.sh (.int s)),x11,by rw[cu,HB hd hc];simp[h]⟩
 | b ::as,x ::xs,s,F+1,u,x11,⟨hb,d',m,h1,h2,h3,h4⟩,hg,hF=>by
   have hlt:=h3.1;have hle:=(p9 (lo:=0) h4).1;obtain⟨y9,y10,y11,ih⟩:=Fh hd hk hc as xs m F (u+1) (some (.sh (aO (hr k s)))) h4 (fun z hz=>hg z (List.mem_cons_of_mem _ hz)) (by simp at hF;omega)
   refine⟨y9,y10,y11,?_⟩
   rw[cu,HB hd hc,decide_eq_true (show s<e by omega)];simp only[gJ,if_true];rw[(vQ (x:=.non) (y:=.non) (its:=[]) hd hk h1 h2).1 (by rw[<- hb];exact hg b List.mem_cons_self),dG];exact ih
 |[],_ ::_,_,_+1,_,_,h,_,_=>h.elim
 |_ ::_,[],_,_+1,_,_,h,_,_=>h.elim
theorem Cs{N:List Nd}{R:List Int}{v x y:PV}{its:List PV}{i a g e n:Nat}{w x6:Option Sl}{d:Nd}{k:Bool}(hd:N[a]?=some d)(hk:d.s=kN k)(hc:d.c=e):∀(as:List Nat) (xs:List PV) (s F u t:Nat) (x11 x12:Option Sl),KS (At N R n) N R k as xs s e->s<=N.length->(as[t]?).map (hr k)=some g->its[u+t]?=some x->(if k then x=y else ∃ z,x=.tup [z,y])->as.length<F ->
  ∃ y9 y10 y11 y12,cu ez bZ F (vE v N i w (some (.ow [.tup [kS k,.tup its]])) x6 (some (.sh (aO a))) (some (.sh (aO g))) (some (.sh (.int u))) (some (.sh (.int s))) x11 x12)=.nx (vE v N i w (some (.ow [y])) x6 (some (.sh (aO a))) (some (.sh (aO g))) y9 y10 y11 y12)
 |_,_,_,0,_,_,_,_,_,_,_,_,_,hF=>by omega
 |[],[],s,F+1,u,t,x11,x12,h,_,ht,_,_,_=>by simp at ht
 | b ::as,z ::xs,s,F+1,u,t,x11,x12,⟨hb,d',m,h1,h2,h3,h4⟩,hs,ht,hx,hy,hF=>by
   have hlt:=h3.1;have hle:=(p9 (lo:=0) h4).1
   have hm:m<=N.length:=by
    obtain⟨d',q,_⟩:=uk (fun s m v=>xB n s m v) h3 (i:=m - 1) (by omega) (by omega)
    have:m - 1<N.length:=by rcases Nat.lt_or_ge (m - 1) N.length with z|z;exact z;rw[List.getElem?_eq_none z]at q;cases q
    omega
   have hge:=(vt h4 hm).2
   have hj:∀ c∈as,hr k c≠hr k s:=fun c hc=>by have:=hge c hc;unfold hr;split<;>omega
   rw[cu,HB hd hc,decide_eq_true (show s<e by omega)];simp only[gJ,if_true]
   cases t with
   | zero=>
     have hg:hr k s=g:=by rw[<- hb];simpa using ht
     rw[Nat.add_zero]at hx;rw[(vQ (x:=x) (y:=y) (its:=its) hd hk h1 h2).2 hg hx hy,dG];obtain⟨y9,y10,y11,ih⟩:=Fh (g:=g) (w:=w) (f:=some (.ow [y])) (x6:=x6) (x12:=some (.sh x)) (v:=v) (i:=i) hd hk hc as xs m F (u+1) (some (.sh (aO (hr k s)))) h4 (fun c hc=>hg ▸ hj c hc) (by simp at hF;omega)
     exact⟨y9,y10,y11,_,ih⟩
   | succ t=>
     have ht':(as[t]?).map (hr k)=some g:=by simpa using ht
     have hg:hr k s≠g:=by
      obtain⟨c,q1,q2⟩:=Option.map_eq_some_iff.mp ht';rw[<- q2]
      exact fun z=>hj c (List.mem_of_getElem? q1) z.symm
     rw[(vQ (x:=x) (y:=y) (its:=its) hd hk h1 h2).1 hg,dG];exact Cs hd hk hc as xs m F (u+1) t _ x12 h4 hm ht' (by rw[<- hx];congr 1;omega) hy (by simp at hF;omega)
 |[],_ ::_,_,_+1,_,_,_,_,h,_,_,_,_,_=>h.elim
 |_ ::_,[],_,_+1,_,_,_,_,h,_,_,_,_,_=>h.elim
theorem Fw{N:List Nd}{R:List Int}{V vi:PV}{i:Nat}(hN:N.length<=5000):∀(w pre:List Nat) (j:Nat) (v:PV) (x6 x7 x8 x9 x10 x11 x12:Option Sl),Wy N R i vi w j v ->
  ∃ y6 y7 y8 y9 y10 y11 y12,dZ 6 fR ((List.range' pre.length w.length).map aO) (vE V N i (some (.ow ((pre++w).map aO))) (some (.ow [v])) x6 x7 x8 x9 x10 x11 x12)=.nx (vE V N i (some (.ow ((pre++w).map aO))) (some (.ow [vi])) y6 y7 y8 y9 y10 y11 y12)
 |[],pre,j,v,x6,x7,x8,x9,x10,x11,x12,h=>⟨x6,x7,x8,x9,x10,x11,x12,by simp[h.2]⟩
 | a ::w,pre,j,v,x6,x7,x8,x9,x10,x11,x12,⟨ha,n,k,as,its,d,e,h1,h2,h3,hv,h4,t,s,x,y,b1,b2,b3,b4⟩=>by
   subst ha
   have hlt:a<N.length:=by rcases Nat.lt_or_ge a N.length with z|z;exact z;rw[List.getElem?_eq_none z]at h1;cases h1
   have het:=(vt h4 hlt).1;have hal:=(vz h4).1
   have p1:atP ((pre++a ::w).map aO) (pre.length:Int)=some (.int a):=tm _ (by simp)
   have hg:jF (aE (mOp gLt (mOp bR (ak 6) (mC (.int 1))) (mUn kn (ak 3)))) (mOp cV (ak 3) (mOp bR (ak 6) (mC (.int 1)))) (ak 4) (vE V N i (some (.ow ((pre++a ::w).map aO))) (some (.ow [v])) (some (.sh (aO pre.length))) (some (.sh (aO a))) x8 x9 x10 x11 x12)=.ok (.sh (aO (hr k s))):=by
    cases w with
    | nil=>
      have b4:hr k s=i:=b4.1
      simp[aO,b4]
    | cons b w=>
      have b4:b=hr k s:=b4.1
      have p2:atP ((pre++a ::b ::w).map aO) ((pre.length:Int)+1)=some (.int b):=tm (t:=pre.length+1) _ (by simp)
      simp[aO]at p2
      have:(pre.length:Int)+1<pre.length+(w.length+1+1):=by omega
      simp[aO,p2,this,<- b4]
   obtain⟨y9,y10,y11,y12,hw⟩:=Cs (v:=V) (i:=i) (w:=some (.ow ((pre++a ::w).map aO))) (x6:=some (.sh (aO pre.length))) (its:=its) (x:=x) (y:=y) (g:=hr k s) h1 h2 h3 as its (a+1) fuel 0 t x11 x12 h4 hlt (by rw[b1];rfl) (by rw[Nat.zero_add];exact b2) b3 (by unfold fuel;omega)
   have hb:fR (vE V N i (some (.ow ((pre++a ::w).map aO))) (some (.ow [v])) (some (.sh (aO pre.length))) x7 x8 x9 x10 x11 x12)=.nx (vE V N i (some (.ow ((pre++a ::w).map aO))) (some (.ow [y])) (some (.sh (aO pre.length))) (some (.sh (aO a))) (some (.sh (aO (hr k s)))) y9 y10 y11 y12):=by
    unfold fR
    rw[aP (ρ':=vE V N i (some (.ow ((pre++a ::w).map aO))) (some (.ow [v])) (some (.sh (aO pre.length))) (some (.sh (aO a))) x8 x9 x10 x11 x12) (by simp[aO]at p1;simp[aO,p1]),
     aP (ρ':=vE V N i (some (.ow ((pre++a ::w).map aO))) (some (.ow [v])) (some (.sh (aO pre.length))) (some (.sh (aO a))) (some (.sh (aO (hr k s)))) x9 x10 x11 x12) (by rw[aN,hg];rfl),
     aP (ρ':=vE V N i (some (.ow ((pre++a ::w).map aO))) (some (.ow [v])) (some (.sh (aO pre.length))) (some (.sh (aO a))) (some (.sh (aO (hr k s)))) (some (.sh (.int (0:Nat)))) x10 x11 x12) (by simp),
     aP (ρ':=vE V N i (some (.ow ((pre++a ::w).map aO))) (some (.ow [v])) (some (.sh (aO pre.length))) (some (.sh (aO a))) (some (.sh (aO (hr k s)))) (some (.sh (.int (0:Nat)))) (some (.sh (.int (a+1:Nat)))) x11 x12) (by simp[aO]),hv]
    exact hw
   obtain⟨y6,y7,y8,z9,z10,z11,z12,ih⟩:=Fw hN w (pre++[a]) _ y (some (.sh (aO pre.length))) (some (.sh (aO a))) (some (.sh (aO (hr k s)))) y9 y10 y11 y12 b4
   refine⟨y6,y7,y8,z9,z10,z11,z12,?_⟩
   rw[List.length_cons,List.range'_succ,List.map_cons,dv];simp only[List.set_cons_succ,List.set_cons_zero];rw[hb,dG];rw[List.length_append,List.append_assoc]at ih;exact ih
theorem yG{N:List Nd}{R:List Int}{n i:Nat}{k:Bool}{d:Nd}{V:PV}(hN:N.length<=5000)(hA:At N R n 0 N.length V)(hd:N[i]?=some d)(hk:d.s=kN k):
  ∃(n:Nat) (its:List PV) (as:List Nat) (e:Nat),d.c=e /\ e<=N.length /\ KS (At N R n) N R k as its (i+1) e /\ cT [V,.lst (N.map ndP),.int i]=.ok (.sh (.tup [kS k,.tup its])):=by
 have hi:i<N.length:=by rcases Nat.lt_or_ge i N.length with z|z;exact z;rw[List.getElem?_eq_none z]at hd;cases hd
 obtain⟨vi,⟨n',its,as,e,q1,q2,q3⟩,hw⟩:=zo hd hk _ _ _ _ hA (Nat.zero_le _) hi
 refine⟨n',its,as,e,q1,(vt q3 hi).1,q3,?_⟩
 subst q2
 obtain⟨w,hw'⟩:∃ w,w=seg (wp N i) 0 N.length:=⟨_,rfl⟩
 have hwl:=zZ (wp N i) 0 N.length;rw[<- hw']at hw hwl;obtain⟨x6',l1⟩:=zm (v:=V) (N:=N) (i:=i) (f:=some (.ow [V])) (x7:=none) (x8:=none) (x9:=none) (x10:=none) (x11:=none) (x12:=none) (List.range' 0 N.length) [] none (fun j hj=>by rw[List.mem_range'_1]at hj;omega) (by simp;omega);rw[List.nil_append,show(List.range' 0 N.length).filter (wp N i)=w from hw'.symm]at l1;obtain⟨y6,y7,y8,y9,y10,y11,y12,l2⟩:=Fw (V:=V) hN w [] 0 V x6' none none none none none none hw
 have hr:∀ m:Nat,cz m=(List.range' 0 m).map aO:=fun m=>by simp[cz,List.range_eq_range',aO]
 unfold cT fnP;rw[if_pos (show List.length [V,.lst (N.map ndP),.int i]=3 from rfl)];unfold mR;rw[aP (ρ':=[some (.sh V),some (.sh (.lst (N.map ndP))),some (.sh (.int i)),some (.ow []),none,none,none,none,none,none,none,none,none]) (by simp)];unfold lj;rw[aP (ρ':=[some (.sh V),some (.sh (.lst (N.map ndP))),some (.sh (.int i)),some (.ow []),some (.sh (.int i)),none,none,none,none,none,none,none,none]) (by simp)];unfold kW;rw[aP (ρ':=vE V N i (some (.ow [])) (some (.ow [V])) none none none none none none none) (by simp)];unfold lb;rw[aP (by rw[u9 (j:=(N.length:Int)) (by simp) (by omega),Int.toNat_natCast,hr];exact l1)];unfold kQ;rw[aP (by rw[u9 (j:=(w.length:Int)) (by simp) (by omega),Int.toNat_natCast,hr];exact l2)];unfold kY;simp
noncomputable def sp(s:Int×Int):PV:=.tup [.int s.1,.int s.2]
theorem Gy(b:Int):cj [.int b]=.ok (.sh (sp (pN b))):=by
 unfold pN sp
 by_cases h1:b=224
 . simp[fY,fX,hJ,cj,h1]
 . by_cases h2:b=237<;>simp[fY,fX,hJ,cj,h1,h2]
theorem Ho(b:Int):cy [.int b]=.ok (.sh (sp (oh b))):=by
 unfold oh sp
 by_cases h1:b=240
 . simp[gC,gM,iB,cy,h1]
 . by_cases h2:b=244<;>simp[gC,gM,iB,cy,h1,h2]
theorem su(b:Int):ib [.int b]=match PG.spans b with
  |some ss=>.ok (.fr (ss.map sp))
  |none=>.ok (.sh .non):=by
 unfold PG.spans
 by_cases h1:0<=b /\ b<128
 . simp[jA,jv,jz,jt,n8,ib,h1]
 . by_cases h2:194<=b /\ b<224
   . have g1:0<=b:=by omega
     have g2:¬ b<128:=by omega
     simp[jA,jv,jz,jt,n8,ib,h2,g1,g2,sp]
   . by_cases h3:224<=b /\ b<240
     . have g1:0<=b:=by omega
       have g2:¬ b<128:=by omega
       have g3:194<=b:=by omega
       have g4:¬ b<224:=by omega
       simp[jA,jv,jz,jt,n8,ib,h3,g1,g2,g3,g4,Gy];rfl
     . by_cases h4:240<=b /\ b<245
       . have g1:0<=b:=by omega
         have g2:¬ b<128:=by omega
         have g3:194<=b:=by omega
         have g4:¬ b<224:=by omega
         have g5:224<=b:=by omega
         have g6:¬ b<240:=by omega
         simp[jA,jv,jz,jt,n8,ib,h4,g1,g2,g3,g4,g5,g6,Ho];rfl
       . simp only[h1,h2,h3,h4,if_false]
         by_cases k1:0<=b<;>by_cases k2:b<128<;>by_cases k3:194<=b<;>by_cases k4:b<224<;>by_cases k5:224<=b<;>by_cases k6:b<240<;>by_cases k7:240<=b<;>by_cases k8:b<245<;>first
          |(exfalso;omega)
          |simp[jA,jv,jz,jt,n8,ib,k1,k2,k3,k4,k5,k6,k7,k8]
theorem yz(pre:List Int)(c:Int)(r:List Int):atP ((pre++c ::r).map PV.int) (pre.length:Int)=some (.int c):=by
 rw[gA,List.getElem?_map];simp
theorem Er(pre r:List Int)(c:Int)(A B:Option Sl)(s:Int×Int)(h:s.1<=c /\ c<=s.2):fj [some (.sh (.lst ((pre++c ::r).map .int))),A,B,some (.sh (.int pre.length)),some (.sh (sp s))]=.nx [some (.sh (.lst ((pre++c ::r).map .int))),A,B,some (.sh (.int (pre.length+1))),some (.sh (sp s))]:=by
 have ha:=yz pre c r;simp only[List.map_append,List.map_cons]at ha
 have hne:¬ (pre.length:Int)=pre.length+(r.length+1):=by omega
 simp[fj,sp,ha,hne,h.1,h.2]
theorem Ao(A B:Option Sl):∀(ss:List (Int×Int)) (pre cs:List Int) (o:Option Sl),eat ss cs=none->∃ o',dZ 4 fj (ss.map sp) [some (.sh (.lst ((pre++cs).map .int))),A,B,some (.sh (.int pre.length)),o]=.nx [some (.sh (.lst ((pre++cs).map .int))),A,B,some (.sh (.int (pre.length+ss.length))),o']
 |[],pre,cs,o,_=>⟨o,by simp⟩
 |s ::ss,pre,[],o,h=>by simp[eat]at h
 | s ::ss,pre,c ::r,o,h=>by
   by_cases hc:s.1<=c /\ c<=s.2
   . have e0:pre++c ::r=(pre++[c])++r:=by simp
     have e1:((pre++[c]).length:Int)=pre.length+1:=by simp
     obtain⟨o',e⟩:=Ao A B ss (pre++[c]) r (some (.sh (sp s))) (by simpa [eat,hc]using h);rw[<- e0,e1]at e
     refine⟨o',?_⟩
     rw[List.map_cons,dv];simp only[List.set_cons_succ,List.set_cons_zero];rw[Er pre r c A B s hc,dG,e]
     simp;omega
   . simp[eat,hc]at h
theorem Ky(pre:List Int)(b:Int)(cs:List Int){ss:List (Int×Int)}(hs:PG.spans b=some ss)(he:eat ss cs=none):cY [.lst ((pre++b ::cs).map .int),.int pre.length]=.ok (.sh (.int (pre.length+1+ss.length))):=by
 have ha:=yz pre b cs
 have e0:pre++b ::cs=(pre++[b])++cs:=by simp
 have e1:((pre++[b]).length:Int)=pre.length+1:=by simp
 have ht:=su b;rw[hs]at ht;obtain⟨o',l⟩:=Ao (some (.sh (.int pre.length))) (some (.sh (.lst (ss.map sp)))) ss (pre++[b]) cs none he;rw[<- e0,e1]at l
 simp only[List.map_append,List.map_cons]at ha l ⊢
 simp[cY,mM,j9,ka,j8,jY,ha,ht,fT,CO,vn,l]
theorem E4(A B C:Option Sl)(cs:List Int):∀(n:Int) (o:Option Sl),∃ o',dZ 4 iU (cs.map .int) [A,B,C,some (.sh (.int n)),o]=.nx [A,B,C,some (.sh (.int (cs.foldl (fun n c=>n*64+c - 128) n))),o']:=by
 induction cs with
 |nil=>intro n o;exact⟨o,by simp⟩
 | cons c cs ih=>
   intro n o
   have hb:iU [A,B,C,some (.sh (.int n)),some (.sh (.int c))]=.nx [A,B,C,some (.sh (.int (n*64+c - 128))),some (.sh (.int c))]:=by simp[iU]
   obtain⟨o',e⟩:=ih (n*64+c - 128) (some (.sh (.int c)))
   refine⟨o',?_⟩
   rw[List.map_cons,dv];simp only[List.set_cons_succ,List.set_cons_zero];rw[hb,dG,e];rfl
theorem GD(pre:List Int)(b:Int)(cs r:List Int)(h:cs.length<=3):fE [.lst ((pre++b ::(cs++r)).map .int),.int pre.length,.int (pre.length+1+cs.length)]=.ok (.sh (.int (PG.val b cs))):=by
 have ha:=yz pre b (cs++r)
 have hm:atP [PV.int 0,.int 192,.int 224,.int 240] (cs.length:Int)=some (.int (PG.mark cs.length)):=by
  rw[gA];unfold PG.mark
  match cs.length,h with
  |0,_=>rfl
  |1,_=>rfl
  |2,_=>rfl
  |3,_=>rfl
 have hc:tj ((pre++b ::(cs++r)).map PV.int) (some (pre.length+1)) (some (pre.length+1+cs.length))=cs.map .int:=by
  unfold tj rK;dsimp only;rw[if_neg (by omega),if_neg (by omega)]
  have l1:((pre++b ::(cs++r)).map PV.int).length=pre.length+1+cs.length+r.length:=by simp;omega
  rw[l1]
  have t1:min ((pre.length:Int)+1).toNat (pre.length+1+cs.length+r.length)=pre.length+1:=by omega
  have t2:min ((pre.length:Int)+1+cs.length).toNat (pre.length+1+cs.length+r.length)=pre.length+1+cs.length:=by omega
  rw[t1,t2,<- List.map_drop,<- List.map_take]
  congr 1
  have d1:(pre++b ::(cs++r)).drop (pre.length+1)=cs++r:=by
   rw[List.drop_append];simp
  rw[d1,show pre.length+1+cs.length - (pre.length+1)=cs.length from by omega];simp
 obtain⟨o',l⟩:=E4 (some (.sh (.lst ((pre++b ::(cs++r)).map .int)))) (some (.sh (.int pre.length))) (some (.sh (.int (pre.length+1+cs.length)))) cs (b - PG.mark cs.length) none
 have e3:(pre.length:Int)+1+cs.length - pre.length - 1=cs.length:=by omega
 generalize (pre++b ::(cs++r)).map PV.int=row at ha hc l ⊢
 simp[fE,qY,oN,oK,ha,e3,hm,hc,l];rfl
theorem xi(pre rest:List Int)(A o:Option Sl):jS [some (.sh (.lst ((pre++rest).map .int))),A,some (.sh (.int pre.length)),o]=.ok (!rest.isEmpty):=by
 cases rest with
 |nil=>simp[jS]
 |cons b r=>simp[jS];omega
theorem wV:∀ (m:Nat) (pre rest found:List Int) (o:Option Sl) (n:Nat),rest.length <= m -> found.length + rest.length <= 1000 -> m < n -> fh [] pre.length rest = -1 -> ∃ L o',L.all eB = true /\ L.flatMap aZ = rest /\ cu jS lu n [some (.sh (.lst ((pre ++ rest).map .int))),some (.ow (found.map .int)),some (.sh (.int pre.length)),o] =
   .nx [some (.sh (.lst ((pre++rest).map .int))),some (.ow ((found++L).map .int)),some (.sh (.int (pre.length+rest.length))),o']
 | m,pre,[],found,o,n + 1,_,_,_,_=>⟨[],o,rfl,rfl,by
    unfold cu;rw[xi pre []]
    simp⟩
 | m+1,pre,b ::cs,found,o,n+1,hr,hf,hn,hfa=>by
   have hc:=xi pre (b ::cs) (some (.ow (found.map .int))) o
   have hfa:(match PG.spans b with
    |some ws=>fh ws (pre.length+1) cs
    |none=>(pre.length:Int))=-1:=hfa
   cases hs:PG.spans b with
   | none=>
     rw[hs]at hfa
     have hp0:(0:Int)<=(pre.length:Int):=Int.natCast_nonneg _
     rw[show(pre.length:Int)=-1 from hfa]at hp0;exact absurd hp0 (by decide)
   | some ss=>
     rw[hs]at hfa
     dsimp only at hfa
     rw[tF]at hfa
     cases he:eat ss cs with
     | some k=>
       rw[he]at hfa
       have hp0:(0:Int)<=(pre.length:Int)+1+(k:Int):=Int.add_nonneg (Int.add_nonneg (Int.natCast_nonneg _) (by decide)) (Int.natCast_nonneg _)
       rw[show(pre.length:Int)+1+(k:Int)=-1 from hfa]at hp0;exact absurd hp0 (by decide)
     | none=>
       rw[he]at hfa
       dsimp only at hfa
       have hlen:=zu ss cs he;obtain⟨hp,hv,h3⟩:=CY hs he
       have e0:pre++b ::cs=(pre++b ::cs.take ss.length)++cs.drop ss.length:=by simp
       have e1:((pre++b ::cs.take ss.length).length:Int)=pre.length+1+ss.length:=by
        rw[List.length_append,List.length_cons,List.length_take];omega
       rw[List.length_cons]at hr hf;obtain⟨L,o',hL,hfl,e⟩:=wV m (pre++b ::cs.take ss.length) (cs.drop ss.length) (found++[PG.val b (cs.take ss.length)]) (some (.sh (.int (pre.length+1+ss.length)))) n (by rw[List.length_drop];omega) (by rw[List.length_append,List.length_drop];simp;omega) (by omega) (by rw[e1];exact hfa);rw[<- e0,e1]at e
       refine⟨PG.val b (cs.take ss.length) ::L,o',by simp[hp,hL],by rw[List.flatMap_cons,hv,hfl];simp,?_⟩
       have hlim:found.length<lim:=kB (by omega)
       have hce:=Ky pre b cs hs he;have hch:=GD pre b (cs.take ss.length) (cs.drop ss.length) (by rw[List.length_take];omega);rw[List.take_append_drop,show(cs.take ss.length).length=ss.length from by rw[List.length_take];omega]at hch
       have ht:lu [some (.sh (.lst ((pre++b ::cs).map .int))),some (.ow (found.map .int)),some (.sh (.int pre.length)),o]=.nx [some (.sh (.lst ((pre++b ::cs).map .int))),some (.ow ((found++[PG.val b (cs.take ss.length)]).map .int)),some (.sh (.int (pre.length+1+ss.length))),some (.sh (.int (pre.length+1+ss.length)))]:=by
        generalize (pre++b ::cs).map PV.int=row at hce hch ⊢
        simp[lu,hce,hch,hlim]
       conv=>lhs;unfold cu
       rw[hc];simp only[List.isEmpty_cons,Bool.not_false,gJ,if_true];rw[ht,dG,e,show(pre.length:Int)+1+ss.length+(cs.drop ss.length).length=pre.length+(b ::cs).length by rw[List.length_drop,List.length_cons];omega];simp
 |_,_,_,_,_,0,_,_,hn,_=>by omega
 |0,_,_ ::_,_,_,_+1,hr,_,_,_=>by simp at hr
theorem p8(row:List Int)(h:row.length<=500)(hf:fh [] 0 row=-1):∃ L:List Int,L.all eB=true /\ L.flatMap aZ=row /\ jD [.lst (row.map .int)]=.ok (.fr (L.map .int)):=by
 obtain⟨L,o',hL,hfl,e⟩:=wV row.length [] row [] none fuel (Nat.le_refl _) (by simp;omega) (by unfold fuel;omega) hf
 refine⟨L,hL,hfl,?_⟩
 simp only[List.nil_append,List.length_nil,List.map_nil,Int.ofNat_zero,Int.cast_ofNat_Int]at e;simp[jD,xf,sY,sM,tJ,e]
theorem j4(b:Int):fw [.int b]=.ok (.sh (.bl (fig b))):=by
 by_cases h:48<=b<;>simp -implicitDefEqProofs [rA,fw,fig,h]
theorem j3(b:Int):eI [.int b]=.ok (.sh (match dr b with|some w=>.int w|none=>.non)):=by
 unfold dr
 by_cases h1:48<=b<;>by_cases h2:b<=57<;>by_cases h3:65<=b<;>by_cases h4:b<=70<;>by_cases h5:97<=b<;>by_cases h6:b<=102<;>first|omega|simp -implicitDefEqProofs [oI,oX,o2,rj,eI,j4,fig,h1,h2,h3,h4,h5,h6]
theorem Ag(xs ys zs:List Int):tj ((xs++ys++zs).map PV.int) (some (xs.length:Int)) (some ((xs.length:Int)+ys.length))=ys.map .int:=by
 have e1:rK ((xs++ys++zs).map PV.int).length 0 (some (xs.length:Int))=xs.length:=by
  unfold rK;dsimp only;rw[if_neg (by omega)];simp
 have e2:rK ((xs++ys++zs).map PV.int).length ((xs++ys++zs).map PV.int).length (some ((xs.length:Int)+ys.length))=xs.length+ys.length:=by
  unfold rK;dsimp only;rw[if_neg (by omega)];simp;omega
 unfold tj;rw[e1,e2,<- List.map_drop,<- List.map_take,List.append_assoc,List.drop_left]
 congr 1
 rw[Nat.add_sub_cancel_left];simp
theorem t4{l:List Int}{xs ys:List Int}{x:Int}(h:l=xs++x ::ys){i:Int}(hi:i=xs.length):atP (l.map PV.int) i=some (.int x):=by
 rw[hi,gA,List.getElem?_map,h];simp
theorem vP{b w:Int}(h:dr b=some w):eI [.int b]=.ok (.sh (.int w)):=by rw[j3,h]
theorem lr{signs pre post:List Int}{a b c d:Int}{i:Int}(hs:signs=pre++92 ::117 ::a ::b ::c ::d ::post)(hi:i=pre.length)(ha:(dr a).isSome=true)(hb:(dr b).isSome=true)(hc:(dr c).isSome=true)(hd:(dr d).isSome=true):
  kJ [.lst (signs.map .int),.int i]=.ok (.sh (.int (cod a b c d))):=by
 obtain⟨w1,f1⟩:=PG.some_of ha;obtain⟨w2,f2⟩:=PG.some_of hb;obtain⟨w3,f3⟩:=PG.some_of hc;obtain⟨w4,f4⟩:=PG.some_of hd
 have hcut:tj (signs.map PV.int) (some (i+2)) (some (i+6))=[.int a,.int b,.int c,.int d]:=by
  have e:signs=(pre++[92,117])++[a,b,c,d]++post:=by rw[hs];simp
  have:=Ag (pre++[92,117]) [a,b,c,d] post;rw[<- e]at this
  have e1:((pre++[92,117]:List Int).length:Int)=i+2:=by rw[hi];simp
  have e2:i+2+(([a,b,c,d]:List Int).length:Int)=i+6:=by simp;omega
  rw[e1,e2]at this;exact this
 have hm:∀ x:Int,(2:Int) ^ 64=18446744073709551616:=fun _=>by decide
 simp -implicitDefEqProofs [xr,xn,xu,Cj,kJ,hcut,vP f1,vP f2,vP f3,vP f4,cod,gU f1,gU f2,gU f3,gU f4]
theorem El{a b c d:Int}(ha:(dr a).isSome=true)(hb:(dr b).isSome=true)(hc:(dr c).isSome=true)(hd:(dr d).isSome=true):0<=cod a b c d /\ cod a b c d<65536:=by
 obtain⟨w1,f1⟩:=PG.some_of ha;obtain⟨w2,f2⟩:=PG.some_of hb;obtain⟨w3,f3⟩:=PG.some_of hc;obtain⟨w4,f4⟩:=PG.some_of hd;have:=eT f1;have:=eT f2;have:=eT f3;have:=eT f4;simp only[cod,gU f1,gU f2,gU f3,gU f4];omega
theorem Ey{c p:Int}(h:(c,p)∈shP):dw [.int c]=.ok (.sh (.int p)) /\ c≠117:=by
 simp only[shP,List.mem_cons,Prod.mk.injEq,List.not_mem_nil,or_false]at h
 rcases h with h|h|h|h|h|h|h|h<;>(obtain⟨rfl,rfl⟩:=h;exact⟨by simp -implicitDefEqProofs [nk,dw,vB,List.lookup],by decide⟩)
theorem AN(s:Sg)(h:Sok s){signs pre post:List Int}(hs:signs=pre++(pts s++post)):
  cU [.lst (signs.map .int),.int (pre.length:Int)]=.ok (.sh (.int ((pts s).length:Int))) /\ cP [.lst (signs.map .int),.int (pre.length:Int),.int ((pts s).length:Int)]=.ok (.sh (.int (qN s))):=by
 cases s with
 | pl p=>
   obtain⟨h1,h2,h3,h4⟩:=h
   have ha:atP (signs.map PV.int) (pre.length:Int)=some (.int p):=t4 (xs:=pre) (ys:=post) hs rfl
   exact⟨by simp -implicitDefEqProofs [eX,fb,eW,gT,cU,ha,h4,pts],by simp -implicitDefEqProofs [fG,fL,fo,gY,cP,ha,pts,qN]⟩
 | sh c p=>
   obtain⟨h1,h2⟩:=Ey h
   have ha:atP (signs.map PV.int) (pre.length:Int)=some (.int 92):=t4 (xs:=pre) (ys:=c ::post) hs rfl
   have hb:atP (signs.map PV.int) ((pre.length:Int)+1)=some (.int c):=t4 (xs:=pre++[92]) (ys:=post) (by rw[hs];simp[pts]) (by simp)
   exact⟨by simp -implicitDefEqProofs [eX,fb,eW,gT,cU,ha,hb,h2,pts],by simp -implicitDefEqProofs [fG,fL,fo,gY,cP,hb,h1,pts,qN]⟩
 | hx a b c d=>
   obtain⟨ha,hb,hc,hd,hn⟩:=h
   have e1:atP (signs.map PV.int) (pre.length:Int)=some (.int 92):=t4 (xs:=pre) (ys:=117 ::a ::b ::c ::d ::post) hs rfl
   have e2:atP (signs.map PV.int) ((pre.length:Int)+1)=some (.int 117):=t4 (xs:=pre++[92]) (ys:=a ::b ::c ::d ::post) (by rw[hs];simp[pts]) (by simp)
   have e3:=lr (signs:=signs) (pre:=pre) (post:=post) (i:=pre.length) (by rw[hs];simp[pts]) rfl ha hb hc hd
   refine⟨?_,by simp -implicitDefEqProofs [fG,fL,fo,gY,cP,e3,pts,qN]⟩
   by_cases h1:55296<=cod a b c d
   . have h2:¬ cod a b c d<=57343:=fun z=>hn ⟨h1,z⟩
     simp -implicitDefEqProofs [eX,fb,eW,gT,cU,e1,e2,e3,pts,h1,h2]
   . simp -implicitDefEqProofs [eX,fb,eW,gT,cU,e1,e2,e3,pts,h1]
 | pr a b c d e f g h'=>
   obtain⟨⟨f1,b8,b12,hb,hc,hd⟩,f5,hf12,hf,hg,hh⟩:=h
   have ha:(dr a).isSome=true:=by rw[f1];rfl
   have he:(dr e).isSome=true:=by rw[f5];rfl
   have e1:atP (signs.map PV.int) (pre.length:Int)=some (.int 92):=t4 (xs:=pre) (ys:=117 ::a ::b ::c ::d ::92 ::117 ::e ::f ::g ::h' ::post) hs rfl
   have e2:atP (signs.map PV.int) ((pre.length:Int)+1)=some (.int 117):=t4 (xs:=pre++[92]) (ys:=a ::b ::c ::d ::92 ::117 ::e ::f ::g ::h' ::post) (by rw[hs];simp[pts]) (by simp)
   have e3:=lr (signs:=signs) (pre:=pre) (post:=92 ::117 ::e ::f ::g ::h' ::post) (i:=pre.length) (by rw[hs];simp[pts]) rfl ha hb hc hd;have e4:=lr (signs:=signs) (pre:=pre++[92,117,a,b,c,d]) (post:=post) (i:=(pre.length:Int)+6) (by rw[hs];simp[pts]) (by simp) he hf hg hh
   have hr:55296<=cod a b c d /\ cod a b c d<=57343:=by
    obtain⟨w2,g2⟩:=PG.some_of hb;obtain⟨w3,g3⟩:=PG.some_of hc;obtain⟨w4,g4⟩:=PG.some_of hd;have:=eT g2;have:=eT g3;have:=eT g4;rw[gU g2]at b8 b12;simp only[cod,gU f1,gU g2,gU g3,gU g4];omega
   have hc2:=El he hf hg hh
   refine⟨by simp -implicitDefEqProofs [eX,fb,eW,gT,cU,e1,e2,e3,pts,hr.1,hr.2],?_⟩
   simp -implicitDefEqProofs [fG,fL,fo,gY,cP,e3,e4,pts,qN]
theorem Ez(s:Sg):0<(pts s).length:=by cases s<;>simp[pts]
theorem vX(ss:List Sg)(signs:List Int):∀(pre found:List Int) (n:Nat) (z:Option Sl),(∀ s∈ss,Sok s)->signs=pre++ss.flatMap pts->found.length+ss.length<=100000->ss.length<n ->
  ∃ z',cu dc ef n [some (.sh (.lst (signs.map .int))),some (.ow (found.map .int)),some (.sh (.int (pre.length:Int))),z]=.nx [some (.sh (.lst (signs.map .int))),some (.ow ((found++ss.map qN).map .int)),some (.sh (.int (signs.length:Int))),z']:=by
 induction ss with
 | nil=>
   intro pre found n z _ hs _ hn
   obtain⟨m,rfl⟩:∃ m,n=m+1:=⟨n - 1,by simp at hn;omega⟩
   have e:signs=pre:=by simpa using hs
   subst e
   exact⟨z,by simp[cu,dc]⟩
 | cons s ss ih=>
   intro pre found n z hok hs hl hn;simp only[List.length_cons]at hl hn
   obtain⟨m,rfl⟩:∃ m,n=m+1:=⟨n - 1,by omega⟩
   have hs':signs=pre++(pts s++ss.flatMap pts):=by rw[hs,List.flatMap_cons]
   obtain⟨t1,t2⟩:=AN s (hok s List.mem_cons_self) hs'
   have hlt:pre.length<signs.length:=by rw[hs'];have:=Ez s;simp;omega
   have hc:dc [some (.sh (.lst (signs.map .int))),some (.ow (found.map .int)),some (.sh (.int (pre.length:Int))),z]=.ok true:=by simp[dc,hlt]
   have hfl:found.length<lim:=kB (by omega)
   have hb:ef [some (.sh (.lst (signs.map .int))),some (.ow (found.map .int)),some (.sh (.int (pre.length:Int))),z]=.nx [some (.sh (.lst (signs.map .int))),some (.ow ((found++[qN s]).map .int)),some (.sh (.int ((pre++pts s).length:Int))),some (.sh (.int ((pts s).length:Int)))]:=by
    simp -implicitDefEqProofs [ef,t1,t2,hfl]
   obtain⟨z',h⟩:=ih (pre++pts s) (found++[qN s]) m (some (.sh (.int ((pts s).length:Int)))) (fun x hx=>hok x (List.mem_cons_of_mem _ hx)) (by rw[hs'];simp) (by simp;omega) (by omega)
   refine⟨z',?_⟩
   simp only[cu,hc,gJ,if_true,hb,dG,h];simp
theorem AF(ss:List Sg)(hok:∀ s∈ss,Sok s)(hl:ss.length<=90000):cF [.lst ((ss.flatMap pts).map .int)]=.ok (.fr ((ss.map qN).map .int)):=by
 obtain⟨z',h⟩:=vX ss (ss.flatMap pts) [] [] fuel none hok (by simp) (by simp;omega) (by unfold fuel;omega);simp only[List.map_nil,List.nil_append,List.length_nil,Int.ofNat_zero,Int.cast_ofNat_Int]at h;generalize ss.flatMap pts=signs at *
 simp -implicitDefEqProofs only[cF,kg,zT,qt,List.map_cons,List.map_nil,List.length_cons,List.length_nil,List.replicate,List.cons_append,List.nil_append,qF,yQ,HQ,Ir,AK,fZ,Je]
 simp -implicitDefEqProofs [fZ,jh,h,jf]
theorem Bn(ss:List Sg):ss.length<=(PG.inner ss).length:=by
 induction ss with
 |nil=>simp
 | cons s ss ih=>
   have:0<(nh s).length:=by
    have h8:∀ p:Int,0<(aZ p).length:=fun p=>by unfold aZ;(repeat' split)<;>simp
    cases s with
    |pl p=>show 0<(aZ p++[]).length;rw[List.append_nil];exact h8 p
    |sh c p=>show 0<(aZ 92++_).length;rw[List.length_append];have:=h8 92;omega
    |hx a b c d=>show 0<(aZ 92++_).length;rw[List.length_append];have:=h8 92;omega
    |pr a b c d e f g h=>show 0<(aZ 92++_).length;rw[List.length_append];have:=h8 92;omega
   show _<=(nh s++PG.inner ss).length;rw[List.length_append,List.length_cons];omega
theorem sq(ss:List Sg)(hok:∀ s∈ss,Sok s)(row pre post:List Int)(tree:List PV)(k:Int)(n:Int)(hr:row=pre++34 ::(PG.inner ss++34 ::post))(hin:(PG.inner ss).length<=500)
  (ht:atP tree k=some (.tup [.str (Str.ofString "name"),.int pre.length,.int ((pre.length:Int)+(PG.inner ss).length+2),.int n])):j7 [.lst (row.map .int),.lst tree,.int k]=.ok (.fr ((ss.map qN).map .int)):=by
 have hcut:tj (row.map PV.int) (some ((pre.length:Int)+1)) (some ((pre.length:Int)+(PG.inner ss).length+2 - 1))=(PG.inner ss).map .int:=by
  have e:row=(pre++[34])++PG.inner ss++(34 ::post):=by rw[hr];simp
  have:=Ag (pre++[34]) (PG.inner ss) (34 ::post);rw[<- e]at this
  have e1:((pre++[34]:List Int).length:Int)=(pre.length:Int)+1:=by simp
  have e2:(pre.length:Int)+1+((PG.inner ss).length:Int)=(pre.length:Int)+(PG.inner ss).length+2 - 1:=by omega
  rw[e1,e2]at this;exact this
 have hfa:fh [] 0 (PG.inner ss)=-1:=by rw[sT];exact yF _ (zP ss hok) 0
 obtain⟨L,hL,hLf,hp⟩:=p8 (PG.inner ss) hin hfa
 have hLe:L=ss.flatMap pts:=ym hL (zP ss hok) (by rw[hLf,sT])
 rw[hLe]at hp;have hw:=AF ss hok (by have:=Bn ss;omega);simp -implicitDefEqProofs [uW,uE,zD,j7,ht,y0,vx,gQ,hcut,hp,hw]
noncomputable def Nms(N:List Nd)(R:List Int):List Nat->List PV->List (List Int)->Prop
 |[],[],[]=>True
 |a ::as,x ::xs,m ::ms=>(∃ d,N[a]?=some d /\ d.s = "name" /\ wu R d m) /\ (∃ y,x=.tup [.tup (m.map .int),y]) /\ Nms N R as xs ms
 |_,_,_=>False
theorem BY{N:List Nd}{R:List Int}{n:Nat}:∀{as:List Nat} {xs:List PV} {s e:Nat},KS (At N R n) N R false as xs s e->∃ ms,Nms N R as xs ms
 |[],[],_,_,_=>⟨[],trivial⟩
 | _ ::_,_ ::_,_,_,⟨hb,_,_,_,_,h3,h4⟩=>by
   obtain⟨_,d',nm,y,q1,q2,_,q4,q5,_⟩:=h3;obtain⟨ms,ih⟩:=BY h4
   exact⟨nm ::ms,⟨d',by rw[hb];exact q1,q2,q4⟩,⟨y,q5⟩,ih⟩
 |[],_ ::_,_,_,h=>h.elim
 |_ ::_,[],_,_,h=>h.elim
noncomputable def fm(nm:List Int):List Nat->List (List Int)->Int
 |a ::as,m ::ms=>if m=nm then a+1 else fm nm as ms
 |_,_=>-2
theorem Jd(a b:List Int):ot (.lst (a.map .int)) (.lst (b.map .int))=some (.sh (.bl (decide (a=b)))):=by simp[ot,jV,o3,gk,pj]
theorem Jq(a b:List Int):ot (.tup (a.map .int)) (.tup (b.map .int))=some (.sh (.bl (decide (a=b)))):=by simp[ot,jV,o3,gk,pj]
theorem uH(a b:String):ot (.str (Str.ofString a)) (.str (Str.ofString b))=some (.sh (.bl (decide (a=b)))):=by simp[ot,jV,gk,bO]
theorem C5{N:List Nd}{R m:List Int}{a:Nat}{d:Nd}(hd:N[a]?=some d)(hs:d.s = "name")(h:wu R d m):j7 [.lst (R.map .int),.lst (N.map ndP),.int a]=.ok (.fr (m.map .int)):=by
 obtain⟨pre,ss,post,h1,h2,h3,h4,h5,h6⟩:=h
 have ht:PG.txt ss=34 ::(PG.inner ss++[34]):=rfl
 rw[ht]at h1 h3 h6;rw[<- h5];refine sq ss h4 R pre post _ _ d.c (by rw[h1];simp) (by simp at h6;omega) ?_;rw[dY hd,hs,h2,h3]
 simp;omega
theorem rD{N:List Nd}{R nm:List Int}{i:Nat}{q:PV}(hq:ia q=some (.fr (nm.map .int))):∀(as:List Nat) (xs:List PV) (ms:List (List Int)) (o:Option Sl),Nms N R as xs ms ->
  (fm nm as ms=-2 /\ ∃ o',dZ 4 jO (as.map aO) [some (.sh (.lst (R.map .int))),some (.sh (.lst (N.map ndP))),some (.sh (.int i)),some (.sh q),o]=.nx [some (.sh (.lst (R.map .int))),some (.sh (.lst (N.map ndP))),some (.sh (.int i)),some (.sh q),o']) \/
  ∃ ρ,dZ 4 jO (as.map aO) [some (.sh (.lst (R.map .int))),some (.sh (.lst (N.map ndP))),some (.sh (.int i)),some (.sh q),o]=.rt ρ (.sh (.int (fm nm as ms)))
 |[],[],[],o,_=>.inl ⟨rfl,o,by simp⟩
 | a ::as,x ::xs,m ::ms,o,⟨⟨d,q1,q2,q3⟩,_,h⟩=>by
   have hm:=C5 q1 q2 q3
   have hb:jO [some (.sh (.lst (R.map .int))),some (.sh (.lst (N.map ndP))),some (.sh (.int i)),some (.sh q),some (.sh (aO a))]=if m=nm then .rt [some (.sh (.lst (R.map .int))),some (.sh (.lst (N.map ndP))),some (.sh (.int i)),some (.sh q),some (.sh (aO a))] (.sh (.int (a+1)))else .nx [some (.sh (.lst (R.map .int))),some (.sh (.lst (N.map ndP))),some (.sh (.int i)),some (.sh q),some (.sh (aO a))]:=by
    by_cases e:m=nm<;>simp[jO,aO,hm,hq,Jd,e]
   rw[List.map_cons,dv];simp only[List.set_cons_succ,List.set_cons_zero];rw[hb]
   by_cases e:m=nm
   . rw[if_pos e,fm,if_pos e];exact .inr ⟨_,rfl⟩
   . rw[if_neg e,fm,if_neg e,dG];exact rD hq as xs ms _ h
 |[],[],_ ::_,_,h=>h.elim
 |[],_ ::_,_,_,h=>h.elim
 |_ ::_,[],_,_,h=>h.elim
 |_ ::_,_ ::_,[],_,h=>h.elim
theorem pU{N:List Nd}{R nm:List Int}{i:Nat}{q:PV}(hq:ia q=some (.fr (nm.map .int))){as:List Nat}{xs:List PV}{ms:List (List Int)}{d:Nd}(hI:Ins N R i as)(hd:N[i]?=some d)(hk:d.s = "fields")(h:Nms N R as xs ms):
  cQ [.lst (R.map .int),.lst (N.map ndP),.int i,q]=.ok (.sh (.int (fm nm as ms))):=by
 have hin:=gz hI;unfold cQ lz jJ jU
 rcases rD (i:=i) hq as xs ms none h with⟨h1,o',h2⟩|⟨ρ,h2⟩
 . have:fu [.lst (R.map .int),.lst (N.map ndP),.int i,q] = .exc "NoNode" []:=by
    unfold fu qe;simp[dY hd,hk,uH,hin,h2]
   simp[this,g8,rB,h1]
 . have:fu [.lst (R.map .int),.lst (N.map ndP),.int i,q] = .ok (.sh (.int (fm nm as ms))):=by
    unfold fu qe;simp[dY hd,hk,uH,hin,h2]
   simp[this]
theorem xv{N:List Nd}{R:List Int}{i:Nat}{q:PV}{d:Nd}(hd:N[i]?=some d)(hk:d.s ≠ "fields"):cQ [.lst (R.map .int),.lst (N.map ndP),.int i,q]=.ok (.sh (.int (-2))):=by
 have:fu [.lst (R.map .int),.lst (N.map ndP),.int i,q]=.exc "NoNode" []:=by
  unfold fu qe;simp[dY hd,uH,hk]
 unfold cQ lz jJ jU;simp[this,g8,rB]
noncomputable abbrev lE(ns:List Int)(V t:PV)(i:Nat)(f4 f5 f6 f7 f8 f9 f10 f11:Option Sl):ah:=[some (.sh (.lst (ns.map .int))),some (.sh V),some (.sh t),some (.sh (.int i)),f4,f5,f6,f7,f8,f9,f10,f11]
theorem zj{N:List Nd}{R:List Int}:∀{as:List Nat} {xs:List PV} {ms:List (List Int)},Nms N R as xs ms->as.length=xs.length /\ ∀ j,j<as.length->∃ a m y,as[j]?=some a /\ ms[j]?=some m /\ xs[j]?=some (.tup [.tup (m.map .int),y]) /\ ∀ nm,fm nm (as.drop j) (ms.drop j)=if m=nm then(a:Int)+1 else fm nm (as.drop (j+1)) (ms.drop (j+1))
 |[],[],[],_=>⟨rfl,fun j hj=>by simp at hj⟩
 | a ::as,x ::xs,m ::ms,⟨_,⟨y,hy⟩,h⟩=>by
   obtain⟨i1,i2⟩:=zj h
   refine⟨by simp[i1],fun j hj=>?_⟩
   cases j with
   |zero=>exact⟨a,m,y,rfl,rfl,by rw[hy];rfl,fun nm=>rfl⟩
   |succ j=>exact i2 j (by simpa using hj)
 |[],[],_ ::_,h=>h.elim
 |[],_ ::_,_,h=>h.elim
 |_ ::_,[],_,h=>h.elim
 |_ ::_,_ ::_,[],h=>h.elim
theorem y4(j:Nat):jB (j+1)=.int j ::jB j:=by
 unfold jB;rw[List.range_succ_eq_map,List.map_cons,List.map_map]
 congr 1
 . congr 1;simp
 . exact List.map_congr_left fun k _=>by simp;omega
theorem uU{N:List Nd}{R nm ns:List Int}{V t:PV}{i:Nat}{as:List Nat}{xs:List PV}{ms:List (List Int)}(h:Nms N R as xs ms){f5 f6 f8:Option Sl}:∀(j:Nat) (f11:Option Sl),j<=as.length ->
  ∃ g11,dZ 11 rS (jB j) (lE ns V t i (some (.ow (as.map aO))) f5 f6 (some (.sh (.int (fm nm (as.drop j) (ms.drop j))))) f8 (some (.sh (.tup (nm.map .int)))) (some (.sh (.tup xs))) f11)=.nx (lE ns V t i (some (.ow (as.map aO))) f5 f6 (some (.sh (.int (fm nm as ms)))) f8 (some (.sh (.tup (nm.map .int)))) (some (.sh (.tup xs))) g11)
 |0,f11,_=>⟨f11,by simp[jB]⟩
 | j+1,f11,hj=>by
   obtain⟨a,m,y,h1,h2,h3,h4⟩:=(zj h).2 j (by omega)
   have p1:atP xs (j:Int)=some (.tup [.tup (m.map .int),y]):=by rw[gA,h3]
   have p2:=tm as h1;obtain⟨g11,ih⟩:=uU h j (some (.sh (.int j))) (by omega)
   refine⟨g11,?_⟩
   have hb:rS (lE ns V t i (some (.ow (as.map aO))) f5 f6 (some (.sh (.int (fm nm (as.drop (j+1)) (ms.drop (j+1)))))) f8 (some (.sh (.tup (nm.map .int)))) (some (.sh (.tup xs))) (some (.sh (.int j))))=.nx (lE ns V t i (some (.ow (as.map aO))) f5 f6 (some (.sh (.int (fm nm (as.drop j) (ms.drop j))))) f8 (some (.sh (.tup (nm.map .int)))) (some (.sh (.tup xs))) (some (.sh (.int j)))):=by
    rw[h4 nm]
    by_cases e:m=nm<;>simp[rS,p1,p2,Jq,e]
   rw[y4,dv];simp only[List.set_cons_succ,List.set_cons_zero];rw[hb,dG,ih]
theorem Iu(N:List Nd):∀ n,nr (N.map ndP) (n+2)=true /\ kR (N.map ndP) (N.map ndP)=true:=fun n=>by
 induction N with
 |nil=>simp[nr,kR]
 |cons d N ih=>simp[nr,kR,jV,gk,ndP,ih]
theorem nat_eq(as:List Nat):BC (.lst (as.map aO)) (.lst (as.map aO))=some (.sh (.bl false)):=by
 have:as.map aO=(as.map fun a:Nat=>(a:Int)).map .int:=by rw[List.map_map];rfl
 rw[this];simp only[BC,jV,o3,gk,pj];simp
theorem zH{ns R nm:List Int}{N:List Nd}{val:PV}{i:Nat}{f4 f5 f6 f8 f10 f11:Option Sl}{r:Int}
  (h:∀ q,ia q=some (.fr (nm.map .int))->cQ [.lst (R.map .int),.lst (N.map ndP),.int i,q]=.ok (.sh (.int r))):
  fin (sN (lE ns (.tup [.lst (R.map .int),.lst (N.map ndP),val]) (.lst (N.map ndP)) i f4 f5 f6 (some (.sh (.int r))) f8 (some (.sh (.tup (nm.map .int)))) f10 f11))=.ok (.sh (.bl true)):=by
 have h1:=h (.tup (nm.map .int)) rfl;have h2:=h (.lst (nm.map .int)) rfl;have h3:=Iu N 61
 have i0:∀ a b:PV,atP [a,b] 0=some a:=fun _ _=>rfl
 have i1:∀ a b:PV,atP [a,b] 1=some b:=fun _ _=>rfl
 have j0:∀ a b c:PV,atP [a,b,c] 0=some a:=fun _ _ _=>rfl
 have j1:∀ a b c:PV,atP [a,b,c] 1=some b:=fun _ _ _=>rfl
 have hw:=dj r
 rcases(show PG.mix ns 54%2=0 \/ PG.mix ns 54%2=1 by omega)with z|z<;>simp -implicitDefEqProofs [sN,yf,cK,fT,bp,z,ia,i0,i1,j0,j1,h1,h2,hw,ot,jV,gk,h3]
theorem Dp(ns:List Int)(_:ns.length<=63):u2 [.lst (ns.map .int)]=.ok (.sh (.bl true)):=by
 obtain⟨m,hm⟩:∃ m:Nat,(m:Int)=2+PG.mix ns 62%10:=⟨(2+PG.mix ns 62%10).toNat,by omega⟩
 have hb:=EI ns m (by omega);obtain⟨n,hA⟩:=Bv ns m (by omega)
 have hN:(m4 ns m).nodes.length<=5000:=by
  have hok:=zk ns m 0 bd0 yy;rw[Nat.zero_add]at hok;have hdep:=hok.dep;have hcn:=(zf (bld ns bd0 0 m).frs.length _ m hok).nodes;exact Nat.le_trans hcn (by omega)
 generalize (m4 ns m).row=R at *;generalize (m4 ns m).nodes=N at *;generalize (m4 ns m).val=val at *
 have hpos:0<N.length:=by
  cases n with
  |zero=>exact hA.elim
  |succ n=>obtain⟨_,_,_,z,_⟩:=hA;exact z
 obtain⟨i,hi⟩:∃ i:Nat,(i:Int)=PG.mix ns 60%N.length:=⟨(PG.mix ns 60%N.length).toNat,by have:=Int.emod_nonneg (PG.mix ns 60) (show(N.length:Int)≠0 by omega);omega⟩
 have hil:i<N.length:=by have:=Int.emod_lt_of_pos (PG.mix ns 60) (show(0:Int)<N.length by omega);omega
 have i0:∀ a b c:PV,atP [a,b,c] 0=some a:=fun _ _ _=>rfl
 have i1:∀ a b c:PV,atP [a,b,c] 1=some b:=fun _ _ _=>rfl
 have i2:∀ a b c:PV,atP [a,b,c] 2=some c:=fun _ _ _=>rfl
 obtain⟨V,hV⟩:∃ V,V=PV.tup [.lst (R.map .int),.lst (N.map ndP),val]:=⟨_,rfl⟩
 rw[<- hV]at hb;unfold u2 fnP;rw[if_pos (show List.length [PV.lst (ns.map .int)]=1 from rfl),show jG 12 [PV.lst (ns.map .int)]=[some (.sh (.lst (ns.map .int))),none,none,none,none,none,none,none,none,none,none,none] from rfl];unfold Fz
 rw[aP (ρ':=[some (.sh (.lst (ns.map .int))),some (.sh V),none,none,none,none,none,none,none,none,none,none]) (by
  rw[hm]at hb
  simp[aN,bp,hb])]
 unfold zW
 rw[aP (ρ':=[some (.sh (.lst (ns.map .int))),some (.sh V),some (.ow (N.map ndP)),none,none,none,none,none,none,none,none,none]) (by
  rw[hV];simp -implicitDefEqProofs [aN,cC,i1,ia])]
 unfold Af
 rw[aP (ρ':=[some (.sh (.lst (ns.map .int))),some (.sh V),some (.ow (N.map ndP)),some (.sh (.int i)),none,none,none,none,none,none,none,none]) (by
  have:¬ N=[]:=fun z=>by rw[z]at hpos;simp at hpos
  rw[hi];simp -implicitDefEqProofs [aN,bp,this])]
 unfold An
 obtain⟨j,hj,e3⟩:∃ j:Nat,j<N.length /\ ∀ f:ah->OS,aA (bj (aE (mOp gEq (mOp bM (aX bN (aq (ak 0) (aq (mC (.int 59)) aL))) (mC (.int 3))) (mC (.int 0)))) (aN 3 (mC (.int 0))) aT) f [some (.sh (.lst (ns.map .int))),some (.sh V),some (.ow (N.map ndP)),some (.sh (.int i)),none,none,none,none,none,none,none,none]=f [some (.sh (.lst (ns.map .int))),some (.sh V),some (.ow (N.map ndP)),some (.sh (.int j)),none,none,none,none,none,none,none,none]:=by
  by_cases z:PG.mix ns 59%3=0
  . exact⟨0,hpos,fun f=>aP (by simp -implicitDefEqProofs [bp,z])⟩
  . exact⟨i,hil,fun f=>aP (by simp -implicitDefEqProofs [bp,z])⟩
 rw[e3];unfold Ab;rw[aP (ρ':=[some (.sh (.lst (ns.map .int))),some (.sh V),some (.ow (N.map ndP)),some (.sh (.int j)),some (.ow []),none,none,none,none,none,none,none]) (by simp)]
 obtain⟨d,hd⟩:∃ d,N[j]?=some d:=⟨_,List.getElem?_eq_getElem hj⟩
 unfold zJ
 obtain⟨as,hI,hF,e5⟩:∃ as:List Nat,Ins N R j as /\ (d.s = "fields" -> ∃ xs ms,Nms N R as xs ms /\ cT [val,.lst (N.map ndP),.int j]=.ok (.sh (.tup [kS false,.tup xs]))) /\
   bj (aE (mOp gIn (mOp cC (mOp cV (ak 2) (ak 3)) (mC (.int 0))) (gq (aq (mC (.str "row")) (aq (mC (.str "fields")) aL))))) (aN 4 (iE (mOp bR (ak 3) (mC (.int 1))) (mOp cC (mOp cV (ak 2) (ak 3)) (mC (.int 3))) [2,3] so sA)) aT [some (.sh (.lst (ns.map .int))),some (.sh V),some (.ow (N.map ndP)),some (.sh (.int j)),some (.ow []),none,none,none,none,none,none,none] =
   .nx [some (.sh (.lst (ns.map .int))),some (.sh V),some (.ow (N.map ndP)),some (.sh (.int j)),some (.ow (as.map aO)),none,none,none,none,none,none,none]:=by
  by_cases hs:d.s = "row" \/ d.s = "fields"
  . obtain⟨k,hk⟩:∃ k,d.s=kN k:=by rcases hs with z|z;exact⟨true,z⟩;exact⟨false,z⟩
    obtain⟨n',its,as,e,h1,h2,h3,h4⟩:=yG hN hA hd hk
    refine⟨as,⟨d,hd,.inr ⟨k,n',its,e,hk,h1,by omega,h3⟩⟩,fun hf=>?_,?_⟩
    . cases C4 (show kN k=kN false from hk.symm.trans hf)
      obtain⟨ms,hms⟩:=BY h3
      exact⟨its,ms,hms,h4⟩
    . rw[HC (by simp -implicitDefEqProofs [dY hd,hk,zi]),aN,G7 hd h1 h2 hN,(p9 (lo:=j+1) h3).2 (Nat.le_refl _) fun q a b=>by omega];rfl
  . refine⟨[],⟨d,hd,.inl ⟨fun z=>hs (.inl z),fun z=>hs (.inr z),rfl⟩⟩,fun z=>absurd (.inr z) hs,?_⟩
    rw[IZ (by simp -implicitDefEqProofs [dY hd,zd (s:=d.s) ⟨fun z=>hs (.inl z),fun z=>hs (.inr z)⟩])];rfl
 rw[aP e5]
 have hal:as.length<=5000:=by
  obtain⟨d,_,z|⟨_,_,_,e,_,_,he,h⟩⟩:=hI
  . rw[z.2.2];simp
  . have:=vz h;omega
 unfold zK;rw[aP (ρ':=lE ns V (.lst (N.map ndP)) j (some (.ow (as.map aO))) (some (.ow (as.map aO))) none none none none none none) (by simp -implicitDefEqProofs [cK,fT,gz hI])];unfold zA
 rw[aP (ρ':=lE ns V (.lst (N.map ndP)) j (some (.ow (as.map aO))) (some (.sh (.lst (as.map aO)))) none none none none none none) (by
  have hw:=dj (as.length:Int)
  simp -implicitDefEqProofs [cK,fT,Bm as (by omega),nat_eq,tR hI,hw])]
 unfold zz
 obtain⟨k,hk⟩:∃ k,k=PG.mix ns 58%(as.length+4) - 2:=⟨_,rfl⟩
 rw[aP (ρ':=lE ns V (.lst (N.map ndP)) j (some (.ow (as.map aO))) (some (.sh (.lst (as.map aO)))) (some (.sh (.int k))) none none none none none) (by
  have:0<(as.length:Int)+4:=by omega
  rw[hk];simp -implicitDefEqProofs [bp,this])]
 unfold Ac;rw[aP (ρ':=lE ns V (.lst (N.map ndP)) j (some (.ow (as.map aO))) (some (.sh (.lst (as.map aO)))) (some (.sh (.int k))) (some (.sh (.int (-2)))) none none none none) (by simp -implicitDefEqProofs)];unfold xl
 obtain⟨r,hr1,hr2⟩:∃ r,dP [.lst (N.map ndP),.int j,.int k]=.ok (.sh (.int r)) /\ bj (aE (g9 gLe gLt (mC (.int 0)) (ak 6) (mUn kn (ak 4)))) (aN 7 (mOp bR (mOp cV (ak 4) (ak 6)) (mUn kT (mOp ot (mOp cC (mOp cV (ak 2) (ak 3)) (mC (.int 0))) (mC (.str "fields")))))) aT (lE ns V (.lst (N.map ndP)) j (some (.ow (as.map aO))) (some (.sh (.lst (as.map aO)))) (some (.sh (.int k))) (some (.sh (.int (-2)))) none none none none) =
   .nx (lE ns V (.lst (N.map ndP)) j (some (.ow (as.map aO))) (some (.sh (.lst (as.map aO)))) (some (.sh (.int k))) (some (.sh (.int r))) none none none none):=by
  by_cases h0:0<=k
  . by_cases h1:k<as.length
    . obtain⟨t,rfl⟩:∃ t:Nat,k=t:=⟨k.toNat,by omega⟩
      obtain⟨a,ha⟩:∃ a,as[t]?=some a:=⟨_,List.getElem?_eq_getElem (by omega)⟩
      refine⟨_,vD hI hd rfl ha,?_⟩
      by_cases hf:d.s = "fields" <;> simp -implicitDefEqProofs [h1,tm as ha,dY hd,uH,hf,kT]
    . exact⟨-2,uS hI fun z=>h1 z.2,by simp -implicitDefEqProofs [h0,h1]⟩
  . exact⟨-2,uS hI fun z=>h0 z.1,by simp -implicitDefEqProofs [h0]⟩
 rw[aP hr2];unfold ye;rw[aP (ρ':=lE ns V (.lst (N.map ndP)) j (some (.ow (as.map aO))) (some (.sh (.lst (as.map aO)))) (some (.sh (.int k))) (some (.sh (.int r))) (some (.sh (.int r))) none none none) (by simp -implicitDefEqProofs [cK,fT,hr1])];unfold xP;rw[sk (by have hw:=dj r;simp -implicitDefEqProofs [hw])];unfold xV;rw[aP (ρ':=lE ns V (.lst (N.map ndP)) j (some (.ow (as.map aO))) (some (.sh (.lst (as.map aO)))) (some (.sh (.int k))) (some (.sh (.int r))) (some (.sh (.int r))) (some (.sh (.tup ([97+PG.mix ns 57%4].map .int)))) none none) (by simp -implicitDefEqProofs [bp])];unfold wW;rw[aP (ρ':=lE ns V (.lst (N.map ndP)) j (some (.ow (as.map aO))) (some (.sh (.lst (as.map aO)))) (some (.sh (.int k))) (some (.sh (.int (-2)))) (some (.sh (.int r))) (some (.sh (.tup ([97+PG.mix ns 57%4].map .int)))) none none) (by simp -implicitDefEqProofs)];unfold xb
 by_cases hf:d.s = "fields"
 . obtain⟨xs,ms,hms,hva⟩:=hF hf;obtain⟨hxl,hx⟩:=zj hms
   have k1:∀ a b:PV,atP [a,b] 1=some b:=fun _ _=>rfl
   have k0:∀ a b:PV,atP [a,b] 0=some a:=fun _ _=>rfl
   obtain⟨nm,e9⟩:∃ nm:List Int,bj (dJ (cO (ak 4)) (aE (mOp gEq (mOp bM (aX bN (aq (ak 0) (aq (mC (.int 56)) aL))) (mC (.int 3))) (mC (.int 0))))) (aN 9 (mOp cC (mOp cC (ak 10) (mOp bM (aX bN (aq (ak 0) (aq (mC (.int 55)) aL))) (mUn kn (ak 4)))) (mC (.int 0)))) aT (lE ns V (.lst (N.map ndP)) j (some (.ow (as.map aO))) (some (.sh (.lst (as.map aO)))) (some (.sh (.int k))) (some (.sh (.int (-2)))) (some (.sh (.int r))) (some (.sh (.tup ([97+PG.mix ns 57%4].map .int)))) (some (.sh (.tup xs))) none)=.nx (lE ns V (.lst (N.map ndP)) j (some (.ow (as.map aO))) (some (.sh (.lst (as.map aO)))) (some (.sh (.int k))) (some (.sh (.int (-2)))) (some (.sh (.int r))) (some (.sh (.tup (nm.map .int)))) (some (.sh (.tup xs))) none):=by
    by_cases he:as=[]
    . exact⟨[97+PG.mix ns 57%4],by simp -implicitDefEqProofs [he]⟩
    . by_cases z:PG.mix ns 56%3=0
      . have hp:0<as.length:=List.length_pos_iff.mpr he
        obtain⟨t,ht⟩:∃ t:Nat,(t:Int)=PG.mix ns 55%as.length:=⟨(PG.mix ns 55%as.length).toNat,by have:=Int.emod_nonneg (PG.mix ns 55) (show(as.length:Int)≠0 by omega);omega⟩
        have htl:t<as.length:=by have:=Int.emod_lt_of_pos (PG.mix ns 55) (show(0:Int)<as.length by omega);omega
        obtain⟨a,m,y,_,_,q,_⟩:=hx t htl
        have p1:atP xs (PG.mix ns 55%as.length)=some (.tup [.tup (m.map .int),y]):=by rw[<- ht,gA,q]
        exact⟨m,by simp -implicitDefEqProofs [he,bp,z,p1,k0,hp]⟩
      . exact⟨[97+PG.mix ns 57%4],by simp -implicitDefEqProofs [he,bp,z]⟩
   obtain⟨g11,e11⟩:=uU (nm:=nm) (ns:=ns) (V:=V) (t:=.lst (N.map ndP)) (i:=j) hms (f5:=some (.sh (.lst (as.map aO)))) (f6:=some (.sh (.int k))) (f8:=some (.sh (.int r))) as.length none (Nat.le_refl _)
   have e0:fm nm (as.drop as.length) (ms.drop as.length)=-2:=by rw[List.drop_length];rfl
   rw[e0]at e11;rw[aP (ρ':=lE ns V (.lst (N.map ndP)) j (some (.ow (as.map aO))) (some (.sh (.lst (as.map aO)))) (some (.sh (.int k))) (some (.sh (.int (fm nm as ms)))) (some (.sh (.int r))) (some (.sh (.tup (nm.map .int)))) (some (.sh (.tup xs))) g11) ?_,hV]
   . exact zH fun q hq=>pU hq hI hd hf hms
   . rw[HC (by simp -implicitDefEqProofs [dY hd,uH,hf]),aP (ρ':=lE ns V (.lst (N.map ndP)) j (some (.ow (as.map aO))) (some (.sh (.lst (as.map aO)))) (some (.sh (.int k))) (some (.sh (.int (-2)))) (some (.sh (.int r))) (some (.sh (.tup ([97+PG.mix ns 57%4].map .int)))) (some (.sh (.tup xs))) none) (by rw[hV];simp -implicitDefEqProofs [cK,fT,i2,hva,k1]),aP e9]
     have g1:(-1:Int)<=(xs.length:Int) - 1:=by omega
     have g2:(xs.length:Int) - 1<4611686018427387904:=by omega
     simp -implicitDefEqProofs [B9,g1,g2];rw[<- hxl];exact e11
 . rw[sk (by simp -implicitDefEqProofs [dY hd,uH,hf]),hV]
   exact zH fun q _=>xv hd hf
end L2.plainglass_k13_nodes_asked
namespace L2.plainglass_k13_nodes_asked
open PySem PySem.Spec PyProof.Rows L2.E L2.P PG
def top(i:Nat):Stmt:=PySem.Challenge.pw_plainglass_k13_nodes_asked.main.body.getD i (.Pass ⟨0,0,0,0⟩)
abbrev ue:Stmt:=top 10
abbrev qu:List Str:=["row"]
theorem kX:aW ["row","found","at","end"] qu (aC ue):=eG
abbrev jb:Stmt:=top 11
abbrev iy:List Str:=["row","at"]
theorem eA:aW ["row","at","spans","end","span"] iy (aC jb):=eG
abbrev vp:Stmt:=top 12
abbrev ud:List Str:=["byte"]
theorem CZ:aW ["byte"] ud (aC vp):=eG
abbrev ij:Stmt:=top 13
abbrev gF:List Str:=["byte"]
theorem o4:aW ["byte"] gF (aC ij):=eG
abbrev iG:Stmt:=top 14
abbrev hU:List Str:=["byte"]
theorem pO:aW ["byte"] hU (aC iG):=eG
abbrev nA:Stmt:=top 15
abbrev lA:List Str:=["row","at","end"]
theorem js:aW ["row","at","end","number","byte"] lA (aC nA):=eG
abbrev nK:Stmt:=top 22
abbrev mH:List Str:=["byte"]
theorem v7:aW ["byte"] mH (aC nK):=eG
abbrev nz:Stmt:=top 23
abbrev lY:List Str:=["byte"]
theorem u7:aW ["byte"] lY (aC nz):=eG
abbrev jQ:Stmt:=top 24
abbrev ja:List Str:=["byte"]
theorem rM:aW ["byte"] ja (aC jQ):=eG
abbrev vm:Stmt:=top 27
abbrev ua:List Str:=["row","tree","i"]
theorem xD:aW ["row","tree","i","node"] ua (aC vm):=eG
abbrev gV:Stmt:=top 28
abbrev gD:List Str:=["signs"]
theorem du:aW ["signs","found","at","size"] gD (aC gV):=eG
abbrev m5:Stmt:=top 29
abbrev lH:List Str:=["signs","at"]
theorem wz:aW ["signs","at"] lH (aC m5):=eG
abbrev my:Stmt:=top 30
abbrev ky:List Str:=["signs","at","size"]
theorem uu:aW ["signs","at","size"] ky (aC my):=eG
abbrev yC:Stmt:=top 31
abbrev vI:List Str:=["signs","at"]
theorem rQ:aW ["signs","at","number","figure"] vI (aC yC):=eG
abbrev vU:Stmt:=top 33
abbrev tI:List Str:=["tree","i"]
theorem pK:aW ["tree","i","found","k"] tI (aC vU):=eG
abbrev yq:Stmt:=top 34
abbrev vg:List Str:=["tree","i"]
theorem Eg:aW ["tree","i"] vg (aC yq):=eG
abbrev yZ:Stmt:=top 35
abbrev wF:List Str:=["tree","i","k"]
theorem zX:aW ["tree","i","k","found"] wF (aC yZ):=eG
abbrev tW:Stmt:=top 36
abbrev qB:List Str:=["row","tree","i","name"]
theorem uG:aW ["row","tree","i","name","k"] qB (aC tW):=eG
abbrev o5:Stmt:=top 38
abbrev m6:List Str:=["_law_script","_law_k"]
theorem xK:aW ["_law_script","_law_k"] m6 (aC o5):=eG
abbrev qM:Stmt:=top 39
abbrev pG:List Str:=["_law_script","_law_k"]
theorem pD:aW ["_law_script","_law_k","_law_number_here"] pG (aC qM):=eG
abbrev nN:Stmt:=top 40
abbrev lR:List Str:=["_law_found"]
theorem vZ:aW ["_law_found"] lR (aC nN):=eG
abbrev mq:Stmt:=top 41
abbrev kE:List Str:=["_law_found"]
theorem ur:aW ["_law_found"] kE (aC mq):=eG
abbrev nU:Stmt:=top 42
abbrev mm:List Str:=["_law_number_here"]
theorem lQ:aW ["_law_number_here","_law_kind","_law_rest"] mm (aC nU):=eG
abbrev mf:Stmt:=top 43
abbrev kF:List Str:=["_law_script","_law_k"]
theorem iP:aW ["_law_script","_law_k","_law_number_here","_law_size_here"] kF (aC mf):=eG
abbrev nF:Stmt:=top 44
abbrev lD:List Str:=["_law_point_here"]
theorem fM:aW ["_law_point_here","_law_many_here","_law_found","_law_k"] lD (aC nF):=eG
abbrev qJ:Stmt:=top 45
abbrev pk:List Str:=["_law_number_here","_law_big"]
theorem gN:aW ["_law_number_here","_law_big","_law_found","_law_k","_law_worth"] pk (aC qJ):=eG
abbrev o9:Stmt:=top 46
abbrev mT:List Str:=["_law_point_here","_law_number_here"]
theorem jW:aW ["_law_point_here","_law_number_here","_law_short","_law_way","_law_rest"] mT (aC o9):=eG
abbrev o6:Stmt:=top 47
abbrev nP:List Str:=["_law_points_here","_law_number_here"]
theorem gR:aW ["_law_points_here","_law_number_here","_law_found","_law_at","_law_point_here"] nP (aC o6):=eG
abbrev mz:Stmt:=top 48
abbrev kK:List Str:=["_law_number_here"]
theorem bq:aW ["_law_number_here","_law_below","_law_figures_here","_law_row","_law_worth","_law_figure","_law_power","_law_more","_law_down"] kK (aC mz):=eG
abbrev nT:Stmt:=top 49
abbrev lN:List Str:=["_law_worth","_law_power"]
theorem lP:aW ["_law_worth","_law_power"] lN (aC nT):=eG
abbrev nQ:Stmt:=top 50
abbrev lW:List Str:=["_law_number_here"]
theorem vJ:aW ["_law_number_here"] lW (aC nQ):=eG
abbrev ic:Stmt:=top 51
abbrev gL:List Str:=["_law_script","_law_number_here"]
theorem eO:aW ["_law_script","_law_number_here","_law_kind","_law_points_here","_law_found"] gL (aC ic):=eG
abbrev pE:Stmt:=top 52
abbrev nW:List Str:=["_law_script","_law_number_here"]
theorem wZ:aW ["_law_script","_law_number_here"] nW (aC pE):=eG
abbrev nI:Stmt:=top 53
abbrev lJ:List Str:=["_law_row","_law_nodes_here","_law_frames"]
theorem lq:aW ["_law_row","_law_nodes_here","_law_frames","_law_frame","_law_value_here"] lJ (aC nI):=eG
abbrev mX:Stmt:=top 54
abbrev lM:List Str:=["_law_script","_law_row","_law_nodes_here","_law_frames","_law_number_here"]
theorem ie:aW ["_law_script","_law_row","_law_nodes_here","_law_frames","_law_number_here","_law_name_here","_law_points_here","_law_at"] lM (aC mX):=eG
abbrev mW:Stmt:=top 55
abbrev lK:List Str:=["_law_script","_law_many_here"]
theorem bU:aW ["_law_script","_law_many_here","_law_row","_law_nodes_here","_law_frames","_law_value_here","_law_k","_law_number_here","_law_name_here","_law_at","_law_kind","_law_found"] lK (aC mW):=eG
abbrev o7:Stmt:=top 56
abbrev ni:List Str:=["_law_tree","_law_i","_law_k"]
theorem iY:aW ["_law_tree","_law_i","_law_k","_law_found","e"] ni (aC o7):=eG
abbrev lL:Stmt:=top 57
abbrev ko:List Str:=["_law_row","_law_tree","_law_i","_law_name_here"]
theorem iJ:aW ["_law_row","_law_tree","_law_i","_law_name_here","_law_found"] ko (aC lL):=eG
abbrev jK:Stmt:=top 58
abbrev je:List Str:=["_law_value_here","_law_tree","_law_i"]
theorem bg:aW ["_law_value_here","_law_tree","_law_i","_law_ways","_law_k","_law_found","_law_j","_law_above","_law_goal","_law_at","_law_one","_law_here","_law_part"] je (aC jK):=eG
abbrev xa:Stmt:=top 59
abbrev y1:List Str:=["_law_script"]
theorem eN:aW ["_law_script","_law_built_here","_law_tree","_law_i","_law_ones","_law_found","_law_k","_law_due","_law_answer","_law_name_here","_law_pairs","_law_at"] y1 (aC xa):=eG
set_option genInjectivity false in
set_option genSizeOf false in
structure Adr where
 jD:Addr
 d_points:FuncData
 cY:Addr
 d_character_end:FuncData
 ib:Addr
 d_tails:FuncData
 cj:Addr
 d_second_of_three:FuncData
 cy:Addr
 d_second_of_four:FuncData
 fE:Addr
 d_character:FuncData
 fw:Addr
 d_is_figure:FuncData
 eI:Addr
 d_hex_worth:FuncData
 dw:Addr
 d_short_escape:FuncData
 j7:Addr
 d_meant:FuncData
 cF:Addr
 d_without_escapes:FuncData
 cU:Addr
 d_sign_size:FuncData
 cP:Addr
 d_sign_meant:FuncData
 kJ:Addr
 d_code:FuncData
 iL:Addr
 d_inner:FuncData
 mY:Addr
 d_many:FuncData
 mx:Addr
 d_item:FuncData
 fu:Addr
 d_member:FuncData
 gK:Addr
 d_law_cell:FuncData
 bN:Addr
 d_law_mix:FuncData
 dm:Addr
 d_law_whole:FuncData
 eK:Addr
 d_law_wholes:FuncData
 cH:Addr
 d_law_point:FuncData
 de:Addr
 d_law_points:FuncData
 dn:Addr
 d_law_eight:FuncData
 fS:Addr
 d_law_hex:FuncData
 gH:Addr
 d_law_sign:FuncData
 eP:Addr
 d_law_text:FuncData
 eL:Addr
 d_law_number:FuncData
 dF:Addr
 d_law_plain:FuncData
 bV:Addr
 d_law_white:FuncData
 bS:Addr
 d_law_plain_value:FuncData
 fD:Addr
 d_law_name:FuncData
 cg:Addr
 d_law_close:FuncData
 eJ:Addr
 d_law_begin:FuncData
 fJ:Addr
 d_law_built:FuncData
 dP:Addr
 d_law_item:FuncData
 cQ:Addr
 d_law_member:FuncData
 cT:Addr
 d_law_value_at:FuncData
 u2:Addr
 d_law:FuncData
 C_GlassError:Addr
 C_NoNode:Addr
 v_FIRST_PAIRED:Value
 v_LAST_PAIRED:Value
 v_MARKS:Addr
 v_TAIL_MARK:Value
 v_TAIL:Addr
 v_NOUGHT:Value
 v_NINE:Value
 v_BACKSLASH:Value
 v_SMALL_U:Value
 v_SHORT_ESCAPES:Addr
 v_CODE_SIZE:Value
structure Txt(K:PySem.W.Frag)(mg:Str->Option Value)(t:Adr):Prop where
 p8:Ent K mg "points" ue t.jD t.d_points qu
 e_character_end:Ent K mg "character_end" jb t.cY t.d_character_end iy
 su:Ent K mg "tails" vp t.ib t.d_tails ud
 e_second_of_three:Ent K mg "second_of_three" ij t.cj t.d_second_of_three gF
 e_second_of_four:Ent K mg "second_of_four" iG t.cy t.d_second_of_four hU
 e_character:Ent K mg "character" nA t.fE t.d_character lA
 j4:Ent K mg "is_figure" nK t.fw t.d_is_figure mH
 j3:Ent K mg "hex_worth" nz t.eI t.d_hex_worth lY
 e_short_escape:Ent K mg "short_escape" jQ t.dw t.d_short_escape ja
 sq:Ent K mg "meant" vm t.j7 t.d_meant ua
 e_without_escapes:Ent K mg "without_escapes" gV t.cF t.d_without_escapes gD
 e_sign_size:Ent K mg "sign_size" m5 t.cU t.d_sign_size lH
 e_sign_meant:Ent K mg "sign_meant" my t.cP t.d_sign_meant ky
 lr:Ent K mg "code" yC t.kJ t.d_code vI
 gz:Ent K mg "inner" vU t.iL t.d_inner tI
 tR:Ent K mg "many" yq t.mY t.d_many vg
 vD:Ent K mg "item" yZ t.mx t.d_item wF
 pU:Ent K mg "member" tW t.fu t.d_member qB
 mB:Ent K mg "_law_cell" o5 t.gK t.d_law_cell m6
 bp:Ent K mg "_law_mix" qM t.bN t.d_law_mix pG
 dj:Ent K mg "_law_whole" nN t.dm t.d_law_whole lR
 e_law_wholes:Ent K mg "_law_wholes" mq t.eK t.d_law_wholes kE
 kh:Ent K mg "_law_point" nU t.cH t.d_law_point mm
 fV:Ent K mg "_law_points" mf t.de t.d_law_points kF
 jX:Ent K mg "_law_eight" nF t.dn t.d_law_eight lD
 iA:Ent K mg "_law_hex" qJ t.fS t.d_law_hex pk
 lU:Ent K mg "_law_sign" o9 t.gH t.d_law_sign mT
 iD:Ent K mg "_law_text" o6 t.eP t.d_law_text nP
 jm:Ent K mg "_law_number" mz t.eL t.d_law_number kK
 e_law_plain:Ent K mg "_law_plain" nT t.dF t.d_law_plain lN
 cR:Ent K mg "_law_white" nQ t.bV t.d_law_white lW
 e_law_plain_value:Ent K mg "_law_plain_value" ic t.bS t.d_law_plain_value gL
 mv:Ent K mg "_law_name" pE t.fD t.d_law_name nW
 e_law_close:Ent K mg "_law_close" nI t.cg t.d_law_close lJ
 e_law_begin:Ent K mg "_law_begin" mX t.eJ t.d_law_begin lM
 e_law_built:Ent K mg "_law_built" mW t.fJ t.d_law_built lK
 e_law_item:Ent K mg "_law_item" o7 t.dP t.d_law_item ni
 e_law_member:Ent K mg "_law_member" lL t.cQ t.d_law_member ko
 e_law_value_at:Ent K mg "_law_value_at" jK t.cT t.d_law_value_at je
 Dp:Ent K mg "law" xa t.u2 t.d_law y1
 n_len:mg "len" = none
 n_list:mg "list" = none
 n_isinstance:mg "isinstance" = none
 n_int:mg "int" = none
 n_bool:mg "bool" = none
 n_all:mg "all" = none
 n_range:mg "range" = none
 n_str:mg "str" = none
 n_ord:mg "ord" = none
 n_tuple:mg "tuple" = none
 n_ValueError:mg "ValueError" = none
 m_GlassError:mg "GlassError" = some (.ref t.C_GlassError)
 e_GlassError:oj K t.C_GlassError [.type "ValueError",.type "Exception",.type "BaseException",.type "object"]
 x_GlassError:PySem.W.excIn K t.C_GlassError [.type "ValueError",.type "Exception",.type "BaseException",.type "object"] "ValueError.__new__" = true
 m_NoNode:mg "NoNode" = some (.ref t.C_NoNode)
 e_NoNode:oj K t.C_NoNode [.ref t.C_GlassError,.type "ValueError",.type "Exception",.type "BaseException",.type "object"]
 x_NoNode:PySem.W.excIn K t.C_NoNode [.type "ValueError",.type "Exception",.type "BaseException",.type "object"] "ValueError.__new__" = true
 m_FIRST_PAIRED:mg "FIRST_PAIRED" = some t.v_FIRST_PAIRED
 r_FIRST_PAIRED:RelV (.int 55296) t.v_FIRST_PAIRED
 m_LAST_PAIRED:mg "LAST_PAIRED" = some t.v_LAST_PAIRED
 r_LAST_PAIRED:RelV (.int 57343) t.v_LAST_PAIRED
 m_MARKS:mg "MARKS" = some (.ref t.v_MARKS)
 r_MARKS:RelV (.ref t.v_MARKS) (.ref t.v_MARKS)
 q_MARKS:∀ H,SqT K H t.v_MARKS [.int 0,.int 192,.int 224,.int 240]
 m_TAIL_MARK:mg "TAIL_MARK" = some t.v_TAIL_MARK
 r_TAIL_MARK:RelV (.int 128) t.v_TAIL_MARK
 m_TAIL:mg "TAIL" = some (.ref t.v_TAIL)
 r_TAIL:RelV (.ref t.v_TAIL) (.ref t.v_TAIL)
 q_TAIL:∀ H,SqT K H t.v_TAIL [.int 128,.int 191]
 m_NOUGHT:mg "NOUGHT" = some t.v_NOUGHT
 r_NOUGHT:RelV (.int 48) t.v_NOUGHT
 m_NINE:mg "NINE" = some t.v_NINE
 r_NINE:RelV (.int 57) t.v_NINE
 m_BACKSLASH:mg "BACKSLASH" = some t.v_BACKSLASH
 r_BACKSLASH:RelV (.int 92) t.v_BACKSLASH
 m_SMALL_U:mg "SMALL_U" = some t.v_SMALL_U
 r_SMALL_U:RelV (.int 117) t.v_SMALL_U
 m_SHORT_ESCAPES:mg "SHORT_ESCAPES" = some (.ref t.v_SHORT_ESCAPES)
 r_SHORT_ESCAPES:RelV (.ref t.v_SHORT_ESCAPES) (.ref t.v_SHORT_ESCAPES)
 q_SHORT_ESCAPES:DKP K t.v_SHORT_ESCAPES [(34,.int 34),(92,.int 92),(47,.int 47),(98,.int 8),(102,.int 12),(110,.int 10),(114,.int 13),(116,.int 9)]
 m_CODE_SIZE:mg "CODE_SIZE" = some t.v_CODE_SIZE
 r_CODE_SIZE:RelV (.int 6) t.v_CODE_SIZE
noncomputable def bX(t:Adr)(c:String):Option Addr:=if c = "GlassError" then some t.C_GlassError else if c = "NoNode" then some t.C_NoNode else none
theorem om{K:PySem.W.Frag}{mg:Str->Option Value}{t:Adr}(T:Txt K mg t):∀ c C b,bX t c=some C->fP c=some b->q8 K t.C_GlassError C b:=by
 intro c C b h1 h2;unfold bX at h1;unfold fP at h2
 by_cases e:c = "GlassError"
 . subst e;simp at h1 h2;subst h1;subst h2;exact takes T.e_GlassError T.e_GlassError (by simp)
 rw[if_neg e]at h1
 by_cases e:c = "NoNode"
 . subst e;simp at h1 h2;subst h1;subst h2;exact takes T.e_NoNode T.e_GlassError (by simp)
 rw[if_neg e]at h1;cases h1
theorem rN{K:PySem.W.Frag}{mg:Str->Option Value}{t:Adr}(T:Txt K mg t):∀ c C b,bX t c=some C->g8 c=some b->q8 K t.C_NoNode C b:=by
 intro c C b h1 h2;unfold bX at h1;unfold g8 at h2
 by_cases e:c = "GlassError"
 . subst e;simp at h2
 rw[if_neg e]at h1
 by_cases e:c = "NoNode"
 . subst e;simp at h1 h2;subst h1;subst h2;exact takes T.e_NoNode T.e_NoNode (by simp)
 rw[if_neg e]at h1;cases h1
theorem zl{K:PySem.W.Frag}{mg:Str->Option Value}{t:Adr}(T:Txt K mg t):∀ c C,bX t c=some C->(c == "NoNode")=true->∃ bm,oj K C bm /\ ((∃ B bmB,(.ref t.C_NoNode:V)=.ref B /\ oj K B bmB /\ (Value.ref C ::bm).contains (.ref B)=true) \/ ((.ref t.C_NoNode:V)=.ty "ValueError" /\ bm.contains (.type "ValueError")=true)):=by
 intro c C h1 h2;unfold bX at h1
 by_cases e:c = "GlassError"
 . subst e;simp at h2
 rw[if_neg e]at h1
 by_cases e:c = "NoNode"
 . subst e;simp at h1;subst h1;exact⟨_,T.e_NoNode,.inl ⟨_,_,rfl,T.e_NoNode,by simp⟩⟩
 rw[if_neg e]at h1;cases h1
section
variable{P:Program}{w:World}{K:PySem.W.Frag}{mg:Str->Option Value}{base:Heap}{t:Adr}
theorem xh(T:Txt K mg t):cD P w K mg base (CXE P w) 1 t.gK t.d_law_cell m6 (spP K (bX t) gK):=
 eR T.mB.F xK fun _ _ _ _ _ _ hr=>⟨_,(aj (bc (b9 (qv 0) (fun _=>rfl)) (aw (aM (qi aH (qv 0) (ax ba (qv 1) (jc T.n_len (qv 0)))))) aJ)
   (aw (aM ae))),
  (au (bf (dC aa) (aQ (ao bP aa (ao bb aa (cx gG aa)))) aK)
    (aQ af))⟩
theorem cZ(T:Txt K mg t):cD P w K mg base (CXE P w) 2 t.bN t.d_law_mix pG (spP K (bX t) bN):=
 eR T.bp.F pD fun _ _ _ _ _ _ hr=>⟨_,(aj (qz 2 pD.nd (ax ba (ax aU (qx (xh T) T.mB hr aF (ag (qv 0) (ag (qv 1) av))) (ax kG ae (ax aU (qv 1) ae))) ae))
   (aj (qz 2 pD.nd (ax ba (ax kG (qv 2) ae) ae))
   (aw (aM (ax ba (ax aU (ax kG (ax bu (qv 2) ae) ae) (qv 2)) ae))))),
  (au (az (ao bb (ao aV (aG (ai aa (ai aa ay))) (ao kI af (ao aV aa af))) af))
    (au (az (ao bb (ao kI aa af) af))
    (aQ (ao bb (ao aV (ao kI (ao bw aa af) af) aa) af))))⟩
theorem qf(T:Txt K mg t):cD P w K mg base (CXE P w) 1 t.cg t.d_law_close lJ (spI K (bX t) cg):=
 Fu T.e_law_close.F lq fun _ _ _ _ _ _ hr=>⟨_,(aj (qz 3 lq.nd (GO PySem.F.plainAttrs_list PySem.F.slot_list_pop PySem.F.type_list_pop HG (qv 2)))
   (aj (qap bx (qv 0) (g7 (by exact(b7 b6 (qi aH (qv 3) ae) cm)) ae ae))
   (aj (vW (jc T.n_len (qv 0)) (vb (qi aH (qv 1) (qi aH (qv 3) ae)) ae set_list))
   (aj (vW (jc T.n_len (qv 1)) (vb (qi aH (qv 1) (qi aH (qv 3) ae)) ae set_list))
   (aj (qz 4 lq.nd (df (ag (qi aH (qv 3) ae) (ag (cW iS rfl T.n_tuple L2.E.boot_tuple (ag (qi aH (qv 3) ae) av)) av))))
   (aj (bc (b9 (qv 2) (fun _=>rfl)) (aj (qap bx (qi aH (qi aH (qv 2) (gP eC ae)) ae) (g7 (by exact(b7 b6 (qi aH (qi aH (qv 2) (gP eC ae)) ae) cm)) (qv 4) (df (ag (qi aH (qv 3) ae) (ag (qv 4) av)))))
   (aw (bc (b7 b6 (qi aH (qi aH (qv 2) (gP eC ae)) ae) cm) (aw (vW (jc T.n_len (qv 1)) (vb (qi aH (qv 1) (ax gd (qi aH (qv 3) ae) ae)) ae set_list))) aJ))) aJ)
   (aw (aM (qv 4))))))))),
  (au (rV (DB aR))
    (au (dA aR (kz (qa (aB (ao cb (gy (iF aR af)) cn)) af af)))
    (au (sj (iF aR (gy (iF aR af))) af (kz (iO aR)))
    (au (sj (iF aR (gy (iF aR af))) af (kz (iO aR)))
    (au (az (dh (ai (gy (iF aR af)) (ai (cx vj (gy (iF aR af))) ay))))
    (au (bf (gO aR) (au (dA (iF (iF aR (iq fg af)) af) (kz (qa (aB (ao cb (gy (iF (iF aR (iq fg af)) af)) cn)) aa (dh (ai (gy (iF aR af)) (ai aa ay))))))
    (bf (aB (ao cb (gy (iF (iF aR (iq fg af)) af)) cn)) (sj (iF aR (ao gc (gy (iF aR af)) af)) af (kz (iO aR))) aK)) aK)
    eY))))))⟩
theorem fO(T:Txt K mg t):cD P w K mg base (CXE P w) 1 t.bV t.d_law_white lW (spP K (bX t) bV):=
 eR T.cR.F vJ fun _ _ _ _ _ _ hr=>⟨_,(aj (bc (b7 uA (ax ba (qv 0) ae) ae) (aw (aM (bz av))) aJ)
   (aw (aM (n9 (M:=["_law_number_here"]) (ι:=[0]) (x:="_law_k") ⟨rfl,rfl,rfl,rfl,rfl,rfl,rfl,rfl,rfl,rfl,rfl,by decide +kernel⟩ rfl (iz rfl T.n_range (ag (ax aU (ax ba (ax bu (qv 0) ae) ae) ae) av)) fun _ _ _ _=>(qi aH (bz (ag ae (ag ae (ag ae (ag ae av))))) (ax ba (ax bu (ax bu (qv 0) ae) (ax aU ae (ax kG ae (qv 1)))) ae)))))),
  (au (bf (aB (ao uZ (ao bb aa af) af)) (aQ (bD ay)) aK)
    (aQ (xO (by decide) (ao aV (ao bb (ao bw aa af) af) af) (ao bP (bD (ai af (ai af (ai af (ai af ay))))) (ao bb (ao bw (ao bw aa af) (ao aV af (ao kI af aa))) af)))))⟩
theorem wL(T:Txt K mg t):cD P w K mg base (CXE P w) 1 t.cH t.d_law_point mm (spP K (bX t) cH):=
 eR T.kh.F lQ fun _ _ _ _ _ _ hr=>⟨_,(aj (qz 1 lQ.nd (ax ba (qv 0) ae))
   (aj (qz 2 lQ.nd (ax bu (qv 0) ae))
   (aj (bc (b7 iW (qv 1) ae) (aw (aM (ax aU ae (ax ba (qv 2) ae)))) aJ)
   (aj (bc (b7 iW (qv 1) ae) (aw (aM (qi aH (bz (ag ae (ag ae (ag ae (ag ae (ag ae (ag ae (ag ae (ag ae (ag ae (ag ae (ag ae av)))))))))))) (ax ba (qv 2) ae)))) aJ)
   (aj (bc (b7 b6 (qv 1) ae) (aw (aM (ax aU ae (ax ba (qv 2) ae)))) aJ)
   (aj (bc (b7 b6 (qv 1) ae) (aw (aM (ax aU ae (ax ba (qv 2) ae)))) aJ)
   (aj (bc (b7 b6 (qv 1) ae) (aw (aM (ax aU ae (ax ba (qv 2) ae)))) aJ)
   (aw (aM (ax aU ae (ax ba (qv 2) ae))))))))))),
  (au (az (ao bb aa af))
    (au (az (ao bw aa af))
    (au (bf (aB (ao iX aa af)) (aQ (ao aV af (ao bb aa af))) aK)
    (au (bf (aB (ao iX aa af)) (aQ (ao bP (bD (ai af (ai af (ai af (ai af (ai af (ai af (ai af (ai af (ai af (ai af (ai af ay)))))))))))) (ao bb aa af))) aK)
    (au (bf (aB (ao cb aa af)) (aQ (ao aV af (ao bb aa af))) aK)
    (au (bf (aB (ao cb aa af)) (aQ (ao aV af (ao bb aa af))) aK)
    (au (bf (aB (ao cb aa af)) (aQ (ao aV af (ao bb aa af))) aK)
    (aQ (ao aV af (ao bb aa af))))))))))⟩
theorem oz(T:Txt K mg t):cD P w K mg base (CXE P w) 3 t.de t.d_law_points kF (spP K (bX t) de):=
 eR T.fV.F iP fun _ _ _ _ _ _ hr=>⟨_,(aj (qz 2 iP.nd (qx (cZ T) T.bp hr aF (ag (qv 0) (ag (qv 1) av))))
   (aj (qz 3 iP.nd (ax ba (qv 2) ae))
   (aj (bc (b7 b6 (ax ba (ax bu (qv 2) ae) ae) ae) (aw (qz 3 iP.nd (ax ba (ax bu (qv 2) ae) ae))) aJ)
   (aw (aM (n9 (M:=["_law_script","_law_k"]) (ι:=[0,1]) (x:="_law_j") ⟨rfl,rfl,rfl,rfl,rfl,rfl,rfl,rfl,rfl,rfl,rfl,by decide +kernel⟩ rfl (iz rfl T.n_range (ag (qv 3) av)) fun _ _ _ _=>(qx (wL T) T.kh hr y3 (ag (qx (cZ T) T.bp hr y3 (ag (qv 0) (ag (ax aU (ax aU (qv 1) ae) (qv 2)) av))) av)))))))),
  (au (az (aG (ai aa (ai aa ay))))
    (au (az (ao bb aa af))
    (au (bf (aB (ao cb (ao bb (ao bw aa af) af) af)) (az (ao bb (ao bw aa af) af)) aK)
    (aQ (xO (by decide) aa (aG (ai (aG (ai aa (ai (ao aV (ao aV aa af) aa) ay))) ay)))))))⟩
theorem xC(T:Txt K mg t):cD P w K mg base (CXE P w) 4 t.fD t.d_law_name nW (spP K (bX t) fD):=
 eR T.mv.F wZ fun _ _ _ _ _ _ hr=>⟨_,(aj (bc (b7 b6 (ax ba (qv 1) ae) ae) (aw (aM (bz (ag (ax aU ae (ax ba (ax bu (qv 1) ae) ae)) av)))) aJ)
   (aw (aM (qx (oz T) T.fV hr aF (ag (qv 0) (ag (ax aU ae (ax ba (ax bu (qv 1) ae) ae)) av)))))),
  (au (bf (aB (ao cb (ao bb aa af) af)) (aQ (bD (ai (ao aV af (ao bb (ao bw aa af) af)) ay))) aK)
    (aQ (aG (ai aa (ai (ao aV af (ao bb (ao bw aa af) af)) ay)))))⟩
theorem wK(T:Txt K mg t):cD P w K mg base (CXE P w) 1 t.dn t.d_law_eight lD (spP K (bX t) dn):=
 eR T.jX.F fM fun _ _ _ _ _ _ hr=>⟨_,(aj (bc (b7 iW (qv 0) ae) (aw (aM (bz (ag (qv 0) av)))) aJ)
   (aj (qz 1 fM.nd (ax aU (ax aU ae (cW oa rfl T.n_int L2.E.boot_int (ag (gW Cc (qv 0) ae (jd _)) av))) (cW oa rfl T.n_int L2.E.boot_int (ag (gW Cc (qv 0) ae (jd _)) av))))
   (aj (qz 2 fM.nd (bz av))
   (aj (iw dg rfl (iz rfl T.n_range (ag (qv 1) av)) (fQ (i:=3) fM.nd rfl (by first|exact Or.inl rfl|exact Or.inr rfl)) (aj (qz 2 fM.nd (ax iM (bz (ag (ax aU ae (ax ba (qv 0) ae)) av)) (qv 2)))
   (aw (qz 0 fM.nd (ax bu (qv 0) ae)))))
   (aw (aM (ax iM (bz (ag (ax aU (qi aH (bz (ag ae (ag ae (ag ae av)))) (ax gd (qv 1) ae)) (qv 0)) av)) (qv 2)))))))),
  (au (bf (aB (ao iX aa af)) (aQ (bD (ai aa ay))) aK)
    (au (az (ao aV (ao aV af (cx rW (ao Bq aa af))) (cx rW (ao Bq aa af))))
    (au (az (bD ay))
    (au (qg aa (au (az (ao kH (bD (ai (ao aV af (ao bb aa af)) ay)) aa))
    (az (ao bw aa af))))
    (aQ (ao kH (bD (ai (ao aV (ao bP (bD (ai af (ai af (ai af ay)))) (ao gc aa af)) aa) ay)) aa))))))⟩
theorem pz(T:Txt K mg t):cD P w K mg base (CXE P w) 1 t.fS t.d_law_hex pk (spP K (bX t) fS):=
 eR T.iA.F gN fun _ _ _ _ _ _ hr=>⟨_,(aj (qz 2 gN.nd (bz av))
   (aj (iw dg rfl (iz rfl T.n_range (ag ae av)) (fQ (i:=3) gN.nd rfl (by first|exact Or.inl rfl|exact Or.inr rfl)) (aj (qz 4 gN.nd (ax ba (qv 0) ae))
   (aj (bc (b7 iW (qv 4) ae) (aw (qz 2 gN.nd (ax iM (bz (ag (ax aU ae (qv 4)) av)) (qv 2)))) (aw (qz 2 gN.nd (ax iM (bz (ag (ax aU (g7 (by exact(b9 (qv 1) (fun _=>rfl))) ae ae) (qv 4)) av)) (qv 2)))))
   (aw (qz 0 gN.nd (ax bu (qv 0) ae))))))
   (aw (aM (ax iM (bz (ag ae (ag ae av))) (qv 2)))))),
  (au (az (bD ay))
    (au (qg af (au (az (ao bb aa af))
    (au (bf (aB (ao iX aa af)) (az (ao kH (bD (ai (ao aV af aa) ay)) aa)) (az (ao kH (bD (ai (ao aV (qa (dC aa) af af) aa) ay)) aa)))
    (az (ao bw aa af)))))
    (aQ (ao kH (bD (ai af (ai af ay))) aa))))⟩
theorem xH(T:Txt K mg t):cD P w K mg base (CXE P w) 2 t.gH t.d_law_sign mT (spP K (bX t) gH):=
 eR T.lU.F jW fun _ _ _ _ _ _ hr=>⟨_,(aj (qz 2 jW.nd (DS (iV ae ae (iV ae ae (iV ae ae (iV ae ae (iV ae ae (iV ae ae (iV ae ae (iV ae ae DU))))))))))
   (aj (qz 3 jW.nd (ax ba (qv 1) ae))
   (aj (bc (ke (i9 (b7 b6 (qv 3) ae) (jn (GZ (E8 hr) (qv 0) (qv 2))))) (aw (aM (bz (ag ae (ag (Dz (E8 hr) (qv 2) (qv 0) (fun _ _=>rfl)) av))))) aJ)
   (aj (bc (ke (i9 (b7 uA (qv 3) ae) (i9 (b7 Cc (qv 0) ae) (i9 (b7 uB (qv 0) ae) (jn (b7 uB (qv 0) ae)))))) (aw (aM (qx (wK T) T.jX hr aF (ag (qv 0) av)))) aJ)
   (aj (bc (b7 iW (qv 0) ae) (aw (aM (qx (pz T) T.iA hr aF (ag (qv 0) (ag (gW b6 (qv 3) ae (jd _)) av))))) aJ)
   (aj (qz 4 jW.nd (ax gd (qv 0) ae))
   (aw (aM (ax iM (qx (pz T) T.iA hr aF (ag (ax aU ae (ax bu (qv 4) ae)) (ag (gW b6 (qv 3) ae (jd _)) av))) (qx (pz T) T.iA hr aF (ag (ax aU ae (ax ba (qv 4) ae)) (ag (gW b6 (qv 3) ae (jd _)) av)))))))))))),
  (au (se (Hf (kvs:=[(34,34),(92,92),(47,47),(8,98),(12,102),(10,110),(13,114),(9,116)]) (by decide) (by decide)))
    (au (az (ao bb aa af))
    (au (bf (i8 (aB (ao cb aa af)) (aB (E6 aa aR))) (aQ (bD (ai af (ai (EN aR aa) ay)))) aK)
    (au (bf (i8 (aB (ao uZ aa af)) (i8 (aB (ao Bq aa af)) (i8 (aB (ao u5 aa af)) (aB (ao u5 aa af))))) (aQ (aG (ai aa ay))) aK)
    (au (bf (aB (ao iX aa af)) (aQ (aG (ai aa (ai (ao cb aa af) ay)))) aK)
    (au (az (ao gc aa af))
    (aQ (ao kH (aG (ai (ao aV af (ao bw aa af)) (ai (ao cb aa af) ay))) (aG (ai (ao aV af (ao bb aa af)) (ai (ao cb aa af) ay)))))))))))⟩
theorem qW(T:Txt K mg t):cD P w K mg base (CXE P w) 3 t.eP t.d_law_text nP (spP K (bX t) eP):=
 eR T.iD.F gR fun _ _ _ _ _ _ hr=>⟨_,(aj (qz 2 gR.nd (bz (ag ae av)))
   (aj (qz 3 gR.nd ae)
   (aj (iw dg rfl (iT (qv 0)) (fQ (i:=4) gR.nd rfl (by first|exact Or.inl rfl|exact Or.inr rfl)) (aj (qz 2 gR.nd (ax iM (qv 2) (qx (xH T) T.lU hr aF (ag (qv 4) (ag (ax aU (ax bu (qv 1) (ax aU ae (ax ba (qv 3) ae))) (qv 3)) av)))))
   (aw (qz 3 gR.nd (ax aU (qv 3) ae)))))
   (aw (aM (ax iM (qv 2) (bz (ag ae av)))))))),
  (au (az (bD (ai af ay)))
    (au (az af)
    (au (mF aa (au (az (ao kH aa (aG (ai aa (ai (ao aV (ao bw aa (ao aV af (ao bb aa af))) aa) ay)))))
    (az (ao aV aa af))))
    (aQ (ao kH aa (bD (ai af ay)))))))⟩
theorem wJ(T:Txt K mg t):cD P w K mg base (CXE P w) 5 t.eJ t.d_law_begin lM (spI K (bX t) eJ):=
 Fu T.e_law_begin.F ie fun _ _ _ _ _ _ hr=>⟨_,(aj (qex fF (qv 1) (qx (fO T) T.cR hr aF (ag (ax bu (qv 4) ae) av)))
   (aj (qz 5 ie.nd (df av))
   (aj (bc (ke (i9 (b9 (qv 3) (fun _=>rfl)) (jn (b9 (qi aH (qi aH (qv 3) (gP eC ae)) ae) (fun _=>rfl))))) (aj (qap bx (qv 1) ae)
   (aw (qex fF (qv 1) (qx (fO T) T.cR hr aF (ag (ax bu (qv 4) ae) av))))) aJ)
   (aj (bc (ke (i9 (b9 (qv 3) (fun _=>rfl)) (jn (b7 b6 (qi aH (qi aH (qv 3) (gP eC ae)) ae) cm)))) (aj (qz 6 ie.nd (qx (xC T) T.mv hr aF (ag (qv 0) (ag (ax bu (qv 4) ae) av))))
   (aj (qz 5 ie.nd (cW iS rfl T.n_tuple L2.E.boot_tuple (ag (qv 6) av)))
   (aj (qz 7 ie.nd (jc T.n_len (qv 1)))
   (aj (qex fF (qv 1) (qx (qW T) T.iD hr aF (ag (qv 6) (ag (ax bu (qv 4) ae) av))))
   (aj (qap bx (qv 2) (bz (ag cm (ag (qv 7) (ag (jc T.n_len (qv 1)) (ag ae av))))))
   (aj (qex fF (qv 1) (qx (fO T) T.cR hr aF (ag (ax bu (qv 4) ae) av)))
   (aj (qap bx (qv 1) ae)
   (aw (qex fF (qv 1) (qx (fO T) T.cR hr aF (ag (ax bu (qv 4) ae) av))))))))))) aJ)
   (aw (aM (qv 5))))))),
  (au (fq aR (aG (ai (ao bw aa af) ay)))
    (au (az (dh ay))
    (au (bf (i8 (gO aR) (dC (gy (iF (iF aR (iq fg af)) af)))) (au (dA aR (kz af))
    (fq aR (aG (ai (ao bw aa af) ay)))) aK)
    (au (bf (i8 (gO aR) (aB (ao cb (gy (iF (iF aR (iq fg af)) af)) cn))) (au (az (aG (ai aa (ai (ao bw aa af) ay))))
    (au (az (cx vj aa))
    (au (az (iO aR))
    (au (eD (i:=6) (fq aR (aG (ai aa (ai (ao bw aa af) ay)))))
    (au (dA aR (kz (bD (ai cn (ai aa (ai (iO aR) (ai af ay)))))))
    (au (fq aR (aG (ai (ao bw aa af) ay)))
    (au (dA aR (kz af))
    (fq aR (aG (ai (ao bw aa af) ay)))))))))) aK)
    eY))))⟩
theorem vy(T:Txt K mg t):cD P w K mg base (CXE P w) 1 t.dF t.d_law_plain lN (spP K (bX t) dF):=
 eR T.e_law_plain.F lP fun _ _ _ _ _ _ hr=>⟨_,(aj (bc (b7 b6 (qv 0) ae) (aw (aM (df (ag ae (ag ae av))))) aJ)
   (aj (ll dg (b7 b6 (ax ba (qv 0) ae) ae) (aj (qz 0 lP.nd (ax bu (qv 0) ae))
   (aw (qz 1 lP.nd (ax aU (qv 1) ae)))))
   (aw (aM (df (ag (qv 0) (ag (qv 1) av))))))),
  (au (bf (aB (ao cb aa af)) (aQ (dh (ai af (ai af ay)))) aK)
    (au (lh (aB (ao cb (ao bb aa af) af)) (au (az (ao bw aa af))
    (az (ao aV aa af))))
    (aQ (dh (ai aa (ai aa ay))))))⟩
theorem uo(T:Txt K mg t):cD P w K mg base (CXE P w) 2 t.eL t.d_law_number kK (spP K (bX t) eL):=
 eR T.jm.F bq fun _ _ _ _ _ _ hr=>⟨_,(aj (qz 1 bq.nd (gW b6 (ax ba (qv 0) ae) ae (jd _)))
   (aj (DJ (i:=2) bq.nd rfl (by first|exact Or.inl rfl|exact Or.inr rfl) (M:=[]) (ι:=[]) (x:="_law_sign_here") ⟨rfl,rfl,rfl,rfl,rfl,rfl,rfl,rfl,rfl,rfl,rfl,by decide +kernel⟩ rfl (Dn (cW pI rfl T.n_str L2.E.boot_str (ag (ax ba (ax bu (qv 0) ae) ae) av))) fun _ _ _ _=>(cW Ar rfl T.n_int L2.E.boot_int (ag (qv 0) av)))
   (aj (qz 3 bq.nd (g7 (by exact(b9 (qv 1) (fun _=>rfl))) (bz (ag ae av)) (bz av)))
   (aj (qz 3 bq.nd (ax iM (qv 3) (n9 (M:=[]) (ι:=[]) (x:="_law_figure") ⟨rfl,rfl,rfl,rfl,rfl,rfl,rfl,rfl,rfl,rfl,rfl,by decide +kernel⟩ rfl (iT (qv 2)) fun _ _ _ _=>(ax aU ae (qv 0)))))
   (aj (qz 4 bq.nd ae)
   (aj (iw dg rfl (iT (qv 2)) (fQ (i:=5) bq.nd rfl (by first|exact Or.inl rfl|exact Or.inr rfl)) (aw (qz 4 bq.nd (ax aU (ax kG (qv 4) ae) (qv 5)))))
   (aj (qz 6 bq.nd ae)
   (aj (bc (b7 b6 (ax ba (ax bu (qv 0) ae) ae) ae) (aj (qap bx (qv 3) ae)
   (aw (iw dg rfl (iT (pX sC (bz (ag (ax ba (ax bu (qv 0) ae) ae) (ag (ax ba (ax bu (qv 0) ae) ae) (ag ae av)))) DX (mG (ax aU ae (ax ba (ax bu (qv 0) ae) ae))))) (fQ (i:=5) bq.nd rfl (by first|exact Or.inl rfl|exact Or.inr rfl)) (aj (qap bx (qv 3) (ax aU ae (qv 5)))
   (aj (qz 4 bq.nd (ax aU (ax kG (qv 4) ae) (qv 5)))
   (aw (qz 6 bq.nd (ax gd (qv 6) ae)))))))) aJ)
   (aj (bc (b7 b6 (ax ba (ax bu (qv 0) ae) ae) ae) (aj (qz 7 bq.nd (ax ba (ax bu (qv 0) ae) ae))
   (aj (qap bx (qv 3) (qi aH (bz (ag ae (ag ae av))) (ax ba (ax bu (qv 0) ae) ae)))
   (aj (qz 8 bq.nd (gW b6 (ax ba (ax bu (qv 0) ae) ae) ae (jd _)))
   (aj (bc (b9 (qv 8) (fun _=>rfl)) (aw (qap bx (qv 3) ae)) (aw (bc (b7 b6 (ax ba (ax bu (qv 0) ae) ae) ae) (aw (qap bx (qv 3) ae)) aJ)))
   (aj (bc (b7 b6 (ax ba (ax bu (qv 0) ae) ae) ae) (aw (qap bx (qv 3) ae)) aJ)
   (aj (qz 3 bq.nd (ax iM (qv 3) (n9 (M:=[]) (ι:=[]) (x:="_law_sign_here") ⟨rfl,rfl,rfl,rfl,rfl,rfl,rfl,rfl,rfl,rfl,rfl,by decide +kernel⟩ rfl (Dn (cW pI rfl T.n_str L2.E.boot_str (ag (qv 7) av))) fun _ _ _ _=>(jR Dh rfl T.n_ord L2.E.boot_ord (ag (qv 0) av)))))
   (aw (qz 6 bq.nd (ax aU (qv 6) (g7 (by exact(b9 (qv 8) (fun _=>rfl))) (gP eC (qv 7)) (qv 7))))))))))) aJ)
   (aj (bc (b9 (qv 1) (fun _=>rfl)) (aw (qz 4 bq.nd (gP eC (qv 4)))) aJ)
   (aw (aM (df (ag (qv 3) (ag (qx (vy T) T.e_law_plain hr aF (ag (qv 4) (ag (qv 6) av))) av))))))))))))))),
  (au (az (ao cb (ao bb aa af) af))
    (au (az (yp (by decide) (cx C9 (ao bb (ao bw aa af) af)) (cx EB aa)))
    (au (az (qa (dC aa) (bD (ai af ay)) (bD ay)))
    (au (az (ao kH aa (ug (by decide) aa (ao aV af aa))))
    (au (az af)
    (au (eD (i:=2) (mF aa (az (ao aV (ao kI aa af) aa))))
    (au (az af)
    (au (bf (aB (ao cb (ao bb (ao bw aa af) af) af)) (au (eZ af)
    (mF (wI (bD (ai (ao bb (ao bw aa af) af) (ai (ao bb (ao bw aa af) af) (ai af ay)))) DI (mw (ao aV af (ao bb (ao bw aa af) af)))) (au (eZ (ao aV af aa))
    (au (az (ao aV (ao kI aa af) aa))
    (az (ao gc aa af)))))) aK)
    (au (bf (aB (ao cb (ao bb (ao bw aa af) af) af)) (au (az (ao bb (ao bw aa af) af))
    (au (eZ (ao bP (bD (ai af (ai af ay))) (ao bb (ao bw aa af) af)))
    (au (az (ao cb (ao bb (ao bw aa af) af) af))
    (au (bf (dC aa) (eZ af) (bf (aB (ao cb (ao bb (ao bw aa af) af) af)) (eZ af) aK))
    (au (bf (aB (ao cb (ao bb (ao bw aa af) af) af)) (eZ af) aK)
    (au (az (ao kH aa (yp (by decide) (cx C9 aa) (cx Hd aa))))
    (az (ao aV aa (qa (dC aa) (iq fg aa) aa))))))))) aK)
    (au (bf (dC aa) (az (iq fg aa)) aK)
    (eD (i:=3) (aQ (dh (ai aa (ai (aG (ai aa (ai aa ay))) ay)))))))))))))))⟩
theorem pb(T:Txt K mg t):cD P w K mg base (CXE P w) 4 t.bS t.d_law_plain_value gL (spP K (bX t) bS):=
 eR T.e_law_plain_value.F eO fun _ _ _ _ _ _ hr=>⟨_,(aj (qz 2 eO.nd (ax ba (ax bu (qv 1) ae) ae))
   (aj (bc (b7 b6 (qv 2) ae) (aw (aM (df (ag cm (ag (bz (ag ae (ag ae (ag ae (ag ae av))))) (ag tM av)))))) aJ)
   (aj (bc (b7 b6 (qv 2) ae) (aw (aM (df (ag cm (ag (bz (ag ae (ag ae (ag ae (ag ae av))))) (ag zB av)))))) aJ)
   (aj (bc (b7 b6 (qv 2) ae) (aw (aM (df (ag cm (ag (bz (ag ae (ag ae (ag ae (ag ae (ag ae av)))))) (ag zB av)))))) aJ)
   (aj (bc (b7 b6 (qv 2) ae) (aj (qz 3 eO.nd (qx (oz T) T.fV hr aF (ag (qv 0) (ag (ax aU ae (ax ba (qv 1) ae)) av))))
   (aw (aM (df (ag cm (ag (qx (qW T) T.iD hr aF (ag (qv 3) (ag (ax bu (qv 1) ae) av))) (ag (df (ag cm (ag (cW iS rfl T.n_tuple L2.E.boot_tuple (ag (qv 3) av)) av))) av))))))) aJ)
   (aj (qz 4 eO.nd (qx (uo T) T.jm hr aF (ag (ax bu (qv 1) ae) av)))
   (aw (aM (df (ag cm (ag (qi bI (qv 4) ae) (ag (df (ag cm (ag (qi bI (qi bI (qv 4) ae) ae) (ag (qi bI (qi bI (qv 4) ae) ae) av)))) av)))))))))))),
  (au (az (ao bb (ao bw aa af) af))
    (au (bf (aB (ao cb aa af)) (aQ (dh (ai cn (ai (bD (ai af (ai af (ai af (ai af ay))))) (ai sX ay))))) aK)
    (au (bf (aB (ao cb aa af)) (aQ (dh (ai cn (ai (bD (ai af (ai af (ai af (ai af ay))))) (ai zy ay))))) aK)
    (au (bf (aB (ao cb aa af)) (aQ (dh (ai cn (ai (bD (ai af (ai af (ai af (ai af (ai af ay)))))) (ai zy ay))))) aK)
    (au (bf (aB (ao cb aa af)) (au (az (aG (ai aa (ai (ao aV af (ao bb aa af)) ay))))
    (eD (i:=3) (aQ (dh (ai cn (ai (aG (ai aa (ai (ao bw aa af) ay))) (ai (dh (ai cn (ai (cx vj aa) ay))) ay))))))) aK)
    (au (az (aG (ai (ao bw aa af) ay)))
    (aQ (dh (ai cn (ai (ao bJ aa af) (ai (dh (ai cn (ai (ao bJ (ao bJ aa af) af) (ai (ao bJ (ao bJ aa af) af) ay)))) ay)))))))))))⟩
theorem ve(T:Txt K mg t):cD P w K mg base (CXE P w) 6 t.fJ t.d_law_built lK (spP K (bX t) fJ):=
 eR T.e_law_built.F bU fun _ _ _ _ _ _ hr=>⟨_,(aj (qz 2 bU.nd (bz av))
   (aj (qz 3 bU.nd (bz av))
   (aj (qz 4 bU.nd (bz av))
   (aj (qz 5 bU.nd tM)
   (aj (iw dg rfl (iz rfl T.n_range (ag (qv 1) av)) (fQ (i:=6) bU.nd rfl (by first|exact Or.inl rfl|exact Or.inr rfl)) (aj (qz 7 bU.nd (qx (cZ T) T.bp hr aF (ag (qv 0) (ag (qv 6) av))))
   (aw (bc (ke (i9 (b9 (qv 4) (fun _=>rfl)) (jn (b7 b6 (ax ba (qv 7) ae) ae)))) (aj (qex fF (qv 2) (qx (fO T) T.cR hr aF (ag (ax bu (qv 7) ae) av)))
   (aw (qz 5 bU.nd (qx (qf T) T.e_law_close hr aF (ag (qv 2) (ag (qv 3) (ag (qv 4) av))))))) (aw (bc (ke (tZ (b9 (qv 4) (fun _=>rfl)) (tw (b7 b6 (qv 6) ae)))) (aj (qz 8 bU.nd (qx (wJ T) T.e_law_begin hr aF (ag (qv 0) (ag (qv 2) (ag (qv 3) (ag (qv 4) (ag (qv 7) av)))))))
   (aj (qz 9 bU.nd (jc T.n_len (qv 2)))
   (aw (bc (ke (tZ (b7 uA (ax ba (qv 7) ae) ae) (tw (ke (i9 (b7 b6 (qv 6) ae) (jn (b7 uA (ax ba (qv 7) ae) ae))))))) (aj (qz 10 bU.nd (qi aH (bz (ag cm (ag cm av))) (ax ba (ax bu (qv 7) ae) ae)))
   (aj (qap bx (qv 2) (g7 (by exact(b7 b6 (qv 10) cm)) ae ae))
   (aj (qap bx (qv 4) (bz (ag (qv 10) (ag (bz av) (ag (jc T.n_len (qv 3)) (ag (qv 8) av))))))
   (aw (qap bx (qv 3) (bz (ag (qv 10) (ag (qv 9) (ag ae (ag ae av)))))))))) (aj (qz 11 bU.nd (qx (pb T) T.e_law_plain_value hr aF (ag (qv 0) (ag (qv 7) av))))
   (aj (qex fF (qv 2) (qi bI (qv 11) ae))
   (aj (qap bx (qv 3) (bz (ag (qi bI (qv 11) ae) (ag (qv 9) (ag (jc T.n_len (qv 2)) (ag (ax aU (jc T.n_len (qv 3)) ae) av))))))
   (aj (qz 5 bU.nd (qi bI (qv 11) ae))
   (aw (bc (ke (i9 (b9 (qv 4) (fun _=>rfl)) (jn (b7 b6 (qi aH (qi aH (qv 4) (gP eC ae)) ae) cm)))) (aj (vW (jc T.n_len (qv 3)) (vb (qi aH (qv 3) (gP eC ae)) ae set_list))
   (aw (qap bx (qi aH (qi aH (qv 4) (gP eC ae)) ae) (df (ag (qv 8) (ag (qv 5) av)))))) (aw (bc (b9 (qv 4) (fun _=>rfl)) (aw (qap bx (qi aH (qi aH (qv 4) (gP eC ae)) ae) (qv 5))) aJ)))))))))))) aJ))))))
   (aj (ll dg (b9 (qv 4) (fun _=>rfl)) (aw (qz 5 bU.nd (qx (qf T) T.e_law_close hr aF (ag (qv 2) (ag (qv 3) (ag (qv 4) av)))))))
   (aj (qex fF (qv 2) (qx (fO T) T.cR hr aF (ag (qx (cZ T) T.bp hr aF (ag (qv 0) (ag ae av))) av)))
   (aw (aM (df (ag (qv 2) (ag (n9 (M:=[]) (ι:=[]) (x:="_law_node") ⟨rfl,rfl,rfl,rfl,rfl,rfl,rfl,rfl,rfl,rfl,rfl,by decide +kernel⟩ rfl (iT (qv 3)) fun _ _ _ _=>(cW iS rfl T.n_tuple L2.E.boot_tuple (ag (qv 0) av))) (ag (qv 5) av))))))))))))),
  (au (se (kz (bD ay)))
    (au (se (kz (bD ay)))
    (au (se (kz (bD ay)))
    (au (az sX)
    (au (qg aa (au (az (aG (ai aa (ai aa ay))))
    (bf (i8 (gO aR) (aB (ao cb (ao bb aa af) af))) (au (fq aR (aG (ai (ao bw aa af) ay)))
    (rV (tq rfl (fA (qp aR) (fA (qp aR) (fA (qp aR) wA)))))) (bf (ub (gO aR) (aB (ao cb aa af))) (au (rV (tq rfl (fA (FR (W:=fun _ _ _ _=>False) aa) (fA (qp aR) (fA (qp aR) (fA (qp aR) (fA (FR (W:=fun _ _ _ _=>False) aa) wA)))))))
    (au (az (iO aR))
    (bf (ub (aB (ao uZ (ao bb aa af) af)) (i8 (aB (ao cb aa af)) (aB (ao uZ (ao bb aa af) af)))) (au (az (ao bP (bD (ai cn (ai cn ay))) (ao bb (ao bw aa af) af)))
    (au (dA aR (kz (qa (aB (ao cb aa cn)) af af)))
    (au (dA aR (Hx (pM (kz aa) (pM (kz (bD ay)) (pM (kz (iO aR)) (pM (kz aa) EK))))))
    (dA aR (kz (bD (ai aa (ai aa (ai af (ai af ay)))))))))) (au (az (aG (ai aa (ai aa ay))))
    (au (fq aR (ao bJ aa af))
    (au (dA aR (kz (bD (ai (ao bJ aa af) (ai aa (ai (iO aR) (ai (ao aV (iO aR) af) ay)))))))
    (au (az (ao bJ aa af))
    (bf (i8 (gO aR) (aB (ao cb (gy (iF (iF aR (iq fg af)) af)) cn))) (au (sj (iF aR (iq fg af)) af (kz (iO aR)))
    (dA (iF (iF aR (iq fg af)) af) (kz (dh (ai aa (ai aa ay)))))) (bf (gO aR) (dA (iF (iF aR (iq fg af)) af) (kz aa)) aK))))))))) aK))))
    (au (lh (gO aR) (rV (tq rfl (fA (qp aR) (fA (qp aR) (fA (qp aR) wA))))))
    (au (fq aR (aG (ai (aG (ai aa (ai af ay))) ay)))
    (tE (i:=3) (tE (i:=2) (aQ (dh (ai aa (ai (ug (by decide) aa (cx vj aa)) (ai aa ay))))))))))))))⟩
theorem p7(T:Txt K mg t):cD P w K mg base (CXE P w) 1 t.iL t.d_inner tI (spP K (bX t) iL):=
 eR T.gz.F pK fun _ _ _ _ _ _ hr=>⟨_,(aj (qz 2 pK.nd (bz av))
   (aj (bc (qq yr (qi bI (qi aH (qv 0) (qv 1)) ae) (df (ag cm (ag cm av))) rfl) (aj (qz 3 pK.nd (ax aU (qv 1) ae))
   (aw (ll dg (b7 iW (qv 3) (qi bI (qi aH (qv 0) (qv 1)) ae)) (aj (qap bx (qv 2) (qv 3))
   (aw (qz 3 pK.nd (qi bI (qi aH (qv 0) (qv 3)) ae))))))) aJ)
   (aw (aM (qv 2))))),
  (au (az (bD ay))
    (au (bf (aB (ao (Cg hr.units) (ao bJ (ao bP aa aa) af) (dh (ai cn (ai cn ay))))) (au (az (ao aV aa af))
    (lh (aB (ao iX aa (ao bJ (ao bP aa aa) af))) (au (eZ aa)
    (az (ao bJ (ao bP aa aa) af))))) aK)
    eY))⟩
theorem E2(T:Txt K mg t):cD P w K mg base (CXE P w) 2 t.mx t.d_item wF (spP K (bX t) mx):=
 eR T.vD.F zX fun _ _ _ _ _ _ hr=>⟨_,(aj (qz 3 zX.nd (qx (p7 T) T.gz hr aF (ag (qv 0) (ag (qv 1) av))))
   (aj (bc (qy (gf jg iW ae (qv 2) (jc T.n_len (qv 3)))) (aw (xj aF hr.hd PySem.F.excBase_ValueError rfl T.m_NoNode T.x_NoNode (ag cm av))) aJ)
   (aj (bc (b7 b6 (qi bI (qi aH (qv 0) (qv 1)) ae) cm) (aw (aM (ax aU (qi aH (qv 3) (qv 2)) ae))) aJ)
   (aw (aM (qi aH (qv 3) (qv 2))))))),
  (au (az (aG (ai aa (ai aa ay))))
    (au (bf (qE (aB (fz ji iX af aa (cx gG aa)))) (xx rfl (ai cn ay)) aK)
    (au (bf (aB (ao cb (ao bJ (ao bP aa aa) af) cn)) (aQ (ao aV (ao bP aa aa) af)) aK)
    (aQ (ao bP aa aa)))))⟩
theorem ya(T:Txt K mg t):cD P w K mg base (CXE P w) 3 t.dP t.d_law_item ni (spP K (bX t) dP):=
 eR T.e_law_item.F iY fun _ _ _ _ _ _ hr=>⟨_,(aj (qz 3 iY.nd (gP eC ae))
   (aj (BR (i:=4) ⟨rfl,rfl⟩ iY.nd rfl rfl (fun _ _ _ hW hO=>(aw (qz 3 iY.nd (qx (E2 T) T.vD hr hW (ag (qv 0) (ag (qv 1) (ag (qv 2) av))))))) rfl T.m_GlassError (fun _=>(aw (qz 3 iY.nd (g7 (by exact(b9 (jR BM rfl T.n_isinstance L2.E.boot_isinstance (ag (qv 4) (ag (cJ (v:=.ref _) rfl T.m_NoNode rfl) av))) (fun _=>rfl))) (gP eC ae) (gP eC ae))))) aF)
   (aw (aM (qv 3))))),
  (au (az (iq fg af))
    (au (CK (fun _=>(az (aG (ai aa (ai aa (ai aa ay)))))) (az (qa (dC (He (zl T))) (iq fg af) (iq fg af))) (om T))
    eY))⟩
theorem vL(T:Txt K mg t):cD P w K mg base (CXE P w) 1 t.fw t.d_is_figure mH (spP K (bX t) fw):=
 eR T.j4.F v7 fun _ _ _ _ _ _ hr=>⟨_,(aw (aM (Cq jg jg (cJ rfl T.m_NOUGHT T.r_NOUGHT) (qv 0) (cJ rfl T.m_NINE T.r_NINE)))),
  (aQ (fz ji ji af aa af))⟩
theorem wG(T:Txt K mg t):cD P w K mg base (CXE P w) 2 t.eI t.d_hex_worth lY (spP K (bX t) eI):=
 eR T.j3.F u7 fun _ _ _ _ _ _ hr=>⟨_,(aj (bc (b9 (qx (vL T) T.j4 hr aF (ag (qv 0) av)) (fun _=>rfl)) (aw (aM (ax gd (qv 0) (cJ rfl T.m_NOUGHT T.r_NOUGHT)))) aJ)
   (aj (bc (gf jg jg ae (qv 0) ae) (aw (aM (ax gd (qv 0) ae))) aJ)
   (aj (bc (gf jg jg ae (qv 0) ae) (aw (aM (ax gd (qv 0) ae))) aJ)
   (aw (aM tM))))),
  (au (bf (dC (aG (ai aa ay))) (aQ (ao gc aa af)) aK)
    (au (bf (aB (fz ji ji af aa af)) (aQ (ao gc aa af)) aK)
    (au (bf (aB (fz ji ji af aa af)) (aQ (ao gc aa af)) aK)
    (aQ sX))))⟩
theorem sy(T:Txt K mg t):cD P w K mg base (CXE P w) 3 t.kJ t.d_code vI (spP K (bX t) kJ):=
 eR T.lr.F rQ fun _ _ _ _ _ _ hr=>⟨_,(aj (qz 2 rQ.nd ae)
   (aj (iw dg rfl (iT (pX sC (qv 0) (mG (ax aU (qv 1) ae)) (mG (ax aU (qv 1) (cJ rfl T.m_CODE_SIZE T.r_CODE_SIZE))))) (fQ (i:=3) rQ.nd rfl (by first|exact Or.inl rfl|exact Or.inr rfl)) (aw (qz 2 rQ.nd (ax aU (ax kG ae (qv 2)) (qx (wG T) T.j3 hr aF (ag (qv 3) av))))))
   (aw (aM (qv 2))))),
  (au (az af)
    (au (mF (wI aa (mw (ao aV aa af)) (mw (ao aV aa af))) (az (ao aV (ao kI af aa) (aG (ai aa ay)))))
    eY))⟩
theorem vS(T:Txt K mg t):cD P w K mg base (CXE P w) 4 t.cU t.d_sign_size lH (spP K (bX t) cU):=
 eR T.e_sign_size.F wz fun _ _ _ _ _ _ hr=>⟨_,(aj (bc (b7 uB (qi aH (qv 0) (qv 1)) (cJ rfl T.m_BACKSLASH T.r_BACKSLASH)) (aw (aM ae)) aJ)
   (aj (bc (b7 uB (qi aH (qv 0) (ax aU (qv 1) ae)) (cJ rfl T.m_SMALL_U T.r_SMALL_U)) (aw (aM ae)) aJ)
   (aj (bc (gf jg jg (cJ rfl T.m_FIRST_PAIRED T.r_FIRST_PAIRED) (qx (sy T) T.lr hr aF (ag (qv 0) (ag (qv 1) av))) (cJ rfl T.m_LAST_PAIRED T.r_LAST_PAIRED)) (aw (aM (ax kG ae (cJ rfl T.m_CODE_SIZE T.r_CODE_SIZE)))) aJ)
   (aw (aM (cJ rfl T.m_CODE_SIZE T.r_CODE_SIZE)))))),
  (au (bf (aB (ao u5 (ao bP aa aa) af)) (aQ af) aK)
    (au (bf (aB (ao u5 (ao bP aa (ao aV aa af)) af)) (aQ af) aK)
    (au (bf (aB (fz ji ji af (aG (ai aa (ai aa ay))) af)) (aQ (ao kI af af)) aK)
    (aQ af))))⟩
theorem rG(T:Txt K mg t):cD P w K mg base (CXE P w) 1 t.dw t.d_short_escape ja (spP K (bX t) dw):=
 eR T.e_short_escape.F rM fun _ _ _ _ _ _ hr=>⟨_,(aw (aM (B3 (cJ rfl T.m_SHORT_ESCAPES T.r_SHORT_ESCAPES) (qv 0)))),
  (aQ (Bu T.q_SHORT_ESCAPES aa))⟩
theorem uq(T:Txt K mg t):cD P w K mg base (CXE P w) 4 t.cP t.d_sign_meant ky (spP K (bX t) cP):=
 eR T.e_sign_meant.F uu fun _ _ _ _ _ _ hr=>⟨_,(aj (bc (b7 b6 (qv 2) ae) (aw (aM (qi aH (qv 0) (qv 1)))) aJ)
   (aj (bc (b7 b6 (qv 2) ae) (aw (aM (qx (rG T) T.e_short_escape hr aF (ag (qi aH (qv 0) (ax aU (qv 1) ae)) av)))) aJ)
   (aj (bc (b7 b6 (qv 2) (cJ rfl T.m_CODE_SIZE T.r_CODE_SIZE)) (aw (aM (qx (sy T) T.lr hr aF (ag (qv 0) (ag (qv 1) av))))) aJ)
   (aw (aM (ax gd (ax aU (ax aU ae (ax kG ae (ax gd (qx (sy T) T.lr hr aF (ag (qv 0) (ag (qv 1) av))) ae))) (qx (sy T) T.lr hr aF (ag (qv 0) (ag (ax aU (qv 1) (cJ rfl T.m_CODE_SIZE T.r_CODE_SIZE)) av)))) ae)))))),
  (au (bf (aB (ao cb aa af)) (aQ (ao bP aa aa)) aK)
    (au (bf (aB (ao cb aa af)) (aQ (aG (ai (ao bP aa (ao aV aa af)) ay))) aK)
    (au (bf (aB (ao cb aa af)) (aQ (aG (ai aa (ai aa ay)))) aK)
    (aQ (ao gc (ao aV (ao aV af (ao kI af (ao gc (aG (ai aa (ai aa ay))) af))) (aG (ai aa (ai (ao aV aa af) ay)))) af)))))⟩
theorem pC(T:Txt K mg t):cD P w K mg base (CXE P w) 5 t.cF t.d_without_escapes gD (spP K (bX t) cF):=
 eR T.e_without_escapes.F du fun _ _ _ _ _ _ hr=>⟨_,(aj (qz 1 du.nd (bz av))
   (aj (qz 2 du.nd ae)
   (aj (ll dg (b7 iW (qv 2) (jc T.n_len (qv 0))) (aj (qz 3 du.nd (qx (vS T) T.e_sign_size hr aF (ag (qv 0) (ag (qv 2) av))))
   (aj (qap bx (qv 1) (qx (uq T) T.e_sign_meant hr aF (ag (qv 0) (ag (qv 2) (ag (qv 3) av)))))
   (aw (B5 (i:=2) du.nd rfl (Or.inl rfl) (qv 3) CH)))))
   (aw (aM (qv 1)))))),
  (au (az (bD ay))
    (au (az af)
    (au (lh (aB (ao iX aa (cx gG aa))) (au (az (aG (ai aa (ai aa ay))))
    (au (eZ (aG (ai aa (ai aa (ai aa ay)))))
    (tX aa))))
    eY)))⟩
theorem pe(T:Txt K mg t):cD P w K mg base (CXE P w) 1 t.cj t.d_second_of_three gF (spP K (bX t) cj):=
 eR T.e_second_of_three.F o4 fun _ _ _ _ _ _ hr=>⟨_,(aj (bc (b7 b6 (qv 0) ae) (aw (aM (df (ag ae (ag ae av))))) aJ)
   (aj (bc (b7 b6 (qv 0) ae) (aw (aM (df (ag ae (ag ae av))))) aJ)
   (aw (aM (cJ rfl T.m_TAIL T.r_TAIL))))),
  (au (bf (aB (ao cb aa af)) (aQ (dh (ai af (ai af ay)))) aK)
    (au (bf (aB (ao cb aa af)) (aQ (dh (ai af (ai af ay)))) aK)
    (aQ (mi T.q_TAIL))))⟩
theorem ql(T:Txt K mg t):cD P w K mg base (CXE P w) 1 t.cy t.d_second_of_four hU (spP K (bX t) cy):=
 eR T.e_second_of_four.F pO fun _ _ _ _ _ _ hr=>⟨_,(aj (bc (b7 b6 (qv 0) ae) (aw (aM (df (ag ae (ag ae av))))) aJ)
   (aj (bc (b7 b6 (qv 0) ae) (aw (aM (df (ag ae (ag ae av))))) aJ)
   (aw (aM (cJ rfl T.m_TAIL T.r_TAIL))))),
  (au (bf (aB (ao cb aa af)) (aQ (dh (ai af (ai af ay)))) aK)
    (au (bf (aB (ao cb aa af)) (aQ (dh (ai af (ai af ay)))) aK)
    (aQ (mi T.q_TAIL))))⟩
theorem CV(T:Txt K mg t):cD P w K mg base (CXE P w) 2 t.ib t.d_tails ud (spP K (bX t) ib):=
 eR T.su.F CZ fun _ _ _ _ _ _ hr=>⟨_,(aj (bc (gf jg iW ae (qv 0) ae) (aw (aM (bz av))) aJ)
   (aj (bc (gf jg iW ae (qv 0) ae) (aw (aM (bz (ag (cJ rfl T.m_TAIL T.r_TAIL) av)))) aJ)
   (aj (bc (gf jg iW ae (qv 0) ae) (aw (aM (bz (ag (qx (pe T) T.e_second_of_three hr aF (ag (qv 0) av)) (ag (cJ rfl T.m_TAIL T.r_TAIL) av))))) aJ)
   (aj (bc (gf jg iW ae (qv 0) ae) (aw (aM (bz (ag (qx (ql T) T.e_second_of_four hr aF (ag (qv 0) av)) (ag (cJ rfl T.m_TAIL T.r_TAIL) (ag (cJ rfl T.m_TAIL T.r_TAIL) av)))))) aJ)
   (aw (aM tM)))))),
  (au (bf (aB (fz ji iX af aa af)) (aQ (bD ay)) aK)
    (au (bf (aB (fz ji iX af aa af)) (aQ (bD (ai (mi T.q_TAIL) ay))) aK)
    (au (bf (aB (fz ji iX af aa af)) (aQ (bD (ai (aG (ai aa ay)) (ai (mi T.q_TAIL) ay)))) aK)
    (au (bf (aB (fz ji iX af aa af)) (aQ (bD (ai (aG (ai aa ay)) (ai (mi T.q_TAIL) (ai (mi T.q_TAIL) ay))))) aK)
    (aQ sX)))))⟩
theorem qT(T:Txt K mg t):cD P w K mg base (CXE P w) 3 t.cY t.d_character_end iy (spP K (bX t) cY):=
 eR T.e_character_end.F eA fun _ _ _ _ _ _ hr=>⟨_,(aj (qz 2 eA.nd (qx (CV T) T.su hr aF (ag (qi aH (qv 0) (qv 1)) av)))
   (aj (bc (b7 GC (qv 2) tM) (aw vH) aJ)
   (aj (qz 3 eA.nd (ax aU (qv 1) ae))
   (aj (iw dg rfl (iT (qv 2)) (fQ (i:=4) eA.nd rfl (by first|exact Or.inl rfl|exact Or.inr rfl)) (aj (bc (ke (tZ (b7 b6 (qv 3) (jc T.n_len (qv 0))) (tw (qy (gf jg jg (qi bI (qv 4) ae) (qi aH (qv 0) (qv 3)) (qi bI (qv 4) ae)))))) (aw vH) aJ)
   (aw (B5 (i:=3) eA.nd rfl (Or.inl rfl) ae CH))))
   (aw (aM (qv 3))))))),
  (au (az (aG (ai (ao bP aa aa) ay)))
    (au (bf (aB (ao G4 aa sX)) vR aK)
    (au (az (ao aV aa af))
    (au (eD (i:=2) (mF aa (au (bf (ub (aB (ao cb aa (cx gG aa))) (qE (aB (fz ji ji (ao bJ aa af) (ao bP aa aa) (ao bJ aa af))))) vR aK)
    (tX af))))
    eY))))⟩
theorem v8(T:Txt K mg t):cD P w K mg base (CXE P w) 1 t.fE t.d_character lA (spP K (bX t) fE):=
 eR T.e_character.F js fun _ _ _ _ _ _ hr=>⟨_,(aj (qz 3 js.nd (ax gd (qi aH (qv 0) (qv 1)) (qi bI (cJ rfl T.m_MARKS T.r_MARKS) (ax gd (ax gd (qv 2) (qv 1)) ae))))
   (aj (iw dg rfl (iT (pX sC (qv 0) (mG (ax aU (qv 1) ae)) (mG (qv 2)))) (fQ (i:=4) js.nd rfl (by first|exact Or.inl rfl|exact Or.inr rfl)) (aw (qz 3 js.nd (ax gd (ax aU (ax kG (qv 3) ae) (qv 4)) (cJ rfl T.m_TAIL_MARK T.r_TAIL_MARK)))))
   (aw (aM (qv 3))))),
  (au (az (ao gc (ao bP aa aa) (ao bJ (mi T.q_MARKS) (ao gc (ao gc aa aa) af))))
    (au (mF (wI aa (mw (ao aV aa af)) (mw aa)) (az (ao gc (ao aV (ao kI aa af) aa) af)))
    eY))⟩
theorem AD(T:Txt K mg t):cD P w K mg base (CXE P w) 4 t.jD t.d_points qu (spP K (bX t) jD):=
 eR T.p8.F kX fun _ _ _ _ _ _ hr=>⟨_,(aj (qz 1 kX.nd (bz av))
   (aj (qz 2 kX.nd ae)
   (aj (ll dg (b7 iW (qv 2) (jc T.n_len (qv 0))) (aj (qz 3 kX.nd (qx (qT T) T.e_character_end hr aF (ag (qv 0) (ag (qv 2) av))))
   (aj (qap bx (qv 1) (qx (v8 T) T.e_character hr aF (ag (qv 0) (ag (qv 2) (ag (qv 3) av)))))
   (aw (qz 2 kX.nd (qv 3))))))
   (aw (aM (qv 1)))))),
  (au (az (bD ay))
    (au (az af)
    (au (lh (aB (ao iX aa (cx gG aa))) (au (az (aG (ai aa (ai aa ay))))
    (au (eZ (aG (ai aa (ai aa (ai aa ay)))))
    (az aa))))
    eY)))⟩
theorem BH(T:Txt K mg t):cD P w K mg base (CXE P w) 6 t.j7 t.d_meant ua (spP K (bX t) j7):=
 eR T.sq.F xD fun _ _ _ _ _ _ hr=>⟨_,(aj (qz 3 xD.nd (qi aH (qv 1) (qv 2)))
   (aj (bc (qq A9 (qi bI (qv 3) ae) (df (ag cm (ag cm av))) rfl) (aw vH) aJ)
   (aw (aM (qx (pC T) T.e_without_escapes hr aF (ag (qx (AD T) T.p8 hr aF (ag (pX sC (qv 0) (mG (ax aU (qi bI (qv 3) ae) ae)) (mG (ax gd (qi bI (qv 3) ae) ae))) av)) av)))))),
  (au (az (ao bP aa aa))
    (au (bf (aB (ao (B0 hr.units) (ao bJ aa af) (dh (ai cn (ai cn ay))))) vR aK)
    (aQ (aG (ai (aG (ai (wI aa (mw (ao aV (ao bJ aa af) af)) (mw (ao gc (ao bJ aa af) af))) ay)) ay)))))⟩
theorem AV(T:Txt K mg t):cD P w K mg base (CXE P w) 7 t.fu t.d_member qB (spP K (bX t) fu):=
 eR T.pU.F uG fun _ _ _ _ _ _ hr=>⟨_,(aj (bc (b7 qV (qi bI (qi aH (qv 1) (qv 2)) ae) cm) (aw (iw dg rfl (iT (qx (p7 T) T.gz hr aF (ag (qv 1) (ag (qv 2) av)))) (fQ (i:=4) uG.nd rfl (by first|exact Or.inl rfl|exact Or.inr rfl)) (aw (bc (b7 qV (qx (BH T) T.sq hr aF (ag (qv 0) (ag (qv 1) (ag (qv 4) av)))) (cW mE rfl T.n_list L2.E.boot_list (ag (qv 3) av))) (aw (aM (ax aU (qv 4) ae))) aJ)))) aJ)
   (aw (xj aF hr.hd PySem.F.excBase_ValueError rfl T.m_NoNode T.x_NoNode (ag cm av)))),
  (au (bf (aB (ao (qQ hr.units) (ao bJ (ao bP aa aa) af) cn)) (mF (aG (ai aa (ai aa ay))) (bf (aB (ao (qQ hr.units) (aG (ai aa (ai aa (ai aa ay)))) (cx ph aa))) (aQ (ao aV aa af)) aK)) aK)
    (xx rfl (ai cn ay)))⟩
theorem uv(T:Txt K mg t):cD P w K mg base (CXE P w) 8 t.cQ t.d_law_member ko (spP K (bX t) cQ):=
 eR T.e_law_member.F iJ fun _ _ _ _ _ _ hr=>⟨_,(aj (qz 4 iJ.nd (gP eC ae))
   (aj (Gb ⟨rfl,rfl⟩ (fun _ _ _ hW hO=>(aw (qz 4 iJ.nd (qx (AV T) T.pU hr hW (ag (qv 0) (ag (qv 1) (ag (qv 2) (ag (qv 3) av)))))))) rfl T.m_NoNode (fun _=>(aw (qz 4 iJ.nd (gP eC ae)))) aF)
   (aw (aM (qv 4))))),
  (au (az (iq fg af))
    (au (Gj (fun _=>(az (aG (ai aa (ai aa (ai aa (ai aa ay))))))) (az (iq fg af)) (rN T))
    eY))⟩
theorem jr(T:Txt K mg t):cD P w K mg base (CXE P w) 1 t.dm t.d_law_whole lR (spP K (bX t) dm):=
 eR T.dj.F vZ fun _ _ _ _ _ _ hr=>⟨_,(aw (aM (wU (jR tO rfl T.n_isinstance L2.E.boot_isinstance (ag (qv 0) (ag (wR (v:=.ty _) rfl T.n_int L2.E.boot_int rfl) av))) (yA (Gx (jR tO rfl T.n_isinstance L2.E.boot_isinstance (ag (qv 0) (ag (wR (v:=.ty _) rfl T.n_bool L2.E.boot_bool rfl) av)))))))),
  (aQ (wH (yE aa) (GA (yE aa))))⟩
theorem um(T:Txt K mg t):cD P w K mg base (CXE P w) 2 t.eK t.d_law_wholes kE (spP K (bX t) eK):=
 eR T.e_law_wholes.F ur fun _ _ _ _ _ _ hr=>⟨_,(aw (aM (wU (jR tO rfl T.n_isinstance L2.E.boot_isinstance (ag (qv 0) (ag (wR (v:=.ty _) rfl T.n_list L2.E.boot_list rfl) av))) (yA (jR Ax rfl T.n_all L2.E.boot_all (ag (n9 (M:=[]) (ι:=[]) (x:="_law_one") ⟨rfl,rfl,rfl,rfl,rfl,rfl,rfl,rfl,rfl,rfl,rfl,by decide +kernel⟩ rfl (iT (qv 0)) fun _ _ _ _=>(qx (jr T) T.dj hr y3 (ag (qv 0) av))) av)))))),
  (aQ (wH (yE aa) (cx (Gr hr.hd) (ug (by decide) aa (aG (ai aa ay))))))⟩
theorem Ap(T:Txt K mg t):cD P w K mg base (CXE P w) 2 t.mY t.d_many vg (spP K (bX t) mY):=
 eR T.tR.F Eg fun _ _ _ _ _ _ hr=>⟨_,(aw (aM (jc T.n_len (qx (p7 T) T.gz hr aF (ag (qv 0) (ag (qv 1) av)))))),
  (aQ (cx gG (aG (ai aa (ai aa ay)))))⟩
theorem rJ(T:Txt K mg t):cD P w K mg base (CXE P w) 1 t.cT t.d_law_value_at je (spP K (bX t) cT):=
 eR T.e_law_value_at.F bg fun _ _ _ _ _ _ hr=>⟨_,(aj (qz 3 bg.nd (bz av))
   (aj (qz 4 bg.nd (qv 2))
   (aj (qz 5 bg.nd (bz (ag (qv 0) av)))
   (aj (iw dg rfl (iz rfl T.n_range (ag (jc T.n_len (qv 1)) av)) (fQ (i:=6) bg.nd rfl (by first|exact Or.inl rfl|exact Or.inr rfl)) (aw (bc (ke (i9 (b7 iW (qv 6) (qv 2)) (i9 (qq yr (qi bI (qi aH (qv 1) (qv 6)) ae) (df (ag cm (ag cm av))) rfl) (jn (b7 uA (qi bI (qi aH (qv 1) (qv 6)) ae) (qv 2)))))) (aw (qap bx (qv 3) (qv 6))) aJ)))
   (aj (iw dg rfl (iz rfl T.n_range (ag (jc T.n_len (qv 3)) av)) (fQ (i:=6) bg.nd rfl (by first|exact Or.inl rfl|exact Or.inr rfl)) (aj (qz 7 bg.nd (qi aH (qv 3) (qv 6)))
   (aj (qz 8 bg.nd (g7 (by exact(b7 iW (ax aU (qv 6) ae) (jc T.n_len (qv 3)))) (qi aH (qv 3) (ax aU (qv 6) ae)) (qv 4)))
   (aj (qz 9 bg.nd ae)
   (aj (qz 10 bg.nd (ax aU (qv 7) ae))
   (aw (ll dg (b7 iW (qv 10) (qi bI (qi aH (qv 1) (qv 7)) ae)) (aj (qz 11 bg.nd (ax aU (qv 10) (cW oa rfl T.n_int L2.E.boot_int (ag (gW b6 (qi bI (qi aH (qv 1) (qv 7)) ae) cm (jd _)) av))))
   (aj (bc (b7 b6 (qv 11) (qv 8)) (aj (qz 12 bg.nd (qi bI (qi bI (qi aH (qv 5) ae) ae) (qv 9)))
   (aw (qz 5 bg.nd (bz (ag (g7 (by exact(b7 b6 (qi bI (qi aH (qv 1) (qv 7)) ae) cm)) (qi bI (qv 12) ae) (qv 12)) av))))) aJ)
   (aj (qz 10 bg.nd (qi bI (qi aH (qv 1) (qv 10)) ae))
   (aw (qz 9 bg.nd (ax aU (qv 9) ae)))))))))))))
   (aw (aM (qi aH (qv 5) ae)))))))),
  (au (az (bD ay))
    (au (az aa)
    (au (az (bD (ai aa ay)))
    (au (qg (cx gG aa) (bf (i8 (aB (ao iX aa aa)) (i8 (aB (ao (Cg hr.units) (ao bJ (ao bP aa aa) af) (dh (ai cn (ai cn ay))))) (aB (ao uZ (ao bJ (ao bP aa aa) af) aa)))) (eZ aa) aK))
    (au (qg (cx gG aa) (au (az (ao bP aa aa))
    (au (az (qa (aB (ao iX (ao aV aa af) (cx gG aa))) (ao bP aa (ao aV aa af)) aa))
    (au (az af)
    (au (az (ao aV aa af))
    (lh (aB (ao iX aa (ao bJ (ao bP aa aa) af))) (au (az (ao aV aa (cx rW (ao cb (ao bJ (ao bP aa aa) af) cn))))
    (au (bf (aB (ao cb aa aa)) (au (az (ao bJ (ao bJ (ao bP aa af) af) aa))
    (az (bD (ai (qa (aB (ao cb (ao bJ (ao bP aa aa) af) cn)) (ao bJ aa af) aa) ay)))) aK)
    (au (az (ao bJ (ao bP aa aa) af))
    (az (ao aV aa af)))))))))))
    (aQ (ao bP aa af)))))))⟩
theorem GF(T:Txt K mg t):cD P w K mg base (CXE P w) 9 t.u2 t.d_law y1 (spP K (bX t) u2):=
 eR T.Dp.F eN fun _ _ _ _ _ _ hr=>⟨_,(aj (qz 1 eN.nd (qx (ve T) T.e_law_built hr aF (ag (qv 0) (ag (ax aU ae (ax ba (qx (cZ T) T.bp hr aF (ag (qv 0) (ag ae av))) ae)) av))))
   (aj (qz 2 eN.nd (cW mE rfl T.n_list L2.E.boot_list (ag (qi bI (qv 1) ae) av)))
   (aj (qz 3 eN.nd (ax ba (qx (cZ T) T.bp hr aF (ag (qv 0) (ag ae av))) (jc T.n_len (qv 2))))
   (aj (bc (b7 b6 (ax ba (qx (cZ T) T.bp hr aF (ag (qv 0) (ag ae av))) ae) ae) (aw (qz 3 eN.nd ae)) aJ)
   (aj (qz 4 eN.nd (bz av))
   (aj (bc (qq yr (qi bI (qi aH (qv 2) (qv 3)) ae) (df (ag cm (ag cm av))) rfl) (aw (zb (i:=4) eN.nd rfl (by first|exact Or.inl rfl|exact Or.inr rfl) (M:=["_law_tree","_law_i"]) (ι:=[2,3]) (x:="_law_k") ⟨rfl,rfl,fun _=>rfl,fun _=>rfl,rfl,rfl,rfl,rfl,rfl,rfl,rfl,rfl,by decide +kernel⟩ rfl (uR rfl T.n_range (ag (ax aU (qv 3) ae) (ag (qi bI (qi aH (qv 2) (qv 3)) ae) av))) (fun _ _ _ _=>by exact(qy (b9 (A2 (M:=["_law_tree","_law_k"]) (ι:=[0,2]) (x:="_law_j") ⟨rfl,rfl,rfl,rfl,rfl,rfl,rfl,rfl,rfl,rfl,rfl,by decide +kernel⟩ rfl (uR rfl T.n_range (ag (ax aU (qv 1) ae) (ag (qv 2) av))) (fun _ _ _ _=>(b7 uA (qi bI (qi aH (qv 0) (qv 2)) ae) (qv 1))) fun _ _ _ _=>(qv 2)) (fun _=>rfl)))) fun _ _ _ _=>(qv 2))) aJ)
   (aj (qz 5 eN.nd (qx (p7 T) T.gz hr aF (ag (qv 2) (ag (qv 3) av))))
   (aj (bc (ke (tZ (qy (b9 (qx (um T) T.e_law_wholes hr aF (ag (qv 5) av)) (fun _=>rfl))) (tZ (b7 Ik (qv 5) (qv 4)) (tZ (b7 uB (qx (Ap T) T.tR hr aF (ag (qv 2) (ag (qv 3) av))) (jc T.n_len (qv 4))) (tw (qy (b9 (qx (jr T) T.dj hr aF (ag (qx (Ap T) T.tR hr aF (ag (qv 2) (ag (qv 3) av))) av)) (fun _=>rfl)))))))) (aw (aM zB)) aJ)
   (aj (qz 6 eN.nd (ax gd (ax ba (qx (cZ T) T.bp hr aF (ag (qv 0) (ag ae av))) (ax aU (jc T.n_len (qv 4)) ae)) ae))
   (aj (qz 7 eN.nd (gP eC ae))
   (aj (bc (gf jg iW ae (qv 6) (jc T.n_len (qv 4))) (aw (qz 7 eN.nd (ax aU (qi aH (qv 4) (qv 6)) (cW oa rfl T.n_int L2.E.boot_int (ag (gW qV (qi bI (qi aH (qv 2) (qv 3)) ae) cm (jd _)) av))))) aJ)
   (aj (qz 8 eN.nd (qx (ya T) T.e_law_item hr aF (ag (qv 2) (ag (qv 3) (ag (qv 6) av)))))
   (aj (bc (ke (tZ (qy (b9 (qx (jr T) T.dj hr aF (ag (qv 8) av)) (fun _=>rfl))) (tw (b7 uB (qv 8) (qv 7))))) (aw (aM zB)) aJ)
   (aj (qz 9 eN.nd (df (ag (ax aU ae (ax ba (qx (cZ T) T.bp hr aF (ag (qv 0) (ag ae av))) ae)) av)))
   (aj (qz 7 eN.nd (gP eC ae))
   (aj (bc (b7 qV (qi bI (qi aH (qv 2) (qv 3)) ae) cm) (aj (qz 10 eN.nd (qi bI (qx (rJ T) T.e_law_value_at hr aF (ag (qi bI (qv 1) ae) (ag (qv 2) (ag (qv 3) av)))) ae))
   (aj (bc (ke (i9 (b9 (qv 4) (fun _=>rfl)) (jn (b7 b6 (ax ba (qx (cZ T) T.bp hr aF (ag (qv 0) (ag ae av))) ae) ae)))) (aw (qz 9 eN.nd (qi bI (qi bI (qv 10) (ax ba (qx (cZ T) T.bp hr aF (ag (qv 0) (ag ae av))) (jc T.n_len (qv 4)))) ae))) aJ)
   (aw (iw dg rfl (A1 rfl T.n_range (ag (ax gd (jc T.n_len (qv 10)) ae) (ag (gP eC ae) (ag (gP eC ae) av)))) (fQ (i:=11) eN.nd rfl (by first|exact Or.inl rfl|exact Or.inr rfl)) (aw (bc (b7 qV (qi bI (qi bI (qv 10) (qv 11)) ae) (qv 9)) (aw (qz 7 eN.nd (ax aU (qi aH (qv 4) (qv 11)) ae))) aJ)))))) aJ)
   (aj (qz 8 eN.nd (qx (uv T) T.e_law_member hr aF (ag (qi bI (qv 1) ae) (ag (qv 2) (ag (qv 3) (ag (qi aH (bz (ag (qv 9) (ag (cW mE rfl T.n_list L2.E.boot_list (ag (qv 9) av)) av))) (ax ba (qx (cZ T) T.bp hr aF (ag (qv 0) (ag ae av))) ae)) av))))))
   (aw (aM (wU (qx (jr T) T.dj hr aF (ag (qv 8) av)) (wU (gW b6 (qv 8) (qv 7) (jd _)) (yA (gW qV (qv 2) (qi bI (qv 1) ae) (jd _)))))))))))))))))))))))),
  (au (az (aG (ai aa (ai (ao aV af (ao bb (aG (ai aa (ai af ay))) af)) ay))))
    (au (az (cx ph (ao bJ aa af)))
    (au (az (ao bb (aG (ai aa (ai af ay))) (cx gG aa)))
    (au (bf (aB (ao cb (ao bb (aG (ai aa (ai af ay))) af) af)) (az af) aK)
    (au (az (bD ay))
    (au (bf (aB (ao (Cg hr.units) (ao bJ (ao bP aa aa) af) (dh (ai cn (ai cn ay))))) (az (qZ (by decide) (ao aV aa af) (ao bJ (ao bP aa aa) af) (qE (dC (qZ (by decide) (ao aV aa af) aa (aB (ao uZ (ao bJ (ao bP aa aa) af) aa)) aa))) aa)) aK)
    (au (eD (i:=2) (az (aG (ai aa (ai aa ay)))))
    (au (eD (i:=2) (eD (i:=5) (bf (ub (qE (dC (aG (ai aa ay)))) (ub (aB (ao (G3 hr.units) aa aa)) (ub (aB (ao u5 (aG (ai aa (ai aa ay))) (cx gG aa))) (qE (dC (aG (ai (aG (ai aa (ai aa ay))) ay))))))) (aQ zy) aK)))
    (au (az (ao gc (ao bb (aG (ai aa (ai af ay))) (ao aV (cx gG aa) af)) af))
    (au (az (iq fg af))
    (au (bf (aB (fz ji iX af aa (cx gG aa))) (az (ao aV (ao bP aa aa) (cx rW (ao (qQ hr.units) (ao bJ (ao bP aa aa) af) cn)))) aK)
    (au (eD (i:=2) (az (aG (ai aa (ai aa (ai aa ay))))))
    (au (bf (ub (qE (dC (aG (ai aa ay)))) (aB (ao u5 aa aa))) (aQ zy) aK)
    (au (az (dh (ai (ao aV af (ao bb (aG (ai aa (ai af ay))) af)) ay)))
    (au (az (iq fg af))
    (au (bf (aB (ao (qQ hr.units) (ao bJ (ao bP aa aa) af) cn)) (au (eD (i:=2) (az (ao bJ (aG (ai (ao bJ aa af) (ai aa (ai aa ay)))) af)))
    (au (bf (i8 (dC aa) (aB (ao cb (ao bb (aG (ai aa (ai af ay))) af) af))) (az (ao bJ (ao bJ aa (ao bb (aG (ai aa (ai af ay))) (cx gG aa))) af)) aK)
    (ED (ao gc (cx gG aa) af) (bf (aB (ao (qQ hr.units) (ao bJ (ao bJ aa aa) af) aa)) (az (ao aV (ao bP aa aa) af)) aK)))) aK)
    (au (eD (i:=2) (az (aG (ai (ao bJ aa af) (ai aa (ai aa (ai (ao bP (bD (ai aa (ai (cx ph aa) ay))) (ao bb (aG (ai aa (ai af ay))) af)) ay)))))))
    (aQ (wH (aG (ai aa ay)) (wH (ao cb aa aa) (ao (qQ hr.units) aa (ao bJ aa af))))))))))))))))))))))⟩
end
open PySem.W in
theorem all_mk{l:PySem.W.OpenLaw}{w:World}{K:PySem.W.Frag}{h:Heap}{mg:Str->Option Value}{fa:Addr}(X:K.In h)(G:h.Ns mainGlobals mg)(hfa:mg "law" = some (.ref fa))
  (h0:Fd K "points" ue f0 d0)
  (h1:Fd K "character_end" jb f1 d1)
  (h2:Fd K "tails" vp f2 d2)
  (h3:Fd K "second_of_three" ij f3 d3)
  (h4:Fd K "second_of_four" iG f4 d4)
  (h5:Fd K "character" nA f5 d5)
  (h6:Fd K "is_figure" nK f6 d6)
  (h7:Fd K "hex_worth" nz f7 d7)
  (h8:Fd K "short_escape" jQ f8 d8)
  (h9:Fd K "meant" vm f9 d9)
  (h10:Fd K "without_escapes" gV f10 d10)
  (h11:Fd K "sign_size" m5 f11 d11)
  (h12:Fd K "sign_meant" my f12 d12)
  (h13:Fd K "code" yC f13 d13)
  (h14:Fd K "inner" vU f14 d14)
  (h15:Fd K "many" yq f15 d15)
  (h16:Fd K "item" yZ f16 d16)
  (h17:Fd K "member" tW f17 d17)
  (h18:Fd K "_law_cell" o5 f18 d18)
  (h19:Fd K "_law_mix" qM f19 d19)
  (h20:Fd K "_law_whole" nN f20 d20)
  (h21:Fd K "_law_wholes" mq f21 d21)
  (h22:Fd K "_law_point" nU f22 d22)
  (h23:Fd K "_law_points" mf f23 d23)
  (h24:Fd K "_law_eight" nF f24 d24)
  (h25:Fd K "_law_hex" qJ f25 d25)
  (h26:Fd K "_law_sign" o9 f26 d26)
  (h27:Fd K "_law_text" o6 f27 d27)
  (h28:Fd K "_law_number" mz f28 d28)
  (h29:Fd K "_law_plain" nT f29 d29)
  (h30:Fd K "_law_white" nQ f30 d30)
  (h31:Fd K "_law_plain_value" ic f31 d31)
  (h32:Fd K "_law_name" pE f32 d32)
  (h33:Fd K "_law_close" nI f33 d33)
  (h34:Fd K "_law_begin" mX f34 d34)
  (h35:Fd K "_law_built" mW f35 d35)
  (h36:Fd K "_law_item" o7 f36 d36)
  (h37:Fd K "_law_member" lL f37 d37)
  (h38:Fd K "_law_value_at" jK f38 d38)
  (a39:nsIn K mainGlobals "law" = some (some (.ref f39))) (l39:K.lookup f39=some ⟨oc39,od39,.func (fnOf "law" "law" (fU xa) (dH xa) (aC xa) .none kV39 dc39 pm39 an39 cd39 ct39),sl39⟩) (c39:codeIn K cd39 "law" = true) (k39:keepIn K (.ref f39)=true)
  (z0:nsIn K mainGlobals "len" = some none)
  (z1:nsIn K mainGlobals "list" = some none)
  (z2:nsIn K mainGlobals "isinstance" = some none)
  (z3:nsIn K mainGlobals "int" = some none)
  (z4:nsIn K mainGlobals "bool" = some none)
  (z5:nsIn K mainGlobals "all" = some none)
  (z6:nsIn K mainGlobals "range" = some none)
  (z7:nsIn K mainGlobals "str" = some none)
  (z8:nsIn K mainGlobals "ord" = some none)
  (z9:nsIn K mainGlobals "tuple" = some none)
  (z10:nsIn K mainGlobals "ValueError" = some none)
  (ca0:nsIn K mainGlobals "GlassError" = some (some (.ref C0))) (cl0:K.lookup C0=some (excClassObj nm0 qn0 C0 N0 bs0 [.type "ValueError",.type "Exception",.type "BaseException",.type "object"] hd0 sn0 sub0 ab0 co0 dd0 p00 p10 p20 p30 p50 id0))
  (cx0:excIn K C0 [.type "ValueError",.type "Exception",.type "BaseException",.type "object"] "ValueError.__new__" = true)
  (ca1:nsIn K mainGlobals "NoNode" = some (some (.ref C1))) (cl1:K.lookup C1=some (excClassObj nm1 qn1 C1 N1 bs1 [.ref C0,.type "ValueError",.type "Exception",.type "BaseException",.type "object"] hd1 sn1 sub1 ab1 co1 dd1 p01 p11 p21 p31 p51 id1))
  (cx1:excIn K C1 [.type "ValueError",.type "Exception",.type "BaseException",.type "object"] "ValueError.__new__" = true)
  (va0:nsIn K mainGlobals "FIRST_PAIRED" = some (some (.int 55296 t0)))
  (va1:nsIn K mainGlobals "LAST_PAIRED" = some (some (.int 57343 t1)))
  (va2:nsIn K mainGlobals "MARKS" = some (some (.ref v2))) (vl2:K.lookup v2=some ⟨.type "tuple",none,.seq #[.int 0 t2_0,.int 192 t2_1,.int 224 t2_2,.int 240 t2_3] vn2,vs2⟩)
  (va3:nsIn K mainGlobals "TAIL_MARK" = some (some (.int 128 t3)))
  (va4:nsIn K mainGlobals "TAIL" = some (some (.ref v4))) (vl4:K.lookup v4=some ⟨.type "tuple",none,.seq #[.int 128 t4_0,.int 191 t4_1] vn4,vs4⟩)
  (va5:nsIn K mainGlobals "NOUGHT" = some (some (.int 48 t5)))
  (va6:nsIn K mainGlobals "NINE" = some (some (.int 57 t6)))
  (va7:nsIn K mainGlobals "BACKSLASH" = some (some (.int 92 t7)))
  (va8:nsIn K mainGlobals "SMALL_U" = some (some (.int 117 t8)))
  (va9:nsIn K mainGlobals "SHORT_ESCAPES" = some (some (.ref v9))) (vl9:K.lookup v9=some ⟨.type "dict",none,.dict #[⟨34,.int 34 tk9_0,(.int 34 tv9_0)⟩,⟨92,.int 92 tk9_1,(.int 92 tv9_1)⟩,⟨47,.int 47 tk9_2,(.int 47 tv9_2)⟩,⟨98,.int 98 tk9_3,(.int 8 tv9_3)⟩,⟨102,.int 102 tk9_4,(.int 12 tv9_4)⟩,⟨110,.int 110 tk9_5,(.int 10 tv9_5)⟩,⟨114,.int 114 tk9_6,(.int 13 tv9_6)⟩,⟨116,.int 116 tk9_7,(.int 9 tv9_7)⟩] ep9,#[]⟩)
  (vm9:(v9==sysModules)=false)
  (va10:nsIn K mainGlobals "CODE_SIZE" = some (some (.int 6 t10))):
  ∃ fd:FuncData,(∀(s:Shared) (v:Value),BindsTo s fd ⟨[v],[]⟩ [("_law_script",v)]) /\ ∀ base:Heap,K.In base->base.Ns mainGlobals mg->cD l.prog w K mg base (CXE l.prog w) 9 fa fd ["_law_script"] (vO K):=by
 have e:=hfa.symm.trans (PySem.W.mg_of X G a39);cases e
 have T:Txt K mg ⟨f0,d0,f1,d1,f2,d2,f3,d3,f4,d4,f5,d5,f6,d6,f7,d7,f8,d8,f9,d9,f10,d10,f11,d11,f12,d12,f13,d13,f14,d14,f15,d15,f16,d16,f17,d17,f18,d18,f19,d19,f20,d20,f21,d21,f22,d22,f23,d23,f24,d24,f25,d25,f26,d26,f27,d27,f28,d28,f29,d29,f30,d30,f31,d31,f32,d32,f33,d33,f34,d34,f35,d35,f36,d36,f37,d37,f38,d38,f39,_,C0,C1,_,_,v2,_,v4,_,_,_,_,v9,_⟩:=⟨h0.e1 X G,
  h1.e2 X G,
  h2.e1 X G,
  h3.e1 X G,
  h4.e1 X G,
  h5.e3 X G,
  h6.e1 X G,
  h7.e1 X G,
  h8.e1 X G,
  h9.e3 X G,
  h10.e1 X G,
  h11.e2 X G,
  h12.e3 X G,
  h13.e2 X G,
  h14.e2 X G,
  h15.e2 X G,
  h16.e3 X G,
  h17.e4 X G,
  h18.e2 X G,
  h19.e2 X G,
  h20.e1 X G,
  h21.e1 X G,
  h22.e1 X G,
  h23.e2 X G,
  h24.e1 X G,
  h25.e2 X G,
  h26.e2 X G,
  h27.e2 X G,
  h28.e1 X G,
  h29.e2 X G,
  h30.e1 X G,
  h31.e2 X G,
  h32.e2 X G,
  h33.e3 X G,
  h34.e5 X G,
  h35.e2 X G,
  h36.e3 X G,
  h37.e4 X G,
  h38.e3 X G,
  (cA a39 l39 c39 k39).e1 X G,
  PySem.W.mg_none_of X G z0,
  PySem.W.mg_none_of X G z1,
  PySem.W.mg_none_of X G z2,
  PySem.W.mg_none_of X G z3,
  PySem.W.mg_none_of X G z4,
  PySem.W.mg_none_of X G z5,
  PySem.W.mg_none_of X G z6,
  PySem.W.mg_none_of X G z7,
  PySem.W.mg_none_of X G z8,
  PySem.W.mg_none_of X G z9,
  PySem.W.mg_none_of X G z10,
  PySem.W.mg_of X G ca0,⟨by simp,_,_,_,_,_,_,_,_,_,_,_,_,_,_,_,_,cl0⟩,
  cx0,
  PySem.W.mg_of X G ca1,⟨by simp,_,_,_,_,_,_,_,_,_,_,_,_,_,_,_,_,cl1⟩,
  cx1,
  PySem.W.mg_of X G va0,⟨t0,rfl⟩,
  PySem.W.mg_of X G va1,⟨t1,rfl⟩,
  PySem.W.mg_of X G va2,rfl,fun H=>.inr ⟨_,_,_,vl2,⟨rfl,rfl⟩,rfl,(by show 4<=sizeLine;decide),.cons ⟨_,rfl⟩ (.cons ⟨_,rfl⟩ (.cons ⟨_,rfl⟩ (.cons ⟨_,rfl⟩ (.nil))))⟩,
  PySem.W.mg_of X G va3,⟨t3,rfl⟩,
  PySem.W.mg_of X G va4,rfl,fun H=>.inr ⟨_,_,_,vl4,⟨rfl,rfl⟩,rfl,(by show 2<=sizeLine;decide),.cons ⟨_,rfl⟩ (.cons ⟨_,rfl⟩ (.nil))⟩,
  PySem.W.mg_of X G va5,⟨t5,rfl⟩,
  PySem.W.mg_of X G va6,⟨t6,rfl⟩,
  PySem.W.mg_of X G va7,⟨t7,rfl⟩,
  PySem.W.mg_of X G va8,⟨t8,rfl⟩,
  PySem.W.mg_of X G va9,rfl,⟨[(34,.int 34),(92,.int 92),(47,.int 47),(98,.int 8),(102,.int 12),(110,.int 10),(114,.int 13),(116,.int 9)],⟨vm9,by simp,_,_,vl9,.cons ⟨rfl,⟨_,rfl⟩,⟨_,rfl⟩⟩ (.cons ⟨rfl,⟨_,rfl⟩,⟨_,rfl⟩⟩ (.cons ⟨rfl,⟨_,rfl⟩,⟨_,rfl⟩⟩ (.cons ⟨rfl,⟨_,rfl⟩,⟨_,rfl⟩⟩ (.cons ⟨rfl,⟨_,rfl⟩,⟨_,rfl⟩⟩ (.cons ⟨rfl,⟨_,rfl⟩,⟨_,rfl⟩⟩ (.cons ⟨rfl,⟨_,rfl⟩,⟨_,rfl⟩⟩ (.cons ⟨rfl,⟨_,rfl⟩,⟨_,rfl⟩⟩ (.nil))))))))⟩,.cons ⟨rfl,fun _=>by unfold Rep;rfl⟩ (.cons ⟨rfl,fun _=>by unfold Rep;rfl⟩ (.cons ⟨rfl,fun _=>by unfold Rep;rfl⟩ (.cons ⟨rfl,fun _=>by unfold Rep;rfl⟩ (.cons ⟨rfl,fun _=>by unfold Rep;rfl⟩ (.cons ⟨rfl,fun _=>by unfold Rep;rfl⟩ (.cons ⟨rfl,fun _=>by unfold Rep;rfl⟩ (.cons ⟨rfl,fun _=>by unfold Rep;rfl⟩ (.nil))))))))⟩,
  PySem.W.mg_of X G va10,⟨t10,rfl⟩⟩
 exact⟨_,fun s v=>.of_eq rfl,fun base _ _=>(GF T).imp (Ee fun ns h=>Dp ns h)⟩
theorem walk{l:PySem.W.OpenLaw}{q:Program}{loose:List Str}{XP:(Str->Option Value)->Heap->Prop}{YP:World->Heap->Prop}{d:DefRec}{K:Params->PySem.W.Frag}(hn:l.most=some 63)(hdf:d.params.defaults=[])
  (hY:∀(w:World) (h:Heap),YP w h->(K w.params).In h)
  (F:∀(w:World) (mg:Str->Option Value) (fa:Addr) (h:Heap),(K w.params).In h->h.Ns mainGlobals mg->mg d.name=some (.ref fa) ->
    ∃ fd:FuncData,(∀(s:Shared) (u:Value),BindsTo s fd ⟨[u],[]⟩ [("_law_script",u)]) /\ ∀ base:Heap,(K w.params).In base->base.Ns mainGlobals mg->cD l.prog w (K w.params) mg base (CXE l.prog w) 9 fa fd ["_law_script"] (vO (K w.params))):
  PySem.W.WalkO q loose XP YP l.row.toRowW d [] (fun f vs=>PySem.call f vs):=
 L2.Dw (n:=63) (k:=9) (x:="_law_script") (CX:=fun w=>CXE l.prog w) (sp:=fun w=>vO (K w.params)) hn (by decide) hdf ⟨rfl,by decide,by decide⟩ hY F (fun _ _ a ns hl _ hS=>⟨a,ns,rfl,hS,hl,fun _=>rfl⟩) fun _ _ _ _ _ z=>let ⟨_,_,_,_,_,_,_,_,_,_,f⟩:=z;f
end L2.plainglass_k13_nodes_asked
open PySem PySem.W PyProof.Rows
namespace PySem.W.Fast
def tw5875095168575487745:=0
def tw719089243228540448:=0
def tw3130225011779693401:=0
def tw6689310548452050359:=0
def tw1084683874462049822:=0
def tw6080880288526489780:=0
def tw2546487030713101385:=0
def tw7887265896837515364:=0
def tw14739653828284142288:=0
def tw1373428887265284516:=0
def tw8294014651482932180:=0
def tw5531286455018779237:=0
def tw8632185288676802835:=0
def tw8936156633696583310:=0
def tw7900994633312676380:=0
def tw4184129204208391046:=0
def tw751640160714896708:=0
def tw12722288892784622094:=0
def tw12892207110611947821:=0
def tw16939274684705565854:=0
def tw14656075829756070765:=0
def tw875388888673326925:=0
def tw978686179353551642:=0
def tw8575199490037734553:=0
def tw13676875427045584294:=0
def tw14921037823063261376:=0
def tw12530129366594964764:=0
def tw7647412377665347445:=0
def tw5625745863506556054:=0
def tw15952304755917445057:=0
def tw1155426484898535909:=0
def tw4747914553032513029:=0
def tw10344520045727344693:=0
def tw2101705554065896907:=0
def tw8110927329979965374:=0
def tw6570720706681681997:=0
def tw532685196693992905:=0
def tw16341692245212469198:=0
def tw5569989660591824509:=0
def tw17837206701988946162:=0
def tw11360808558693187694:=0
def tw7170158685383198234:=0
def tw18213864685963366461:=0
def tw7683478645572347970:=0
def tw3103297042509739213:=0
def tw11917054960492747130:=0
def tw8800262040015085686:=0
def tw10858553195510992226:=0
def tw5746384676235169686:=0
def tw12998667915943235141:=0
def tw14962149626183504258:=0
def tw6115155072708263456:=0
def tw16867338158332656852:=0
def tw8284609386679691819:=0
def tw2685399104809507542:=0
def tw14135988276864403200:=0
def tw7913348789881876133:=0
def tw4303136249491825026:=0
def tw16332613265794998971:=0
def tw11018604544641778955:=0
def tw6032598363534602666:=0
def tw14714612287326510412:=0
def tw2109997383763519445:=0
def tw6972435248968118527:=0
def tw16497102285182473439:=0
def tw6532676629522735697:=0
def tw10882683464029490580:=0
def tw18252776031167329240:=0
def tw14161057239730131446:=0
def tw4644096275304420256:=0
def tw3005649616499847748:=0
def tw7823979465472603625:=0
def tw12967357763574285773:=0
def tw16174724193007781661:=0
def tw13683203667030300448:=0
def tw13917875546884662624:=0
def tw2138819299771380558:=0
def tw13446157426867449285:=0
def tw8094544173854102493:=0
def tw17438739951298030673:=0
def tw11536835826777237091:=0
def tw5405275742995763263:=0
def tw18102367409789685213:=0
def tw11117650437235797674:=0
def tw604004334590436884:=0
def tw10186056252259200287:=0
def tw10160066263668777343:=0
def tw13223532249747661891:=0
def tw10611330352500399704:=0
def tw6771934966942103674:=0
def tw11576606358540409507:=0
def tw11695525622057074055:=0
def tw12632028037921537339:=0
def tw6505740321820957451:=0
def tw12648235568572983116:=0
end PySem.W.Fast
set_option maxRecDepth 100000 in
set_option maxHeartbeats 0 in
theorem PySem.Challenge.cw_plainglass_k13_nodes_asked_holds : PySem.Challenge.rw_plainglass_k13_nodes_asked.Holds := by
 w_on;o_law;k_head;(case hw=>w_witness2)
 k_fill
 refine L2.plainglass_k13_nodes_asked.walk (l:=PySem.Challenge.rw_plainglass_k13_nodes_asked) rfl rfl (fun w h Y=>PySem.W.kIn_of Y) ?F
 case F=>
  intro w mg fa h KX G hmg
  refine' L2.plainglass_k13_nodes_asked.all_mk KX G hmg (L2.E.cA ?a0 ?l0 ?c0 ?k0) (L2.E.cA ?a1 ?l1 ?c1 ?k1) (L2.E.cA ?a2 ?l2 ?c2 ?k2) (L2.E.cA ?a3 ?l3 ?c3 ?k3) (L2.E.cA ?a4 ?l4 ?c4 ?k4) (L2.E.cA ?a5 ?l5 ?c5 ?k5) (L2.E.cA ?a6 ?l6 ?c6 ?k6) (L2.E.cA ?a7 ?l7 ?c7 ?k7) (L2.E.cA ?a8 ?l8 ?c8 ?k8) (L2.E.cA ?a9 ?l9 ?c9 ?k9) (L2.E.cA ?a10 ?l10 ?c10 ?k10) (L2.E.cA ?a11 ?l11 ?c11 ?k11) (L2.E.cA ?a12 ?l12 ?c12 ?k12) (L2.E.cA ?a13 ?l13 ?c13 ?k13) (L2.E.cA ?a14 ?l14 ?c14 ?k14) (L2.E.cA ?a15 ?l15 ?c15 ?k15) (L2.E.cA ?a16 ?l16 ?c16 ?k16) (L2.E.cA ?a17 ?l17 ?c17 ?k17) (L2.E.cA ?a18 ?l18 ?c18 ?k18) (L2.E.cA ?a19 ?l19 ?c19 ?k19) (L2.E.cA ?a20 ?l20 ?c20 ?k20) (L2.E.cA ?a21 ?l21 ?c21 ?k21) (L2.E.cA ?a22 ?l22 ?c22 ?k22) (L2.E.cA ?a23 ?l23 ?c23 ?k23) (L2.E.cA ?a24 ?l24 ?c24 ?k24) (L2.E.cA ?a25 ?l25 ?c25 ?k25) (L2.E.cA ?a26 ?l26 ?c26 ?k26) (L2.E.cA ?a27 ?l27 ?c27 ?k27) (L2.E.cA ?a28 ?l28 ?c28 ?k28) (L2.E.cA ?a29 ?l29 ?c29 ?k29) (L2.E.cA ?a30 ?l30 ?c30 ?k30) (L2.E.cA ?a31 ?l31 ?c31 ?k31) (L2.E.cA ?a32 ?l32 ?c32 ?k32) (L2.E.cA ?a33 ?l33 ?c33 ?k33) (L2.E.cA ?a34 ?l34 ?c34 ?k34) (L2.E.cA ?a35 ?l35 ?c35 ?k35) (L2.E.cA ?a36 ?l36 ?c36 ?k36) (L2.E.cA ?a37 ?l37 ?c37 ?k37) (L2.E.cA ?a38 ?l38 ?c38 ?k38) ?a39 ?l39 ?c39 ?k39 ?z0 ?z1 ?z2 ?z3 ?z4 ?z5 ?z6 ?z7 ?z8 ?z9 ?z10 ?ca0 ?cl0 ?cx0 ?ca1 ?cl1 ?cx1 ?va0 ?va1 ?va2 ?vl2 ?va3 ?va4 ?vl4 ?va5 ?va6 ?va7 ?va8 ?va9 ?vl9 ?vm9 ?va10
  (case a0|l0|c0|k0|a1|l1|c1|k1|a2|l2|c2|k2|a3|l3|c3|k3|a4|l4|c4|k4|a5|l5|c5|k5|a6|l6|c6|k6|a7|l7|c7|k7|a8|l8|c8|k8|a9|l9|c9|k9|a10|l10|c10|k10|a11|l11|c11|k11|a12|l12|c12|k12|a13|l13|c13|k13|a14|l14|c14|k14|a15|l15|c15|k15|a16|l16|c16|k16|a17|l17|c17|k17|a18|l18|c18|k18|a19|l19|c19|k19|a20|l20|c20|k20|a21|l21|c21|k21|a22|l22|c22|k22|a23|l23|c23|k23|a24|l24|c24|k24|a25|l25|c25|k25|a26|l26|c26|k26|a27|l27|c27|k27|a28|l28|c28|k28|a29|l29|c29|k29|a30|l30|c30|k30|a31|l31|c31|k31|a32|l32|c32|k32|a33|l33|c33|k33|a34|l34|c34|k34|a35|l35|c35|k35|a36|l36|c36|k36|a37|l37|c37|k37|a38|l38|c38|k38|a39|l39|c39|k39|z0|z1|z2|z3|z4|z5|z6|z7|z8|z9|z10|ca0|cl0=>k_is)
  (case cx0=>k_exc)
  (case ca1|cl1=>k_is)
  (case cx1=>k_exc)
  (case va0|va1|va2|vl2|va3|va4|vl4|va5|va6|va7|va8|va9|vl9=>k_is)
  (case vm9=>first|decide|rfl)
  (case va10=>k_is)
