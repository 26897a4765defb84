import PyProof.Rows.All
import Wide.All
import OpenK.AllK
import Wide.FinOn
import Lean
import PyProof.EqAt
import PyProof.EqKinds
import PyProof.TupleCall
import PySem.Challenge.RW_plainglass_k22_clean_and_alike
set_option Elab.async false
set_option linter.all false
set_option compiler.extract_closed false
set_option maxRecDepth 100000
namespace L2
open PySem PySem.Spec PyProof.Rows
abbrev Key:=Sum Int Str
noncomputable def oZ:Key->Value->Bool
 |.inl k,v=>Value.isInt k v
 |.inr x,v=>Value.isStrOf x v
noncomputable def EW(w:World):Key->Int
 |.inl k=>hashInt k
 |.inr x=>hashStr w x
theorem cz:∀{k:Key} {v:Value},oZ k v=true->(∃ i t,k=Sum.inl i /\ v=Value.int i t) \/ (∃ x t,k=Sum.inr x /\ v=Value.str x t)
 | .inl i,v,h=>by
   obtain⟨t,e⟩:=Value.isInt_shape (k:=i) (v:=v) h;exact .inl ⟨i,t,rfl,e⟩
 | .inr x,v,h=>by
   obtain⟨t,e⟩:=Value.isStrOf_shape (x:=x) (v:=v) h;exact .inr ⟨x,t,rfl,e⟩
theorem uR(i:Int)(t:Tok):oZ (.inl i) (.int i t)=true:=by simp[oZ,Value.isInt]
theorem u4(x:Str)(t:Tok):oZ (.inr x) (.str x t)=true:=by simp[oZ,Value.isStrOf]
theorem A2(a b:Int):decide ((Sum.inl a:Key)=Sum.inl b)=(a==b):=by
 by_cases e:a=b
 . subst e;simp
 . have h:¬ (Sum.inl a:Key)=Sum.inl b:=fun q=>e (Sum.inl.inj q)
   rw[decide_eq_false h]
   exact(beq_eq_false_iff_ne.mpr e).symm
theorem Cy(a b:Str):decide ((Sum.inr a:Key)=Sum.inr b)=decide (a=b):=by
 by_cases e:a=b
 . subst e;simp
 . have h:¬ (Sum.inr a:Key)=Sum.inr b:=fun q=>e (Sum.inr.inj q)
   rw[decide_eq_false h,decide_eq_false e]
theorem BP(a:Int)(b:Str):decide ((Sum.inl a:Key)=Sum.inr b)=false:=decide_eq_false (fun q=>nomatch q)
theorem Cf(a:Str)(b:Int):decide ((Sum.inr a:Key)=Sum.inl b)=false:=decide_eq_false (fun q=>nomatch q)
noncomputable def dy(prog:Program)(w:World):PySem.KeyKind prog w Key where
 is:=oZ
 hash:=EW w
 inj:=fun v a b ha hb=>by
  rcases cz ha with⟨i,t,rfl,rfl⟩|⟨x,t,rfl,rfl⟩
  . rcases cz hb with⟨j,u,rfl,e⟩|⟨y,u,rfl,e⟩
    . injection e with e1 _;rw[e1]
    . exact nomatch e
  . rcases cz hb with⟨j,u,rfl,e⟩|⟨y,u,rfl,e⟩
    . exact nomatch e
    . injection e with e1 _;rw[e1]
 byValue:=fun k v h=>by
  rcases cz h with⟨i,t,rfl,rfl⟩|⟨x,t,rfl,rfl⟩<;>rfl
 pyHash:=fun hv h=>by
  rcases cz hv with⟨i,t,rfl,rfl⟩|⟨x,t,rfl,rfl⟩
  . exact wpAny_pyHash_int h
  . exact wpAny_pyHash_str h
 eqBool:=fun hu hv h=>by
  rcases cz hu with⟨i,t,rfl,rfl⟩|⟨x,t,rfl,rfl⟩
  . rcases cz hv with⟨j,u,rfl,rfl⟩|⟨y,u,rfl,rfl⟩
    . rw[A2]at h;exact wpAny_eqBool_int h
    . rw[BP]at h;exact SeqAt.EqAt.int_str i t y u _ _ _ _ h
  . rcases cz hv with⟨j,u,rfl,rfl⟩|⟨y,u,rfl,rfl⟩
    . rw[Cf]at h;exact SeqAt.EqAt.str_int x t j u _ _ _ _ h
    . rw[Cy]at h;exact wpAny_eqBool_str h
 «strs»:=fun k x t v h=>by
  rcases cz h with⟨i,u,rfl,e⟩|⟨y,u,rfl,e⟩
  . exact nomatch e
  . injection e with e1 _
    subst e1
    cases v<;>rfl
theorem qA(prog:Program)(w:World)(i:Int)(t:Tok):(dy prog w).is (.inl i) (.int i t)=true:=uR i t
theorem rS(prog:Program)(w:World)(x:Str)(t:Tok):(dy prog w).is (.inr x) (.str x t)=true:=u4 x t
inductive V where
 |non|bl (b:Bool)|int (i:Int)|str (x:Str)|byt (b:Array UInt8)|flt (b:UInt64)|ref (a:Addr)|ty (n:String)
 deriving DecidableEq
noncomputable def RelV:V->Value->Prop
 |.non,u=>u=Value.none
 |.bl b,u=>u=Value.bool b
 |.int i,u=>∃ t,u=Value.int i t
 |.str x,u=>∃ t,u=Value.str x t
 |.byt b,u=>∃ t,u=Value.bytes b t
 |.flt b,u=>∃ t,u=Value.float b t
 |.ref a,u=>u=Value.ref a
 |.ty n,u=>u=Value.type n
abbrev Vals:List V->List Value->Prop:=Paired RelV
theorem Vals.length{xs:List V}{us:List Value}(r:Vals xs us):xs.length=us.length:=Paired.length r
theorem Vals.get:∀{xs:List V} {us:List Value} {i:Nat} {x:V},Vals xs us->xs[i]?=some x->∃ u,us[i]?=some u /\ RelV x u
 |_,_,_,_,.nil,e=>by simp at e
 |_,_,0,_,.cons r _,e=>by simp at e;subst e;exact⟨_,rfl,r⟩
 | _,_,i+1,x,.cons _ t,e=>by
   obtain⟨u,h1,h2⟩:=Vals.get (i:=i) (x:=x) t (by simpa using e)
   exact⟨u,by simpa using h1,h2⟩
theorem Vals.append:∀{xs ys:List V} {us ws:List Value},Vals xs us->Vals ys ws->Vals (xs++ys) (us++ws)
 |_,_,_,_,.nil,s=>s
 |_,_,_,_,.cons r t,s=>.cons r (Vals.append t s)
theorem Vals.take:∀{xs:List V} {us:List Value} (n:Nat),Vals xs us->Vals (xs.take n) (us.take n)
 |_,_,0,_=>.nil
 |_,_,_+1,.nil=>.nil
 |_,_,n+1,.cons r t=>.cons r (Vals.take n t)
theorem Vals.drop:∀{xs:List V} {us:List Value} (n:Nat),Vals xs us->Vals (xs.drop n) (us.drop n)
 |_,_,0,r=>r
 |_,_,_+1,.nil=>.nil
 |_,_,n+1,.cons _ t=>Vals.drop n t
noncomputable def aX:Option V->Option Value->Prop
 |some v,some u=>RelV v u
 |none,none=>True
 |_,_=>False
noncomputable def KV{κ:Type}:List (κ×V)->List (κ×Value)->Prop:=Paired fun (p:κ×V) (q:κ×Value)=>p.1=q.1 /\ RelV p.2 q.2
noncomputable def kV:Key->V
 |.inl i=>.int i
 |.inr x=>.str x
inductive HO where
  |lst (xs:List V)
  |tup (xs:List V)
  |dK (kvs:List (Key×V))|dT (kvs:List (List Key×Addr×V))
  |set (S:Int->Bool) (n:Nat)
  |ins (C dx:Addr) (fs:List (Str×V))
  |own (x:Addr)
  |xd (fs:List (Str×V))
  |met (f x:Addr)
  |rng (lo hi:Int)
  |frz (o:Obj) (u:HO)
  |tbl (ps:Array Value)
  |ext (φ:Heap->Prop)
abbrev Hp:=Addr->Option HO
noncomputable def upd(H:Hp)(a:Addr)(o:HO):Hp:=fun b=>if b=a then some o else H b
theorem aY{H:Hp}{a:Addr}{o:HO}:upd H a o a=some o:=by unfold upd;rw[if_pos rfl]
theorem bB{H:Hp}{a b:Addr}{o:HO}(h:b≠a):upd H a o b=H b:=by unfold upd;rw[if_neg h]
theorem fb{H:Hp}{a b:Addr}{o:HO}(h:H a=some o)(h':H b=none):a≠b:=by
 intro e;subst e;rw[h]at h';cases h'
noncomputable def NoD(h:Heap)(a:Addr):Prop:=∀ o,h.get? a=some o->o.dict=none
theorem NoD.keep{h h':Heap}{a:Addr}{o:Obj}(n:NoD h a)(e:h.get? a=some o)(e':h'.get? a=some o):NoD h' a:=fun u z=>by rw[e']at z;cases z;exact n o e
theorem NoD.of{h:Heap}{a:Addr}{o:Obj}(e:h.get? a=some o)(d:o.dict=none):NoD h a:=fun u z=>by rw[e]at z;cases z;exact d
theorem NoD.new(h:Heap)(xs:Array Value):NoD (h.push { cls:=.type "tuple",data:=.seq xs }) h.objs.size:=.of (Heap.get?_push_size _ rfl) rfl
section
variable(P:Program)(w:World)
noncomputable def eB(H:Hp)(h:Heap)(a:Addr):HO->Prop
 |.lst xs=>xs.length<=sizeLine /\ ∃(its:List Value) (n:Nat),Vals xs its /\ h.get? a=some { cls:=.type "list",data:=.seq its.toArray n }
 |.tup xs=>(xs.length<=sizeLine /\ NoD h a) /\ ∃ its:List Value,Vals xs its /\ IsTup h a its.toArray
 |.dK kvs=>kvs.length<=sizeLine /\ (a==sysModules)=false /\ ∃ vs,KV kvs vs /\ h.DictOf (dy P w) a vs
 | .dT kvs=>kvs.length <= sizeLine /\ (a == sysModules) = false /\ ∃ xs:List (List Key × Addr × Value),
    Paired (fun (p:List Key×Addr×V) (q:List Key×Addr×Value)=>p.1=q.1 /\ p.2.1=q.2.1 /\ RelV p.2.2 q.2.2) kvs xs /\
    ∃ o es ep,h.get? a=some o /\ o.ExactDict /\ o.data=.dict es ep /\ es.toList=xs.map (entryOfKey (tupleKind (dy P w))) /\ (xs.map (·.1)).Nodup
 |.set S n=>h.SetOf (intKind P w) a S n
 | .ins C dx fs=>H dx = some (.own a) /\ fs.length <= 1000 /\ dx ≠ a /\ h.get? a = some (PySem.W.instObj C dx) /\
    ∃ mA,h.Ns1 dx mA /\ (∀ f,aX (fs.lookup f) (mA f)) /\ PySem.Within mA (fs.map (·.1))
 |.own _=>∃ o,h.get? a=some o
 |.xd fs=>∃ mA,h.Ns1 a mA /\ ∀ f,aX (fs.lookup f) (mA f)
 |.rng lo hi=>∃ t u v,h.get? a=some { cls:=.type "range",data:=.fields #[.int lo t,.int hi u,.int 1 v] }
 |.frz o u=>h.get? a=some o /\ eB H h a u
 |.tbl ps=>h.get? a=some { cls:=.none,data:=.fields ps }
 |.met f x=>h.get? a=some (PySem.W.methodObj (.ref f) (.ref x))
 |.ext φ=>φ h /\ (∃ o,h.get? a=some o) /\ ∀ h1 h2:Heap,φ h1->(∀ o,h1.get? a=some o->h2.get? a=some o)->φ h2
noncomputable def HOk(H:Hp)(h:Heap):Prop:=∀ a o,H a=some o->eB P w H h a o
end
section
variable{P:Program}{w:World}{H H':Hp}{h h':Heap}{a:Addr}{o:HO}
theorem eB.lt(x:eB P w H h a o):a<h.objs.size:=by
 cases o with
 |lst xs=>obtain⟨_,_,_,_,e⟩:=x;exact Heap.lt_size e
 |tup xs=>obtain⟨_,_,_,p⟩:=x;exact p.lt
 |dK kvs=>obtain⟨_,_,_,_,o,_,_,e,_⟩:=x;exact Heap.lt_size e
 |dT kvs=>obtain⟨_,_,_,_,o,_,_,e,_⟩:=x;exact Heap.lt_size e
 |set S n=>obtain⟨o,_,_,_,e,_⟩:=x;exact Heap.lt_size e
 |ins C dx fs=>obtain⟨_,_,_,e,_⟩:=x;exact Heap.lt_size e
 |own y=>obtain⟨_,e⟩:=x;exact Heap.lt_size e
 |xd fs=>obtain⟨_,⟨_,_,_,e,_⟩,_⟩:=x;exact Heap.lt_size e
 |rng lo hi=>obtain⟨_,_,_,e⟩:=x;exact Heap.lt_size e
 |frz ob u=>obtain⟨e,_⟩:=x;exact Heap.lt_size e
 |tbl ps=>exact Heap.lt_size (show h.get? a=some _ from x)
 |met f y=>exact Heap.lt_size (show h.get? a=some _ from x)
 |ext φ=>obtain⟨_,⟨_,e⟩,_⟩:=x;exact Heap.lt_size e
theorem eB.jM(x:eB P w H h a o)(k:∀ b u,(b=a \/ H b=some (.own a))->h.get? b=some u->h'.get? b=some u)
  (ho:∀ b,H b=some (.own a)->H' b=some (.own a)) (ht:∀ b xs,H b=some (.tup xs)->H' b=some (.tup xs)):eB P w H' h' a o:=by
 induction o with
 |lst xs=>obtain⟨z,its,n,r,e⟩:=x;exact⟨z,its,n,r,k _ _ (.inl rfl) e⟩
 |tup xs=>obtain⟨z,its,r,ob,e,c⟩:=x;exact⟨⟨z.1,z.2.keep e (k _ _ (.inl rfl) e)⟩,its,r,ob,k _ _ (.inl rfl) e,c⟩
 |dK kvs=>obtain⟨z,y,vs,r,ob,es,ep,e,c⟩:=x;exact⟨z,y,vs,r,ob,es,ep,k _ _ (.inl rfl) e,c⟩
 | dT kvs=>
   obtain⟨z,y,xs,r,ob,es,ep,e,c⟩:=x
   exact⟨z,y,xs,r,ob,es,ep,k _ _ (.inl rfl) e,c⟩
 |set S n=>obtain⟨ob,es,ep,t,e,c⟩:=x;exact⟨ob,es,ep,t,k _ _ (.inl rfl) e,c⟩
 | ins C dx fs=>
   obtain⟨d,z,ne,e,mA,⟨od,es,ep,e2,c⟩,r⟩:=x
   exact⟨ho _ d,z,ne,k _ _ (.inl rfl) e,mA,⟨od,es,ep,k _ _ (.inr d) e2,c⟩,r⟩
 |own y=>obtain⟨ob,e⟩:=x;exact⟨ob,k _ _ (.inl rfl) e⟩
 |xd fs=>obtain⟨mA,⟨od,es,ep,e,c⟩,r⟩:=x;exact⟨mA,⟨od,es,ep,k _ _ (.inl rfl) e,c⟩,r⟩
 |rng lo hi=>obtain⟨t,u,v,e⟩:=x;exact⟨t,u,v,k _ _ (.inl rfl) e⟩
 |frz ob u ih=>obtain⟨e,q⟩:=x;exact⟨k _ _ (.inl rfl) e,ih q⟩
 | tbl ps=>
   have e:h.get? a=some { cls:=.none,data:=.fields ps }:=x
   show h'.get? a=some { cls:=.none,data:=.fields ps };exact k a _ (.inl rfl) e
 | met f y=>
   have e:h.get? a=some (PySem.W.methodObj (.ref f) (.ref y)):=x
   show h'.get? a=some (PySem.W.methodObj (.ref f) (.ref y));exact k a _ (.inl rfl) e
 |ext φ=>obtain⟨p,⟨o,e⟩,st⟩:=x;exact⟨st _ _ p fun o q=>k _ _ (.inl rfl) q,⟨o,k _ _ (.inl rfl) e⟩,st⟩
theorem HOk.lt(x:HOk P w H h)(e:H a=some o):a<h.objs.size:=(x a o e).lt
theorem HOk.fresh(x:HOk P w H h)(e:h.objs.size<=a):H a=none:=by
 cases q:H a with
 |none=>rfl
 |some u=>exact absurd (Nat.lt_of_lt_of_le (x.lt q) e) (Nat.lt_irrefl _)
theorem HOk.kept(x:HOk P w H h)(k:∀ b u,h.get? b=some u->h'.get? b=some u):HOk P w H h':=fun a o e=>
 (x a o e).jM (fun b u _ q=>k b u q) (fun _ q=>q) fun _ _ q=>q
theorem HOk.laid(x:HOk P w H h)(k:∀ b u,h.get? b=some u->h'.get? b=some u)(hp:h.objs.size<=a)(new:eB P w (upd H a o) h' a o):HOk P w (upd H a o) h':=fun b u e=>by
 have hn:=x.fresh hp
 by_cases hb:b=a
 . subst hb;rw[aY]at e;cases e;exact new
 . rw[bB hb]at e
   exact(x b u e).jM (fun c v _ q=>k c v q) (fun c q=>by rw[bB (fb q hn)];exact q) fun c xs q=>by rw[bB (fb q hn)];exact q
end
noncomputable def Rd(H:Hp)(a:Addr)(u:HO):Prop:=H a=some u \/ ∃ o,H a=some (.frz o u)
theorem Rd.ok{P:Program}{w:World}{H:Hp}{h:Heap}{a:Addr}{u:HO}(r:Rd H a u)(x:HOk P w H h):eB P w H h a u:=by
 rcases r with r|⟨o,r⟩
 . exact x a u r
 . obtain⟨_,q⟩:=x a _ r;exact q
noncomputable def Mut:Option HO->Prop
 |some (.lst _)=>True
 |some (.dK _)=>True
 |some (.dT _)=>True
 |some (.set _ _)=>True
 |some (.ins _ _ _)=>True
 |some (.ext _)=>True
 |_=>False
section
variable{P:Program}{w:World}{H:Hp}{h h':Heap}{x e:Addr}{o':HO}
theorem HOk.write(ok:HOk P w H h)(mu:Mut (H x))(he:e=x \/ H e=some (.own x))(k:∀ b u,b≠e->h.get? b=some u->h'.get? b=some u)(heo:∃ u,h'.get? e=some u)
  (new:eB P w (upd H x o') h' x o'):HOk P w (upd H x o') h':=fun b u q=>by
 have nown:∀ c y,H c=some (.own y)->c≠x:=fun c y r z=>by subst z;rw[r]at mu;exact mu
 have ntup:∀ c xs,H c=some (.tup xs)->c≠x:=fun c xs r z=>by subst z;rw[r]at mu;exact mu
 by_cases hb:b=x
 . subst hb;rw[aY]at q;cases q;exact new
 . rw[bB hb]at q
   by_cases hbe:b=e
   . have q':H b = some (.own x):=by
      rcases he with z|z
      . exact absurd (hbe.trans z) hb
      . rw[hbe];exact z
     rw[q]at q';cases q';obtain⟨v,hv⟩:=heo
     exact⟨v,by rw[hbe];exact hv⟩
   . refine(ok b u q).jM (fun c v hc r=>k c v ?_ r) (fun c r=>by rw[bB (nown c b r)];exact r) fun c xs r=>by rw[bB (ntup c xs r)];exact r
     rcases hc with rfl|hc
     . exact hbe
     . rintro rfl
       rcases he with z|z
       . exact nown c b hc z
       . rw[hc]at z;cases z;exact hb rfl
end
structure Un(fs ex:List Addr)(H H':Hp)(h h':Heap):Prop where
 keep:∀ b o,h.get? b=some o->H b=none->b∉fs->b∉ex->h'.get? b=some o
 slot:∀ b o,h.get? b=some o->H b=none->b∈fs->b∉ex->∃ sl,h'.get? b=some { o with slots:=sl }
 free:∀ b o,h.get? b=some o->H b=none->b∉ex->H' b=none
 there:∀ b o,h.get? b=some o->b∉ex->∃ o',h'.get? b=some o'
 tups:∀ b xs,H b=some (.tup xs)->H' b=some (.tup xs)
 frzs:∀ b o u,H b=some (.frz o u)->H' b=some (.frz o u)
 tbls:∀ b ps,H b=some (.tbl ps)->∃ more,H' b=some (.tbl (ps++more))
section
variable{fs fs' ex ex':List Addr}{H H1 H2:Hp}{h h1 h2 h':Heap}{a x e:Addr}{o:HO}
theorem Un.any(u:Un fs ex H H1 h h1){b:Addr}{ob:Obj}(q:h.get? b=some ob)(n:H b=none)(hx:b∉ex):∃ sl,h1.get? b=some { ob with slots:=sl }:=by
 by_cases hb:b∈fs
 . exact u.slot b ob q n hb hx
 . exact⟨ob.slots,u.keep b ob q n hb hx⟩
theorem Un.kept(k:∀ b u,h.get? b=some u->h'.get? b=some u):Un fs ex H H h h':=
 ⟨fun b ob q _ _ _=>k b ob q,fun b ob q _ _ _=>⟨ob.slots,k b ob q⟩,fun _ _ _ n _=>n,fun b ob q _=>⟨ob,k b ob q⟩,fun _ _ q=>q,fun _ _ _ q=>q,fun _ ps q=>⟨#[],by rw[q];simp⟩⟩
theorem Un.refl:Un fs ex H H h h:=Un.kept fun _ _ q=>q
theorem Un.laid(k:∀ b u,h.get? b=some u->h'.get? b=some u)(hp:h.objs.size<=a)(hn:H a=none):Un fs ex H (upd H a o) h h' where
 keep:=fun b u q _ _ _=>k b u q
 slot:=fun b u q _ _ _=>⟨u.slots,k b u q⟩
 free:=fun b u q n _=>by rw[bB (Nat.ne_of_lt (Nat.lt_of_lt_of_le (Heap.lt_size q) hp))];exact n
 there:=fun b u q _=>⟨u,k b u q⟩
 tups:=fun b xs q=>by rw[bB (fb q hn)];exact q
 frzs:=fun b u xs q=>by rw[bB (fb q hn)];exact q
 tbls:=fun b ps q=>⟨#[],by rw[bB (fb q hn),q];simp⟩
theorem Un.write(mu:Mut (H x))(he:e=x \/ H e=some (.own x))(k:∀ b u,b≠e->h.get? b=some u->h'.get? b=some u)(heo:∃ u,h'.get? e=some u):Un fs ex H (upd H x o) h h':=by
 have hx:∀ b,H b=none->b≠x:=fun b n z=>by subst z;rw[n]at mu;exact mu
 have hb:∀ b,H b=none->b≠e:=fun b n z=>by
  subst z
  rcases he with r|r
  . exact hx b n r
  . rw[n]at r;cases r
 have hm:∀ b u,H b=some u->¬ Mut (some u)->b≠x:=fun b u q nm z=>by subst z;rw[q]at mu;exact nm mu
 refine⟨fun b u q n _ _=>k b u (hb b n) q,fun b u q n _ _=>⟨u.slots,k b u (hb b n) q⟩,fun b u q n _=>by rw[bB (hx b n)];exact n,fun b u q _=>?_,
  fun b xs q=>by rw[bB (hm b _ q fun z=>z)];exact q,fun b u xs q=>by rw[bB (hm b _ q fun z=>z)];exact q,fun b ps q=>⟨#[],by rw[bB (hm b _ q fun z=>z),q];simp⟩⟩
 by_cases hbe:b=e
 . subst hbe;exact heo
 . exact⟨u,k b u hbe q⟩
end
noncomputable def trk(h:Heap)(H:Hp):List Addr:=(List.range h.objs.size).filter fun a=>(H a).isSome
noncomputable def pQ(h:Heap)(H:Hp):Heap:=PySem.W.hideAll h (trk h H)
theorem uX(h:Heap)(H:Hp):(pQ h H).objs.size=h.objs.size:=PySem.W.hideAll_size _ _
theorem xa{h:Heap}{H:Hp}{b:Addr}{o:Obj}(e:h.get? b=some o)(n:H b=none):(pQ h H).get? b=some o:=
 PySem.W.hideAll_get _ e fun hm=>by
  have q:(H b).isSome=true:=(List.mem_filter.mp hm).2
  rw[n]at q;simp at q
theorem yb{h:Heap}{H:Hp}{b:Addr}{o:Obj}(e:(pQ h H).get? b=some o):h.get? b=some o /\ H b=none:=by
 have e':h.get? b=some o:=PySem.W.of_hideAll (trk h H) e
 refine⟨e',?_⟩
 cases q:H b with
 |none=>rfl
 | some x=>
   have hm:b∈trk h H:=List.mem_filter.mpr ⟨List.mem_range.mpr (Heap.lt_size e'),by simp[q]⟩
   have z:(pQ h H).get? b=none:=PySem.W.hideAll_none (trk h H) hm
   rw[z]at e;cases e
noncomputable def yW(g h:Heap)(L:Addr):List (Addr×Obj):=(List.range h.objs.size).filterMap fun a=>if a=L \/ (g.get? a).isSome=true then none else(h.get? a).map fun o=>(a,o)
noncomputable def rest(g h:Heap)(L d:Addr):List (Addr×Obj):=(yW g h L).filter fun p=>decide (p.1≠d)
structure Mod(K:PySem.W.Frag)(mg:Str->Option Value)(base:Heap):Prop where
 kin:K.In base
 glob:base.Ns mainGlobals mg
 blt:∃ mb,base.Ns builtinsNs mb /\ ∀ x:Str,x ≠ "__name__" -> mb x=bootBuiltins x
 nolimit:base.NoLimit
structure Cx where
 prog:Program
 w:World
 K:PySem.W.Frag
 mg:Str->Option Value
 base:Heap
 A:Around
 N:List Str
 s₀:Shared
 H₀:Hp
 env:Env
 outer:List Env
 stack:List Env
 ex:List Addr
 fn:Str->Bool
 calm:Bool
 pn:List (Addr×Obj)
 xe:Value->Shared->Prop
noncomputable def frs(l:List Env):List Addr:=l.filterMap (·.frame)
noncomputable abbrev Cx.fs(X:Cx):List Addr:=frs X.outer
noncomputable def Vis(sc:Scope)(x:Str):Prop:=sc.names.lookup x=some .local \/ sc.names.lookup x=some .cell \/ sc.names.lookup x=some .free
noncomputable def Loc(sc:Scope)(x:Str):Prop:=sc.names.lookup x=some .local \/ sc.names.lookup x=some .cell
noncomputable def Look(env:Env)(h:Heap)(m:Str->Option Value)(x:Str)(u:Value):Prop:=
 (env.kindOf x=some .local /\ m x=some u) \/ ((env.kindOf x=some .cell \/ env.kindOf x=some .free) /\ ∃ c,env.cells.lookup x=some c /\ h.IsCell c (some u))
structure Cx.Ok(X:Cx):Prop where
 mod:Mod X.K X.mg X.base
 kind:X.env.scope.kind=.function
 glob:X.env.globals=mainGlobals
 blt:X.env.builtins=builtinsNs
 above:X.s₀.heap.objs.size<=X.env.locals
 inj:∀ x y c,X.env.cells.lookup x=some c->X.env.cells.lookup y=some c->x=y
 has:∀ x,(X.env.kindOf x=some .cell \/ X.env.kindOf x=some .free)->∃ c,X.env.cells.lookup x=some c
 cab:∀ x c,X.fn x=true->X.env.cells.lookup x=some c->X.s₀.heap.objs.size<=c
 hd:X.calm=true->X.A.handled=none
 frames:X.A.frames=some X.stack
 stk:X.stack=X.outer \/ (X.stack=X.env ::X.outer /\ X.env.frame=some X.env.locals)
 exf:∀ b∈X.ex,b≠X.env.locals /\ ∀ x c,X.env.cells.lookup x=some c->c≠b
 bs:∀ b o,X.base.get? b=some o->X.s₀.heap.get? b=some o /\ X.H₀ b=none
 bsz:X.base.objs.size<=X.s₀.heap.objs.size
 noex:∀ b o,X.base.get? b=some o->b∉X.ex
 exfs:∀ b∈X.ex,b∉X.fs
 p9:X.s₀.heap.FunFrames X.base X.outer
 frf:∀ b∈X.fs,X.H₀ b=none
structure Inv(X:Cx)(pins:List (Addr×Obj))(σ:List (Option V))(H:Hp)(s:Shared):Prop where
 ok:X.Ok
 os:s.os=X.s₀.os
 bare:AllBare s.gens
 base:Un X.fs X.ex X.H₀ H X.s₀.heap s.heap
 loc:∃ m,s.heap.Ns X.env.locals m /\ ∀(i:Nat) (x:Str) (v:V),X.N[i]?=some x->σ[i]?=some (some v)->Vis X.env.scope x->∃ u,RelV v u /\ Look X.env s.heap m x u
 cell:∀ x c,X.env.cells.lookup x=some c->∃ v,s.heap.IsCell c v
 free:H X.env.locals=none
 freeC:∀ x c,X.env.cells.lookup x=some c->H c=none
 pin:∀ p∈X.pn++pins,s.heap.get? p.1=some p.2 /\ H p.1=none /\ p.1≠X.env.locals /\ p.1∉X.fs /\ ∀ v,p.2.data≠.cell v
 hok:HOk X.prog X.w H s.heap
 len:σ.length=X.N.length
section
variable{X:Cx}{pins:List (Addr×Obj)}{σ:List (Option V)}{H H':Hp}{s:Shared}{h':Heap}
theorem Cx.Ok.ER(ok:X.Ok){b:Addr}{o:Obj}(e:X.base.get? b=some o):b∉X.fs:=fun hb=>by
 have:=(ok.p9.mem hb).1;rw[e]at this;cases this
theorem Inv.bs(I:Inv X pins σ H s):∀ b o,X.base.get? b=some o->s.heap.get? b=some o /\ H b=none:=fun b o e=>
 ⟨I.base.keep b o (I.ok.bs b o e).1 (I.ok.bs b o e).2 (I.ok.ER e) (I.ok.noex b o e),I.base.free b o (I.ok.bs b o e).1 (I.ok.bs b o e).2 (I.ok.noex b o e)⟩
theorem Inv.bk(I:Inv X pins σ H s):∀ b o,X.base.get? b=some o->s.heap.get? b=some o:=fun b o e=>(I.bs b o e).1
theorem Inv.mod(I:Inv X pins σ H s):Mod X.K X.mg X.base:=I.ok.mod
theorem Inv.kIn(I:Inv X pins σ H s):X.K.In s.heap:=I.ok.mod.kin.keeps I.bk
theorem Inv.nolimit(I:Inv X pins σ H s):s.heap.NoLimit:=I.ok.mod.nolimit.keeps I.bk
theorem Inv.lt(I:Inv X pins σ H s):X.env.locals<s.heap.objs.size:=let ⟨_,hn,_⟩:=I.loc;hn.lt
theorem Inv.sz(I:Inv X pins σ H s):X.s₀.heap.objs.size<=s.heap.objs.size:=Nat.le_trans I.ok.above (Nat.le_of_lt I.lt)
theorem Inv.En(I:Inv X pins σ H s){a:Addr}(h:s.heap.objs.size<=a):a∉X.fs:=fun hb=>by
 obtain⟨_,o,ho,_⟩:=I.ok.p9.mem hb;exact absurd (Nat.lt_of_lt_of_le (Heap.lt_size ho) (Nat.le_trans I.sz h)) (Nat.lt_irrefl _)
theorem Inv.cne(I:Inv X pins σ H s):∀ x c,X.env.cells.lookup x=some c->c≠X.env.locals:=fun x c e z=>by
 obtain⟨v,o,ho,hd⟩:=I.cell x c e;obtain⟨m,⟨o',es,ep,ho',hd',_⟩,_⟩:=I.loc;rw[z,ho']at ho;cases ho;rw[hd']at hd;cases hd
theorem Inv.p9(I:Inv X pins σ H s):s.heap.FunFrames X.base X.outer:=by
 have all:∀(l:List Env),(∀ b∈frs l,b∈X.fs)->X.s₀.heap.FunFrames X.base l->s.heap.FunFrames X.base l:=by
  intro l
  induction l with
  |nil=>intro _ _;trivial
  | cons env r ih=>
    intro hs hl;obtain⟨hk,⟨L,o,hf,hn,ho,hd⟩,hr⟩:=hl
    have hL:L∈X.fs:=hs L (by unfold frs;rw[List.filterMap_cons,hf];exact List.mem_cons_self)
    obtain⟨sl,e⟩:=I.base.slot L o ho (I.ok.frf L hL) hL fun z=>I.ok.exfs L z hL
    exact⟨hk,⟨L,_,hf,hn,e,hd⟩,ih (fun b hb=>hs b (by unfold frs;rw[List.filterMap_cons,hf];exact List.mem_cons_of_mem _ hb)) hr⟩
 exact all X.outer (fun _ hb=>hb) I.ok.p9
theorem Inv.stack(I:Inv X pins σ H s):s.heap.FunFrames X.base X.stack:=by
 rcases I.ok.stk with e|⟨e,hf⟩
 . rw[e];exact I.p9
 . rw[e];obtain⟨m,hn,_⟩:=I.loc;refine .cons (by rw[I.ok.kind];decide) hf hn ?_ I.p9;exact Heap.get?_none_of_le (Nat.le_trans I.ok.bsz I.ok.above)
theorem Inv.rY(I:Inv X pins σ H s):∀ b∈frs X.stack,b∈X.env.locals ::X.fs:=fun b hb=>by
 rcases I.ok.stk with e|⟨e,hf⟩
 . rw[e]at hb;exact List.mem_cons_of_mem _ hb
 . rw[e]at hb;unfold frs at hb;rw[List.filterMap_cons,hf]at hb;exact hb
theorem Inv.pK(I:Inv X pins σ H s):∀ b∈frs X.stack,H b=none:=fun b hb=>by
 rcases List.mem_cons.mp (I.rY b hb)with e|hb
 . rw[e];exact I.free
 . obtain⟨_,o,ho,_⟩:=I.ok.p9.mem hb
   exact I.base.free b o ho (I.ok.frf b hb) fun z=>I.ok.exfs b z hb
theorem Inv.step{g':Array GenState}{t':Nat}{d':Drawn}{ch:List Addr}(I:Inv X pins σ H s)
  (hch:∀ b∈ch,(b∈X.ex \/ X.s₀.heap.objs.size<=b) /\ b≠X.env.locals /\ (∀ x c,X.env.cells.lookup x=some c->c≠b) /\ ∀ p∈X.pn++pins,p.1≠b)
  (keep:∀ b o,b≠X.env.locals->b∉X.fs->b∉ch->s.heap.get? b=some o->H b=none->h'.get? b=some o)
  (slot:∀ b o,b≠X.env.locals->b∈X.fs->b∉ch->s.heap.get? b=some o->H b=none->∃ sl,h'.get? b=some { o with slots:=sl }) (free:∀ b o,b∉ch->s.heap.get? b=some o->H b=none->H' b=none)
  (there:∀ b o,b∉ch->s.heap.get? b=some o->∃ o',h'.get? b=some o')
  (tups:∀ b xs,H b=some (.tup xs)->H' b=some (.tup xs)) (frzs:∀ b o u,H b=some (.frz o u)->H' b=some (.frz o u)) (tbls:∀ b ps,H b=some (.tbl ps)->∃ more,H' b=some (.tbl (ps++more)))
  (ns:∀ m,s.heap.Ns X.env.locals m->h'.Ns X.env.locals m) (hok:HOk X.prog X.w H' h') (hg:AllBare g'):
  Inv X pins σ H' { s with heap:=h',gens:=g',drawn:=d',toks:=t' }:=by
 have neL:∀ b o,X.s₀.heap.get? b=some o->b≠X.env.locals:=fun b o e=>Nat.ne_of_lt (Nat.lt_of_lt_of_le (Heap.lt_size e) I.ok.above)
 have neC:∀ b o,X.s₀.heap.get? b=some o->b∉X.ex->b∉ch:=fun b o e hx hb=>by
  rcases(hch b hb).1 with z|z
  . exact hx z
  . exact absurd (Nat.lt_of_lt_of_le (Heap.lt_size e) z) (Nat.lt_irrefl _)
 have cellK:∀ x c,X.env.cells.lookup x=some c->∀ v,s.heap.IsCell c v->h'.IsCell c v:=fun x c e v ⟨o,ho,hd⟩=>by
  have nch:c∉ch:=fun z=>(hch c z).2.2.1 x c e rfl
  by_cases hc:c∈X.fs
  . obtain⟨sl,q⟩:=slot c o (I.cne x c e) hc nch ho (I.freeC x c e)
    exact⟨_,q,hd⟩
  . exact⟨o,keep c o (I.cne x c e) hc nch ho (I.freeC x c e),hd⟩
 refine⟨I.ok,I.os,hg,⟨fun b o e n hb hx=>?_,fun b o e n hb hx=>?_,fun b o e n hx=>?_,fun b o e hx=>?_,fun b xs e=>tups b xs (I.base.tups b xs e),fun b o xs e=>frzs b o xs (I.base.frzs b o xs e),fun b ps e=>?_⟩,?_,fun x c e=>?_,?_,fun x c e=>?_,fun p hp=>?_,hok,I.len⟩
 . exact keep b o (neL b o e) hb (neC b o e hx) (I.base.keep b o e n hb hx) (I.base.free b o e n hx)
 . obtain⟨sl,e1⟩:=I.base.slot b o e n hb hx;obtain⟨sl',e2⟩:=slot b _ (neL b o e) hb (neC b o e hx) e1 (I.base.free b o e n hx)
   exact⟨sl',e2⟩
 . obtain⟨o',e1⟩:=I.base.there b o e hx;exact free b o' (neC b o e hx) e1 (I.base.free b o e n hx)
 . obtain⟨o',e1⟩:=I.base.there b o e hx;exact there b o' (neC b o e hx) e1
 . obtain⟨m1,e1⟩:=I.base.tbls b ps e;obtain⟨m2,e2⟩:=tbls b _ e1
   exact⟨m1++m2,by rw[e2,Array.append_assoc]⟩
 . obtain⟨m,hn,hl⟩:=I.loc
   refine⟨m,ns m hn,fun i x v e1 e2 e3=>?_⟩
   obtain⟨u,r,l⟩:=hl i x v e1 e2 e3
   refine⟨u,r,?_⟩
   rcases l with l|⟨k,c,e,z⟩
   . exact .inl l
   . exact .inr ⟨k,c,e,cellK x c e _ z⟩
 . obtain⟨v,z⟩:=I.cell x c e
   exact⟨v,cellK x c e v z⟩
 . obtain⟨m,⟨o,_,_,ho,_⟩,_⟩:=I.loc;exact free _ o (fun z=>(hch _ z).2.1 rfl) ho I.free
 . obtain⟨v,o,ho,hd⟩:=I.cell x c e;exact free c o (fun z=>(hch c z).2.2.1 x c e rfl) ho (I.freeC x c e)
 . obtain⟨e,n,ne,nf,d⟩:=I.pin p hp
   have nch:p.1∉ch:=fun z=>(hch p.1 z).2.2.2 p hp rfl
   exact⟨keep p.1 p.2 ne nf nch e n,free p.1 p.2 nch e n,ne,nf,d⟩
theorem Inv.un{t':Nat}(I:Inv X pins σ H s)(u:Un X.fs [] H H' s.heap h')(hok:HOk X.prog X.w H' h'):Inv X pins σ H' { s with heap:=h',toks:=t' }:=by
 obtain⟨m,⟨o,es,ep,ho,r⟩,_⟩:=id I.loc;obtain⟨sl,hL⟩:=u.any ho I.free (by simp)
 exact I.step (g':=s.gens) (d':=s.drawn) (ch:=[]) (fun _ z=>nomatch z) (fun b o _ hb _ e n=>u.keep b o e n hb (by simp)) (fun b o _ hb _ e n=>u.slot b o e n hb (by simp)) (fun b o _ e n=>u.free b o e n (by simp)) (fun b o _ e=>u.there b o e (by simp)) u.tups u.frzs u.tbls (fun m' hm=>by
  obtain⟨o',es',ep',ho',r'⟩:=hm;rw[ho]at ho';cases ho'
  exact⟨_,es',ep',hL,r'⟩) hok I.bare
theorem Inv.call{g':Array GenState}{t':Nat}{d':Drawn}{ch:List Addr}(I:Inv X pins σ H s)(u:Un (frs X.stack) ch H H' s.heap h')(hok:HOk X.prog X.w H' h')(hg:AllBare g')
  (hch:∀ b∈ch,(b∈X.ex \/ X.s₀.heap.objs.size<=b) /\ b≠X.env.locals /\ (∀ x c,X.env.cells.lookup x=some c->c≠b) /\ ∀ p∈X.pn++pins,p.1≠b):
  Inv X pins σ H' { s with heap:=h',gens:=g',drawn:=d',toks:=t' }:=by
 obtain⟨m,⟨o,es,ep,ho,r⟩,_⟩:=id I.loc
 obtain⟨sl,hL⟩:=u.any ho I.free fun z=>(hch _ z).2.1 rfl
 exact I.step (ch:=ch) hch (fun b o hL hb hc e n=>u.keep b o e n (fun z=>(List.mem_cons.mp (I.rY b z)).elim hL hb) hc) (fun b o _ _ hc e n=>u.any e n hc) (fun b o hc e n=>u.free b o e n hc) (fun b o hc e=>u.there b o e hc) u.tups u.frzs u.tbls (fun m' hm=>by
  obtain⟨o',es',ep',ho',r'⟩:=hm;rw[ho]at ho';cases ho'
  exact⟨_,es',ep',hL,r'⟩) hok hg
theorem Inv.turned{t':Nat}{it:Addr}(I:Inv X pins σ H s)(k:∀ b o,b≠it->s.heap.get? b=some o->h'.get? b=some o)(hn:H it=none)(hL:it≠X.env.locals)
  (h1:it∈X.ex \/ X.s₀.heap.objs.size<=it) (h2:∀ x c,X.env.cells.lookup x=some c->c≠it) (h3:∀ p∈X.pn++pins,p.1≠it):Inv X pins σ H { s with heap:=h',toks:=t' }:=by
 have nit:∀ b u,H b=some u->b≠it:=fun b u e z=>by rw[z,hn]at e;cases e
 refine I.step (g':=s.gens) (d':=s.drawn) (ch:=[it]) (fun b hb=>?_) (fun b o _ _ hc e _=>k b o (fun z=>hc (by simp[z])) e) (fun b o _ _ hc e _=>⟨o.slots,k b o (fun z=>hc (by simp[z])) e⟩) (fun _ _ _ _ n=>n)
  (fun b o hc e=>⟨o,k b o (fun z=>hc (by simp[z])) e⟩) (fun _ _ e=>e) (fun _ _ _ e=>e) (fun b ps e=>⟨#[],by rw[e];simp⟩) (fun m hm=>?_) (fun b u e=>?_) I.bare
 . have e:b=it:=by simpa using hb
   subst e
   exact⟨h1,hL,h2,h3⟩
 . obtain⟨o,es,ep,ho,r⟩:=hm
   exact⟨o,es,ep,k _ o (Ne.symm hL) ho,r⟩
 . refine(I.hok b u e).jM (fun c v hc q=>k c v ?_ q) (fun _ q=>q) fun _ _ q=>q
   rcases hc with z|z
   . rw[z];exact nit b u e
   . exact nit c _ z
theorem Inv.tok(I:Inv X pins σ H s)(t:Nat):Inv X pins σ H { s with toks:=t }:=I.un (h':=s.heap) (t':=t) Un.refl I.hok
theorem Inv.kept{t':Nat}(I:Inv X pins σ H s)(k:∀ b u,s.heap.get? b=some u->h'.get? b=some u):Inv X pins σ H { s with heap:=h',toks:=t' }:=I.un (Un.kept k) (I.hok.kept k)
theorem Inv.laid{a:Addr}{o:HO}{t':Nat}(I:Inv X pins σ H s)(k:∀ b u,s.heap.get? b=some u->h'.get? b=some u)(hp:s.heap.objs.size<=a)(new:eB X.prog X.w (upd H a o) h' a o):
  Inv X pins σ (upd H a o) { s with heap:=h',toks:=t' }:=I.un (Un.laid k hp (I.hok.fresh hp)) (I.hok.laid k hp new)
theorem Inv.write{x e:Addr}{o:HO}{t':Nat}(I:Inv X pins σ H s)(mu:Mut (H x))(he:e=x \/ H e=some (.own x))(k:∀ b u,b≠e->s.heap.get? b=some u->h'.get? b=some u)(heo:∃ u,h'.get? e=some u)
  (new:eB X.prog X.w (upd H x o) h' x o):Inv X pins σ (upd H x o) { s with heap:=h',toks:=t' }:=I.un (Un.write mu he k heo) (I.hok.write mu he k heo new)
theorem Inv.t6{pins':List (Addr×Obj)}(I:Inv X pins σ H s)(h:∀ p∈pins',s.heap.get? p.1=some p.2 /\ H p.1=none /\ p.1≠X.env.locals /\ p.1∉X.fs /\ ∀ v,p.2.data≠.cell v):Inv X pins' σ H s:=
 ⟨I.ok,I.os,I.bare,I.base,I.loc,I.cell,I.free,I.freeC,fun p hp=>(List.mem_append.mp hp).elim (fun z=>I.pin p (List.mem_append_left _ z)) (h p),I.hok,I.len⟩
theorem qX{N:List Str}(hN:N.Nodup){i j:Nat}{x:Str}(a:N[i]?=some x)(b:N[j]?=some x):i=j:=by
 obtain⟨h1,e1⟩:=List.getElem?_eq_some_iff.mp a;obtain⟨h2,e2⟩:=List.getElem?_eq_some_iff.mp b
 exact(List.getElem_inj hN).mp (e1.trans e2.symm)
theorem vQ{M:Model}{A:Around}{E:Value->Shared->Prop}{i:Nat}{x:Str}{v:V}{u:Value}{Q:Unit->Shared->Prop}(I:Inv X pins σ H s)(hN:X.N.Nodup)(hi:X.N[i]?=some x)(hx:Loc X.env.scope x)(r:RelV v u)
  (h:∀ s',Inv X pins (σ.set i (some v)) H s'->(∃ a,Heap.SameBut a s.heap s'.heap /\ (a=X.env.locals \/ X.env.cells.lookup x=some a))->Q () s') (hf:X.fn x=true \/ X.env.scope.names.lookup x=some .local:=by first|exact .inl rfl|exact .inr rfl|assumption):wpAny M A (storeName X.env x u) Q E s:=by
 obtain⟨m,hn,hl⟩:=id I.loc
 have hcls:(X.env.scope.kind == .class||(X.env.scope.kind == .module&&X.env.locals != X.env.globals))=false:=by rw[I.ok.kind];rfl
 have hiσ:i<σ.length:=by rw[I.len];exact(List.getElem?_eq_some_iff.mp hi).1
 have cne:=I.cne
 have tracked:∀{a:Addr} {h':Heap},(∃ o,s.heap.get? a=some o /\ H a=none)->Heap.SameBut a s.heap h'->HOk X.prog X.w H h':=fun {a h'} ha hs b ob e=>by
  obtain⟨_,_,hfree⟩:=ha
  refine(I.hok b ob e).jM (fun c w' hc q=>(hs.2 c ?_).trans q) (fun _ q=>q) fun _ _ q=>q
  rintro rfl
  rcases hc with rfl|hc
  . rw[hfree]at e;cases e
  . rw[hfree]at hc;cases hc
 rcases hx with hk|hk
 . refine wpAny_storeName_local hk hn (fun h' hn' hs=>?_) hcls;obtain⟨oL,_,_,hoL,_⟩:=id hn;refine h _ ⟨I.ok,I.os,I.bare,⟨fun b o e n hb hx=>?_,fun b o e n hb hx=>?_,I.base.free,fun b o e hx=>?_,I.base.tups,I.base.frzs,I.base.tbls⟩,⟨_,hn',fun j y v' e1 e2 e3=>?_⟩,fun y c e=>?_,I.free,I.freeC,fun p hp=>?_,tracked ⟨oL,hoL,I.free⟩ hs,by simpa using I.len⟩ ⟨_,hs,.inl rfl⟩
   . exact(hs.2 b (Nat.ne_of_lt (Nat.lt_of_lt_of_le (Heap.lt_size e) I.ok.above))).trans (I.base.keep b o e n hb hx)
   . obtain⟨sl,e1⟩:=I.base.slot b o e n hb hx
     exact⟨sl,(hs.2 b (Nat.ne_of_lt (Nat.lt_of_lt_of_le (Heap.lt_size e) I.ok.above))).trans e1⟩
   . obtain⟨o',e1⟩:=I.base.there b o e hx
     exact⟨o',(hs.2 b (Nat.ne_of_lt (Nat.lt_of_lt_of_le (Heap.lt_size e) I.ok.above))).trans e1⟩
   . by_cases hj:j=i
     . subst hj;rw[hi]at e1;cases e1;rw[List.getElem?_set_self hiσ]at e2;cases e2
       exact⟨u,r,.inl ⟨hk,by simp⟩⟩
     . rw[List.getElem?_set_ne (Ne.symm hj)]at e2;obtain⟨u',r',q⟩:=hl j y v' e1 e2 e3
       refine⟨u',r',?_⟩
       rcases q with⟨k,e⟩|⟨k,c,e,z⟩
       . refine .inl ⟨k,?_⟩
         have:y≠x:=fun e=>hj (qX hN e1 (e ▸ hi))
         simp[this,e]
       . exact .inr ⟨k,c,e,z.sameBut hs (cne y c e)⟩
   . obtain⟨w',z⟩:=I.cell y c e
     exact⟨w',z.sameBut hs (cne y c e)⟩
   . obtain⟨e,n,ne,nf,d⟩:=I.pin p hp
     exact⟨(hs.2 p.1 ne).trans e,n,ne,nf,d⟩
 . have hfn:X.fn x = true:=by
    rcases hf with z|z
    . exact z
    . rw[z]at hk;cases hk
   obtain⟨c,hc⟩:=I.ok.has x (.inl hk);obtain⟨w',z⟩:=I.cell x c hc;refine wpAny_storeName_cell I.ok.kind hk hc z (fun h' hc' hs=>?_);obtain⟨oc,hoc,hocd⟩:=id z;refine h { s with heap:=h' } ⟨I.ok,I.os,I.bare,⟨fun b o e n hb hx=>?_,fun b o e n hb hx=>?_,I.base.free,fun b o e hx=>?_,I.base.tups,I.base.frzs,I.base.tbls⟩,⟨m,hn.sameBut hs (Ne.symm (cne x c hc)),fun j y v' e1 e2 e3=>?_⟩,fun y c' e=>?_,I.free,I.freeC,fun p hp=>?_,tracked ⟨oc,hoc,I.freeC x c hc⟩ hs,by simpa using I.len⟩ ⟨c,hs,.inr hc⟩
   . exact(hs.2 b (Nat.ne_of_lt (Nat.lt_of_lt_of_le (Heap.lt_size e) (I.ok.cab x c hfn hc)))).trans (I.base.keep b o e n hb hx)
   . obtain⟨sl,e1⟩:=I.base.slot b o e n hb hx
     exact⟨sl,(hs.2 b (Nat.ne_of_lt (Nat.lt_of_lt_of_le (Heap.lt_size e) (I.ok.cab x c hfn hc)))).trans e1⟩
   . obtain⟨o',e1⟩:=I.base.there b o e hx
     exact⟨o',(hs.2 b (Nat.ne_of_lt (Nat.lt_of_lt_of_le (Heap.lt_size e) (I.ok.cab x c hfn hc)))).trans e1⟩
   . by_cases hj:j=i
     . subst hj;rw[hi]at e1;cases e1;rw[List.getElem?_set_self hiσ]at e2;cases e2
       exact⟨u,r,.inr ⟨.inl hk,c,hc,hc'⟩⟩
     . rw[List.getElem?_set_ne (Ne.symm hj)]at e2;obtain⟨u',r',q⟩:=hl j y v' e1 e2 e3
       refine⟨u',r',?_⟩
       rcases q with q|⟨k,c',e,z'⟩
       . exact .inl q
       . refine .inr ⟨k,c',e,z'.sameBut hs ?_⟩
         rintro rfl
         exact hj (qX hN e1 (I.ok.inj _ _ _ e hc ▸ hi))
   . by_cases hcc:c'=c
     . subst hcc;exact⟨_,hc'⟩
     . obtain⟨w2,z2⟩:=I.cell y c' e
       exact⟨w2,z2.sameBut hs hcc⟩
   . obtain⟨e,n,ne,nf,d⟩:=I.pin p hp
     refine⟨(hs.2 p.1 ?_).trans e,n,ne,nf,d⟩
     intro q;rw[q,hoc]at e
     have q':oc=p.2:=Option.some.inj e
     exact d w' (by rw[<- q'];exact hocd)
theorem kf{M:Model}{A:Around}{E:Value->Shared->Prop}{i:Nat}{x:Str}{v:V}{u:Value}{Q:Unit->Shared->Prop}(I:Inv X pins σ H s)(hN:X.N.Nodup)(hi:X.N[i]?=some x)(hx:Loc X.env.scope x)(r:RelV v u)
  (h:∀ s',Inv X pins (σ.set i (some v)) H s'->Q () s') (hf:X.fn x=true \/ X.env.scope.names.lookup x=some .local:=by first|exact .inl rfl|exact .inr rfl|assumption):wpAny M A (storeName X.env x u) Q E s:=
 vQ I hN hi hx r (fun s' I' _=>h s' I') hf
theorem Inv.zA{s':Shared}{ch:List Addr}(I:Inv X pins σ H s)(ho:s'.os=s.os)(u:Un (frs X.stack) ch H H' s.heap s'.heap)(hok:HOk X.prog X.w H' s'.heap)(hg:AllBare s'.gens)
  (hch:∀ b∈ch,(b∈X.ex \/ X.s₀.heap.objs.size<=b) /\ b≠X.env.locals /\ (∀ x c,X.env.cells.lookup x=some c->c≠b) /\ ∀ p∈X.pn++pins,p.1≠b):Inv X pins σ H' s':=by
 obtain⟨h',g',d',t',o'⟩:=s'
 have e:o'=s.os:=ho
 subst e;exact I.call (g':=g') (t':=t') (d':=d') u hok hg hch
end
abbrev XK:=Value->Option Addr->Hp->Prop
abbrev St:=List (Option V)
abbrev VK:=V->Hp->Prop
abbrev TE:=St->Hp->VK->Prop
abbrev TT:=St->Hp->(Bool->Hp->Prop)->Prop
abbrev TA:=St->Hp->(List V->Hp->Prop)->Prop
structure Ends where
 nx:St->Hp->Prop
 rt:VK
 bk:St->Hp->Prop:=fun _ _=>False
 ct:St->Hp->Prop:=fun _ _=>False
abbrev TS:=Ends->St->Hp->Prop
noncomputable def EP(X:Cx)(pins:List (Addr×Obj))(σ:St)(Q:VK)(u:Value)(s':Shared):Prop:=∃ v H',Inv X pins σ H' s' /\ RelV v u /\ Q v H'
noncomputable def TP(X:Cx)(pins:List (Addr×Obj))(σ:St)(Q:Bool->Hp->Prop)(b:Bool)(s':Shared):Prop:=∃ H',Inv X pins σ H' s' /\ Q b H'
noncomputable def AP(X:Cx)(pins:List (Addr×Obj))(σ:St)(Q:List V->Hp->Prop)(us:List Value)(s':Shared):Prop:=∃ vs H',Inv X pins σ H' s' /\ Vals vs us /\ Q vs H'
noncomputable def SP(X:Cx)(pins:List (Addr×Obj))(D:Ends)(f:Flow)(s':Shared):Prop:=
 match f with
 |.next=>∃ σ' H',Inv X pins σ' H' s' /\ D.nx σ' H'
 |.brk=>∃ σ' H',Inv X pins σ' H' s' /\ D.bk σ' H'
 |.cont=>∃ σ' H',Inv X pins σ' H' s' /\ D.ct σ' H'
 |.ret u=>∃ v σ' H',Inv X pins σ' H' s' /\ RelV v u /\ D.rt v H'
noncomputable def PE(X:Cx)(e:Expr)(t:TE):Prop:=
 ∀(pins:List (Addr×Obj)) (s:Shared) (σ:St) (H:Hp) (Q:VK),Inv X pins σ H s->t σ H Q->wpAny (model X.prog X.w) X.A (eval e X.env) (EP X pins σ Q) X.xe s
noncomputable def PT(X:Cx)(e:Expr)(t:TT):Prop:=
 ∀(pins:List (Addr×Obj)) (s:Shared) (σ:St) (H:Hp) (Q:Bool->Hp->Prop),Inv X pins σ H s->t σ H Q->wpAny (model X.prog X.w) X.A (isTrue e X.env (eval e X.env)) (TP X pins σ Q) X.xe s
noncomputable def PW(X:Cx)(e:Expr)(t:TT):Prop:=
 ∀(whole:Sem Value) (pins:List (Addr×Obj)) (s:Shared) (σ:St) (H:Hp) (Q:Bool->Hp->Prop),Inv X pins σ H s->t σ H Q->wpAny (model X.prog X.w) X.A (isTrue e X.env whole) (TP X pins σ Q) X.xe s
theorem PW.pt{X:Cx}{e:Expr}{t:TT}(h:PW X e t):PT X e t:=h _
noncomputable def PA(X:Cx)(es:List Expr)(t:TA):Prop:=
 ∀(pos:Pos) (pins:List (Addr×Obj)) (s:Shared) (σ:St) (H:Hp) (Q:List V->Hp->Prop),Inv X pins σ H s->t σ H Q->wpAny (model X.prog X.w) X.A (spliced (backTo pos (starEach es X.env))) (AP X pins σ Q) X.xe s
noncomputable def PS(X:Cx)(st:Stmt)(t:TS):Prop:=
 ∀(pins:List (Addr×Obj)) (s:Shared) (σ:St) (H:Hp) (D:Ends),Inv X pins σ H s->t D σ H->wpAny (model X.prog X.w) X.A (exec st X.env) (SP X pins D) X.xe s
noncomputable def PSs(X:Cx)(st:List Stmt)(t:TS):Prop:=
 ∀(pins:List (Addr×Obj)) (s:Shared) (σ:St) (H:Hp) (D:Ends),Inv X pins σ H s->t D σ H->wpAny (model X.prog X.w) X.A (execs st X.env) (SP X pins D) X.xe s
theorem thn{α:Type}{t:Sem α}{Q Q':α->Shared->Prop}{M:Model}{A:Around}{E:Value->Shared->Prop}{s:Shared}(h:wpAny M A t Q E s)(hQ:∀ a s,Q a s->Q' a s):wpAny M A t Q' E s:=wpAny_mono h hQ fun _ _ x=>x
section
variable{X:Cx}
theorem bin{a b:Expr}{ta tb:TE}(ha:PE X a ta)(hb:PE X b tb){pins:List (Addr×Obj)}{s:Shared}{σ:St}{H:Hp}{R:V->V->Hp->Prop}(I:Inv X pins σ H s)(h:ta σ H fun x H1=>tb σ H1 fun y H2=>R x y H2)
  {α:Type} {Q:α->Shared->Prop} {f:Value->Value->Sem α}
  (hf:∀ v u s2 x y H2,Inv X pins σ H2 s2->RelV x v->RelV y u->R x y H2->wpAny (model X.prog X.w) X.A (f v u) Q X.xe s2):
  wpAny (model X.prog X.w) X.A (eval a X.env) (fun v s₁=>wpAny (model X.prog X.w) X.A (eval b X.env) (fun u s₂=>wpAny (model X.prog X.w) X.A (f v u) Q X.xe s₂) X.xe s₁) X.xe s:=by
 refine thn (ha pins s σ H _ I h) fun v s1 ⟨x,H1,I1,r1,q1⟩=>?_
 refine thn (hb pins s1 σ H1 _ I1 q1) fun u s2 ⟨y,H2,I2,r2,q2⟩=>?_
 exact hf v u s2 x y H2 I2 r1 r2 q2
noncomputable def tm(i:Nat):TE:=fun σ H Q=>∃ v,σ[i]?=some (some v) /\ Q v H
noncomputable def tC(v:V):TE:=fun _ H Q=>Q v H
theorem BY{i:Nat}{x:Str}{pos:Pos}(hN:X.N[i]?=some x)(hv:Vis X.env.scope x)(hd:(x==("__debug__":Str))=false:=by decide)(hcd:(x==("__classdict__":Str))=false:=by decide):PE X (.Name x pos) (tm i):=by
 intro pins s σ H Q I h;obtain⟨v,e,h⟩:=h;obtain⟨m,hn,hl⟩:=I.loc;obtain⟨u,r,l⟩:=hl i x v hN e hv
 have fin:EP X pins σ Q u s:=⟨v,H,I,r,h⟩
 rcases l with⟨hk,hm⟩|⟨hk,c,hc,hcell⟩
 . exact wpAny_Name (wpAny_loadName_local I.ok.kind hk hn hm fin) hd
 . rcases hk with hk|hk
   . exact wpAny_Name (wpAny_loadName_cell I.ok.kind hk hc hcell fin) hd
   . exact wpAny_Name (wpAny_loadName_free I.ok.kind hk hc hcell fin hcd) hd
theorem CG{i j pos}:PE X (.Constant (.int i) j pos) (tC (.int i)):=fun _ _ _ H _ I h=>wpAny_Constant_int ⟨.int i,H,I.tok _,⟨_,rfl⟩,h⟩
theorem Dg{b j pos}:PE X (.Constant (.bool b) j pos) (tC (.bl b)):=fun _ _ _ H _ I h=>Constant_bool ⟨.bl b,H,I,rfl,h⟩
theorem AO{j pos}:PE X (.Constant .none j pos) (tC .non):=fun _ _ _ H _ I h=>Constant_none ⟨.non,H,I,rfl,h⟩
theorem A6{x j pos}:PE X (.Constant (.str x) j pos) (tC (.str x)):=fun _ _ _ H _ I h=>Calls.Constant_str ⟨.str x,H,I.tok _,⟨_,rfl⟩,h⟩
noncomputable def Gl(X:Cx)(x:Str):Prop:=X.env.kindOf x=some .globalImplicit
theorem yN{E:Value->Shared->Prop}{pins:List (Addr×Obj)}{s:Shared}{σ:St}{H:Hp}{x:Str}{u:Value}{pos:Pos}{Q:Value->Shared->Prop}(I:Inv X pins σ H s)(hg:Gl X x)(hm:X.mg x=some u)(h:Q u s)
  (hd:(x==("__debug__":Str))=false:=by decide):wpAny (model X.prog X.w) X.A (eval (.Name x pos) X.env) Q E s:=
 Calls.Name_function_global I.ok.kind hg (Calls.loadGlobal_global (by rw[I.ok.glob];exact I.mod.glob.keeps I.bk) hm h) hd
theorem i3{E:Value->Shared->Prop}{pins:List (Addr×Obj)}{s:Shared}{σ:St}{H:Hp}{x:Str}{u:Value}{pos:Pos}{Q:Value->Shared->Prop}(I:Inv X pins σ H s)(hg:Gl X x)(hm:X.mg x=none)(hv:bootBuiltins x=some u)(h:Q u s)
  (hn:x ≠ "__name__":=by decide) (hd:(x==("__debug__":Str))=false:=by decide):wpAny (model X.prog X.w) X.A (eval (.Name x pos) X.env) Q E s:=by
 obtain⟨mb,h1,h2⟩:=I.mod.blt;exact Calls.Name_function_global I.ok.kind hg (Calls.loadGlobal_builtin (by rw[I.ok.glob];exact I.mod.glob.keeps I.bk) hm (by rw[I.ok.blt];exact h1.keeps I.bk) ((h2 x hn).trans hv) h) hd
theorem zo{x:Str}{v:V}{u:Value}{pos:Pos}(hg:Gl X x)(hm:X.mg x=none)(hv:bootBuiltins x=some u)(r:RelV v u)(hn:x ≠ "__name__":=by decide)(hd:(x==("__debug__":Str))=false:=by decide):PE X (.Name x pos) (tC v):=
 fun _ _ _ H _ I h=>i3 I hg hm hv ⟨v,H,I,r,h⟩ hn hd
variable{a b:Expr}{ta tb:TE}{pos:Pos}
noncomputable def PC(X:Cx)(op:CmpOp)(a b:Expr)(t:TE):Prop:=
 ∀(pins:List (Addr×Obj)) (s:Shared) (σ:St) (H:Hp) (Q:VK),Inv X pins σ H s->t σ H Q ->
   wpAny (model X.prog X.w) X.A (eval a X.env) (fun v s₁=>wpAny (model X.prog X.w) X.A (eval b X.env) (fun u s₂=>wpAny (model X.prog X.w) X.A (compareOp op v u) (EP X pins σ Q) X.xe s₂) X.xe s₁) X.xe s
variable{tA tB':TT}{rest:List Expr}
noncomputable def AX(t u:TT):TT:=fun σ H Q=>t σ H fun c H1=>if c=true then u σ H1 Q else Q false H1
noncomputable def tOr(t u:TT):TT:=fun σ H Q=>t σ H fun c H1=>if c=true then Q true H1 else u σ H1 Q
noncomputable def AM(t:TT):TT:=fun σ H Q=>t σ H fun c H1=>Q (!c) H1
theorem yO(ha:PT X a tA):PW X (.BoolOp .And [a] pos) tA:=by
 intro wh pins s σ H Q I h;refine isTrue_and (thn (ha pins s σ H Q I h) fun c s1 e=>?_)
 cases c with
 |true=>exact isTrue_and_nil e
 |false=>exact e
theorem BI(ha:PT X a tA):PW X (.BoolOp .Or [a] pos) tA:=by
 intro wh pins s σ H Q I h;refine isTrue_or (thn (ha pins s σ H Q I h) fun c s1 e=>?_)
 cases c with
 |false=>exact isTrue_or_nil e
 |true=>exact e
theorem CK(ha:PT X a tA)(hb:PW X (.BoolOp .And (b ::rest) pos) tB'):PW X (.BoolOp .And (a ::b ::rest) pos) (AX tA tB'):=by
 intro wh pins s σ H Q I h;refine isTrue_and (thn (ha pins s σ H _ I h) fun c s1 ⟨H1,I1,q1⟩=>?_)
 cases c with
 |true=>exact hb wh pins s1 σ H1 Q I1 q1
 |false=>exact⟨H1,I1,q1⟩
theorem Ds(ha:PT X a tA)(hb:PW X (.BoolOp .Or (b ::rest) pos) tB'):PW X (.BoolOp .Or (a ::b ::rest) pos) (tOr tA tB'):=by
 intro wh pins s σ H Q I h;refine isTrue_or (thn (ha pins s σ H _ I h) fun c s1 ⟨H1,I1,q1⟩=>?_)
 cases c with
 |true=>exact⟨H1,I1,q1⟩
 |false=>exact hb wh pins s1 σ H1 Q I1 q1
theorem CJ(ha:PT X a tA):PT X (.UnaryOp .Not a pos) (AM tA):=by
 intro pins s σ H Q I h;exact isTrue_not (ha pins s σ H (fun c H1=>Q (!c) H1) I h)
noncomputable def wY(ta tb:TE):TE:=fun σ H Q=>ta σ H fun x H1=>∃ c,x=.bl c /\ if c=true then tb σ H1 Q else Q (.bl false) H1
theorem Bv{op}{t:TE}(h:PE X a t):PE X (.BoolOp op [a] pos) t:=fun pins s σ H Q I hw=>BoolOp_one (h pins s σ H Q I hw)
theorem CD(ha:PE X a ta)(hb:PE X (.BoolOp .And (b ::rest) pos) tb):PE X (.BoolOp .And (a ::b ::rest) pos) (wY ta tb):=by
 intro pins s σ H Q I h;refine BoolOp_and (thn (ha pins s σ H _ I h) fun v s1 ⟨x,H1,I1,r1,q1⟩=>?_);obtain⟨c,rfl,q1⟩:=q1;cases r1;refine wpAny_truthy_bool ?_
 cases c with
 |true=>exact hb pins s1 σ H1 Q I1 q1
 |false=>exact⟨.bl false,H1,I1,rfl,q1⟩
noncomputable def tIf(t:TT)(ta tb:TE):TE:=fun σ H Q=>t σ H fun c H1=>if c=true then ta σ H1 Q else tb σ H1 Q
theorem xi{c:Expr}(hc:PT X c tA)(ha:PE X a ta)(hb:PE X b tb):PE X (.IfExp c a b pos) (tIf tA ta tb):=by
 intro pins s σ H Q I h;refine wpAny_IfExp (thn (hc pins s σ H _ I h) fun d s1 ⟨H1,I1,q1⟩=>?_)
 cases d with
 |true=>exact ha pins s1 σ H1 Q I1 q1
 |false=>exact hb pins s1 σ H1 Q I1 q1
end
noncomputable def SqL(K:PySem.W.Frag)(H:Hp)(a:Addr)(xs:List V):Prop:=
 Rd H a (.lst xs) \/
  ∃(o:Obj) (its:Array Value) (n:Nat),K.lookup a=some o /\ o.cls=.type "list" /\ o.dict=none /\ o.data=.seq its n /\ its.size<=sizeLine /\ Vals xs its.toList
noncomputable def SqT(K:PySem.W.Frag)(H:Hp)(a:Addr)(xs:List V):Prop:=
 Rd H a (.tup xs) \/
  ∃(o:Obj) (its:Array Value) (n:Nat),K.lookup a=some o /\ (o.cls=.type "tuple" /\ o.dict=none) /\ o.data=.seq its n /\ its.size<=sizeLine /\ Vals xs its.toList
noncomputable def Em:Value->Option V
 |.none=>some .non
 |.bool b=>some (.bl b)
 |.int i _=>some (.int i)
 |.str x _=>some (.str x)
 |.bytes b _=>some (.byt b)
 |.float b _=>some (.flt b)
 |.ref a=>some (.ref a)
 |.type n=>some (.ty n)
 |_=>none
theorem RelV.abs{x:V}{u:Value}(r:RelV x u):Em u=some x:=by
 cases x with
 |non=>cases r;rfl
 |bl _=>cases r;rfl
 |int _=>obtain⟨t,rfl⟩:=r;rfl
 |str _=>obtain⟨t,rfl⟩:=r;rfl
 |byt _=>obtain⟨t,rfl⟩:=r;rfl
 |flt _=>obtain⟨t,rfl⟩:=r;rfl
 |ref _=>cases r;rfl
 |ty _=>cases r;rfl
theorem RelV.inj{x y:V}{u:Value}(r:RelV x u)(q:RelV y u):x=y:=Option.some.inj (r.abs.symm.trans q.abs)
theorem Vals.inj:∀{xs ys:List V} {us:List Value},Vals xs us->Vals ys us->xs=ys
 |_,_,_,.nil,.nil=>rfl
 |_,_,_,.cons r t,.cons r' t'=>by rw[r.inj r',Vals.inj t t']
section
variable{X:Cx}{pins:List (Addr×Obj)}{σ:St}{H:Hp}{s:Shared}{a:Addr}{xs ys:List V}
theorem Inv.list(I:Inv X pins σ H s)(h:SqL X.K H a xs):∃ its:List Value,Vals xs its /\ PlainL s.heap a its.toArray /\ xs.length<=sizeLine:=by
 rcases h with h|⟨o,its,n,hk,hc,hd,hs,hz,r⟩
 . obtain⟨z,its,n,r,e⟩:=h.ok I.hok
   exact⟨its,r,⟨_,n,e,rfl,rfl,rfl⟩,z⟩
 . refine⟨its.toList,r,⟨o,n,I.kIn a o hk,hc,hd,by simpa using hs⟩,?_⟩
   have e:=r.length;simp only[Array.length_toList]at e;omega
theorem Inv.tuple(I:Inv X pins σ H s)(h:SqT X.K H a xs):∃ its:List Value,Vals xs its /\ IsTup s.heap a its.toArray /\ xs.length<=sizeLine:=by
 rcases h with h|⟨o,its,n,hk,hc,hs,hz,r⟩
 . obtain⟨z,its,r,p⟩:=h.ok I.hok
   exact⟨its,r,p,z.1⟩
 . refine⟨its.toList,r,⟨o,I.kIn a o hk,hc.1,n,by simpa using hs⟩,?_⟩
   have e:=r.length;simp only[Array.length_toList]at e;omega
theorem Inv.noD(I:Inv X pins σ H s)(h:SqT X.K H a xs):NoD s.heap a:=by
 rcases h with h|⟨o,its,n,hk,hc,_⟩
 . exact(h.ok I.hok).1.2
 . exact .of (I.kIn a o hk) hc.2
theorem Inv.xD(I:Inv X pins σ H s)(h:SqL X.K H a xs)(h':SqL X.K H a ys):xs=ys:=by
 obtain⟨its,r,⟨o,n,e,_,_,d⟩,_⟩:=I.list h;obtain⟨its',r',⟨o',n',e',_,_,d'⟩,_⟩:=I.list h';rw[e]at e';cases e';rw[d]at d'
 injection d' with d1 _
 have:its=its':=by simpa using congrArg Array.toList d1
 subst this;exact r.inj r'
theorem Inv.uT(I:Inv X pins σ H s)(h:SqT X.K H a xs)(h':SqT X.K H a ys):xs=ys:=by
 obtain⟨its,r,⟨o,e,_,n,d⟩,_⟩:=I.tuple h;obtain⟨its',r',⟨o',e',_,n',d'⟩,_⟩:=I.tuple h';rw[e]at e';cases e';rw[d]at d'
 injection d' with d1 _
 have:its=its':=by simpa using congrArg Array.toList d1
 subst this;exact r.inj r'
end
section
variable{X:Cx}{st:Stmt}{rest:List Stmt}{t u:TS}{e:Expr}{te:TE}{pos:Pos}
noncomputable def xc:TS:=fun D σ H=>D.nx σ H
noncomputable def As(t u:TS):TS:=fun D σ H=>t { D with nx:=u D } σ H
theorem yE:PSs X [] xc:=fun _ _ σ H _ I h=>wpAny_execs_nil ⟨σ,H,I,h⟩
theorem xF(h1:PS X st t)(h2:PSs X rest u):PSs X (st ::rest) (As t u):=by
 intro pins s σ H D I h;refine wpAny_execs_cons (thn (h1 pins s σ H { D with nx:=u D } I h) fun f s1 q=>?_)
 cases f with
 | next=>
   obtain⟨σ',H',I',q⟩:=q;exact h2 pins s1 σ' H' D I' q
 |ret v=>exact q
 |brk=>exact q
 |cont=>exact q
theorem yk(h1:PS X st t):PSs X [st] t:=by
 intro pins s σ H D I h;refine wpAny_execs_cons (thn (h1 pins s σ H D I h) fun f s1 q=>?_)
 cases f with
 |next=>exact wpAny_execs_nil q
 |ret v=>exact q
 |brk=>exact q
 |cont=>exact q
theorem Inv.quiet{pins:List (Addr×Obj)}{σ:St}{H:Hp}{s:Shared}(I:Inv X pins σ H s):interactive X.env=false:=by simp[interactive,I.ok.kind]
noncomputable def lM(te:TE):TS:=fun D σ H=>te σ H fun _ H1=>D.nx σ H1
theorem y2(he:PE X e te)(hs:swapsWith e none pos.line X.env=pure false:=by rfl):PS X (.Expr e pos) (lM te):=by
 intro pins s σ H D I h;exact wpAny_Expr_any (thn (he pins s σ H _ I h) fun v s1 ⟨x,H1,I1,r1,q1⟩=>⟨σ,H1,I1,q1⟩) I.quiet hs
noncomputable def yl(te:TE):TS:=fun D σ H=>te σ H D.rt
theorem Cv(he:PE X e te):PS X (.Return (some e) pos) (yl te):=by
 intro pins s σ H D I h;exact wpAny_Return_some (thn (he pins s σ H _ I h) fun v s1 ⟨x,H1,I1,r1,q1⟩=>⟨x,σ,H1,I1,r1,q1⟩)
noncomputable def Cs(c:TT)(t u:TS):TS:=fun D σ H=>c σ H fun b H1=>if b=true then t D σ H1 else u D σ H1
theorem C7{c:Expr}{a b:List Stmt}{tc:TT}(hc:PT X c tc)(ha:PSs X a t)(hb:PSs X b u):PS X (.If c a b pos) (Cs tc t u):=by
 intro pins s σ H D I h;refine wpAny_If (thn (hc pins s σ H _ I h) fun d s1 ⟨H1,I1,q1⟩=>?_)
 cases d with
 |true=>exact ha pins s1 σ H1 D I1 q1
 |false=>exact hb pins s1 σ H1 D I1 q1
end
abbrev TG:=V->St->Hp->(St->Hp->Prop)->Prop
abbrev TGs:=List V->St->Hp->(St->Hp->Prop)->Prop
noncomputable def PG(X:Cx)(target:Expr)(t:TG):Prop:=
 ∀(pins:List (Addr×Obj)) (s:Shared) (σ:St) (H:Hp) (v:V) (u:Value) (Q:St->Hp->Prop),Inv X pins σ H s->RelV v u->t v σ H Q ->
   wpAny (model X.prog X.w) X.A (assign target X.env u) (fun _ s'=>∃ σ' H',Inv X pins σ' H' s' /\ Q σ' H') X.xe s
abbrev TIp:=V->V->Hp->VK->Prop
noncomputable def PIp(X:Cx)(op:Operator)(t:TIp):Prop:=
 ∀(pins:List (Addr×Obj)) (s:Shared) (σ:St) (H:Hp) (x y:V) (v u:Value) (Q:VK),Inv X pins σ H s->RelV x v->RelV y u->t x y H Q ->
   wpAny (model X.prog X.w) X.A (inplaceOp op v u) (EP X pins σ Q) X.xe s
section
variable{X:Cx}{pos:Pos}
noncomputable def ie(i:Nat):TG:=fun v σ H Q=>Q (σ.set i (some v)) H
theorem yU{i:Nat}{x:Str}(hN:X.N.Nodup)(hi:X.N[i]?=some x)(hx:Loc X.env.scope x)(hf:X.fn x=true \/ X.env.scope.names.lookup x=some .local:=by first|exact .inl rfl|exact .inr rfl|assumption):PG X (.Name x pos) (ie i):=by
 intro pins s σ H v u Q I r h;exact wpAny_assign_Name (kf I hN hi hx r (fun s' I'=>⟨_,H,I',h⟩) hf)
noncomputable def EC:TGs:=fun vs σ H Q=>vs=[] /\ Q σ H
noncomputable def zK(t:TG)(u:TGs):TGs:=fun vs σ H Q=>∃ v r,vs=v ::r /\ t v σ H fun σ' H'=>u r σ' H' Q
noncomputable def EJ(K:PySem.W.Frag)(n:Nat)(t:TGs):TG:=fun v σ H Q=>∃ a xs,v=.ref a /\ SqT K H a xs /\ xs.length=n /\ t xs σ H Q
noncomputable def vO(te:TE)(g:TG):TS:=fun D σ H=>te σ H fun x H1=>g x σ H1 D.nx
theorem Ce{i:Nat}{x:Str}{e:Expr}{te:TE}{pos':Pos}(hN:X.N.Nodup)(hi:X.N[i]?=some x)(hx:Loc X.env.scope x)(he:PE X e te)(hs:swapsWith e (some (.Name x pos')) pos.line X.env=pure false:=by rfl)(hf:X.fn x=true \/ X.env.scope.names.lookup x=some .local:=by first|exact .inl rfl|exact .inr rfl|assumption):
  PS X (.Assign [.Name x pos'] e pos) (vO te (ie i)):=by
 intro pins s σ H D I h;refine wpAny_Assign_Name (thn (he pins s σ H _ I h) fun v s1 ⟨y,H1,I1,r1,q1⟩=>?_) hs;exact kf I1 hN hi hx r1 (fun s2 I2=>⟨_,H1,I2,q1⟩) hf
noncomputable def zm(i:Nat)(te:TE)(ti:TIp):TS:=fun D σ H=>∃ x,σ[i]?=some (some x) /\ te σ H fun y H1=>ti x y H1 fun z H2=>D.nx (σ.set i (some z)) H2
theorem AS{i:Nat}{x:Str}{e:Expr}{te:TE}{op:Operator}{ti:TIp}{pos':Pos}(hN:X.N.Nodup)(hi:X.N[i]?=some x)(hx:Loc X.env.scope x)(he:PE X e te)(ho:PIp X op ti)(hf:X.fn x=true \/ X.env.scope.names.lookup x=some .local:=by first|exact .inl rfl|exact .inr rfl|assumption):
  PS X (.AugAssign (.Name x pos') op e pos) (zm i te ti):=by
 intro pins s σ H D I h;obtain⟨v,e1,h⟩:=h;obtain⟨m,hn,hl⟩:=I.loc
 have vis:Vis X.env.scope x:=by rcases hx with k|k;exact .inl k;exact .inr (.inl k)
 obtain⟨u,r,l⟩:=hl i x v hi e1 vis;refine wpAny_AugAssign_Name ?_
 have go:wpAny (model X.prog X.w) X.A (eval e X.env) (fun w s₂=>wpAny (model X.prog X.w) X.A (inplaceOp op u w) (fun r s₃=>wpAny (model X.prog X.w) X.A (storeName X.env x r) (fun _=>SP X pins D .next) X.xe s₃) X.xe s₂) X.xe s:=by
  refine thn (he pins s σ H _ I h) fun w s1 ⟨y,H1,I1,r1,q1⟩=>?_
  refine thn (ho pins s1 σ H1 v y u w _ I1 r r1 q1) fun z s2 ⟨zv,H2,I2,r2,q2⟩=>?_
  exact kf I2 hN hi hx r2 (fun s3 I3=>⟨_,H2,I3,q2⟩) hf
 rcases l with⟨hk,hm⟩|⟨hk,c,hc,hcell⟩
 . exact wpAny_loadName_local I.ok.kind hk hn hm go
 . rcases hk with hk|hk
   . exact wpAny_loadName_cell I.ok.kind hk hc hcell go
   . rcases hx with k|k
     . have:X.env.scope.names.lookup x=some .free:=hk
       rw[k]at this;cases this
     . have:X.env.scope.names.lookup x=some .free:=hk
       rw[k]at this;cases this
noncomputable def ipI(f:Int->Int->Int):TIp:=fun x y H Q=>∃ i j,x=.int i /\ y=.int j /\ Q (.int (f i j)) H
theorem Bb:PIp X .Add (ipI fun i j=>i+j):=by
 intro pins s σ H x y v u Q I r1 r2 h;obtain⟨i,j,e1,e2,q⟩:=h;subst e1;subst e2;obtain⟨t,rfl⟩:=r1;obtain⟨t',rfl⟩:=r2;exact iadd_int ⟨.int _,H,I.tok _,⟨_,rfl⟩,q⟩
end
section
variable{X:Cx}{pos:Pos}
noncomputable def sT(c:TT)(tb:TS):TS:=fun D σ H=>∃ W:Nat->St->Hp->Prop,(∃ m,W m σ H) /\ ∀ m σ H,W m σ H ->
 c σ H fun b H1=>if b=true then ∃ N:St->Hp->Prop,(∀ σ' H',N σ' H'->∃ m',m'<m /\ W m' σ' H') /\ tb { D with nx:=N,ct:=N,bk:=D.nx } σ H1 else D.nx σ H1
theorem wj{c:Expr}{body:List Stmt}{tc:TT}{tb:TS}(hp:PassesOwn (model X.prog X.w) X.A X.env X.xe)(hc:PT X c tc)(hb:PSs X body tb):PS X (.While c body [] pos) (sT tc tb):=by
 intro pins s σ H D I h;obtain⟨W,⟨m0,w0⟩,turn⟩:=h;refine wpAny_While (codeAny_whileLoop (fun n s'=>∃ σ' H',Inv X pins σ' H' s' /\ W n σ' H') ?_ m0 ⟨σ,H,I,w0⟩)
 rintro n s1 ⟨σ1,H1,I1,w1⟩
 refine wpAny_passesOwn hp (thn (hc pins s1 σ1 H1 _ I1 (turn n σ1 H1 w1)) fun b s2 ⟨H2,I2,q2⟩=>?_)
 cases b with
 | true=>
   obtain⟨N,hN,q2⟩:=q2;rw[if_pos rfl];refine wpAny_passesOwn hp (thn (hb pins s2 σ1 H2 _ I2 q2) fun f s3 q3=>?_)
   cases f with
   | next=>
     obtain⟨σ3,H3,I3,n3⟩:=q3;obtain⟨m',hm,w3⟩:=hN σ3 H3 n3
     exact⟨m',hm,σ3,H3,I3,w3⟩
   | cont=>
     obtain⟨σ3,H3,I3,n3⟩:=q3;obtain⟨m',hm,w3⟩:=hN σ3 H3 n3
     exact⟨m',hm,σ3,H3,I3,w3⟩
   |brk=>exact q3
   |ret v=>exact q3
 | false=>
   rw[if_neg Bool.false_ne_true];exact wpAny_execs_nil ⟨σ1,H2,I2,q2⟩
end
structure It where
 go:Nat->Hp->Prop
 yld:Nat->Hp->V->Hp->Prop
 stop:Nat->Hp->Prop
noncomputable def nZ(X:Cx)(pins:List (Addr×Obj))(H:Hp)(b:Addr):Prop:=
 H b=none /\ b≠X.env.locals /\ b∉X.fs /\ (b∈X.ex \/ X.s₀.heap.objs.size<=b) /\ (∀ x c,X.env.cells.lookup x=some c->c≠b) /\ ∀ p∈X.pn++pins,p.1≠b
theorem Inv.BQ{X:Cx}{pins:List (Addr×Obj)}{σ:St}{H H':Hp}{s:Shared}{b:Addr}(I:Inv X pins σ H s)(hb:s.heap.objs.size<=b)(hn:H' b=none):nZ X pins H' b:=by
 refine⟨hn,Nat.ne_of_gt (Nat.lt_of_lt_of_le I.lt hb),I.En hb,.inr (Nat.le_trans I.sz hb),fun x c e z=>?_,fun p hp z=>?_⟩
 . obtain⟨v,q⟩:=I.cell x c e;exact absurd (Nat.lt_of_lt_of_le q.lt (by rw[z];exact hb)) (Nat.lt_irrefl _)
 . exact absurd (Nat.lt_of_lt_of_le (Heap.lt_size (I.pin p hp).1) (by rw[z];exact hb)) (Nat.lt_irrefl _)
structure Turn(P:Program)(w:World)(K:PySem.W.Frag)(tg:Expr)(J:It)(fp:List Addr)(it:Addr)(tn:Nat->Heap->Prop):Prop where
 mem:it∈fp
 obj:∀ i h,tn i h->∀ b∈fp,∃ o,h.get? b=some o /\ ∀ v,o.data≠.cell v
 keep:∀ i h h',tn i h->(∀ b∈fp,∀ o,h.get? b=some o->h'.get? b=some o)->tn i h'
 item:∀(X:Cx),X.prog=P->X.w=w->X.K=K->X.calm=true->∀(i:Nat) (pins:List (Addr×Obj)) (s:Shared) (σ:St) (H:Hp) (E:Value->Shared->Prop),Inv X pins σ H s->(∀ b∈fp,nZ X pins H b)->tn i s.heap->J.go i H ->
  wpAny (model P w) X.A (pyNext (.ref it)) (fun r s1=>∃ u,r=some u /\
   wpAny (model P w) X.A (letOwnedTupleGo tg (.ref it) u) (fun _ s2=>∃ x H',Inv X pins σ H' s2 /\ RelV x u /\ J.yld i H x H' /\ tn (i+1) s2.heap /\ ∀ b∈fp,H' b=none) E s1) E s
 done:∀(X:Cx),X.prog=P->X.w=w->X.K=K->X.calm=true->∀(i:Nat) (pins:List (Addr×Obj)) (s:Shared) (σ:St) (H:Hp) (E:Value->Shared->Prop),Inv X pins σ H s->(∀ b∈fp,nZ X pins H b)->tn i s.heap->J.stop i H ->
  wpAny (model P w) X.A (pyNext (.ref it)) (fun r s1=>r=none /\ Inv X pins σ H s1) E s
 self:∀(A:Around) (i:Nat) (s:Shared) (Q:Value->Shared->Prop) (E:Value->Shared->Prop),tn i s.heap->Q (.ref it) s->wpAny (model P w) A (pyIter (.ref it)) Q E s
abbrev TI:=St->Hp->(It->Hp->Prop)->Prop
noncomputable def PIE(X:Cx)(pins:List (Addr×Obj))(σ:St)(tg:Expr)(R:It->Hp->Prop)(itv:Value)(s2:Shared):Prop:=
 ∃(it:Addr) (fp:List Addr) (tn:Nat->Heap->Prop) (J:It) (H':Hp),itv=.ref it /\ Inv X pins σ H' s2 /\ Turn X.prog X.w X.K tg J fp it tn /\ tn 0 s2.heap /\ (∀ b∈fp,nZ X pins H' b) /\ R J H'
noncomputable def PI(X:Cx)(tg iter:Expr)(wi:TI):Prop:=
 ∀(pins:List (Addr×Obj)) (s:Shared) (σ:St) (H:Hp) (R:It->Hp->Prop),Inv X pins σ H s->wi σ H R ->
   wpAny (model X.prog X.w) X.A (eval iter X.env) (fun v s1=>wpAny (model X.prog X.w) X.A (pyIter v) (PIE X pins σ tg R) X.xe s1) X.xe s
theorem wy{M:Model}{A:Around}{E:Value->Shared->Prop}{s:Shared}{tg:Expr}{it:Addr}{u:Value}{o:Obj}{n:String}{vs:Array Value}{Q:Unit->Shared->Prop}(ho:s.heap.get? it=some o)(hc:o.cls=.type n)(hd:o.data=.fields vs)
  (hn:["enumerate","zip","dict_itemiterator","dict_reverseitemiterator","odict_iterator","itertools.zip_longest","itertools.pairwise"].contains n=false) (hQ:Q () s):wpAny M A (letOwnedTupleGo tg (.ref it) u) Q E s:=by
 unfold letOwnedTupleGo
 cases tg<;>first
  |exact wpAny_pure hQ
  | (cases u <;> first
      |exact wpAny_pure hQ
      | (refine wpAny_bind (wpAny_load ho ?_)
         rw[hc,hd];show wpAny M A (if(["enumerate","zip","dict_itemiterator","dict_reverseitemiterator","odict_iterator","itertools.zip_longest","itertools.pairwise"].contains n&&vs[0]?==some (rawInt _))=true then _ else _) Q E s;rw[if_neg (by intro h;rw[hn,Bool.false_and]at h;cases h)]
         exact wpAny_pure hQ))
noncomputable def Itl(K:PySem.W.Frag)(a:Addr):It:=
 ⟨fun i H=>∃ xs x,SqL K H a xs /\ xs[i]?=some x,fun i H x H'=>H'=H /\ ∀ xs,SqL K H a xs->xs[i]?=some x,fun i H=>∃ xs,SqL K H a xs /\ xs.length<=i⟩
noncomputable def Itt(K:PySem.W.Frag)(a:Addr):It:=
 ⟨fun i H=>∃ xs x,SqT K H a xs /\ xs[i]?=some x,fun i H x H'=>H'=H /\ ∀ xs,SqT K H a xs->xs[i]?=some x,fun i H=>∃ xs,SqT K H a xs /\ xs.length<=i⟩
noncomputable def Itr(lo:Int)(n:Nat):It:=⟨fun i _=>i<n,fun i H x H'=>H'=H /\ x=.int (lo+i),fun i _=>n<=i⟩
theorem vn{P:Program}{w:World}{K:PySem.W.Frag}{tg:Expr}(a it:Addr):Turn P w K tg (Itl K a) [it] it (fun i h=>h.IsListIter it a i) where
 mem:=by simp
 obj:=fun i h st b hb=>by
  have e:b=it:=by simpa using hb
  subst e;obtain⟨o,e,c,d⟩:=st
  exact⟨o,e,fun v z=>by rw[d]at z;cases z⟩
 keep:=fun i h h' st k=>st.at fun o e=>k it (by simp) o e
 item:=by
  intro X hP hw hK hc i pins s σ H E I hf st hg;subst hP hw hK;obtain⟨xs,x,hq,hx⟩:=hg;obtain⟨its,rv,p,hz⟩:=I.list hq;obtain⟨u,hu,ru⟩:=rv.get hx;obtain⟨f0,f1,f2,f3,f4,f5⟩:=hf it (by simp)
  refine wpAny_pyNext_list_item st p.isList (x:=u) (by simpa using hu) fun h' st' sb=>?_
  have I1:Inv X pins σ H { s with heap:=h' }:=I.turned (t':=s.toks) (fun b o hb e=>(sb.2 b hb).trans e) f0 f1 f3 f4 f5
  obtain⟨o,e,c,d⟩:=id st'
  exact⟨u,rfl,wy (s:={ s with heap:=h' }) e c d (by decide) ⟨x,H,I1,ru,⟨rfl,fun ys hy=>by rw[I.xD hy hq];exact hx⟩,st',fun b hb=>(hf b hb).1⟩⟩
 done:=by
  intro X hP hw hK hc i pins s σ H E I hf st hg;subst hP hw hK;obtain⟨xs,hq,hx⟩:=hg;obtain⟨its,rv,p,hz⟩:=I.list hq;obtain⟨f0,f1,f2,f3,f4,f5⟩:=hf it (by simp);have hl:=rv.length
  exact wpAny_pyNext_list_end (I.ok.hd hc) st p.isList (by simp;omega) fun h' eb=>⟨rfl,I.turned (t':=s.toks) (fun b o hb e=>eb b o hb e) f0 f1 f3 f4 f5⟩
 self:=fun _ _ _ _ _ st h=>wpAny_pyIter_listiter st h
theorem tG{P:Program}{w:World}{K:PySem.W.Frag}{tg:Expr}(a it:Addr):Turn P w K tg (Itt K a) [it] it (fun i h=>h.IsTupleIter it a i) where
 mem:=by simp
 obj:=fun i h st b hb=>by
  have e:b=it:=by simpa using hb
  subst e;obtain⟨o,e,c,d⟩:=st
  exact⟨o,e,fun v z=>by rw[d]at z;cases z⟩
 keep:=fun i h h' st k=>st.at fun o e=>k it (by simp) o e
 item:=by
  intro X hP hw hK hc i pins s σ H E I hf st hg;subst hP hw hK;obtain⟨xs,x,hq,hx⟩:=hg;obtain⟨its,rv,p,hz⟩:=I.tuple hq;obtain⟨u,hu,ru⟩:=rv.get hx;obtain⟨f0,f1,f2,f3,f4,f5⟩:=hf it (by simp)
  refine wpAny_pyNext_tuple_item st (show s.heap.IsTuple a its.toArray from p) (x:=u) (by simpa using hu) fun h' st' sb=>?_
  have I1:Inv X pins σ H { s with heap:=h' }:=I.turned (t':=s.toks) (fun b o hb e=>(sb.2 b hb).trans e) f0 f1 f3 f4 f5
  obtain⟨o,e,c,d⟩:=id st'
  exact⟨u,rfl,wy (s:={ s with heap:=h' }) e c d (by decide) ⟨x,H,I1,ru,⟨rfl,fun ys hy=>by rw[I.uT hy hq];exact hx⟩,st',fun b hb=>(hf b hb).1⟩⟩
 done:=by
  intro X hP hw hK hc i pins s σ H E I hf st hg;subst hP hw hK;obtain⟨xs,hq,hx⟩:=hg;obtain⟨its,rv,p,hz⟩:=I.tuple hq;obtain⟨f0,f1,f2,f3,f4,f5⟩:=hf it (by simp);have hl:=rv.length
  exact wpAny_pyNext_tuple_end (I.ok.hd hc) st (show s.heap.IsTuple a its.toArray from p) (by simp;omega) fun h' eb=>⟨rfl,I.turned (t':=s.toks) (fun b o hb e=>eb b o hb e) f0 f1 f3 f4 f5⟩
 self:=fun _ _ _ _ _ st h=>wpAny_pyIter_tupleiter st h
theorem sE{P:Program}{w:World}{K:PySem.W.Frag}{tg:Expr}(it:Addr)(lo:Int)(n:Nat):Turn P w K tg (Itr lo n) [it] it (fun i h=>IsRangeIter h it (lo+(i:Nat)*1) ((n:Int) - (i:Nat)) 1) where
 mem:=by simp
 obj:=fun i h st b hb=>by
  have e:b=it:=by simpa using hb
  subst e
  exact⟨_,st,fun v z=>by
   have z':Data.fields _=Data.cell v:=z
   cases z'⟩
 keep:=fun i h h' st k=>k it (by simp) _ st
 item:=by
  intro X hP hw hK hc i pins s σ H E I hf st hg;subst hP hw hK;obtain⟨f0,f1,f2,f3,f4,f5⟩:=hf it (by simp);have W:=Walks.range (prog:=X.prog) (w:=X.w) (I.ok.hd hc) it lo 1 n
  refine W.item i s _ _ hg st fun v h' tk hv st' kk=>?_
  obtain⟨t,rfl⟩:=hv
  have I1:Inv X pins σ H { s with heap:=h',toks:=tk }:=I.turned (fun b o hb e=>kk b o (by simpa using hb) e) f0 f1 f3 f4 f5
  refine⟨_,rfl,wy (s:={ s with heap:=h',toks:=tk }) (n:="range_iterator") st' rfl rfl (by decide) ⟨.int (lo+i),H,I1,⟨t,?_⟩,⟨rfl,rfl⟩,st',fun b hb=>(hf b hb).1⟩⟩
  rw[Int.mul_one]
 done:=by
  intro X hP hw hK hc i pins s σ H E I hf st hg;subst hP hw hK;obtain⟨f0,f1,f2,f3,f4,f5⟩:=hf it (by simp)
  exact wpAny_pyNext_range_end (I.ok.hd hc) st (by have:n<=i:=hg;omega) fun h' eb=>⟨rfl,I.turned (t':=s.toks) (fun b o hb e=>eb b o hb e) f0 f1 f3 f4 f5⟩
 self:=fun _ _ _ _ _ st h=>wpAny_pyIter_rangeiter st h
section
variable{X:Cx}{tg:Expr}
noncomputable def xo(K:PySem.W.Frag)(tl:TE):TI:=fun σ H R=>tl σ H fun x H1=>∃ a,x=.ref a /\ (∃ xs,SqL K H1 a xs) /\ R (Itl K a) H1
noncomputable def Bq(K:PySem.W.Frag)(tl:TE):TI:=fun σ H R=>tl σ H fun x H1=>∃ a,x=.ref a /\ (∃ xs,SqT K H1 a xs) /\ R (Itt K a) H1
theorem y4{l:Expr}{tl:TE}(hl:PE X l tl):PI X tg l (xo X.K tl):=by
 intro pins s σ H R I h
 refine thn (hl pins s σ H _ I h) fun v s1 ⟨x,H1,I1,r1,q1⟩=>?_
 obtain⟨a,e,⟨xs,hq⟩,q⟩:=q1;subst e;cases r1;obtain⟨its,rv,p,hz⟩:=I1.list hq;refine wpAny_pyIter_list p.isList ?_
 refine⟨s1.heap.objs.size,[s1.heap.objs.size],_,_,H1,rfl,I1.kept (t':=s1.toks) fun b o e=>Heap.get?_push_of_some _ e,vn a _,⟨_,Heap.get?_push_size _ rfl,rfl,rfl⟩,fun b hb=>?_,q⟩
 have e:b=s1.heap.objs.size:=by simpa using hb
 subst e;exact I1.BQ (Nat.le_refl _) (I1.hok.fresh (Nat.le_refl _))
theorem B0{l:Expr}{tl:TE}(hl:PE X l tl):PI X tg l (Bq X.K tl):=by
 intro pins s σ H R I h
 refine thn (hl pins s σ H _ I h) fun v s1 ⟨x,H1,I1,r1,q1⟩=>?_
 obtain⟨a,e,⟨xs,hq⟩,q⟩:=q1;subst e;cases r1;obtain⟨its,rv,p,hz⟩:=I1.tuple hq;refine wpAny_pyIter_tuple (show s1.heap.IsTuple a its.toArray from p) ?_
 refine⟨s1.heap.objs.size,[s1.heap.objs.size],_,_,H1,rfl,I1.kept (t':=s1.toks) fun b o e=>Heap.get?_push_of_some _ e,tG a _,⟨_,Heap.get?_push_size _ rfl,rfl,rfl⟩,fun b hb=>?_,q⟩
 have e:b=s1.heap.objs.size:=by simpa using hb
 subst e;exact I1.BQ (Nat.le_refl _) (I1.hok.fresh (Nat.le_refl _))
theorem xB{pins:List (Addr×Obj)}{σ:St}{H:Hp}{s:Shared}{R:It->Hp->Prop}{E:Value->Shared->Prop}{lo hi:Int}{t u v:Tok}{tk:Nat}(I:Inv X pins σ H s)(h1:-(2 ^ 62)<=lo)(h2:lo<2 ^ 62)(h3:-(2 ^ 62)<=hi)(h4:hi<2 ^ 62)
  (q:R (Itr lo (hi - lo).toNat) H):wpAny (model X.prog X.w) X.A (pyIter (.ref s.heap.objs.size)) (PIE X pins σ tg R) E { s with heap:=s.heap.push { cls:=.type "range",data:=.fields #[.int lo t,.int hi u,.int 1 v] },toks:=tk }:=by
 refine wpAny_pyIter_range (IsRange.new ..) (small_one h1 h2 h3 h4) ?_
 have I1:Inv X pins σ H { s with heap:=s.heap.push { cls:=.type "range",data:=.fields #[.int lo t,.int hi u,.int 1 v] },toks:=tk }:=I.kept fun b o e=>Heap.get?_push_of_some _ e
 refine⟨(s.heap.push { cls:=.type "range",data:=.fields #[.int lo t,.int hi u,.int 1 v] }).objs.size,[(s.heap.push { cls:=.type "range",data:=.fields #[.int lo t,.int hi u,.int 1 v] }).objs.size],_,_,H,rfl,
  I1.kept (t':=tk) fun b o e=>Heap.get?_push_of_some _ e,sE _ lo (hi - lo).toNat,?_,fun b hb=>?_,q⟩
 . have e1:lo+((0:Nat):Int)*1=lo:=by simp
   have e2:(((hi - lo).toNat:Nat):Int) - ((0:Nat):Int)=Builtin.Range.rangeSize lo hi 1:=by rw[rangeSize_one];split<;>omega
   show IsRangeIter _ _ (lo+((0:Nat):Int)*1) ((((hi - lo).toNat:Nat):Int) - ((0:Nat):Int)) 1;rw[e1,e2];exact Heap.get?_push_size _ rfl
 . have e:b=(s.heap.push { cls:=.type "range",data:=.fields #[.int lo t,.int hi u,.int 1 v] }).objs.size:=by simpa using hb
   subst e;exact I1.BQ (Nat.le_refl _) (I1.hok.fresh (Nat.le_refl _))
noncomputable def wx(ta:TA):TI:=fun σ H R=>ta σ H fun vs H1=>∃ j:Int,vs=[.int j] /\ -(2 ^ 62)<=j /\ j<2 ^ 62 /\ R (Itr 0 j.toNat) H1
theorem vA{a:Expr}{ta:TA}{p pos:Pos}(hg:Gl X "range")(hm:X.mg "range" = none)(ha:PA X [a] ta)(hs:starEach [a] X.env=[(false,eval a X.env)]:=by rfl):PI X tg (.Call (.Name "range" p) [a] [] pos) (wx ta):=by
 intro pins s σ H R I h;refine Call_ (i3 I hg hm boot_range (PyProof.Rows.callWith_type1 (thn (ha pos pins s σ H _ I h) fun us s1 ⟨vs,H1,I1,r1,q1⟩=>?_) hs rfl));obtain⟨j,e,q1,q2,q⟩:=q1;subst e
 cases r1 with
 | cons r rr=>
   cases rr;obtain⟨t,rfl⟩:=r;exact call_range_1 (xB I1 (by omega) (by omega) q1 q2 (by simpa using q))
noncomputable def Ct(wi:TI)(g:TG)(tb:TS):TS:=fun D σ H=>wi σ H fun J H1=>∃ W:Nat->Nat->St->Hp->Prop,(∃ m,W 0 m σ H1) /\ ∀ i m σ H,W i m σ H ->
 (J.stop i H /\ D.nx σ H) \/ (J.go i H /\ ∃ N:St->Hp->Prop,(∀ σ' H',N σ' H'->∃ m',m'<m /\ W (i+1) m' σ' H') /\ ∀ x H',J.yld i H x H'->g x σ H' fun σ2 H2=>tb { D with nx:=N,ct:=N,bk:=D.nx } σ2 H2)
noncomputable def pU(fp:List Addr)(h:Heap):List (Addr×Obj):=fp.filterMap fun b=>(h.get? b).map fun o=>(b,o)
theorem gU{fp:List Addr}{h:Heap}{b:Addr}{o:Obj}(hb:b∈fp)(e:h.get? b=some o):(b,o)∈pU fp h:=List.mem_filterMap.mpr ⟨b,hb,by rw[e];rfl⟩
theorem uQ{fp:List Addr}{h:Heap}{p:Addr×Obj}(hp:p∈pU fp h):p.1∈fp /\ h.get? p.1=some p.2:=by
 obtain⟨b,hb,e⟩:=List.mem_filterMap.mp hp
 cases q:h.get? b with
 |none=>rw[q]at e;cases e
 | some o=>
   rw[q]at e
   have e':(b,o)=p:=Option.some.inj e
   subst e'
   exact⟨hb,q⟩
theorem Inv.pinned{pins:List (Addr×Obj)}{σ:St}{H:Hp}{s:Shared}{fp:List Addr}(I:Inv X pins σ H s)(hf:∀ b∈fp,nZ X pins H b)(ho:∀ b∈fp,∃ o,s.heap.get? b=some o /\ ∀ v,o.data≠.cell v):Inv X (pins++pU fp s.heap) σ H s:=
 I.t6 fun p hp=>(List.mem_append.mp hp).elim (fun z=>I.pin p (List.mem_append_right _ z)) fun z=>by
  obtain⟨hb,e⟩:=uQ z;obtain⟨f0,f1,f2,_⟩:=hf p.1 hb;obtain⟨o,e',d⟩:=ho p.1 hb;rw[e]at e';cases e'
  exact⟨e,f0,f1,f2,d⟩
theorem Inv.j7{pins pl:List (Addr×Obj)}{σ:St}{H:Hp}{s:Shared}(I:Inv X (pins++pl) σ H s):Inv X pins σ H s:=I.t6 fun p hp=>I.pin p (List.mem_append_right _ (List.mem_append_left _ hp))
theorem Br{iter:Expr}{body:List Stmt}{wi:TI}{g:TG}{tb:TS}{pos:Pos}(hp:PassesOwn (model X.prog X.w) X.A X.env X.xe)(hc:X.calm=true)(hi:PI X tg iter wi)(hg:PG X tg g)(hb:PSs X body tb)
  (hs:∀ x,foldedSetIterable iter X.env x=pure x:=by intro _;rfl):PS X (.For tg iter body [] pos) (Ct wi g tb):=by
 intro pins s σ H D I h;refine wpAny_For (thn (hi pins s σ H _ I h) fun v s1 h1=>thn h1 fun itv s2 h2=>?_) hs;obtain⟨it,fp,tn,J,H2,e,I2,T,st2,f2,W,⟨m0,w0⟩,turn⟩:=h2;subst e
 have stat:∀{H':Hp},(∀ b∈fp,H' b=none)->∀ b∈fp,nZ X pins H' b:=fun hn b hb=>⟨hn b hb,(f2 b hb).2⟩
 refine codeAny_forLoop_any (fun n s'=>∃ i σ' H',Inv X pins σ' H' s' /\ tn i s'.heap /\ (∀ b∈fp,H' b=none) /\ W i n σ' H') ?_ m0 ⟨0,σ,H2,I2,st2,fun b hb=>(f2 b hb).1,w0⟩
 rintro n s3 ⟨i,σ3,H3,I3,st3,fr3,w3⟩
 rcases turn i n σ3 H3 w3 with⟨stop,qn⟩|⟨go,N,hN,step⟩
 . refine wpAny_passesOwn hp (thn (T.done X rfl rfl rfl hc i pins s3 σ3 H3 X.xe I3 (stat fr3) st3 stop) fun r s4 ⟨hr,I4⟩=>?_);subst hr;exact wpAny_execs_nil ⟨σ3,H3,I4,qn⟩
 . refine wpAny_passesOwn hp (thn (T.item X rfl rfl rfl hc i pins s3 σ3 H3 X.xe I3 (stat fr3) st3 go) fun r s4 ⟨u,hr,h4⟩=>?_);subst hr;refine wpAny_passesOwn hp (thn h4 fun _ s5 ⟨x,H5,I5,r5,y5,st5,fr5⟩=>?_)
   have I5':=I5.pinned (stat fr5) (T.obj _ _ st5)
   refine wpAny_passesOwn hp (thn (hg _ s5 σ3 H5 x u _ I5' r5 (step x H5 y5)) fun _ s6 ⟨σ6,H6,I6,q6⟩=>?_);refine wpAny_passesOwn hp (thn (hb _ s6 σ6 H6 _ I6 q6) fun f s7 q7=>?_)
   have again:∀{σ7:St} {H7:Hp},Inv X (pins++pU fp s5.heap) σ7 H7 s7->N σ7 H7->∃ m,m<n /\ ∃ i σ' H',Inv X pins σ' H' s7 /\ tn i s7.heap /\ (∀ b∈fp,H' b=none) /\ W i m σ' H':=fun {σ7 H7} I7 n7=>by
    obtain⟨m',hm,w7⟩:=hN σ7 H7 n7
    refine⟨m',hm,i+1,σ7,H7,I7.j7,T.keep _ _ _ st5 fun b hb o e=>(I7.pin (b,o) (List.mem_append_right _ (List.mem_append_right _ (gU hb e)))).1,fun b hb=>?_,w7⟩
    obtain⟨o,e,d⟩:=T.obj _ _ st5 b hb
    exact(I7.pin (b,o) (List.mem_append_right _ (List.mem_append_right _ (gU hb e)))).2.1
   cases f with
   |next=>obtain⟨σ7,H7,I7,n7⟩:=q7;exact again I7 n7
   |cont=>obtain⟨σ7,H7,I7,n7⟩:=q7;exact again I7 n7
   |brk=>obtain⟨σ7,H7,I7,q7⟩:=q7;exact⟨σ7,H7,I7.j7,q7⟩
   |ret v=>obtain⟨x7,σ7,H7,I7,r7,q7⟩:=q7;exact⟨x7,σ7,H7,I7.j7,r7,q7⟩
end
theorem vp{lo:Int}{n:Nat}{g:TG}{tb:TS}{D:Ends}{σ:St}{H:Hp}(Pv:Nat->St->Hp->Prop)(h0:Pv 0 σ H)
  (hs:∀ i σ H,i<n->Pv i σ H->g (.int (lo+i)) σ H fun σ2 H2=>tb { D with nx:=Pv (i+1),ct:=Pv (i+1),bk:=D.nx } σ2 H2) (hd:∀ σ H,Pv n σ H->D.nx σ H):
  ∃ W:Nat->Nat->St->Hp->Prop,(∃ m,W 0 m σ H) /\ ∀ i m σ H,W i m σ H ->
    ((Itr lo n).stop i H /\ D.nx σ H) \/ ((Itr lo n).go i H /\ ∃ N:St->Hp->Prop,(∀ σ' H',N σ' H'->∃ m',m'<m /\ W (i+1) m' σ' H') /\ ∀ x H',(Itr lo n).yld i H x H'->g x σ H' fun σ2 H2=>tb { D with nx:=N,ct:=N,bk:=D.nx } σ2 H2):=by
 refine⟨fun i m σ H=>m=n - i /\ i<=n /\ Pv i σ H,⟨n,by simp,Nat.zero_le _,h0⟩,?_⟩
 rintro i m σ H ⟨rfl,hi,p⟩
 by_cases hlt:i<n
 . refine .inr ⟨hlt,Pv (i+1),fun σ' H' p'=>⟨n - (i+1),by omega,rfl,hlt,p'⟩,fun x H' y=>?_⟩;obtain⟨e,y⟩:=y;subst e y;exact hs i σ _ hlt p
 . have e:i=n:=by omega
   subst e;exact .inl ⟨Nat.le_refl _,hd σ H p⟩
abbrev R2:=V->V->Hp->VK->Prop
noncomputable def OpR(X:Cx)(f:Value->Value->Sem Value)(r:R2):Prop:=
 ∀(pins:List (Addr×Obj)) (s:Shared) (σ:St) (H:Hp) (x y:V) (v u:Value) (Q:VK),Inv X pins σ H s->RelV x v->RelV y u->r x y H Q ->
   wpAny (model X.prog X.w) X.A (f v u) (EP X pins σ Q) X.xe s
noncomputable def UnR(X:Cx)(f:Value->Sem Value)(r:V->Hp->VK->Prop):Prop:=
 ∀(pins:List (Addr×Obj)) (s:Shared) (σ:St) (H:Hp) (x:V) (v:Value) (Q:VK),Inv X pins σ H s->RelV x v->r x H Q ->
   wpAny (model X.prog X.w) X.A (f v) (EP X pins σ Q) X.xe s
noncomputable def iG(X:Cx)(f:Value)(r:List V->Hp->VK->Prop):Prop:=
 ∀(pins:List (Addr×Obj)) (s:Shared) (σ:St) (H:Hp) (xs:List V) (us:List Value) (Q:VK),Inv X pins σ H s->Vals xs us->r xs H Q ->
   wpAny (model X.prog X.w) X.A (call f us) (EP X pins σ Q) X.xe s
noncomputable def Fl(X:Cx)(r:V->Hp->(Bool->Hp->Prop)->Prop):Prop:=
 ∀(pins:List (Addr×Obj)) (s:Shared) (σ:St) (H:Hp) (x:V) (v:Value) (Q:Bool->Hp->Prop),Inv X pins σ H s->RelV x v->r x H Q ->
   wpAny (model X.prog X.w) X.A (truthy v) (TP X pins σ Q) X.xe s
noncomputable def tOp(r:R2)(ta tb:TE):TE:=fun σ H Q=>ta σ H fun x H1=>tb σ H1 fun y H2=>r x y H2 Q
noncomputable def tUn(r:V->Hp->VK->Prop)(ta:TE):TE:=fun σ H Q=>ta σ H fun x H1=>r x H1 Q
noncomputable def rI(C:Int->Int->Prop)(g:Int->Int->V):R2:=fun x y H Q=>∃ i j,x=.int i /\ y=.int j /\ C i j /\ Q (g i j) H
noncomputable def rI0(g:Int->Int->V):R2:=fun x y H Q=>∃ i j,x=.int i /\ y=.int j /\ Q (g i j) H
noncomputable def rU(g:Int->V):V->Hp->VK->Prop:=fun x H Q=>∃ i,x=.int i /\ Q (g i) H
section
variable{X:Cx}{a b c:Expr}{ta tb tc:TE}{pos:Pos}
theorem Cj(ha:PE X a ta)(hb:PE X b tb){pins:List (Addr×Obj)}{s:Shared}{σ:St}{H:Hp}{R:V->V->Hp->Prop}(I:Inv X pins σ H s)
  (h:ta σ H fun x H1=>tb σ H1 fun y H2=>R x y H2) {Q:Value->Shared->Prop} {f:Value->Value->Sem Value}
  (hf:∀ v u s2 x y H2,Inv X pins σ H2 s2->RelV x v->RelV y u->R x y H2->wpAny (model X.prog X.w) X.A (f v u) Q X.xe s2):
  wpAny (model X.prog X.w) X.A (eval a X.env) (fun v s₁=>wpAny (model X.prog X.w) X.A (eval b X.env) (fun u s₂=>wpAny (model X.prog X.w) X.A (f v u) Q X.xe s₂) X.xe s₁) X.xe s:=by
 refine thn (ha pins s σ H _ I h) fun v s1 ⟨x,H1,I1,r1,q1⟩=>?_
 refine thn (hb pins s1 σ H1 _ I1 q1) fun u s2 ⟨y,H2,I2,r2,q2⟩=>?_
 exact hf v u s2 x y H2 I2 r1 r2 q2
theorem Dd{op:Operator}{r:R2}(ho:OpR X (binaryOp op) r)(ha:PE X a ta)(hb:PE X b tb):PE X (.BinOp a op b pos) (tOp r ta tb):=by
 intro pins s σ H Q I h;exact wpAny_BinOp (Cj ha hb I h fun v u s2 x y H2 I2 rx ry q=>ho pins s2 σ H2 x y v u Q I2 rx ry q)
theorem Du{op:UnaryOp}{r:V->Hp->VK->Prop}(ho:UnR X (unaryOp op) r)(ha:PE X a ta):PE X (.UnaryOp op a pos) (tUn r ta):=by
 intro pins s σ H Q I h;exact UnaryOp_ (thn (ha pins s σ H _ I h) fun v s1 ⟨x,H1,I1,r1,q1⟩=>ho pins s1 σ H1 x v Q I1 r1 q1)
theorem opI{f:Value->Value->Sem Value}{C:Int->Int->Prop}{g:Int->Int->Int}
  (rule:∀(i j:Int) (t u:Tok) (s:Shared) (Q:Value->Shared->Prop) (E:Value->Shared->Prop),C i j->Q (.int (g i j) s.toks) { s with toks:=s.toks+1 }->wpAny (model X.prog X.w) X.A (f (.int i t) (.int j u)) Q E s):
  OpR X f (rI C fun i j=>.int (g i j)):=by
 intro pins s σ H x y v u Q I rx ry h;obtain⟨i,j,rfl,rfl,hc,q⟩:=h;obtain⟨t,rfl⟩:=rx;obtain⟨t',rfl⟩:=ry;exact rule i j t t' s _ _ hc ⟨.int (g i j),H,I.tok _,⟨_,rfl⟩,q⟩
theorem DJ{f:Value->Value->Sem Value}{g:Int->Int->Int}
  (rule:∀(i j:Int) (t u:Tok) (s:Shared) (Q:Value->Shared->Prop) (E:Value->Shared->Prop),Q (.int (g i j) s.toks) { s with toks:=s.toks+1 }->wpAny (model X.prog X.w) X.A (f (.int i t) (.int j u)) Q E s):
  OpR X f (rI0 fun i j=>.int (g i j)):=by
 intro pins s σ H x y v u Q I rx ry h;obtain⟨i,j,rfl,rfl,q⟩:=h;obtain⟨t,rfl⟩:=rx;obtain⟨t',rfl⟩:=ry;exact rule i j t t' s _ _ ⟨.int (g i j),H,I.tok _,⟨_,rfl⟩,q⟩
theorem Dq{f:Value->Value->Sem Value}{g:Int->Int->Bool}
  (rule:∀(i j:Int) (t u:Tok) (s:Shared) (Q:Value->Shared->Prop) (E:Value->Shared->Prop),Q (.bool (g i j)) s->wpAny (model X.prog X.w) X.A (f (.int i t) (.int j u)) Q E s):
  OpR X f (rI0 fun i j=>.bl (g i j)):=by
 intro pins s σ H x y v u Q I rx ry h;obtain⟨i,j,rfl,rfl,q⟩:=h;obtain⟨t,rfl⟩:=rx;obtain⟨t',rfl⟩:=ry;exact rule i j t t' s _ _ ⟨.bl (g i j),H,I,rfl,q⟩
noncomputable def Cg(i j:Int):Prop:=0<j /\ j<1073741824
noncomputable def v8(i j:Int):Prop:=(-(2 ^ 64)<i /\ i<2 ^ 64) \/ (-(2 ^ 64)<j /\ j<2 ^ 64)
theorem v8.ok{i j:Int}(h:v8 i j):IntMulOk i j:=by
 rcases h with⟨h1,h2⟩|⟨h1,h2⟩
 . exact .of_left (intBits_le_64 h1 h2)
 . exact .of_right (intBits_le_64 h1 h2)
theorem fJ:OpR X (binaryOp .Add) (rI0 fun i j=>.int (i+j)):=DJ fun _ _ _ _ _ _ _ q=>add_int q
theorem xy:OpR X (binaryOp .Sub) (rI0 fun i j=>.int (i - j)):=DJ fun _ _ _ _ _ _ _ q=>sub_int q
theorem pC:OpR X (binaryOp .Mult) (rI v8 fun i j=>.int (i*j)):=opI fun _ _ _ _ _ _ _ hc q=>mul_int q hc.ok
theorem eS:OpR X (binaryOp .FloorDiv) (rI Cg fun i j=>.int (i/j)):=opI fun i j _ _ _ _ _ hc q=>by
 have h1:(0:Int)<j:=hc.1
 have h2:j<1073741824:=hc.2
 exact floordiv_int (by omega) (by rw[Int.fdiv_eq_ediv_of_nonneg i (by omega)];exact q) (.inl (PyProof.noPylong_small (by omega)))
theorem b5:OpR X (binaryOp .Mod) (rI (fun _ j=>0<j) fun i j=>.int (i%j)):=opI fun i j _ _ _ _ _ hc q=>by
 have h1:(0:Int)<j:=hc
 exact mod_int' (by omega) (by rw[Int.fmod_eq_emod_of_nonneg i (by omega)];exact q)
theorem unI{f:Value->Sem Value}{g:Int->Int}
  (rule:∀(i:Int) (t:Tok) (s:Shared) (Q:Value->Shared->Prop) (E:Value->Shared->Prop),Q (.int (g i) s.toks) { s with toks:=s.toks+1 }->wpAny (model X.prog X.w) X.A (f (.int i t)) Q E s):
  UnR X f (rU fun i=>.int (g i)):=by
 intro pins s σ H x v Q I rx h;obtain⟨i,rfl,q⟩:=h;obtain⟨t,rfl⟩:=rx;exact rule i t s _ _ ⟨.int (g i),H,I.tok _,⟨_,rfl⟩,q⟩
theorem mU:UnR X (unaryOp .USub) (rU fun i=>.int (-i)):=unI fun _ _ _ _ _ q=>neg_int q
end
noncomputable def C1:V->V->Bool
 |.non,.non=>true|.non,.int _=>true|.int _,.non=>true|.non,.bl _=>true|.bl _,.non=>true|.non,.str _=>true|.str _,.non=>true
 |.int _,.int _=>true|.bl _,.bl _=>true|.str _,.str _=>true|.byt _,.byt _=>true
 |.int _,.str _=>true|.str _,.int _=>true|.bl _,.str _=>true|.str _,.bl _=>true
 |_,_=>false
noncomputable def rEq:R2:=fun x y H Q=>C1 x y=true /\ Q (.bl (decide (x=y))) H
theorem yR{i j:Int}:decide (V.int i=V.int j)=(i==j):=by
 rw[Bool.eq_iff_iff];simp
theorem BH{i j:Bool}:decide (V.bl i=V.bl j)=(i==j):=by
 rw[Bool.eq_iff_iff];simp
theorem xZ{i j:Str}:decide (V.str i=V.str j)=(i==j):=by
 rw[Bool.eq_iff_iff];simp
theorem y3{i j:Array UInt8}:decide (V.byt i=V.byt j)=(i.toList==j.toList):=by
 rw[Bool.eq_iff_iff];cases i;cases j;simp
section
variable{X:Cx}{a b c:Expr}{ta tb tc:TE}{pos:Pos}
theorem dF{pins:List (Addr×Obj)}{σ:St}{H:Hp}{s:Shared}{Q:VK}{k k':Bool}(I:Inv X pins σ H s)(q:Q (.bl k) H)(e:k=k'):EP X pins σ Q (.bool k') s:=by
 subst e
 exact⟨.bl k,H,I,rfl,q⟩
theorem jE:OpR X (compareOp .Eq) rEq:=by
 intro pins s σ H x y v u Q I rx ry h;obtain⟨hs,q⟩:=h
 cases x with
 | non=>
   cases rx
   cases y with
   |non=>cases ry;exact PySem.EqNone.eq_none_none (dF I q (by simp))
   |bl j=>cases ry;exact PySem.EqNone.eq_none_bool (dF I q (by simp))
   |int j=>obtain⟨t',rfl⟩:=ry;exact PySem.EqNone.eq_none_int (dF I q (by simp))
   |str j=>obtain⟨t',rfl⟩:=ry;exact PySem.EqNone.eq_none_str (dF I q (by simp))
   |_=>exact absurd (show false=true from hs) Bool.false_ne_true
 | bl i=>
   cases rx
   cases y with
   |non=>cases ry;exact PySem.EqNone.eq_bool_none (dF I q (by simp))
   |bl j=>cases ry;exact eq_bool (dF I q BH)
   |str j=>obtain⟨t',rfl⟩:=ry;exact PySem.EqMixed.eq_bool_str (dF I q (by simp))
   |_=>exact absurd (show false=true from hs) Bool.false_ne_true
 | int i=>
   obtain⟨t,rfl⟩:=rx
   cases y with
   |non=>cases ry;exact PySem.EqNone.eq_int_none (dF I q (by simp))
   |int j=>obtain⟨t',rfl⟩:=ry;exact eq_int (dF I q yR)
   |str j=>obtain⟨t',rfl⟩:=ry;exact PySem.EqMixed.eq_int_str (dF I q (by simp))
   |_=>exact absurd (show false=true from hs) Bool.false_ne_true
 | str i=>
   obtain⟨t,rfl⟩:=rx
   cases y with
   |non=>cases ry;exact PySem.EqNone.eq_str_none (dF I q (by simp))
   |bl j=>cases ry;exact PySem.EqMixed.eq_str_bool (dF I q (by simp))
   |int j=>obtain⟨t',rfl⟩:=ry;exact PySem.EqMixed.eq_str_int (dF I q (by simp))
   |str j=>obtain⟨t',rfl⟩:=ry;exact eq_str (dF I q xZ)
   |_=>exact absurd (show false=true from hs) Bool.false_ne_true
 | byt i=>
   obtain⟨t,rfl⟩:=rx
   cases y with
   |byt j=>obtain⟨t',rfl⟩:=ry;exact PySem.W.eq_bytes (dF I q y3)
   |_=>exact absurd (show false=true from hs) Bool.false_ne_true
 |_=>cases y<;>exact absurd (show false=true from hs) Bool.false_ne_true
theorem wd:OpR X (compareOp .Lt) (rI0 fun i j=>.bl (decide (i<j))):=Dq fun _ _ _ _ _ _ _ q=>lt_int q
theorem zL:OpR X (compareOp .Gt) (rI0 fun i j=>.bl (decide (j<i))):=Dq fun _ _ _ _ _ _ _ q=>gt_int q
theorem AU:OpR X (compareOp .Is) (fun x y H Q=>y=.non /\ Q (.bl (decide (x=.non))) H):=by
 intro pins s σ H x y v u Q I rx ry h;obtain⟨rfl,q⟩:=h;cases ry;refine is_none_gen (dF I q ?_)
 cases x<;>first
  |(cases rx;rfl)
  |(obtain⟨t,rfl⟩:=rx;rfl)
theorem jS(b:Expr){op:CmpOp}(h:op≠.In:=by decide)(h2:op≠.NotIn:=by decide):behindInMarks op b=false:=by
 have e1:(op==CmpOp.In)=false:=by cases op<;>first|rfl|exact absurd rfl h
 have e2:(op==CmpOp.NotIn)=false:=by cases op<;>first|rfl|exact absurd rfl h2
 cases b<;>simp[behindInMarks,e1,e2]
theorem yB{op:CmpOp}{r:R2}(ho:OpR X (compareOp op) r)(ha:PE X a ta)(hb:PE X b tb)(hm:behindInMarks op b=false):PE X (.Compare a [op] [b] pos) (tOp r ta tb):=by
 intro pins s σ H Q I h;exact wpAny_Compare1 (Cj ha hb I h fun v u s2 x y H2 I2 rx ry q=>ho pins s2 σ H2 x y v u Q I2 rx ry q) hm
noncomputable def ui(t:TE):TT:=fun σ H Q=>t σ H fun x H'=>∃ k,x=.bl k /\ Q k H'
theorem yT{op:CmpOp}{r:R2}(ho:OpR X (compareOp op) r)(ha:PE X a ta)(hb:PE X b tb)(hm:behindInMarks op b=false):PT X (.Compare a [op] [b] pos) (ui (tOp r ta tb)):=by
 intro pins s σ H Q I h
 refine wpAny_isTrue_Compare1 (thn (ha pins s σ H _ I h) fun v s1 ⟨x,H1,I1,r1,q1⟩=>thn (hb pins s1 σ H1 _ I1 q1) fun u s2 ⟨y,H2,I2,r2,q2⟩=>
  thn (ho pins s2 σ H2 x y v u _ I2 r1 r2 q2) fun c s3 ⟨z,H3,I3,r3,k,e,q3⟩=>?_) hm
 subst e;cases r3;exact wpAny_truthy_bool ⟨H3,I3,q3⟩
noncomputable def vK(K:PySem.W.Frag)(x:V)(H:Hp)(k:Bool):Prop:=
 match x with
 |.non=>k=false
 |.bl b=>k=b
 |.int i=>k=(i != 0)
 |.str y=>y.length<=sizeLine /\ k=((y.length:Int) != 0)
 |.byt y=>y.size<=sizeLine /\ k=((y.size:Int) != 0)
 |.ref p=>(∃ xs,SqL K H p xs /\ k=!xs.isEmpty) \/ (∃ xs,SqT K H p xs /\ k=!xs.isEmpty) \/ ∃ kvs,H p=some (.dK kvs) /\ k=!kvs.isEmpty
 |_=>False
theorem tS{κ:Type}{kvs:List (κ×V)}{vs:List (κ×Value)}(r:KV kvs vs):(!vs.isEmpty)=!kvs.isEmpty:=by
 cases r<;>rfl
theorem mL{xs:List V}{its:List Value}(r:Vals xs its):(!its.toArray.isEmpty)=!xs.isEmpty:=by
 cases r<;>simp
theorem pI:(sizeLine:Nat)<2 ^ 63:=by rw[sizeLine_eq];decide
theorem B9:Fl X (fun x H Q=>∃ k,vK X.K x H k /\ Q k H):=by
 intro pins s σ H x v Q I rx h;obtain⟨k,e,q⟩:=h;have hl:=pI
 have hs:sizeLine=16777216:=sizeLine_eq
 cases x with
 | non=>
   cases rx
   have e':k=false:=e
   subst e';exact truthy_none ⟨H,I,q⟩
 | bl b=>
   cases rx
   have e':k=b:=e
   subst e';exact wpAny_truthy_bool ⟨H,I,q⟩
 | int i=>
   obtain⟨t,rfl⟩:=rx
   have e':k=(i != 0):=e
   subst e';exact PySem.P.truthy_int ⟨H,I,q⟩
 | str y=>
   obtain⟨t,rfl⟩:=rx
   obtain⟨hy,e'⟩:y.length<=sizeLine /\ k=((y.length:Int) != 0):=e
   subst e';exact PySem.P.truthy_str (by omega) ⟨H,I.tok _,q⟩
 | byt y=>
   obtain⟨t,rfl⟩:=rx
   obtain⟨hy,e'⟩:y.size<=sizeLine /\ k=((y.size:Int) != 0):=e
   subst e';exact PySem.W.truthy_bytes (by omega) ⟨H,I.tok _,q⟩
 | ref p=>
   cases rx
   have e':(∃ xs,SqL X.K H p xs /\ k=!xs.isEmpty) \/ (∃ xs,SqT X.K H p xs /\ k=!xs.isEmpty) \/ ∃ kvs,H p=some (.dK kvs) /\ k=!kvs.isEmpty:=e
   rcases e' with⟨xs,hx,e'⟩|⟨xs,hx,e'⟩|⟨kvs,hx,e'⟩
   . subst e';obtain⟨its,r,pl,hz⟩:=I.list hx;have hlen:=r.length;exact wpAny_truthy_list pl.isList (by simp only[List.size_toArray];omega) ⟨H,I.tok _,by rw[mL r];exact q⟩
   . subst e';obtain⟨its,r,pl,hz⟩:=I.tuple hx;have hlen:=r.length;exact truthy_tuple pl (by simp only[List.size_toArray];omega) ⟨H,I.tok _,by rw[mL r];exact q⟩
   . subst e'
     obtain⟨hz,hS,vs,r,m⟩:kvs.length<=sizeLine /\ (p==sysModules)=false /\ ∃ vs,KV kvs vs /\ s.heap.DictOf (dy X.prog X.w) p vs:=I.hok p _ hx
     have hlen:kvs.length=vs.length:=Paired.length r
     exact wpAny_truthy_dict hS m (by omega) ⟨H,I.tok _,by rw[tS r];exact q⟩
 |_=>exact(show False from e).elim
theorem xC(ha:PE X a ta)(he:∀ whole,isTrue a X.env whole=(do let v <- whole;standAt a.pos;holding [v] (truthy v))):
  PT X a (fun σ H Q=>ta σ H fun x H'=>∃ k,vK X.K x H' k /\ Q k H'):=by
 intro pins s σ H Q I h;exact isTrue_plain (thn (ha pins s σ H _ I h) fun v s1 ⟨x,H1,I1,r1,q1⟩=>B9 pins s1 σ H1 x v Q I1 r1 q1) (he _)
theorem vals1{x:V}{us:List Value}(r:Vals [x] us):∃ u,us=[u] /\ RelV x u:=by
 cases r with
 |cons r1 r2=>cases r2;exact⟨_,rfl,r1⟩
end
theorem aX.some_of{v:V}{o:Option Value}(r:aX (some v) o):∃ u,o=some u /\ RelV v u:=by
 cases o with
 |none=>exact(show False from r).elim
 |some u=>exact⟨u,rfl,r⟩
structure Cls(K:PySem.W.Frag)(C:Addr):Prop where
 pg:PySem.W.plainGet K C Str.empty=true
 hd:PySem.W.hasDictIn K C=true
 po:PySem.W.plainOver K C=true
 sa:PySem.W.findIn K (.ref C) "__setattr__" = some (some (.builtin "object.__setattr__"))
section
variable{X:Cx}{pins:List (Addr×Obj)}{σ:St}{H:Hp}{s:Shared}{a C dx:Addr}{fs:List (Str×V)}{f:Str}{v:V}{A:Around}{E:Value->Shared->Prop}
theorem Inv.made(I:Inv X pins σ H s):Inv X pins σ (upd (upd H s.heap.objs.size (.own (s.heap.objs.size+1))) (s.heap.objs.size+1) (.ins C s.heap.objs.size []))
  { s with heap:=(s.heap.push PySem.W.emptyDict).push (PySem.W.instObj C s.heap.objs.size) }:=by
 have e1:(s.heap.push PySem.W.emptyDict).get? s.heap.objs.size=some PySem.W.emptyDict:=Heap.get?_push_size s.heap rfl
 have e2:((s.heap.push PySem.W.emptyDict).push (PySem.W.instObj C s.heap.objs.size)).get? (s.heap.objs.size+1)=some (PySem.W.instObj C s.heap.objs.size):=by
  have:=Heap.get?_push_size (s.heap.push PySem.W.emptyDict) (o:=PySem.W.instObj C s.heap.objs.size) rfl
  rwa [Heap.size_push]at this
 have e3:(s.heap.push PySem.W.emptyDict).Ns s.heap.objs.size (fun _=>none):=⟨PySem.W.emptyDict,#[],_,e1,rfl,(fun e he=>absurd he (by simp)),fun _=>rfl⟩
 have I1:=I.laid (a:=s.heap.objs.size) (o:=.own (s.heap.objs.size+1)) (h':=s.heap.push PySem.W.emptyDict) (t':=s.toks) (fun b u q=>Heap.get?_push_of_some _ q) (Nat.le_refl _) ⟨_,e1⟩;refine I1.laid (a:=s.heap.objs.size+1) (o:=.ins C s.heap.objs.size []) (t':=s.toks) (fun b u q=>Heap.get?_push_of_some _ q) (Nat.le_of_eq (Heap.size_push _ _)) ?_
 have ne:s.heap.objs.size≠s.heap.objs.size+1:=Nat.ne_of_lt (Nat.lt_succ_self _)
 refine⟨by rw[bB ne,aY],Nat.zero_le _,ne,e2,fun _=>none,(Heap.Ns1.of_empty e3).at fun o q=>Heap.get?_push_of_some _ q,fun _=>True.intro,fun y hy=>absurd rfl hy⟩
end
structure fF(k:Nat)(A:Around):Prop where
 hd:A.handled=none
 dp:A.depth+3*k+5<recursionLimit
 un:A.units+16*k+200<cLine
theorem fF.mono{j k:Nat}{A:Around}(r:fF k A)(h:j<=k):fF j A:=⟨r.hd,by have:=r.dp;omega,by have:=r.un;omega⟩
theorem fF.deeper{k:Nat}{A:Around}(r:fF (k+1) A)(env:Env):fF k (A.deeper env):=
 ⟨r.hd,by have:=r.dp;show A.depth+1+3*k+5<_;omega,by have:=r.un;show A.units+3+16*k+200<_;omega⟩
theorem fF.depth{k:Nat}{A:Around}(r:fF k A):A.depth<recursionLimit:=by have:=r.dp;omega
theorem fF.units{k:Nat}{A:Around}(r:fF k A):A.units+64<cLine:=by have:=r.un;omega
noncomputable def iC:TA:=fun _ H Q=>Q [] H
noncomputable def eA(ta:TE)(tr:TA):TA:=fun σ H Q=>ta σ H fun x H1=>tr σ H1 fun xs H2=>Q (x ::xs) H2
section
variable{X:Cx}{e:Expr}{es:List Expr}{te:TE}{t:TA}{pos:Pos}
theorem BW:PA X [] iC:=fun _ _ _ _ H Q I h=>Calls.spliced_nil ⟨[],H,I,.nil,h⟩
theorem yt(ha:PE X e te)(hr:PA X es t)(hs:starEach (e ::es) X.env=(false,eval e X.env) ::starEach es X.env:=by rfl):PA X (e ::es) (eA te t):=by
 intro pos pins s σ H Q I h;rw[hs];show wpAny _ _ (spliced ((false,eval e X.env) ::backTo pos (starEach es X.env))) _ _ s;refine Calls.spliced_cons (thn (ha pins s σ H _ I h) fun u s1 ⟨x,H1,I1,r1,q1⟩=>?_)
 exact thn (hr pos pins s1 σ H1 _ I1 q1) fun us s2 ⟨xs,H2,I2,r2,q2⟩=>⟨x ::xs,H2,I2,.cons r1 r2,q2⟩
noncomputable def A1(t:TA):TE:=fun σ H Q=>t σ H fun xs H1=>xs.length<=sizeLine /\ ∀ p,H1 p=none->Q (.ref p) (upd H1 p (.tup xs))
noncomputable def x9(t:TA):TE:=fun σ H Q=>t σ H fun xs H1=>xs.length<=sizeLine /\ ∀ p,H1 p=none->Q (.ref p) (upd H1 p (.lst xs))
theorem AN{x1}(h:PA X es t):PE X (.Tuple es x1 pos) (A1 t):=by
 intro pins s σ H Q I hq;refine wpAny_Tuple_spliced (thn (h pos pins s σ H _ I hq) fun us s1 ⟨xs,H1,I1,r,z,q⟩=>⟨by rw[<- r.length];exact z,?_⟩)
 have hf:H1 s1.heap.objs.size=none:=I1.hok.fresh (Nat.le_refl _)
 refine⟨.ref s1.heap.objs.size,upd H1 s1.heap.objs.size (.tup xs),I1.laid (t':=s1.toks) (fun b u e=>Heap.get?_push_of_some _ e) (Nat.le_refl _) ?_,rfl,q _ hf⟩
 exact⟨⟨z,.new _ _⟩,us,r,⟨_,Heap.get?_push_size _ rfl,rfl,_,rfl⟩⟩
theorem BG(h:PA X es t):PE X (.List es pos) (x9 t):=by
 intro pins s σ H Q I hq;refine wpAny_List_spliced (thn (h pos pins s σ H _ I hq) fun us s1 ⟨xs,H1,I1,r,z,q⟩=>⟨by rw[<- r.length];exact z,?_⟩)
 have hf:H1 s1.heap.objs.size=none:=I1.hok.fresh (Nat.le_refl _)
 refine⟨.ref s1.heap.objs.size,upd H1 s1.heap.objs.size (.lst xs),I1.laid (t':=s1.toks) (fun b u e=>Heap.get?_push_of_some _ e) (Nat.le_refl _) ?_,rfl,q _ hf⟩
 exact⟨z,us,0,r,Heap.get?_push_size _ rfl⟩
end
abbrev Sp:=List V->Hp->VK->XK->Prop
abbrev CXT:=List Env->Hp->Shared->XK->Value->Shared->Prop
structure zd(P:Program)(w:World)(K:PySem.W.Frag)(mg:Str->Option Value)(base:Heap)(A:Around)(outer:List Env)(s:Shared)(H:Hp):Prop where
 frames:A.frames=some outer
 mod:Mod K mg base
 bs:∀ b o,base.get? b=some o->s.heap.get? b=some o /\ H b=none
 bsz:base.objs.size<=s.heap.objs.size
 p9:s.heap.FunFrames base outer
 frf:∀ b∈frs outer,H b=none
 hok:HOk P w H s.heap
 bare:AllBare s.gens
noncomputable def CE(outer:List Env)(P:Program)(w:World)(H:Hp)(s:Shared)(Q:VK)(u:Value)(s':Shared):Prop:=
 ∃ v H',s'.os=s.os /\ AllBare s'.gens /\ Un (frs outer) [] H H' s.heap s'.heap /\ HOk P w H' s'.heap /\ RelV v u /\ Q v H'
noncomputable def CR(CX:CXT)(outer:List Env)(P:Program)(w:World)(H:Hp)(s:Shared)(Q:VK)(E:XK)(r:Result)(s':Shared):Prop:=
 match r with
 |.ok (.ret u)=>CE outer P w H s Q u s'
 |.ok _=>False
 |.error e=>CX outer H s E e s'
structure cO(P:Program)(w:World)(K:PySem.W.Frag)(mg:Str->Option Value)(base:Heap)(CX:CXT)(k:Nat)(f:Addr)(fd:FuncData)(ps:List Str)(sp:Sp):Prop where
 len:∀ vs H Q E,sp vs H Q E->vs.length=ps.length
 run:∀(A:Around) (outer:List Env) (s:Shared) (H:Hp) (args:Args) (us:List Value) (vs:List V) (Q:VK) (E:XK),fF k A->zd P w K mg base A outer s H->BindsTo s fd args (ps.zip us)->Vals vs us->sp vs H Q E ->
  codeAny (model P w) A (.call (.ref f) args) (CR CX outer P w H s Q E) s
theorem cO.mono{P:Program}{w:World}{K:PySem.W.Frag}{mg:Str->Option Value}{base:Heap}{CX:CXT}{j k:Nat}{f:Addr}{fd:FuncData}{ps:List Str}{sp:Sp}(F:cO P w K mg base CX j f fd ps sp)(h:j<=k):
  cO P w K mg base CX k f fd ps sp:=⟨F.len,fun A outer s H args us vs Q E hr=>F.run A outer s H args us vs Q E (hr.mono h)⟩
theorem cO.imp{P:Program}{w:World}{K:PySem.W.Frag}{mg:Str->Option Value}{base:Heap}{CX:CXT}{k:Nat}{f:Addr}{fd:FuncData}{ps:List Str}{sp sp':Sp}(F:cO P w K mg base CX k f fd ps sp)
  (h:∀ vs H Q E,sp' vs H Q E->sp vs H Q E):cO P w K mg base CX k f fd ps sp':=
 ⟨fun vs H Q E q=>F.len vs H Q E (h _ _ _ _ q),fun A outer s H args us vs Q E hr he hb hv hs=>F.run A outer s H args us vs Q E hr he hb hv (h _ _ _ _ hs)⟩
section
variable{X:Cx}{pins:List (Addr×Obj)}{σ:St}{H:Hp}{s s':Shared}
theorem Inv.E5(I:Inv X pins σ H s):zd X.prog X.w X.K X.mg X.base X.A X.stack s H:=
 ⟨I.ok.frames,I.ok.mod,I.bs,Nat.le_trans I.ok.bsz I.sz,I.stack,I.pK,I.hok,I.bare⟩
theorem Inv.after{Q:VK}{u:Value}(I:Inv X pins σ H s)(h:CE X.stack X.prog X.w H s Q u s'):EP X pins σ Q u s':=by
 obtain⟨v,H',os,bare,un,hok,r,q⟩:=h;obtain⟨hh,g,d,t,os'⟩:=s'
 obtain rfl:os'=s.os:=os
 exact⟨v,H',I.call (h':=hh) (g':=g) (d':=d) (t':=t) (ch:=[]) un hok bare (fun b z=>absurd z (by simp)),r,q⟩
end
noncomputable def Binds(K:PySem.W.Frag)(fd:FuncData)(ps:List Str)(ds:List Value):Prop:=
 ∀(s:Shared) (us:List Value),K.In s.heap->(us++ds).length=ps.length->BindsTo s fd ⟨us,[]⟩ (ps.zip (us++ds))
theorem Binds.all{K:PySem.W.Frag}{fd:FuncData}{ps:List Str}(h:∀ us:List Value,us.length=ps.length->bindArgs fd ⟨us,[]⟩=pure (ps.zip us)):Binds K fd ps []:=fun s us _ hl=>by
 rw[List.append_nil]at hl ⊢
 exact .of_eq (h us hl)
noncomputable def PK(X:Cx)(kws:List Keyword)(t:TA):Prop:=
 ∀(pos:Pos) (pins:List (Addr×Obj)) (s:Shared) (σ:St) (H:Hp) (Q:List V->Hp->Prop),Inv X pins σ H s->t σ H Q->wpAny (model X.prog X.w) X.A (evalAll ((backToKw pos (keywordEach kws X.env)).map (·.2))) (AP X pins σ Q) X.xe s
structure bu(N P:List Str)(sc:Scope):Prop where
 kind:sc.kind=.function
 co:sc.isCoroutine=false
 gen:sc.isGenerator=false
 nd:N.Nodup
 pre:N.take P.length=P
 par:∀ x∈P,sc.names.lookup x=some .local \/ sc.names.lookup x=some .cell
 nofree:∀ y∈sc.names,y.2≠.free
theorem o9{kindOf:Str->Option NameKind}{x:Str}:∀{binds:List (Str×Value)} {m:Str->Option Value},(∀ v,(x,v)∉binds)->bindL kindOf binds m x=m x
 |[],_,_=>rfl
 | (n,v) ::r,m,h=>by
   unfold bindL;rw[o9 fun w hw=>h w (List.mem_cons_of_mem _ hw)];split
   . have:x≠n:=by rintro rfl;exact h v List.mem_cons_self
     simp[this]
   . rfl
theorem pj{kindOf:Str->Option NameKind}{x:Str}:∀{binds:List (Str×Value)} {m:Str->Option Value},(∀ v,(x,v)∉binds)->bindC kindOf binds m x=m x
 |[],_,_=>rfl
 | (n,v) ::r,m,h=>by
   unfold bindC;rw[pj fun w hw=>h w (List.mem_cons_of_mem _ hw)];split
   . rfl
   . have:x≠n:=by rintro rfl;exact h v List.mem_cons_self
     simp[this]
theorem oX{kindOf:Str->Option NameKind}{x:Str}{v:Value}:∀{P:List Str} {vs:List Value} {i:Nat} {m:Str->Option Value},P.Nodup->P[i]?=some x->vs[i]?=some v->kindOf x=some .local ->
  bindL kindOf (P.zip vs) m x=some v
 |[],_,_,_,_,h,_,_=>by simp at h
 |_ ::_,[],_,_,_,_,h,_=>by simp at h
 | p ::P,w ::vs,0,m,nd,h1,h2,hk=>by
   simp at h1 h2;subst h1;subst h2;show bindL kindOf ((p,w) ::P.zip vs) m p=_;unfold bindL;rw[o9 fun v hv=>(List.nodup_cons.mp nd).1 (List.of_mem_zip hv).1,if_pos hk];simp
 | p ::P,w ::vs,i+1,m,nd,h1,h2,hk=>by
   show bindL kindOf ((p,w) ::P.zip vs) m x=_;unfold bindL;exact oX (i:=i) (List.nodup_cons.mp nd).2 (by simpa using h1) (by simpa using h2) hk
theorem oP{kindOf:Str->Option NameKind}{x:Str}{v:Value}:∀{P:List Str} {vs:List Value} {i:Nat} {m:Str->Option Value},P.Nodup->P[i]?=some x->vs[i]?=some v->kindOf x≠some .local ->
  bindC kindOf (P.zip vs) m x=some v
 |[],_,_,_,_,h,_,_=>by simp at h
 |_ ::_,[],_,_,_,_,h,_=>by simp at h
 | p ::P,w ::vs,0,m,nd,h1,h2,hk=>by
   simp at h1 h2;subst h1;subst h2;show bindC kindOf ((p,w) ::P.zip vs) m p=_;unfold bindC;rw[pj fun v hv=>(List.nodup_cons.mp nd).1 (List.of_mem_zip hv).1,if_neg hk];simp
 | p ::P,w ::vs,i+1,m,nd,h1,h2,hk=>by
   show bindC kindOf ((p,w) ::P.zip vs) m x=_;unfold bindC;exact oP (i:=i) (List.nodup_cons.mp nd).2 (by simpa using h1) (by simpa using h2) hk
noncomputable def start(N:List Str)(vs:List V):St:=vs.map some++List.replicate (N.length - vs.length) none
noncomputable def lG(CX:CXT)(P:Program)(w:World)(K:PySem.W.Frag)(mg:Str->Option Value)(base:Heap)(N:List Str)(qual:Str)(scope:Scope)(f:Addr)(cd:Value)(A:Around)(outer:List Env)(s:Shared)(H:Hp)(E:XK):Cx where
 prog:=P
 w:=w
 K:=K
 mg:=mg
 base:=base
 A:=A.deeper (envOfC qual scope s.heap.objs.size f cd)
 N:=N
 s₀:=s
 H₀:=H
 env:=envOfC qual scope s.heap.objs.size f cd
 outer:=outer
 stack:=envOfC qual scope s.heap.objs.size f cd ::outer
 ex:=[]
 calm:=true
 fn:=fun _=>true
 pn:=[]
 xe:=fun e s'=>wpAny (model P w) (A.deeper (envOfC qual scope s.heap.objs.size f cd)) (leaving (envOfC qual scope s.heap.objs.size f cd) e) (fun _ s''=>CX outer H s E e s'') (fun e' s''=>CX outer H s E e' s'') s'
theorem rK{sc:Scope}{n:Nat}{x:Str}(h:sc.names.lookup x=some .cell):∃ c,(cellsFrom n sc.names []).lookup x=some c:=by
 have q:=PySem.W.cellsFrom_some sc.names n [] (.inl h);exact Option.isSome_iff_exists.mp q
theorem vI{CX:CXT}{P:Program}{w:World}{K:PySem.W.Frag}{mg:Str->Option Value}{base:Heap}{N ps:List Str}{qual:Str}{scope:Scope}{f:Addr}{cd:Value}{A:Around}{outer:List Env}{s s1:Shared}{H:Hp}{E:XK}{us:List Value}{vs:List V}
  (S:bu N ps scope) (hd:A.handled=none) (e0:zd P w K mg base A outer s H) (hl:vs.length=ps.length) (r:Vals vs us)
  (x:InCallC s s.heap.objs.size (bindL (envOfC qual scope s.heap.objs.size f cd).kindOf (ps.zip us) fun _=>none) (cellsFrom (s.heap.objs.size+1) scope.names []) (bindC (envOfC qual scope s.heap.objs.size f cd).kindOf (ps.zip us) fun _=>none) s1):
  Inv (lG CX P w K mg base N qual scope f cd A outer s H E) [] (start N vs) H s1:=by
 have hpl:ps.length<=N.length:=by have:=congrArg List.length S.pre;rw[List.length_take]at this;omega
 obtain⟨h1,tk,rfl,hk⟩:=x.done
 have noA:∀ b:Addr,b∉(lG CX P w K mg base N qual scope f cd A outer s H E).ex:=fun b z=>absurd (show b∈([]:List Addr) from z) (by simp)
 refine⟨⟨e0.mod,S.kind,rfl,rfl,Nat.le_refl _,fun y z c h1 h2=>?_,fun y hy=>?_,fun y c _ h=>?_,fun _=>hd,Around.frames_deeper e0.frames,.inr ⟨rfl,rfl⟩,fun b z=>absurd z (noA b),e0.bs,e0.bsz,fun b _ _=>noA b,fun b z=>absurd z (noA b),e0.p9,e0.frf⟩,
  rfl,e0.bare,Un.kept hk,⟨_,x.toInCall.ns,fun i y v h1 h2 h3=>?_⟩,fun y c h=>⟨_,x.cell y c h⟩,e0.hok.fresh (Nat.le_refl _),fun y c h=>?_,fun p hp=>absurd (show p∈([]:List (Addr×Obj)) from hp) (by simp),e0.hok.kept hk,?_⟩
 . exact name_of_addr x.apart (PySem.mem_of_lookup h1) (PySem.mem_of_lookup h2)
 . have hy:scope.names.lookup y=some .cell \/ scope.names.lookup y=some .free:=hy
   rcases hy with hy|hy
   . exact rK hy
   . exact absurd rfl (S.nofree _ (PySem.mem_of_lookup hy))
 . exact Nat.le_of_lt (x.above y c (PySem.mem_of_lookup h))
 . have hi:i < vs.length:=by
    unfold start at h2
    by_cases hi:i<vs.length
    . exact hi
    . rw[List.getElem?_append_right (by simpa using hi)]at h2;rw[List.getElem?_replicate]at h2
      split at h2<;>cases h2
   have ha:vs[i]?=some v:=by
    unfold start at h2;rw[List.getElem?_append_left (by simpa using hi),List.getElem?_map]at h2
    cases e:vs[i]? with
    |none=>rw[e]at h2;cases h2
    |some a=>rw[e]at h2;cases h2;rfl
   obtain⟨u,hu,rv⟩:=r.get ha
   have hp:ps[i]?=some y:=by
    rw[<- S.pre,List.getElem?_take_of_lt (by omega)];exact h1
   have ndP:ps.Nodup:=by rw[<- S.pre];exact S.nd.sublist (List.take_sublist _ _)
   refine⟨u,rv,?_⟩
   rcases S.par y (List.mem_of_getElem? hp)with k|k
   . exact .inl ⟨k,oX ndP hp hu k⟩
   . obtain⟨c,e⟩:=rK (n:=s.heap.objs.size+1) k;refine .inr ⟨.inl k,c,e,?_⟩;have q:=x.cell y c e;rw[oP ndP hp hu (by show scope.names.lookup y≠_;rw[k];decide)]at q;exact q
 . exact e0.hok.fresh (Nat.le_of_lt (x.above y c (PySem.mem_of_lookup h)))
 . unfold start;show _=N.length;rw[List.length_append,List.length_map,List.length_replicate];omega
theorem DE{CX:CXT}{P:Program}{w:World}{K:PySem.W.Frag}{mg:Str->Option Value}{base:Heap}{k:Nat}{f:Addr}{name qual:Str}{params:Arguments}{body:List Stmt}{scope:Scope}{dV kV doc pm cdv ct oc:Value}{an od:Option Addr}
  {osl:Array (Option Value)} {N ps:List Str} {sp:Sp} (lk:K.lookup f=some ⟨oc,od,.func (PySem.W.fnOf name qual params body scope dV kV doc pm an cdv ct),osl⟩) (hcd:PySem.W.codeIn K cdv qual=true) (S:bu N ps scope)
  (len:∀ vs H Q E,sp vs H Q E->vs.length=ps.length)
  (hbody:∀(A:Around) (outer:List Env) (s:Shared) (H:Hp) (vs:List V) (Q:VK) (E:XK),fF k (A.deeper (envOfC qual scope s.heap.objs.size f cdv))->sp vs H Q E ->
    ∃ t,PSs (lG CX P w K mg base N qual scope f cdv A outer s H E) body t /\ t { nx:=fun _ H'=>Q .non H',rt:=Q } (start N vs) H):
  cO P w K mg base CX (k+1) f (PySem.W.fnOf name qual params body scope dV kV doc pm an cdv ct) ps sp:=by
 refine⟨len,fun A outer s H args us vs Q E hr e0 hb r hsp=>?_⟩
 have hl:=len _ _ _ _ hsp
 have KX:K.In s.heap:=e0.mod.kin.keeps fun b o e=>(e0.bs b o e).1
 have lim:s.heap.NoLimit:=e0.mod.nolimit.keeps fun b o e=>(e0.bs b o e).1
 have hkind:∀ y∈ps.zip us,scope.names.lookup y.1=some .local \/ (scope.names.lookup y.1=some .cell /\ ((cellsFrom (s.heap.objs.size+1) scope.names []).lookup y.1).isSome=true):=fun ⟨n,v⟩ hy=>by
  rcases S.par n (List.of_mem_zip hy).1 with q|q
  . exact .inl q
  . exact .inr ⟨q,PySem.W.cellsFrom_some _ _ _ (.inl q)⟩
 refine codeAny_call_function hr.depth (KX _ _ lk) rfl S.co S.gen rfl (PySem.W.codeRec_of KX hcd) (hb _ _ _ _ ?_)
 refine wpAny_newFunctionEnv_cells S.kind hkind fun env he s1 x=>?_
 subst he
 refine⟨lim.keeps x.toInCall.keep,codeAny_func ?_⟩
 obtain⟨t,ht,hq⟩:=hbody A outer s H vs Q E (hr.deeper _) hsp
 have I:Inv (lG CX P w K mg base N qual scope f cdv A outer s H E) [] (start N vs) H s1:=vI S hr.hd e0 hl r x
 refine wpAny_mono (ht [] s1 (start N vs) H _ I hq) (fun fl s' hs=>?_) fun e s' hs=>hs
 have fin:∀{σ':St} {H':Hp} {v:V} {u:Value},Inv (lG CX P w K mg base N qual scope f cdv A outer s H E) [] σ' H' s'->RelV v u->Q v H'->CE outer P w H s Q u s':=
  fun {σ' H' v u} J rv q=>⟨v,H',J.os,J.bare,J.base,J.hok,rv,q⟩
 cases fl with
 | ret u=>
   obtain⟨v,σ',H',J,rv,q⟩:=hs;exact fin J rv q
 | next=>
   obtain⟨σ',H',J,q⟩:=hs;exact fin (v:=V.non) (u:=Value.none) J rfl q
 | brk=>
   obtain⟨_,_,_,q⟩:=hs;exact False.elim q
 | cont=>
   obtain⟨_,_,_,q⟩:=hs;exact False.elim q
section
variable{X:Cx}{x:Str}{p pos:Pos}{e:Expr}{es:List Expr}{t:TA}{id T:String}{r:List V->Hp->VK->Prop}
noncomputable def tCB(r:List V->Hp->VK->Prop)(t:TA):TE:=fun σ H Q=>t σ H fun vs H1=>r vs H1 Q
theorem xY(hc:iG X (.builtin id) r)(hg:Gl X x)(hm:X.mg x=none)(hv:bootBuiltins x=some (.builtin id))(ha:PA X (e ::es) t)(hn:x ≠ "__name__":=by decide)(hdb:(x==("__debug__":Str))=false:=by decide)
  (he:starEach (e ::es) X.env=(false,eval e X.env) ::starEach es X.env:=by rfl) (hpl:(backTo pos (starEach es X.env)).any (·.1)=false:=by rfl):PE X (.Call (.Name x p) (e ::es) [] pos) (tCB r t):=by
 intro pins s σ H Q I h;refine wpAny_Call_Name_kw (i3 I hg hm hv ?_ hn hdb);exact PyProof.Rows.callWith_builtin1 (thn (ha pos pins s σ H _ I h) fun us s1 ⟨vs,H1,I1,r1,q1⟩=>hc pins s1 σ H1 vs us Q I1 r1 q1) he hpl
theorem uZ(hc:iG X (.type T) r)(hg:Gl X x)(hm:X.mg x=none)(hv:bootBuiltins x=some (.type T))(ha:PA X (e ::es) t)(hn:x ≠ "__name__":=by decide)(hdb:(x==("__debug__":Str))=false:=by decide)
  (he:starEach (e ::es) X.env=(false,eval e X.env) ::starEach es X.env:=by rfl) (hpl:(backTo pos (starEach es X.env)).any (·.1)=false:=by rfl):PE X (.Call (.Name x p) (e ::es) [] pos) (tCB r t):=by
 intro pins s σ H Q I h;refine wpAny_Call_Name_kw (i3 I hg hm hv ?_ hn hdb);exact PyProof.Rows.callWith_type1 (thn (ha pos pins s σ H _ I h) fun us s1 ⟨vs,H1,I1,r1,q1⟩=>hc pins s1 σ H1 vs us Q I1 r1 q1) he hpl
end
end L2
namespace HT
open PySem PyProof.Rows
section
open PySem.SeqAt
open PySem.AutoSeq1 (wpAny_loadPart')
open PySem.MeetsSeq PySem.MeetsSeq2 PySem.MeetsSeq3
end
section
variable{prog:Program}{w:World}{A:Around}{E:Value->Shared->Prop}{s:Shared}
theorem yc{t b:Addr}{vs ws:List Value}{Q:Value->Shared->Prop}(ht:IsTup s.heap t vs.toArray)(hb:IsTup s.heap b ws.toArray)(hv:vs≠[])
  (h1:ws=[]->Q (.ref t) s) (h2:ws≠[]->Q (.ref s.heap.objs.size) { s with heap:=s.heap.push { cls:=.type "tuple",data:=.seq (vs++ws).toArray } })
  (hsz:vs.length+ws.length<=sizeLine):wpAny (model prog w) A (binaryOp .Add (.ref t) (.ref b)) Q E s:=by
 obtain⟨⟨cls,dd,data,sl⟩,ho,hc,n,hd⟩:=id ht;obtain⟨⟨cls2,dd2,data2,sl2⟩,ho2,hc2,n2,hd2⟩:=id hb;simp only at hc hd hc2 hd2;subst hc hd hc2 hd2
 have e:vs.toArray++ws.toArray=(vs++ws).toArray:=by simp
 by_cases hw:ws=[]
 . exact concat_meets ⟨_,ho,rfl⟩ ⟨_,ho2,rfl⟩ noFill_tuple_add seq_tuple_add PySem.F.slot_tuple_add PySem.F.entry_tuple_add (PySem.F.args_tuple_add_2 _ _)
    (tuple_addW1 t b vs.toArray ws.toArray n n2 dd dd2 sl sl2 (by simpa using hv) (by simp[hw])) ⟨ho,ho2,h1 hw⟩
 . refine concat_meets ⟨_,ho,rfl⟩ ⟨_,ho2,rfl⟩ noFill_tuple_add seq_tuple_add PySem.F.slot_tuple_add PySem.F.entry_tuple_add (PySem.F.args_tuple_add_2 _ _)
    (tuple_addW2 t b vs.toArray ws.toArray n n2 dd dd2 sl sl2 (by simpa using hv) (by simpa using hw) (by rw[List.size_toArray,List.size_toArray];exact hsz)) ⟨ho,ho2,?_⟩
   rw[e];exact h2 hw
noncomputable def sIx(n d:Nat):Option Int->Nat
 |none=>d
 |some v=>if v<0 then(v+(n:Int)).toNat else min v.toNat n
theorem A9(n d:Nat)(hd:d<=n)(o:Option Int):sIx n d o<=n:=by
 cases o with
 |none=>exact hd
 | some v=>
   show(if v<0 then(v+(n:Int)).toNat else min v.toNat n)<=n
   by_cases hv:v<0
   . rw[if_pos hv];omega
   . rw[if_neg hv];exact Nat.min_le_right _ _
theorem uC(v:Int)(n d:Nat):(if v<0 then max (v+(n:Int)) 0 else min v (n:Int))=((sIx n d (some v):Nat):Int):=by
 show(if v<0 then max (v+(n:Int)) 0 else min v (n:Int))=(((if v<0 then(v+(n:Int)).toNat else min v.toNat n):Nat):Int)
 by_cases hv:v<0
 . simp only[if_pos hv];omega
 . simp only[if_neg hv];omega
theorem rX(lo hi:Option Int)(n:Nat):Builtin.Slice.sliceAdjust lo hi 1 (n:Int)=(((sIx n 0 lo:Nat):Int),((sIx n n hi:Nat):Int)):=by
 have h1:¬ ((1:Int)<0):=by omega
 unfold Builtin.Slice.sliceAdjust;simp only[h1,if_false];refine Prod.ext ?_ ?_
 . cases lo with
   |none=>rfl
   |some v=>exact uC v n 0
 . cases hi with
   |none=>rfl
   |some v=>exact uC v n n
theorem r9(i j:Nat):Builtin.Slice.slicePlaces (i:Int) (j:Int) 1=j - i:=by
 unfold Builtin.Slice.slicePlaces
 have h1:(1:Int)>0:=by omega
 simp only[h1,if_true,Int.ediv_one]
 split<;>omega
theorem nE{v:Value}{o:Option Int}{Q:Option Int->Shared->Prop}(p:IsPart v o)(h:Q o s):wpAny (model prog w) A (Builtin.Slice.slicePartIndex v) Q E s:=by
 cases p with
 |none=>exact slicePart_none h
 |int i t=>exact slicePart_int h
theorem gG{sl:Addr}{vl vu:Value}{lo hi:Option Int}{n:Nat}{Q:Int×Int×Nat->Shared->Prop}(hs:s.heap.IsSliceOf sl vl vu .none)(pl:IsPart vl lo)(pu:IsPart vu hi)
  (h:Q (((sIx n 0 lo:Nat):Int),1,sIx n n hi - sIx n 0 lo) s):wpAny (model prog w) A (Builtin.Slice.sliceApplied (.ref sl) (pure (n:Int))) Q E s:=by
 obtain⟨os,hos,hcs,hds⟩:=id hs;unfold Builtin.Slice.sliceApplied Builtin.Slice.sliceFields;refine wpAny_bind (wpAny_bind (wpAny_field hos hds (x:=vl) rfl (wpAny_bind (wpAny_field hos hds (x:=vu) rfl (wpAny_bind (wpAny_field hos hds (x:=.none) rfl (wpAny_pure ?_)))))));refine wpAny_bind (slicePart_none ?_);show wpAny _ _ (if((1:Int)==0)=true then _ else _) _ _ s;rw[if_neg (by decide)];refine wpAny_bind (nE pl (wpAny_bind (nE pu (wpAny_bind (wpAny_pure ?_)))));show wpAny _ _ (match Builtin.Slice.sliceAdjust lo hi 1 (n:Int)with|(lo,hi)=>pure (lo,(1:Int),Builtin.Slice.slicePlaces lo hi 1)) _ _ s;rw[rX lo hi n];show wpAny _ _ (pure (((sIx n 0 lo:Nat):Int),(1:Int),Builtin.Slice.slicePlaces ((sIx n 0 lo:Nat):Int) ((sIx n n hi:Nat):Int) 1)) _ _ s;rw[r9];exact wpAny_pure h
theorem wN(xs:Array Value)(i k:Nat):((List.range k).filterMap fun (m:Nat)=>xs[((i:Int)+(m:Int)*1).toNat]?).toArray=((xs.toList.drop i).take k).toArray:=by
 have e:(fun (m:Nat)=>xs[((i:Int)+(m:Int)*1).toNat]?)=fun m=>xs[i+m]?:=by
  funext m
  have:((i:Int)+(m:Int)*1).toNat=i+m:=by omega
  rw[this]
 rw[e];have:=pick_run xs i k;rw[List.filterMap_map]at this
 have e2:((fun x=>xs[x]?) ∘ fun x=>i+x)=fun m=>xs[i+m]?:=rfl
 rw[e2]at this;rw[this]
theorem kE{t sl:Addr}{items:Array Value}{vl vu:Value}{lo hi:Option Int}{Q:Value->Shared->Prop}(ht:IsTup s.heap t items)(hs:s.heap.IsSliceOf sl vl vu .none)(pl:IsPart vl lo)(pu:IsPart vu hi)
  (hw:¬ (sIx items.size 0 lo=0 /\ sIx items.size items.size hi=items.size))
  (h:Q (.ref s.heap.objs.size) { s with heap:=s.heap.push { cls:=.type "tuple",data:=.seq ((items.toList.drop (sIx items.size 0 lo)).take (sIx items.size items.size hi - sIx items.size 0 lo)).toArray } })
  (hsz:items.size<=sizeLine):wpAny (model prog w) A (getItem (.ref t) (.ref sl)) Q E s:=by
 have htake:sizeOk (.seq ((items.toList.drop (sIx items.size 0 lo)).take (sIx items.size items.size hi - sIx items.size 0 lo)).toArray):=by
  show((items.toList.drop (sIx items.size 0 lo)).take (sIx items.size items.size hi - sIx items.size 0 lo)).toArray.size<=sizeLine
  rw[List.size_toArray,List.length_take,List.length_drop,Array.length_toList];omega
 have hj:sIx items.size items.size hi<=items.size:=A9 _ _ (Nat.le_refl _) hi
 obtain⟨os,hos,hcs,hds⟩:=id hs
 have hTs:s.TypeIs (.ref sl) "slice":=⟨os,hos,hcs⟩
 unfold getItem
 try with_reducible refine wpAny_holding ?_
 first|refine wpAny_bind (wpAny_pure ?_)|skip
 refine wpAny_bind (wpAny_sequenceKey ht.typeIs (by decide) ?_)
 refine wpAny_bind (wpAny_callSpecial?_slot (name:=Str.ofString "__getitem__") ht.typeIs PyProof.Rows.slot_tuple_getitem
  (wpAny_call_entry PyProof.Rows.slot_tuple_getitem ht.typeIs entry_tuple_getitem ?_ (args_tuple_getitem _ _)))
 show wpAny _ _ (Builtin.Tuple.tupleItemsOf (.ref t) >>= _) _ _ s;refine wpAny_bind (tupleItemsOf_ ht ?_);refine wpAny_bind (wpAny_typeOf hTs ?_);rw[if_pos (by decide)];refine wpAny_bind (gG hs pl pu ?_)
 have hno:¬ ((((sIx items.size 0 lo:Nat):Int)==0&&(1:Int)==1&&(sIx items.size items.size hi - sIx items.size 0 lo)==items.size)=true):=by
  intro q;rw[Bool.and_eq_true,Bool.and_eq_true]at q
  have q1:((sIx items.size 0 lo:Nat):Int)=0:=eq_of_beq q.1.1
  have q2:sIx items.size items.size hi - sIx items.size 0 lo=items.size:=eq_of_beq q.2
  exact hw ⟨by omega,by omega⟩
 show wpAny _ _ (if(((sIx items.size 0 lo:Nat):Int)==0&&(1:Int)==1&&(sIx items.size items.size hi - sIx items.size 0 lo)==items.size)=true then _ else _) _ _ s;rw[if_neg hno,wN]
 first
  |exact wpAny_bind (m:=Builtin.Tuple.tupleExact _) (wpAny_newObj_type (wpAny_pure ⟨_,rfl,wpAny_pure h⟩) htake)
  |exact wpAny_bind (m:=Builtin.Tuple.tupleExact _) (wpAny_newObj_type (wpAny_bind (wpAny_pure (wpAny_pure ⟨_,rfl,wpAny_pure h⟩))) htake)
  |exact wpAny_bind (wpAny_bind (m:=Builtin.Tuple.tupleExact _) (wpAny_newObj_type (wpAny_pure (wpAny_pure ⟨_,rfl,wpAny_pure h⟩)) htake))
  |exact wpAny_bind (wpAny_bind (m:=Builtin.Tuple.tupleExact _) (wpAny_newObj_type (wpAny_pure ⟨_,rfl,wpAny_pure h⟩) htake))
end
end HT
namespace L2
open PySem PySem.Spec PyProof.Rows
abbrev TO:=St->Hp->(Option Int->Hp->Prop)->Prop
noncomputable def PO(X:Cx)(e:Option Expr)(t:TO):Prop:=
 ∀(pins:List (Addr×Obj)) (s:Shared) (σ:St) (H:Hp) (Q:Option Int->Hp->Prop),Inv X pins σ H s->t σ H Q ->
   wpAny (model X.prog X.w) X.A (evalPart e X.env) (fun u s'=>∃ o H',Inv X pins σ H' s' /\ IsPart u o /\ Q o H') X.xe s
noncomputable def ql:TO:=fun _ H Q=>Q none H
noncomputable def xf(t:TE):TO:=fun σ H Q=>t σ H fun x H1=>∃ i,x=.int i /\ Q (some i) H1
section
variable{X:Cx}{e:Expr}{te:TE}{lo hi:Option Expr}{tl th:TO}{pos p2:Pos}
theorem yq:PO X none ql:=by
 intro pins s σ H Q I h;rw[evalPart_none];exact wpAny_pure ⟨none,H,I,.none,h⟩
theorem yh(h:PE X e te):PO X (some e) (xf te):=by
 intro pins s σ H Q I hw;rw[evalPart_some]
 refine thn (h pins s σ H _ I hw) fun u s1 ⟨x,H1,I1,r1,q1⟩=>?_
 obtain⟨i,rfl,q⟩:=q1;obtain⟨t,rfl⟩:=r1
 exact⟨some i,H1,I1,.int i t,q⟩
noncomputable def SlR(X:Cx)(r:V->Option Int->Option Int->Hp->VK->Prop):Prop:=
 ∀(pins:List (Addr×Obj)) (s:Shared) (σ:St) (H:Hp) (x:V) (v vl vu:Value) (lo hi:Option Int) (sl:Addr) (Q:VK),Inv X pins σ H s->RelV x v->s.heap.IsSliceOf sl vl vu .none->IsPart vl lo->IsPart vu hi->r x lo hi H Q ->
   ∃ T id,typeLookup (.type T) "__getitem__" = pure (some (.builtin id)) /\ s.TypeIs v T /\ wpAny (model X.prog X.w) X.A (getItem v (.ref sl)) (EP X pins σ Q) X.xe s
noncomputable def tSl(r:V->Option Int->Option Int->Hp->VK->Prop)(te:TE)(tl th:TO):TE:=fun σ H Q=>te σ H fun x H1=>tl σ H1 fun l H2=>th σ H2 fun u H3=>r x l u H3 Q
theorem xb{r:V->Option Int->Option Int->Hp->VK->Prop}(hr:SlR X r)(he:PE X e te)(hl:PO X lo tl)(hu:PO X hi th):PE X (.Subscript e (.Slice lo hi none p2) pos) (tSl r te tl th):=by
 intro pins s σ H Q I h;refine Subscript_ (thn (he pins s σ H _ I h) fun v s1 ⟨x,H1,I1,r1,q1⟩=>?_);refine wpAny_Slice (thn (hl pins s1 σ H1 _ I1 q1) fun vl s2 ⟨l,H2,I2,pl,q2⟩=>thn (hu pins s2 σ H2 _ I2 q2) fun vu s3 ⟨u,H3,I3,pu,q3⟩=>?_);rw[evalPart_none];refine wpAny_pure ?_
 have I4:Inv X pins σ H3 { s3 with heap:=s3.heap.push { cls:=.type "slice",data:=.fields #[vl,vu,.none] } }:=I3.kept (t':=s3.toks) fun b ob q=>Heap.get?_push_of_some _ q
 obtain⟨T,id,hT,ht,hg⟩:=hr pins { s3 with heap:=s3.heap.push { cls:=.type "slice",data:=.fields #[vl,vu,.none] } } σ H3 x v vl vu l u s3.heap.objs.size Q I4 r1 (Heap.IsSliceOf.new ..) pl pu q3;show wpAny (model X.prog X.w) X.A (subscriptTail e (.Slice lo hi none p2) v (.ref s3.heap.objs.size)) (EP X pins σ Q) X.xe { s3 with heap:=s3.heap.push { cls:=.type "slice",data:=.fields #[vl,vu,.none] } };exact tail_any (ops:=[.ref s3.heap.objs.size,v]) ht hT hg (by with_unfolding_all rfl)
noncomputable def lY(xs:List V)(lo hi:Option Int):List V:=(xs.drop (HT.sIx xs.length 0 lo)).take (HT.sIx xs.length xs.length hi - HT.sIx xs.length 0 lo)
theorem lH(xs:List V)(lo hi:Option Int):(lY xs lo hi).length<=xs.length:=by
 unfold lY;rw[List.length_take,List.length_drop];omega
noncomputable def Et(K:PySem.W.Frag):V->Option Int->Option Int->Hp->VK->Prop:=fun x lo hi H Q=>∃ a xs,x=.ref a /\ SqT K H a xs /\
 ¬ (HT.sIx xs.length 0 lo=0 /\ HT.sIx xs.length xs.length hi=xs.length) /\ ∀ p,H p=none->Q (.ref p) (upd H p (.tup (lY xs lo hi)))
theorem Bs:SlR X (Et X.K):=by
 intro pins s σ H x v vl vu lo hi sl Q I rx hs pl pu h;obtain⟨a,xs,rfl,hx,hw,q⟩:=h;cases rx;obtain⟨its,r,ht,hz⟩:=I.tuple hx
 have hlen:its.toArray.size=xs.length:=by rw[List.size_toArray];exact r.length.symm
 refine⟨"tuple",_,PyProof.Rows.slot_tuple_getitem.lookup,ht.typeIs,?_⟩
 refine HT.kE ht hs pl pu (by rw[hlen];exact hw) ?_ (by rw[hlen];exact hz);rw[hlen]
 refine⟨.ref s.heap.objs.size,_,I.laid (t':=s.toks) (o:=.tup (lY xs lo hi)) (fun b ob q=>Heap.get?_push_of_some _ q) (Nat.le_refl _) ?_,rfl,q _ (I.hok.fresh (Nat.le_refl _))⟩
 exact⟨⟨Nat.le_trans (lH xs lo hi) hz,.new _ _⟩,_,(r.drop (HT.sIx xs.length 0 lo)).take (HT.sIx xs.length xs.length hi - HT.sIx xs.length 0 lo),IsTup.new _ _⟩
noncomputable def xA(K:PySem.W.Frag):R2:=fun x y H Q=>∃ a b xs ys,x=.ref a /\ y=.ref b /\ SqT K H a xs /\ SqT K H b ys /\ xs≠[] /\ xs.length+ys.length<=sizeLine /\
 (ys=[]->Q (.ref a) H) /\ (ys≠[]->∀ p,H p=none->Q (.ref p) (upd H p (.tup (xs++ys))))
theorem Vals.mn{xs:List V}{us:List Value}(r:Vals xs us):us=[]↔xs=[]:=by
 cases r with
 |nil=>simp
 |cons _ _=>simp
theorem y1:OpR X (binaryOp .Add) (xA X.K):=by
 intro pins s σ H x y v u Q I rx ry h;obtain⟨a,b,xs,ys,rfl,rfl,ha,hb,hx,hz,q1,q2⟩:=h;cases rx;cases ry;obtain⟨its,r1,p1,_⟩:=I.tuple ha;obtain⟨its2,r2,p2,_⟩:=I.tuple hb;refine HT.yc p1 p2 (fun z=>hx (r1.mn.mp z)) (fun z=>⟨.ref a,H,I,rfl,q1 (r2.mn.mp z)⟩) (fun z=>?_) (by rw[<- r1.length,<- r2.length];exact hz)
 refine⟨.ref s.heap.objs.size,_,I.laid (t':=s.toks) (o:=.tup (xs++ys)) (fun b ob q=>Heap.get?_push_of_some _ q) (Nat.le_refl _) ?_,rfl,q2 (fun w=>z (r2.mn.mpr w)) _ (I.hok.fresh (Nat.le_refl _))⟩
 exact⟨⟨by rw[List.length_append];exact hz,.new _ _⟩,_,r1.append r2,IsTup.new _ _⟩
end
noncomputable def ixN(n:Nat)(i:Int):Option Nat:=if 0<=i then(if i<n then some i.toNat else none)else if -(n:Int)<=i then some (i+n).toNat else none
noncomputable def atI{α:Type}(xs:List α)(i:Int):Option α:=(ixN xs.length i).bind fun j=>xs[j]?
theorem zq{n:Nat}{i:Int}{j:Nat}(h:ixN n i=some j):seqIndex? i n=some j /\ j<n /\ -(n:Int)<=i /\ i<n:=by
 unfold ixN at h
 by_cases h0:0<=i
 . rw[if_pos h0]at h
   by_cases h1:i<n
   . rw[if_pos h1]at h
     have e:i.toNat=j:=Option.some.inj h
     exact⟨by rw[seqIndex_of h0 h1,e],by omega,by omega,h1⟩
   . rw[if_neg h1]at h;cases h
 . rw[if_neg h0]at h
   by_cases h1:-(n:Int)<=i
   . rw[if_pos h1]at h
     have e:(i+n).toNat=j:=Option.some.inj h
     exact⟨by rw[seqIndex_neg (by omega) h1,e],by omega,h1,by omega⟩
   . rw[if_neg h1]at h;cases h
theorem uw{α:Type}{xs:List α}{i:Int}{v:α}(h:atI xs i=some v):∃ j,seqIndex? i xs.length=some j /\ xs[j]?=some v /\ j<xs.length /\ -(xs.length:Int)<=i /\ i<xs.length:=by
 unfold atI at h
 cases e:ixN xs.length i with
 |none=>rw[e]at h;cases h
 | some j=>
   rw[e]at h;obtain⟨h1,h2,h3,h4⟩:=zq e
   exact⟨j,h1,h,h2,h3,h4⟩
noncomputable def pV(b:Expr):Prop:=∀ o i,subscripted b false o i=operate [o,i] (getItem o i)
noncomputable def IxR(X:Cx)(r:R2):Prop:=
 ∀(value slice:Expr) (pins:List (Addr×Obj)) (s:Shared) (σ:St) (H:Hp) (x y:V) (v u:Value) (Q:VK),Inv X pins σ H s->RelV x v->RelV y u->r x y H Q ->
   subscripted slice false v u=operate [v,u] (getItem v u)->wpAny (model X.prog X.w) X.A (subscriptTail value slice v u) (EP X pins σ Q) X.xe s
noncomputable def MtR(X:Cx)(id:String)(r:V->List V->Hp->VK->Prop):Prop:=
 ∀(pins:List (Addr×Obj)) (s:Shared) (σ:St) (H:Hp) (x:V) (xs:List V) (v:Value) (us:List Value) (Q:VK),Inv X pins σ H s->RelV x v->Vals xs us->r x xs H Q ->
   wpAny (model X.prog X.w) X.A (call (.builtin id) (v ::us)) (EP X pins σ Q) X.xe s
section
variable{X:Cx}{a b:Expr}{ta tb:TE}{pos:Pos}
theorem Dh{r:R2}(hr:IxR X r)(ha:PE X a ta)(hb:PE X b tb)(hs:pV b):PE X (.Subscript a b pos) (tOp r ta tb):=by
 intro pins s σ H Q I h;exact Subscript_ (Cj ha hb I h fun v u s2 x y H2 I2 rx ry q=>hr a b pins s2 σ H2 x y v u Q I2 rx ry q (hs _ _))
noncomputable def yz(K:PySem.W.Frag):R2:=fun x y H Q=>∃ p xs i v,x=.ref p /\ y=.int i /\ SqL K H p xs /\ atI xs i=some v /\ Q v H
noncomputable def Dt(K:PySem.W.Frag):R2:=fun x y H Q=>∃ p xs i v,x=.ref p /\ y=.int i /\ SqT K H p xs /\ atI xs i=some v /\ Q v H
theorem b9:IxR X (yz X.K):=by
 intro value slice pins s σ H x y v u Q I rx ry h hs;obtain⟨p,xs,i,z,rfl,rfl,hq,he,q⟩:=h;cases rx;obtain⟨t,rfl⟩:=ry;obtain⟨its,r,pl,hz⟩:=I.list hq;obtain⟨j,h1,h2,h3,h4,h5⟩:=uw he;obtain⟨w,ew,rw'⟩:=r.get h2;have hl:=r.length;have hn:=pI
 have fin:EP X pins σ Q w s:=⟨z,H,I,rw',q⟩
 by_cases h0:0<=i
 . have hj:i.toNat = j:=by
    rw[seqIndex_of h0 h5]at h1;exact Option.some.inj h1
   exact item_listR pl.isList h0 (by omega) (by rw[hj];simpa using ew) fin hs
 . have hj:(i + (its.toArray.size:Int)).toNat = j:=by
    rw[seqIndex_neg (by omega) h4]at h1;rw[List.size_toArray,<- hl];exact Option.some.inj h1
   exact subscriptTail_builtinR (x:=w) pl.isList.typeIs slot_list_getitem.lookup
    (wpAny_getItem_list_neg (Q:=fun r s'=>r=w /\ EP X pins σ Q r s') pl.isList (by omega) (by rw[List.size_toArray]<;>omega) (by omega) (by rw[hj];simpa using ew) ⟨rfl,fin⟩) hs
theorem aQ:IxR X (Dt X.K):=by
 intro value slice pins s σ H x y v u Q I rx ry h hs;obtain⟨p,xs,i,z,rfl,rfl,hq,he,q⟩:=h;cases rx;obtain⟨t,rfl⟩:=ry;obtain⟨its,r,pl,hz⟩:=I.tuple hq;obtain⟨j,h1,h2,h3,h4,h5⟩:=uw he;obtain⟨w,ew,rw'⟩:=r.get h2;have hl:=r.length;have hn:=pI
 have fin:EP X pins σ Q w s:=⟨z,H,I,rw',q⟩
 exact subscriptTail_builtinR (x:=w) pl.typeIs slot_tuple_getitem.lookup
  (getItem_tuple (j:=j) (Q:=fun r s'=>r=w /\ EP X pins σ Q r s') pl (by omega) (by omega) (by rw[List.size_toArray,<- hl];exact h1) (by simpa using ew) ⟨rfl,fin⟩) hs
theorem Inv.lst{pins:List (Addr×Obj)}{σ:St}{H:Hp}{s:Shared}{p:Addr}{xs:List V}(I:Inv X pins σ H s)(h:H p=some (.lst xs)):
  ∃(its:List Value) (n:Nat),Vals xs its /\ s.heap.get? p=some { cls:=.type "list",data:=.seq its.toArray n } /\ xs.length<=sizeLine:=by
 obtain⟨z,its,n,r,e⟩:=I.hok p _ h
 exact⟨its,n,r,e,z⟩
theorem pJ(lo hi:Option Int)(n:Nat):(sliceBounds lo hi none n).1=((HT.sIx n 0 lo:Nat):Int) /\ (sliceBounds lo hi none n).2.1=((HT.sIx n n hi:Nat):Int) /\ (sliceBounds lo hi none n).2.2=1:=by
 refine⟨?_,?_,rfl⟩
 . cases lo with
   |none=>simp[sliceBounds,HT.sIx]
   | some i=>
     simp only[sliceBounds,HT.sIx,Option.getD_none,show(1:Int)>0 by decide,if_true]
     by_cases h:i<0
     . simp only[h,if_true]<;>omega
     . simp only[h,if_false]<;>omega
 . cases hi with
   |none=>simp[sliceBounds,HT.sIx]
   | some i=>
     simp only[sliceBounds,HT.sIx,Option.getD_none,show(1:Int)>0 by decide,if_true]
     by_cases h:i<0
     . simp only[h,if_true]<;>omega
     . simp only[h,if_false]<;>omega
theorem n6(its:List Value)(lo hi:Option Int):slicePick its.toArray lo hi none=((its.drop (HT.sIx its.length 0 lo)).take (HT.sIx its.length its.length hi - HT.sIx its.length 0 lo)).toArray:=by
 obtain⟨h1,h2,h3⟩:=pJ lo hi its.toArray.size;unfold slicePick;rw[h1,h2,h3]
 simp only[sliceRange_one,pick_run,List.size_toArray]<;>rfl
noncomputable def Fj(K:PySem.W.Frag):V->Option Int->Option Int->Hp->VK->Prop:=fun x lo hi H Q=>∃ a xs,x=.ref a /\ SqL K H a xs /\ ∀ p,H p=none->Q (.ref p) (upd H p (.lst (lY xs lo hi)))
theorem DU:SlR X (Fj X.K):=by
 intro pins s σ H x v vl vu lo hi sl Q I rx hs pl pu h;obtain⟨a,xs,rfl,hx,q⟩:=h;cases rx;obtain⟨its,r,ht,hz⟩:=I.list hx;have hlen:=r.length
 refine⟨"list",_,slot_list_getitem.lookup,ht.isList.typeIs,?_⟩
 refine wpAny_getItem_list_slice ht.isList hs pl pu .none (by simp) ?_ (by rw[List.size_toArray]<;>omega);rw[n6,<- hlen]
 refine⟨.ref s.heap.objs.size,_,I.laid (t':=s.toks) (o:=.lst (lY xs lo hi)) (fun b ob q=>Heap.get?_push_of_some _ q) (Nat.le_refl _) ?_,rfl,q _ (I.hok.fresh (Nat.le_refl _))⟩
 exact⟨Nat.le_trans (lH xs lo hi) hz,_,0,(r.drop (HT.sIx xs.length 0 lo)).take (HT.sIx xs.length xs.length hi - HT.sIx xs.length 0 lo),Heap.get?_push_size _ rfl⟩
noncomputable def jx:V->Bool
 |.non=>true
 |.bl _=>true
 |.int _=>true
 |.str _=>true
 |_=>false
noncomputable def eqV:V->V->Bool
 |.non,.non=>true
 |.bl a,.bl b=>a==b
 |.bl a,.int b=>(if a then 1 else 0)==b
 |.int a,.bl b=>a==(if b then 1 else 0)
 |.int a,.int b=>a==b
 |.str a,.str b=>a==b
 |_,_=>false
theorem Cu{A:Around}{s:Shared}{y x:V}{u v:Value}(ry:RelV y u)(rx:RelV x v)(fy:jx y=true)(fx:jx x=true):SeqAt.EqAt A s u v (eqV y x):=by
 cases y with
 | non=>
   cases ry
   cases x with
   |non=>cases rx;exact SeqAt.EqAt.same _
   |bl b=>cases rx;exact SeqAt.EqAt.none_bool b
   |int b=>obtain⟨t,rfl⟩:=rx;exact SeqAt.EqAt.none_int b t
   |str b=>obtain⟨t,rfl⟩:=rx;exact SeqAt.EqAt.none_str b t
   |_=>exact absurd (show false=true from fx) Bool.false_ne_true
 | bl a=>
   cases ry
   cases x with
   |non=>cases rx;exact SeqAt.EqAt.bool_none a
   |bl b=>cases rx;exact SeqAt.EqAt.bool_bool a b
   |int b=>obtain⟨t,rfl⟩:=rx;exact SeqAt.EqAt.bool_int a b t
   |str b=>obtain⟨t,rfl⟩:=rx;exact SeqAt.EqAt.bool_str a b t
   |_=>exact absurd (show false=true from fx) Bool.false_ne_true
 | int a=>
   obtain⟨t',rfl⟩:=ry
   cases x with
   |non=>cases rx;exact SeqAt.EqAt.int_none a t'
   |bl b=>cases rx;exact SeqAt.EqAt.int_bool a t' b
   |int b=>obtain⟨t,rfl⟩:=rx;exact SeqAt.EqAt.int_int a t' b t
   |str b=>obtain⟨t,rfl⟩:=rx;exact SeqAt.EqAt.int_str a t' b t
   |_=>exact absurd (show false=true from fx) Bool.false_ne_true
 | str a=>
   obtain⟨t',rfl⟩:=ry
   cases x with
   |non=>cases rx;exact SeqAt.EqAt.str_none a t'
   |bl b=>cases rx;exact SeqAt.EqAt.str_bool a t' b
   |int b=>obtain⟨t,rfl⟩:=rx;exact SeqAt.EqAt.str_int a t' b t
   |str b=>obtain⟨t,rfl⟩:=rx;exact SeqAt.EqAt.str_str a t' b t
   |_=>exact absurd (show false=true from fx) Bool.false_ne_true
 |_=>exact absurd (show false=true from fy) Bool.false_ne_true
noncomputable def eqU(x:V)(u:Value):Bool:=match u with
 |.none=>eqV .non x
 |.bool b=>eqV (.bl b) x
 |.int i _=>eqV (.int i) x
 |.str z _=>eqV (.str z) x
 |_=>false
theorem xp{x y:V}{u:Value}(r:RelV y u)(f:jx y=true):eqU x u=eqV y x:=by
 cases y with
 |non=>cases r;rfl
 |bl b=>cases r;rfl
 |int i=>obtain⟨t,rfl⟩:=r;rfl
 |str z=>obtain⟨t,rfl⟩:=r;rfl
 |_=>exact absurd (show false=true from f) Bool.false_ne_true
theorem pY{x:V}:∀{xs:List V} {us:List Value},Vals xs us->xs.all jx=true->us.any (eqU x)=xs.any fun y=>eqV y x
 |_,_,.nil,_=>rfl
 | y ::xs,u ::us,.cons r t,f=>by
   rw[List.all_cons,Bool.and_eq_true]at f;rw[List.any_cons,List.any_cons,xp r f.1,pY t f.2]
theorem m8{A:Around}{s:Shared}{x:V}{v:Value}(rx:RelV x v)(fx:jx x=true):∀{xs:List V} {us:List Value},Vals xs us->xs.all jx=true->∀ u∈us,SeqAt.EqAt A s u v (eqU x u)
 |_,_,.nil,_=>fun u hu=>by cases hu
 | y ::xs,u ::us,.cons r t,f=>fun u' hu=>by
   rw[List.all_cons,Bool.and_eq_true]at f
   rcases List.mem_cons.mp hu with rfl|hu
   . rw[xp r f.1];exact Cu r rx f.1 fx
   . exact m8 rx fx t f.2 u' hu
noncomputable def inV(x:V)(xs:List V):Bool:=xs.any fun y=>eqV y x
noncomputable def rIn(K:PySem.W.Frag)(neg:Bool):R2:=fun x y H Q=>∃ p xs,y=.ref p /\ (SqL K H p xs \/ SqT K H p xs) /\ jx x=true /\ xs.all jx=true /\ Q (.bl (if neg then !inV x xs else inV x xs)) H
theorem vP:OpR X (compareOp .In) (rIn X.K false):=by
 intro pins s σ H x y v u Q I rx ry h;obtain⟨p,xs,rfl,hq,fx,fs,q⟩:=h;cases ry
 rcases hq with hq|hq
 . obtain⟨its,r,pl,hz⟩:=I.list hq;refine SeqAt.in_listAt (eqU x) pl.isList (fun w hw=>m8 rx fx r fs w (by simpa using hw)) ⟨.bl _,H,I,rfl,?_⟩;rw[show its.toArray.any (eqU x)=its.any (eqU x) by simp,pY r fs];exact q
 . obtain⟨its,r,pl,hz⟩:=I.tuple hq;refine SeqAt.in_tupleAt (eqU x) pl (fun w hw=>m8 rx fx r fs w (by simpa using hw)) ⟨.bl _,H,I,rfl,?_⟩;rw[show its.toArray.any (eqU x)=its.any (eqU x) by simp,pY r fs];exact q
theorem p7:iG X (.builtin "len") (fun xs H Q=>∃ p ys,xs=[.ref p] /\ (SqL X.K H p ys \/ SqT X.K H p ys) /\ Q (.int ys.length) H):=by
 intro pins s σ H xs us Q I r h;obtain⟨p,ys,rfl,hq,q⟩:=h;obtain⟨u,rfl,rx⟩:=vals1 r;cases rx;have hn:=pI
 rcases hq with hq|hq
 . obtain⟨its,r',pl,hz⟩:=I.list hq;have hlen:=r'.length;exact Calls.call_len_list pl.isList (by simp only[List.size_toArray]<;>omega) ⟨.int ys.length,H,I.tok _,⟨s.toks+1,by rw[List.size_toArray,hlen]⟩,q⟩
 . obtain⟨its,r',pl,hz⟩:=I.tuple hq;have hlen:=r'.length;exact len_tuple pl (by simp only[List.size_toArray]<;>omega) ⟨.int ys.length,H,I.tok _,⟨s.toks+1,by rw[List.size_toArray,hlen]⟩,q⟩
theorem p6:iG X (.type "list") (fun xs H Q=>∃ p ys,xs=[.ref p] /\ (SqL X.K H p ys \/ SqT X.K H p ys) /\ ∀ l,H l=none->Q (.ref l) (upd H l (.lst ys))):=by
 intro pins s σ H xs us Q I r h;obtain⟨p,ys,rfl,hq,q⟩:=h;obtain⟨u,rfl,rx⟩:=vals1 r;cases rx
 have fin:∀(its:List Value),Vals ys its->ys.length<=sizeLine->∀(h':Heap) (c':Nat),(∀ b o',s.heap.get? b=some o'->h'.get? b=some o') ->
   h'.get? s.heap.objs.size=some { cls:=.type "list",dict:=none,data:=.seq its.toArray c',slots:=#[] }->EP X pins σ Q (.ref s.heap.objs.size) { s with heap:=h' }:=fun its r' hz h' c' kp e=>
  ⟨.ref s.heap.objs.size,_,I.laid (t':=s.toks) kp (Nat.le_refl _) (show eB X.prog X.w _ h' _ (.lst ys) from⟨hz,its,c',r',e⟩),rfl,q _ (I.hok.fresh (Nat.le_refl _))⟩
 rcases hq with hq|hq
 . obtain⟨its,r',pl,hz⟩:=I.list hq;have hlen:=r'.length;obtain⟨o,ho,hc,n,hd⟩:=pl.isList;exact call_list_seq p (.inl rfl) ho hc hd (fun h' c' kp e=>fin its r' hz h' c' kp e) (by simp only[List.size_toArray]<;>omega)
 . obtain⟨its,r',pl,hz⟩:=I.tuple hq;have hlen:=r'.length;obtain⟨o,ho,hc,n,hd⟩:=pl;exact call_list_seq p (.inr rfl) ho hc hd (fun h' c' kp e=>fin its r' hz h' c' kp e) (by simp only[List.size_toArray]<;>omega)
theorem gD:iG X (.type "tuple") (fun xs H Q=>∃ p ys,xs=[.ref p] /\ ((SqL X.K H p ys /\ ∀ l,H l=none->Q (.ref l) (upd H l (.tup ys))) \/ (SqT X.K H p ys /\ Q (.ref p) H))):=by
 intro pins s σ H xs us Q I r h;obtain⟨p,ys,rfl,h⟩:=h;obtain⟨u,rfl,rx⟩:=vals1 r;cases rx
 rcases h with⟨hq,q⟩|⟨hq,q⟩
 . obtain⟨its,r',pl,hz⟩:=I.list hq;have hlen:=r'.length;refine call_tuple_list pl.isList (fun h' kp=>?_) (by simp only[List.size_toArray]<;>omega)
   have I1:Inv X pins σ H { s with heap:=h' }:=I.kept (t':=s.toks) kp
   have I2:Inv X pins σ (upd H h'.objs.size (.tup ys)) { s with heap:=h'.push { cls:=.type "tuple",data:=.seq its.toArray } }:=
    I1.laid (t':=s.toks) (fun b o e=>Heap.get?_push_of_some _ e) (Nat.le_refl _) (show eB X.prog X.w _ _ _ (.tup ys) from⟨⟨hz,.new _ _⟩,its,r',IsTup.new _ _⟩)
   exact⟨.ref h'.objs.size,_,I2,rfl,q _ (I1.hok.fresh (Nat.le_refl _))⟩
 . obtain⟨its,r',pl,hz⟩:=I.tuple hq;exact call_tuple_same pl ⟨.ref p,H,I,rfl,q⟩
noncomputable def tyV(K:PySem.W.Frag)(T:String)(x:V)(H:Hp):Prop:=match x with
 |.str _=>T = "str"
 |.int _=>T = "int"
 | .ref p=>(T = "list" /\ ∃ xs,SqL K H p xs) \/ (T = "tuple" /\ ∃ o,K.lookup p = some o /\ o.cls = .type "tuple" /\ o.dict = none) \/
    (T = "dict" /\ ((∃ kvs,H p=some (.dK kvs)) \/ ∃ kvs,H p=some (.dT kvs))) \/ (T = "set" /\ ∃ S n,H p=some (.set S n))
 |_=>False
theorem xn{pins:List (Addr×Obj)}{σ:St}{H:Hp}{s:Shared}{T:String}{x:V}{v:Value}(I:Inv X pins σ H s)(r:RelV x v)(ty:tyV X.K T x H):
  s.TypeIs v T /\ ∀ a,v=.ref a->∃ ob,s.heap.get? a=some ob /\ ob.dict=none:=by
 cases x with
 | str z=>
   obtain⟨t,rfl⟩:=r
   cases(show T = "str" from ty)
   exact⟨typeIs_str s z t,fun _ e=>nomatch e⟩
 | int i=>
   obtain⟨t,rfl⟩:=r
   cases(show T = "int" from ty)
   exact⟨typeIs_int s i t,fun _ e=>nomatch e⟩
 | ref p=>
   cases r
   rcases ty with⟨rfl,xs,hq⟩|⟨rfl,o,hk,hc,hd⟩|⟨rfl,hk⟩|⟨rfl,S,n,hk⟩
   . obtain⟨its,_,pl,_⟩:=I.list hq
     refine⟨pl.isList.typeIs,fun a e=>?_⟩
     cases e;obtain⟨o,n,e,c,hd,_⟩:=pl
     exact⟨o,e,hd⟩
   . refine⟨⟨o,I.kIn p o hk,hc⟩,fun a e=>?_⟩
     cases e
     exact⟨o,I.kIn _ o hk,hd⟩
   . have z:∃ o,s.heap.get? p = some o /\ o.ExactDict:=by
      rcases hk with⟨kvs,hk⟩|⟨kvs,hk⟩
      . obtain⟨_,_,_,_,o,_,_,e,ex,_⟩:=I.hok p _ hk
        exact⟨o,e,ex⟩
      . obtain⟨_,_,_,_,o,_,_,e,ex,_⟩:=I.hok p _ hk
        exact⟨o,e,ex⟩
     obtain⟨o,e,ex⟩:=z
     refine⟨⟨o,e,ex.1⟩,fun a e2=>?_⟩
     cases e2
     exact⟨o,e,ex.2.1⟩
   . obtain⟨o,_,_,_,e,ex,_⟩:=I.hok p _ hk
     refine⟨⟨o,e,ex.1⟩,fun a e2=>?_⟩
     cases e2
     exact⟨o,e,ex.2.1⟩
 |_=>exact False.elim ty
noncomputable def AI(K:PySem.W.Frag)(T:String)(r:V->List V->Hp->VK->Prop)(to:TE):TE:=fun σ H Q=>to σ H fun x H1=>tyV K T x H1 /\ r x [] H1 Q
noncomputable def tBM(K:PySem.W.Frag)(T:String)(r:V->List V->Hp->VK->Prop)(to:TE)(t:TA):TE:=fun σ H Q=>to σ H fun x H1=>tyV K T x H1 /\ t σ H1 fun xs H2=>r x xs H2 Q
variable{o e:Expr}{es:List Expr}{to:TE}{t:TA}{name:Str}{apos cpos:Pos}{T id:String}{r:V->List V->Hp->VK->Prop}
theorem BE(pa:PlainAttrs T)(slot:Slot T name id)(hty:typeOf (.builtin id)=pure (.type "method_descriptor"))(hm:MtR X id r)(ho:PE X o to)
  (hbase:attributeBase o name X.env (eval o X.env)=eval o X.env:=by rfl) (hline:(apos.endLine==cpos.line)=true:=by rfl):PE X (.Call (.Attribute o name apos) [] [] cpos) (AI X.K T r to):=by
 intro pins s σ H Q I h;refine wpAny_Call_method0_late hbase hline (thn (ho pins s σ H _ I h) fun v s1 ⟨x,H1,I1,r1,ty,q1⟩=>?_);obtain⟨h1,h2⟩:=xn I1 r1 ty
 exact⟨T,id,pa,slot,hty,h1,h2,Calls.callWith_builtin rfl (PySem.evalArgs_none (hm pins s1 σ H1 x [] v [] Q I1 r1 .nil q1))⟩
theorem Dr(pa:PlainAttrs T)(slot:Slot T name id)(hty:typeOf (.builtin id)=pure (.type "method_descriptor"))(hm:MtR X id r)(ho:PE X o to)(ha:PA X (e ::es) t)
  (hbase:attributeBase o name X.env (eval o X.env)=eval o X.env:=by rfl)
  (hfew:((backTo cpos (starEach (e ::es) X.env)).all (fun x=>!x.1)&&(backToKw cpos (keywordEach [] X.env)).all (fun x=>x.1.isSome)
    && decide ((e ::es).length+([]:List Keyword).length+(if([]:List Keyword).isEmpty then 0 else 1)<30))=true:=by rfl)
  (hline:(apos.endLine==cpos.line)=true:=by rfl) (hs:starEach (e ::es) X.env=(false,eval e X.env) ::starEach es X.env:=by rfl) (hplain:(backTo cpos (starEach es X.env)).any (·.1)=false:=by rfl):
  PE X (.Call (.Attribute o name apos) (e ::es) [] cpos) (tBM X.K T r to t):=by
 intro pins s σ H Q I h;refine wpAny_Call_method_late hbase hfew hline rfl (thn (ho pins s σ H _ I h) fun v s1 ⟨x,H1,I1,r1,ty,q1⟩=>?_);obtain⟨h1,h2⟩:=xn I1 r1 ty
 refine⟨T,id,pa,slot,hty,h1,h2,?_⟩
 have hA:=ha cpos pins s1 σ H1 _ I1 q1
 rw[hs]at hA ⊢
 refine Calls.callWith_builtin (by show(false||(backTo cpos (starEach es X.env)).any (·.1))=false;rw[hplain]<;>rfl) (Calls.evalArgs_plain ?_)
 exact thn hA fun us s2 ⟨vs,H2,I2,r2,q2⟩=>hm pins s2 σ H2 x vs v us Q I2 r1 r2 q2
end
noncomputable def MtM(X:Cx)(id:String)(r:V->List V->Hp->VK->Prop):Prop:=
 ∀(pins:List (Addr×Obj)) (s:Shared) (σ:St) (H:Hp) (x:V) (xs:List V) (v:Value) (us:List Value) (Q:VK),Inv X pins σ H s->RelV x v->Vals xs us->r x xs H Q ->
   wpAny (model X.prog X.w) X.A (call (.builtin id) (v ::us)) (EP X pins σ Q) X.xe s
theorem Vals.one:∀{x:V} {us:List Value},Vals [x] us->∃ u,us=[u] /\ RelV x u
 |_,_,.cons r .nil=>⟨_,rfl,r⟩
theorem Vals.two:∀{x y:V} {us:List Value},Vals [x,y] us->∃ u v,us=[u,v] /\ RelV x u /\ RelV y v
 |_,_,_,.cons r (.cons q .nil)=>⟨_,_,rfl,r,q⟩
theorem Vals.zero:∀{us:List Value},Vals [] us->us=[]
 |_,.nil=>rfl
theorem Vals.dropLast{xs:List V}{us:List Value}(h:Vals xs us):Vals xs.dropLast us.dropLast:=by
 induction h with
 |nil=>exact .nil
 | cons r t ih=>
   cases t with
   |nil=>exact .nil
   |cons q t'=>exact .cons r ih
theorem Vals.eraseIdx:∀{xs:List V} {us:List Value} (i:Nat),Vals xs us->Vals (xs.eraseIdx i) (us.eraseIdx i)
 |_,_,_,.nil=>.nil
 |_,_,0,.cons _ t=>t
 |_,_,i+1,.cons r t=>.cons r (Vals.eraseIdx i t)
theorem tQ{α:Type}(l:List α):l.eraseIdx (l.length - 1)=l.dropLast:=by
 induction l with
 |nil=>rfl
 | cons a r ih=>
   cases r with
   |nil=>rfl
   | cons b r=>
     have e:(a ::b ::r).length - 1=((b ::r).length - 1)+1:=by
      have h1:(a ::b ::r).length=r.length+2:=rfl
      have h2:(b ::r).length=r.length+1:=rfl
      omega
     rw[e,List.eraseIdx_cons_succ,ih]
     all_goals rfl
section
variable{X:Cx}{pins:List (Addr×Obj)}{σ:St}{H:Hp}{s:Shared}{l b:Addr}{xs ys zs:List V}
theorem Inv.zl{its its':List Value}{n:Nat}{f:Array Value->Array Value}{t':Nat}(I:Inv X pins σ H s)(hH:H l=some (.lst xs))
  (e:s.heap.get? l=some { cls:=.type "list",data:=.seq its.toArray n }) (hf:f its.toArray=its'.toArray) (hv:Vals ys its') (hz:ys.length<=sizeLine):
  Inv X pins σ (upd H l (.lst ys)) { s with heap:=s.heap.update l (Obj.mapSeq f),toks:=t' }:=by
 have q:=PySem.IsL.update e f;rw[hf]at q;refine I.write (x:=l) (e:=l) (by rw[hH];exact trivial) (.inl rfl) (fun b' u hb hu=>(Heap.get?_update_other s.heap (Obj.mapSeq f) (Ne.symm hb)).trans hu) ⟨_,q⟩ ?_
 exact⟨hz,its',_,hv,q⟩
theorem Inv.EN{its:List Value}{t':Nat}(I:Inv X pins σ H s)(hv:Vals ys its)(hz:ys.length<=sizeLine):
  Inv X pins σ (upd H s.heap.objs.size (.lst ys)) { s with heap:=s.heap.push { cls:=.type "list",data:=.seq its.toArray },toks:=t' }:=
 I.laid (fun _ _ q=>Heap.get?_push_of_some _ q) (Nat.le_refl _) ⟨hz,its,0,hv,Heap.get?_push_size _ rfl⟩
theorem Inv.fresh(I:Inv X pins σ H s):H s.heap.objs.size=none:=I.hok.fresh (Nat.le_refl _)
theorem Inv.w5(I:Inv X pins σ H s)(hH:H l=some (.lst xs)):xs.length<=sizeLine /\ ∃(its:List Value) (n:Nat),Vals xs its /\ xs.length=its.length /\ s.heap.get? l=some { cls:=.type "list",data:=.seq its.toArray n }:=by
 obtain⟨z,its,n,r,e⟩:=I.hok l _ hH
 exact⟨z,its,n,r,r.length,e⟩
theorem rf{n:Nat}(h:n<=sizeLine):Builtin.List.listTooLong n=false:=by
 unfold Builtin.List.listTooLong;exact decide_eq_false (by omega)
end
section
variable{X:Cx}
noncomputable def uz:V->List V->Hp->VK->Prop:=fun x vs H Q=>∃ l xs y,x=.ref l /\ vs=[y] /\ H l=some (.lst xs) /\ xs.length<sizeLine /\ Q .non (upd H l (.lst (xs++[y])))
theorem ju:MtM X "list.append" uz:=by
 intro pins s σ H x vs v us Q I rx rv h;obtain⟨l,xs,y,rfl,rfl,hH,hz,q⟩:=h;cases rx;obtain⟨u,rfl,ru⟩:=rv.one;obtain⟨z,its,n,r,hl,e⟩:=I.w5 hH;refine call_meets F.slot_list_append ⟨_,e,rfl⟩ F.entry_list_append (F.args_list_append_2 _ _) (PySem.list_append l its.toArray n u (by rw[List.size_toArray];omega)) ⟨e,?_⟩
 refine⟨.non,_,I.zl (its':=its++[u]) hH e (by simp) (r.append (.cons ru .nil)) ?_,rfl,q⟩
 rw[List.length_append,List.length_singleton];omega
noncomputable def t7:V->List V->Hp->VK->Prop:=fun x vs H Q=>∃ l b xs zs,x=.ref l /\ vs=[.ref b] /\ H l=some (.lst xs) /\ H b=some (.lst zs) /\ xs.length+zs.length<=sizeLine /\ Q .non (upd H l (.lst (xs++zs)))
theorem uY:MtM X "list.extend" t7:=by
 intro pins s σ H x vs v us Q I rx rv h;obtain⟨l,b,xs,zs,rfl,rfl,hH,hB,hz,q⟩:=h;cases rx;obtain⟨u,rfl,ru⟩:=rv.one;cases ru;obtain⟨z,its,n,r,hl,e⟩:=I.w5 hH;obtain⟨z2,its2,n2,r2,hl2,e2⟩:=I.w5 hB
 have hsz:its.toArray.size+its2.toArray.size<=sizeLine:=by rw[List.size_toArray,List.size_toArray];omega
 have hlong:¬ (!its.toArray.isEmpty&&Builtin.List.listTooLong (its.toArray.size+its2.toArray.size))=true:=by
  rw[rf hsz,Bool.and_false];exact Bool.false_ne_true
 refine call_meets F.slot_list_extend ⟨_,e,rfl⟩ F.entry_list_extend (F.args_list_extend_2 _ _)
  (AutoSeq1.list_extend_list_list_0 l its.toArray n b its2.toArray n2 hlong (by rw[List.size_toArray];omega) (by omega)) ⟨e,e2,?_⟩
 refine⟨.non,_,I.zl (its':=its++its2) hH e (by simp) (r.append r2) ?_,rfl,q⟩
 rw[List.length_append];omega
noncomputable def DD:V->List V->Hp->VK->Prop:=fun x vs H Q=>∃ l xs y,x=.ref l /\ vs=[] /\ H l=some (.lst xs) /\ xs[xs.length - 1]?=some y /\ Q y (upd H l (.lst xs.dropLast))
theorem vS:MtM X "list.pop" DD:=by
 intro pins s σ H x vs v us Q I rx rv h;obtain⟨l,xs,y,rfl,rfl,hH,hy,q⟩:=h;cases rx;have hus:=rv.zero;subst hus;obtain⟨z,its,n,r,hl,e⟩:=I.w5 hH;obtain⟨u,hu,ru⟩:=r.get hy
 have hy':its.toArray[its.toArray.size - 1]?=some u:=by
  show its.toArray[its.length - 1]?=some u;rw[<- Array.getElem?_toList,<- hl];exact hu
 refine call_meets F.slot_list_pop ⟨_,e,rfl⟩ F.entry_list_pop (F.args_list_pop_1 _) (MeetsSeq.list_pop_last l its.toArray n u hy' (by rw[List.size_toArray];omega)) ⟨e,?_⟩
 refine⟨y,_,I.zl (its':=its.dropLast) hH e ?_ r.dropLast ?_,ru,q⟩
 . show its.toArray.eraseIdxIfInBounds (its.toArray.size - 1)=its.dropLast.toArray;rw[List.size_toArray,List.eraseIdxIfInBounds_toArray,tQ]
 . rw[List.length_dropLast];omega
end
section
variable{prog:Program}{w:World}{A:Around}{E:Value->Shared->Prop}{s:Shared}
set_option maxRecDepth 100000 in
end
end L2
namespace Att
open PySem PySem.W PySem.Calls PyProof.Rows
theorem mi{P:Params}{h:Heap}:∀(ns:List Int) (vs:List Value),WellAll P h vs (ns.map WData.int)->IntsAre vs ns:=by
 intro ns
 induction ns with
 | nil=>
   intro vs w;rw[List.map_nil]at w;cases w;exact .nil
 | cons n ns ih=>
   intro vs w;rw[List.map_cons]at w
   cases w with
   | cons a b=>
     cases a;exact .cons _ _ (ih _ b)
theorem vj{l:OpenLaw}{n:Nat}(hn:l.most=some n){P:Params}{h:Heap}{args:List WData}{vals:List Value}
  (hpre:l.row.toRowW.claim.pre args=true) (hwl:WellAll P h vals args):
  ∃ a vs ns,vals=[Value.ref a] /\ args=[WData.list (ns.map WData.int)] /\ h.get? a=some { cls:=.type "list",data:=.seq vs.toArray } /\ IntsAre vs ns /\ ns.length<=n:=by
 have hsh:WShape.hasAll [] args [.list .int]=true:=(pre_splitW hpre).1
 have hc:l.pre.holds [] { args:=args }=true:=(pre_splitW hpre).2
 obtain⟨d,r,rfl,h1,h2⟩:=hasAllW_cons hsh
 obtain rfl:=hasAllW_nil h2
 obtain⟨xs,rfl,h3⟩:=hasW_list h1;obtain⟨ns,rfl⟩:=items_int h3
 have hlen:ns.length<=n:=by
  unfold OpenLaw.pre at hc
  have h4:(WTm.not (.lt (.lit (.int (n:Int))) (.len (.arg 0)))).holds [] { args:=[.list (ns.map .int)] }=true:=by
   have h4:=(holds_andW hc).1;rw[hn]at h4;exact h4
  have h5:=condW_of h4 (w_not (w_lt w_lit (w_len_list (w_arg rfl))));rw[List.length_map]at h5
  refine Nat.le_of_not_lt fun q=>?_
  have q':(n:Int)<((ns.length:Nat):Int):=by omega
  first
   |(rw[decide_eq_true q']at h5;exact absurd h5 (by decide))
   |(simp at h5;omega)
 cases hwl with
 | cons w1 w2=>
   cases w2
   cases w1 with
   |list ho hall=>exact⟨_,_,ns,rfl,rfl,ho,mi ns _ hall,hlen⟩
theorem vi(l:OpenLaw)(args:List WData):l.row.toRowW.claim.post args (.bool true) args=true:=
 postW_of (r:=l.row.toRowW) (X:=(true==true))
  (show WShape.has [] (.bool true) .bool=true by first|rfl|decide|simp[WShape.has,WShape.arms,WShape.armsAll])
  (show(WTm.eq .res (.lit (.bool true))).value [] { args:=args,res:=some (.bool true),after:=args }=some (.bool (true==true)) from w_eq_bool (w_res rfl) w_lit) rfl
theorem qH{l:OpenLaw}{n:Nat}{q:Program}{loose:List Str}{XP:(Str->Option Value)->Heap->Prop}{YP:World->Heap->Prop}{d:DefRec}
  (hn:l.most=some n) (hdf:d.params.defaults=[])
  (call:∀(w:World) (s₀ s₁:Shared) (mg mb:Str->Option Value) (fa:Addr) (o:Obj) (pm cd doc:Value) (a:Addr) (vs:List Value) (ns:List Int),
    Ground q loose [] XP w s₀ mg mb s₁.heap->YP w s₁.heap ->
    s₁.heap.get? fa=some o->o.data=.func (docDef d.name d.params d.body d.scope pm cd doc)->s₁.heap.CodeRec cd d.name->mg d.name=some (.ref fa) ->
    s₁.heap.get? a=some { cls:=.type "list",data:=.seq vs.toArray }->IntsAre vs ns->ns.length<=n->s₁.gens=#[] ->
    codeAny (model l.prog w) callerA (.call (.ref fa) ⟨[.ref a],[]⟩) (fun r s'=>r=.ok (.ret (.bool true)) /\ OldK s₁.heap s'.heap /\ s'.os=s₁.os /\ AllBare s'.gens) s₁):
  WalkO q loose XP YP l.row.toRowW d [] (fun f vs=>PySem.call f vs):=by
 intro w s₀ s₁ mg mb G Y fa o pm cd doc dV kV ho hd hcd hD hmg hg args vals as hpre hlay hrd hwl hlo
 obtain rfl:dV=.none:=Dflts.none hD hdf
 obtain rfl:kV=.none:=Dflts.noKw hD
 obtain⟨a,vs,ns,rfl,rfl,hobj,hints,hlen⟩:=vj hn hpre hwl;refine enter_call (codeAny_mono (call w s₀ s₁ mg mb fa o pm cd doc a vs ns G Y ho (fd_plain hd) hcd hmg hobj hints hlen hg) fun r s' hq=>?_);obtain⟨rfl,h2,h3,h4⟩:=hq
 exact⟨.inl ⟨.bool true,.bool true,[],rfl,fun _=>rfl,.bool true,vi l _,fun _=>⟨List.Pairwise.nil,fun _ hm=>(nomatch hm)⟩⟩,h2,h3,h4⟩
end Att
namespace L2
open PySem PySem.Spec PyProof.Rows
theorem oH:∀{vs:List Value} {ns:List Int},IntsAre vs ns->Vals (ns.map V.int) vs
 |_,_,.nil=>.nil
 |_,_,.cons n t h=>.cons ⟨t,rfl⟩ (oH h)
noncomputable def BD(H:Hp):Prop:=∀ b,H b=none \/ ∃ o xs,H b=some (.frz o (.lst xs))
theorem xK{P:Program}{w:World}{K:PySem.W.Frag}{mg mb:Str->Option Value}{CX:CXT}{k:Nat}{fa a:Addr}{fd:FuncData}{x:Str}{sp:Sp}{s₁:Shared}{vs:List Value}{ns:List Int}
  (KX:K.In s₁.heap) (hns:s₁.heap.Ns mainGlobals mg) (hb:s₁.heap.Ns builtinsNs mb) (hbb:∀ x:Str,x ≠ "__name__" -> mb x=bootBuiltins x) (hlim:s₁.heap.NoLimit) (hg:s₁.gens=#[])
  (ha:s₁.heap.get? a=some { cls:=.type "list",data:=.seq vs.toArray }) (hi:IntsAre vs ns) (hl:ns.length<=sizeLine) (hr:fF k callerA)
  (F:∀ base:Heap,K.In base->base.Ns mainGlobals mg->cO P w K mg base CX k fa fd [x] sp) (hbind:∀(s:Shared) (u:Value),BindsTo s fd ⟨[u],[]⟩ [(x,u)])
  (hsp:∀ H:Hp,BD H->SqL K H a (ns.map V.int)->sp [.ref a] H (fun v _=>v=.bl true) fun _ _ _=>False)
  (hCX:∀ H e s',CX [] H s₁ (fun _ _ _=>False) e s'->False):
  codeAny (model P w) callerA (.call (.ref fa) ⟨[.ref a],[]⟩) (fun r s'=>r=.ok (.ret (.bool true)) /\ OldK s₁.heap s'.heap /\ s'.os=s₁.os /\ AllBare s'.gens) s₁:=by
 have rv:=oH hi;have lenV:=hi.length
 have core:∀ H:Hp,BD H->SqL K H a (ns.map V.int)->HOk P w H s₁.heap->(∀ b,H b≠none->b=a)->(H a≠none->K.lookup a=none) ->
   codeAny (model P w) callerA (.call (.ref fa) ⟨[.ref a],[]⟩) (fun r s'=>r=.ok (.ret (.bool true)) /\ OldK s₁.heap s'.heap /\ s'.os=s₁.os /\ AllBare s'.gens) s₁:=by
  intro H hO hS hok hA hK
  have base_of:∀{b:Addr} {o:Obj},s₁.heap.get? b=some o->H b=none->(pQ s₁.heap H).get? b=some o:=fun e n=>xa e n
  have noA:∀{b:Addr} {o:Obj} {es:Array DictEntry} {ep:Nat},s₁.heap.get? b=some o->o.data=.dict es ep->H b=none:=fun {b o es ep} e d=>by
   cases q:H b with
   |none=>rfl
   | some u=>
     have e':b=a:=hA b (by rw[q];simp)
     subst e';rw[ha]at e;cases e
     have d':Data.seq vs.toArray _=Data.dict es ep:=d
     cases d'
  have nsK:∀{b:Addr} {m:Str->Option Value},s₁.heap.Ns b m->(pQ s₁.heap H).Ns b m:=fun {b m} ⟨o,es,ep,e,d,r⟩=>⟨o,es,ep,base_of e (noA e d),d,r⟩
  have hKb:K.In (pQ s₁.heap H):=fun b o e=>base_of (KX b o e) (by
   cases q:H b with
   |none=>rfl
   | some u=>
     have e':b=a:=hA b (by rw[q];simp)
     subst e'
     rw[hK (by rw[q];simp)]at e;cases e)
  have hM:Mod K mg (pQ s₁.heap H):=⟨hKb,nsK hns,⟨mb,nsK hb,hbb⟩,let ⟨mc,h1,h2⟩:=hlim;⟨mc,nsK h1,h2⟩⟩
  have e0:zd P w K mg (pQ s₁.heap H) callerA [] s₁ H:=⟨rfl,hM,fun b o e=>yb e,Nat.le_of_eq (uX _ _),trivial,fun b hb=>absurd (show b∈([]:List Addr) from hb) (by simp),hok,.of_eq hg⟩
  refine codeAny_mono ((F _ hKb (nsK hns)).run callerA [] s₁ H ⟨[.ref a],[]⟩ [.ref a] [.ref a] _ _ hr e0 (hbind s₁ (.ref a)) (.cons rfl .nil) (hsp H hO hS)) fun r s' h=>?_
  cases r with
  |error e=>exact(hCX H e s' h).elim
  | ok fl=>
    cases fl with
    |next=>exact False.elim h
    |brk=>exact False.elim h
    |cont=>exact False.elim h
    | ret u=>
      obtain⟨v,H',os,bare,un,hok',r',q⟩:=h
      have q':v=.bl true:=q
      subst q'
      obtain rfl:u=Value.bool true:=r'
      refine⟨rfl,OldK.of_keep fun b o e=>?_,os,bare⟩
      cases q:H b with
      |none=>exact un.keep b o e q (by intro z;exact absurd (show b∈([]:List Addr) from z) (by simp)) (by simp)
      | some u=>
        rcases hO b with z|⟨ob,xs,z⟩
        . rw[q]at z;cases z
        . have z2:=un.frzs b ob _ z;obtain⟨e1,_⟩:=hok b _ z;obtain⟨e2,_⟩:=hok' b _ z2;rw[e]at e1;cases e1;exact e2
 cases hk:K.lookup a with
 | some o=>
   have e:=KX a o hk;rw[ha]at e;cases e
   refine core (fun _=>none) (fun _=>.inl rfl) (.inr ⟨_,vs.toArray,_,hk,rfl,rfl,rfl,by rw[List.size_toArray,lenV];exact hl,by simpa using rv⟩) (fun b u z=>by have z':(none:Option HO)=some u:=z;cases z') (fun b z=>absurd rfl z) fun z=>absurd rfl z
 | none=>
   refine core (fun b=>if b=a then some (.frz { cls:=.type "list",data:=.seq vs.toArray } (.lst (ns.map V.int)))else none) (fun b=>?_) (.inl (.inr ⟨{ cls:=.type "list",data:=.seq vs.toArray },if_pos rfl⟩)) (fun b u z=>?_) (fun b z=>?_) fun _=>hk
   . by_cases hb:b=a
     . exact .inr ⟨_,_,if_pos hb⟩
     . exact .inl (if_neg hb)
   . by_cases hb:b=a
     . have z':=(if_pos hb).symm.trans z
       cases z'
       subst hb
       exact⟨ha,by rw[List.length_map];exact hl,vs,_,rv,ha⟩
     . have z':=(if_neg hb).symm.trans z
       cases z'
   . by_cases hb:b=a
     . exact hb
     . exact absurd (if_neg hb) z
abbrev KOf{K:PySem.W.Frag}{h:Heap}(_:K.In h):PySem.W.Frag:=K
theorem y6{l:PySem.W.OpenLaw}{n k:Nat}{q:Program}{loose:List Str}{XP:(Str->Option Value)->Heap->Prop}{YP:World->Heap->Prop}{d:DefRec}{K:Params->PySem.W.Frag}{CX:World->CXT}{sp:World->Sp}{x:Str}
  (hn:l.most=some n) (hn2:n<=sizeLine) (hdf:d.params.defaults=[]) (hr:fF k callerA)
  (hY:∀(w:World) (h:Heap),YP w h->(K w.params).In h)
  (F:∀(w:World) (mg:Str->Option Value) (fa:Addr) (h:Heap),(K w.params).In h->h.Ns mainGlobals mg->mg d.name=some (.ref fa) ->
    ∃ fd:FuncData,(∀(s:Shared) (u:Value),BindsTo s fd ⟨[u],[]⟩ [(x,u)]) /\
      ∀ base:Heap,(K w.params).In base->base.Ns mainGlobals mg->cO l.prog w (K w.params) mg base (CX w) k fa fd [x] (sp w))
  (hsp:∀(w:World) (H:Hp) (a:Addr) (ns:List Int),ns.length<=n->BD H->SqL (K w.params) H a (ns.map V.int)->sp w [.ref a] H (fun v _=>v=.bl true) fun _ _ _=>False)
  (hCX:∀(w:World) (H:Hp) (s:Shared) (e:Value) (s':Shared),CX w [] H s (fun _ _ _=>False) e s'->False):
  PySem.W.WalkO q loose XP YP l.row.toRowW d [] (fun f vs=>PySem.call f vs):=by
 refine Att.qH hn hdf fun w s₀ s₁ mg mb fa o pm cd doc a vs ns G Y ho hd hcd hmg hobj hints hlen hg=>?_
 have KX:=hY w _ Y;obtain⟨fd,hb,hF⟩:=F w mg fa _ KX G.T.g hmg
 exact xK KX G.T.g G.T.b G.T.builtins G.T.nolimit hg hobj hints (Nat.le_trans hlen hn2) hr hF hb (fun H hO hS=>hsp w H a ns hlen hO hS) fun H e s'=>hCX w H s₁ e s'
noncomputable def eE(s:Stmt):Arguments:=match s with
 |.FunctionDef _ a _ _ _ _ _ _ _ _=>a
 |_=>{ posonlyargs:=[],args:=[],vararg:=none,kwonlyargs:=[],kw_defaults:=[],kwarg:=none,defaults:=[] }
noncomputable def cV(s:Stmt):List Stmt:=match s with
 |.FunctionDef _ _ b _ _ _ _ _ _ _=>b
 |_=>[]
noncomputable def aD(s:Stmt):Scope:=match s with
 |.FunctionDef _ _ _ _ _ _ sc _ _ _=>sc
 |_=>{ kind:=.function,names:=[],isGenerator:=false,isCoroutine:=false }
structure Fun(K:PySem.W.Frag)(x qual:Str)(st:Stmt)(f:Addr)(fd:FuncData):Prop where
 ex:∃(oc:Value) (od:Option Addr) (kV doc pm:Value) (an:Option Addr) (cdv ct:Value) (osl:Array (Option Value)),
  fd=PySem.W.fnOf x qual (eE st) (cV st) (aD st) .none kV doc pm an cdv ct /\ K.lookup f=some ⟨oc,od,.func fd,osl⟩ /\ PySem.W.codeIn K cdv qual=true
 kp:PySem.W.keepIn K (.ref f)=true
section
variable{P:Program}{w:World}{K:PySem.W.Frag}{mg:Str->Option Value}{base:Heap}
theorem Fun.binds{x qual:Str}{st:Stmt}{f:Addr}{fd:FuncData}{ps:List Str}(F:Fun K x qual st f fd)
  (h:∀(kV doc pm:Value) (an:Option Addr) (cdv ct:Value) (us:List Value),us.length=ps.length->bindArgs (PySem.W.fnOf x qual (eE st) (cV st) (aD st) .none kV doc pm an cdv ct) ⟨us,[]⟩=pure (ps.zip us)):Binds K fd ps []:=by
 obtain⟨oc,od,kV,doc,pm,an,cdv,ct,osl,rfl,lk,hcd⟩:=F.ex;exact .all (h kV doc pm an cdv ct)
theorem Bp{x qual:Str}{st:Stmt}{f:Addr}{oc:Value}{od an:Option Addr}{osl:Array (Option Value)}{kV doc pm cdv ct:Value}(l:K.lookup f=some ⟨oc,od,.func (PySem.W.fnOf x qual (eE st) (cV st) (aD st) .none kV doc pm an cdv ct),osl⟩)
  (c:PySem.W.codeIn K cdv qual=true) (k:PySem.W.keepIn K (.ref f)=true):Fun K x qual st f (PySem.W.fnOf x qual (eE st) (cV st) (aD st) .none kV doc pm an cdv ct):=⟨⟨oc,od,kV,doc,pm,an,cdv,ct,osl,rfl,l,c⟩,k⟩
end
theorem C8{A:Around}{k:Nat}(hr:fF k A):A.units+1<cLine:=Nat.lt_of_le_of_lt (Nat.add_le_add_left (by decide:1<=64) _) hr.units
section
variable{X:Cx}
theorem pv(i:Nat){x:Str}{pos:Pos}(hN:X.N[i]?=some x:=by rfl)(hv:Vis X.env.scope x:=by first|exact Or.inl rfl|exact Or.inr (Or.inl rfl)|exact Or.inr (Or.inr rfl))(hd:(x==("__debug__":Str))=false:=by decide)
  (hcd:(x==("__classdict__":Str))=false:=by decide):PE X (.Name x pos) (tm i):=BY hN hv hd hcd
end
theorem uV{A B:Prop}(h:B):if false=true then A else B:=by
 rw[if_neg Bool.false_ne_true];exact h
theorem vx{A B:Prop}(h:A):if true=true then A else B:=by
 rw[if_pos rfl];exact h
noncomputable def ay(H H':Hp):Prop:=∀ b o,H b=some o->H' b=some o
theorem ay.refl(H:Hp):ay H H:=fun _ _ h=>h
theorem ay.trans{H H1 H2:Hp}(a:ay H H1)(b:ay H1 H2):ay H H2:=fun c o h=>b c o (a c o h)
theorem ay.free{H H':Hp}(e:ay H H'){l:Addr}(h:H' l=Option.none):H l=Option.none:=by
 cases q:H l with
 |none=>rfl
 | some o=>
   rw[e l o q]at h;cases h
theorem ay.seq{K:PySem.W.Frag}{H H':Hp}{a:Addr}{xs:List V}(e:ay H H')(h:SqL K H a xs):SqL K H' a xs:=by
 rcases h with(h|⟨o,h⟩)|h
 . exact .inl (.inl (e _ _ h))
 . exact .inl (.inr ⟨o,e _ _ h⟩)
 . exact .inr h
section
variable{κ:Type}[DecidableEq κ]
theorem aX.getD{o:Option V}{u:Option Value}{d:V}{d':Value}(r:aX o u)(rd:RelV d d'):RelV (o.getD d) (u.getD d'):=by
 cases o with
 | none=>cases u with
   |none=>exact rd
   |some _=>exact(show False from r).elim
 | some _=>cases u with
   |none=>exact(show False from r).elim
   |some _=>exact r
end
theorem Dk{P:Program}{w:World}{k:Key}{u:Value}(r:RelV (kV k) u):(dy P w).is k u=true:=by
 cases k with
 |inl i=>obtain⟨t,e⟩:=(show ∃ t,u=Value.int i t from r);subst e;exact qA P w i t
 |inr x=>obtain⟨t,e⟩:=(show ∃ t,u=Value.str x t from r);subst e;exact rS P w x t
theorem oo{P:Program}{w:World}:∀{ks:List Key} {us:List Value},Vals (ks.map kV) us->ItemsAre (dy P w) ks us
 |[],_,r=>by rw[List.map_nil]at r;cases r;exact .nil
 | k ::ks,_,r=>by
   rw[List.map_cons]at r
   cases r with
   |cons h t=>exact .cons (Dk h) (oo t)
section
variable{X:Cx}{pins:List (Addr×Obj)}{σ:St}{H:Hp}{s:Shared}{a:Addr}{y v:V}{u r:Value}{o:Option V}{A:Around}{E:Value->Shared->Prop}
theorem Inv.big(I:Inv X pins σ H s):sysModules<s.heap.objs.size:=by
 have h:mainGlobals<s.heap.objs.size:=(I.mod.glob.keeps I.bk).lt
 exact Nat.lt_trans (by decide) h
end
noncomputable def BM(i:Expr):Prop:=∀ ov iv,subscripted i false ov iv=operate [ov,iv] (getItem ov iv)
theorem zb{prog:Program}{w:World}{A:Around}{E:Value->Shared->Prop}{s:Shared}{env:Env}{value slice:Expr}{pos:Pos}{T id:String}{Q:Value->Shared->Prop}
  (hl:typeLookup (.type T) "__getitem__" = pure (some (.builtin id))) (hs:BM slice)
  (h:wpAny (model prog w) A (eval value env) (fun o s₁=>wpAny (model prog w) A (eval slice env) (fun i s₂=>s₂.TypeIs o T /\ wpAny (model prog w) A (getItem o i) Q E s₂) E s₁) E s):
  wpAny (model prog w) A (eval (.Subscript value slice pos) env) Q E s:=by
 refine Subscript_ (wpAny_mono h (fun o s₁ h₁=>wpAny_mono h₁ (fun i s₂ h₂=>?_) fun _ _ x=>x) fun _ _ x=>x);obtain⟨hT,h₂⟩:=h₂;unfold subscriptTail;refine wpAny_bind ?_;rw[getitemInPython_of_ne hT.not_modules];refine wpAny_bind (wpAny_specialOf hT hl ?_)
 have fin:wpAny (model prog w) A (subscripted slice false o i) (fun r s₃=>wpAny (model prog w) A (letTemporaryGo value o r >>= fun _=>pure r) Q E s₃) E s₂:=by
  rw[hs o i];exact wpAny_operating (wpAny_mono h₂ (fun r s₃ h₃=>wpAny_bind (wpAny_letTemporaryGo (wpAny_pure h₃))) fun _ _ x=>x)
 first
  |exact wpAny_pure (wpAny_bind fin)
  |exact wpAny_bind (wpAny_pure (wpAny_bind fin))
  |exact wpAny_bind fin
end L2
set_option maxHeartbeats 4000000
namespace L2.E
open PySem PySem.Spec PyProof.Rows
noncomputable def AH(a C:Addr)(dx:Option Addr)(h:Heap):Prop:=∃ o vs,h.get? a=some o /\ o.cls=.ref C /\ o.dict=dx /\ o.data=.fields vs /\ vs.size=6
noncomputable def TbO(T:Addr)(h:Heap):Prop:=∃ o ts,h.get? T=some o /\ o.data=.fields ts /\ 3<ts.size
noncomputable abbrev tT(a C:Addr)(dx:Option Addr):HO:=.ext (AH a C dx)
noncomputable abbrev oTb(T:Addr):HO:=.ext (TbO T)
theorem Au(x:AH a C dx h):eB P w H h a (tT a C dx):=by
 refine⟨x,let ⟨o,_,e,_⟩:=x;⟨o,e⟩,fun h1 h2 p k=>?_⟩
 obtain⟨o,vs,e,r⟩:=p
 exact⟨o,vs,k o e,r⟩
theorem zM(x:TbO T h):eB P w H h T (oTb T):=by
 refine⟨x,let ⟨o,_,e,_⟩:=x;⟨o,e⟩,fun h1 h2 p k=>?_⟩
 obtain⟨o,vs,e,r⟩:=p
 exact⟨o,vs,k o e,r⟩
theorem xX(h:H a=some o):upd H a o=H:=by
 funext b
 unfold upd;split
 . rename_i e;rw[e,h]
 . rfl
structure Fly(H:Hp)(h:Heap)(a C:Addr)(dx:Option Addr):Prop where
 exc:H a=some (tT a C dx)
 tb:∃ o vs,h.get? a=some o /\ o.data=.fields vs /\ (vs[1]?=some Value.none \/ ∃ T,vs[1]?=some (.ref T) /\ H T=some (oTb T) /\ T≠a)
structure vH(H:Hp)(h:Heap)(a C:Addr)(dx:Option Addr):Prop where
 exc:H a=some (tT a C dx)
 tb:∃ o vs T,h.get? a=some o /\ o.data=.fields vs /\ vs[1]?=some (.ref T) /\ H T=some (oTb T) /\ T≠a
theorem vH.fly(F:vH H h a C dx):Fly H h a C dx:=
 let ⟨o,vs,T,e1,e2,e3,e4,e5⟩:=F.tb
 ⟨F.exc,o,vs,e1,e2,.inr ⟨T,e3,e4,e5⟩⟩
section
variable{X:Cx}{pins:List (Addr×Obj)}{σ:St}{H:Hp}{s:Shared}{a C:Addr}{dx:Option Addr}
theorem xG(I:Inv X pins σ H s)(k:Heap.SlotsOnly (frs X.stack) s.heap h₁):Un (frs X.stack) [] H H s.heap h₁ where
 keep:=fun b o e _ hb _=>(k.2.1 b hb).trans e
 slot:=fun b o e _ _ _=>k.2.2 b o e
 free:=fun _ _ _ n _=>n
 there:=fun b o e _=>let ⟨_,q⟩:=k.2.2 b o e;⟨_,q⟩
 tups:=fun _ _ q=>q
 frzs:=fun _ _ _ q=>q
 tbls:=fun _ ps q=>⟨#[],by rw[q];simp⟩
theorem vv(I:Inv X pins σ H s)(k:Heap.SlotsOnly (frs X.stack) s.heap h₁):HOk X.prog X.w H h₁:=fun b o e=>by
 have nf:∀ c u,H c=some u->c∉frs X.stack:=fun c u q z=>by rw[I.pK c z]at q;cases q
 refine(I.hok b o e).jM (fun c v hc q=>(k.2.1 c ?_).trans q) (fun _ q=>q) fun _ _ q=>q
 rcases hc with z|z
 . rw[z];exact nf b o e
 . exact nf c _ z
theorem ye(I:Inv X pins σ H s)(e:H a=some (tT a C dx)):
  Inv X pins σ H { s with heap:=s.heap.update a (Obj.mapFields (·.setIfInBounds i v)) }:=by
 obtain⟨⟨o,vs,ho,hc,hd,hf,hz⟩,_,_⟩:=I.hok a _ e;have hs:=Heap.get?_update_self (Obj.mapFields (·.setIfInBounds i v)) ho (Obj.isFreed_of_fields (Obj.data_mapFields hf _))
 have q:=I.write (x:=a) (e:=a) (o:=tT a C dx) (t':=s.toks) (h':=s.heap.update a (Obj.mapFields (·.setIfInBounds i v))) (by rw[e];trivial) (.inl rfl)
  (fun b u hb q=>(Heap.get?_update_other _ _ (Ne.symm hb)).trans q) ⟨_,hs⟩ (Au ⟨_,_,hs,by rw[Obj.cls_mapFields];exact hc,by obtain⟨c,d,dt,sl⟩:=o;cases dt<;>exact hd,Obj.data_mapFields hf _,by simpa using hz⟩)
 rw[xX e]at q;exact q
theorem xO(I:Inv X pins σ H s)(e:H T=some (oTb T)):
  Inv X pins σ H { s with heap:=s.heap.update T (Obj.mapFields (·.setIfInBounds i v)) }:=by
 obtain⟨⟨o,vs,ho,hf,hz⟩,_,_⟩:=I.hok T _ e;have hs:=Heap.get?_update_self (Obj.mapFields (·.setIfInBounds i v)) ho (Obj.isFreed_of_fields (Obj.data_mapFields hf _))
 have q:=I.write (x:=T) (e:=T) (o:=oTb T) (t':=s.toks) (h':=s.heap.update T (Obj.mapFields (·.setIfInBounds i v))) (by rw[e];trivial) (.inl rfl)
  (fun b u hb q=>(Heap.get?_update_other _ _ (Ne.symm hb)).trans q) ⟨_,hs⟩ (zM ⟨_,_,hs,Obj.data_mapFields hf _,by simpa using hz⟩)
 rw[xX e]at q;exact q
theorem rz{Q:Unit->Shared->Prop}{E:Value->Shared->Prop}(I:Inv X pins σ H s)(hst:X.stack=X.env ::X.outer)(hf:X.env.frame=some L)(e:H a=some (tT a C dx))
  (h:∀ s' H',Inv X pins σ H' s'->ay H H'->vH H' s'.heap a C dx->Q () s'):
  wpAny (model X.prog X.w) X.A (do let fr <- frameOf X.env;let pl <- entryPlaceOf L had;let b <- EntryCells.newEntry head fr .none (rawInt L) .none pl;setField (.ref a) 1 b) Q E s:=by
 have hfr:X.A.frames=some (X.env ::X.outer):=by rw[<- hst];exact I.ok.frames
 have hl:s.heap.FunFrames X.base (X.env ::X.outer):=by rw[<- hst];exact I.stack
 refine wpAny_bind (wpAny_frameOf_fun hfr hl hf fun h₁ k₁=>?_)
 have k₁':Heap.SlotsOnly (frs X.stack) s.heap h₁:=by rw[hst];exact k₁
 have I₁:=I.call (g':=s.gens) (t':=s.toks) (d':=s.drawn) (ch:=[]) (xG I k₁') (vv I k₁') I.bare (fun b z=>absurd z (by simp));refine wpAny_bind (wpAny_entryPlaceOf fun pl hpl=>?_);unfold EntryCells.newEntry newFields;refine wpAny_bind (wpAny_newObj_type ?_ (hpl.sizeOk5 _ _ _ _ _))
 have big:3<([head,.ref L,.none,rawInt L,.none]++(if pl.isEmpty then List.replicate 6 Value.none else pl)).toArray.size:=by
  rw[List.size_toArray,List.length_append];show 3<5+_;omega
 have new:=Heap.get?_push_size h₁ (o:={ cls:=.type "traceback",dict:=none,data:=.fields ([head,.ref L,.none,rawInt L,.none]++(if pl.isEmpty then List.replicate 6 Value.none else pl)).toArray }) rfl
 have fr:H h₁.objs.size=none:=I₁.hok.fresh (Nat.le_refl _)
 have ne:h₁.objs.size≠a:=fun z=>by rw[z,e]at fr;cases fr
 have I₂:=I₁.laid (a:=h₁.objs.size) (o:=oTb h₁.objs.size) (t':=s.toks) (fun b u q=>Heap.get?_push_of_some _ q) (Nat.le_refl _) (zM ⟨_,_,new,rfl,big⟩)
 have g:ay H (upd H h₁.objs.size (oTb h₁.objs.size)):=fun b u q=>by rw[bB (fb q fr)];exact q
 obtain⟨⟨o,vs,ho,hc,hd,hv,hz⟩,_,_⟩:=I₂.hok a _ (g _ _ e);refine wpAny_setField ho hv (by omega) ?_;refine h _ _ (ye I₂ (g _ _ e)) g ⟨g _ _ e,_,_,h₁.objs.size,Heap.get?_update_self _ ho (Obj.isFreed_of_fields (Obj.data_mapFields hv _)),Obj.data_mapFields hv _,by simp[hz],aY,ne⟩
theorem yg{Q:Unit->Shared->Prop}{E:Value->Shared->Prop}(I:Inv X pins σ H s)(hst:X.stack=X.env ::X.outer /\ X.env.frame=some X.env.locals)(F:Fly H s.heap a C dx)
  (h:∀ s' H',Inv X pins σ H' s'->ay H H'->vH H' s'.heap a C dx->Q () s'):wpAny (model X.prog X.w) X.A (noteFrame (.ref a) X.env) Q E s:=by
 obtain⟨o,vs,ho,hv,hw⟩:=F.tb;unfold noteFrame;simp only[hst.2]
 rcases hw with h1|⟨T,h1,hT,ne⟩
 . refine wpAny_bind (wpAny_field ho hv h1 ?_);rw[if_neg (by decide)];exact rz I hst.1 hst.2 F.exc h
 . obtain⟨⟨oT,ts,hoT,hdT,hz⟩,_,_⟩:=I.hok T _ hT;refine wpAny_bind (wpAny_field ho hv h1 ?_);rw[if_pos (show(Value.ref T != Value.none)=true from by simp)]
   have h3:ts[3]?=some ts[3]:=by simp[hz]
   refine wpAny_bind (wpAny_field hoT hdT h3 ?_)
   by_cases c:(ts[3]==rawInt X.env.locals)=true
   . rw[if_pos c];exact wpAny_pure (h s H I (ay.refl H) ⟨F.exc,o,vs,T,ho,hv,h1,hT,ne⟩)
   . rw[if_neg c];refine wpAny_bind (wpAny_setField hoT hdT hz ?_);exact rz (xO I hT) hst.1 hst.2 F.exc h
theorem vb{Q:Unit->Shared->Prop}{E:Value->Shared->Prop}(I:Inv X pins σ H s)(F:vH H s.heap a C dx)
  (h:∀ s',Inv X pins σ H s'->vH H s'.heap a C dx->Q () s'):wpAny (model X.prog X.w) X.A (setFlight (.ref a) x) Q E s:=by
 obtain⟨o,vs,T,ho,hv,h1,hT,ne⟩:=F.tb;unfold setFlight;obtain⟨⟨oT,ts,hoT,hdT,hz⟩,_,_⟩:=I.hok T _ hT;refine wpAny_bind (wpAny_field ho hv h1 ?_);rw[if_pos (show(Value.ref T != Value.none)=true from by simp)];refine wpAny_setField hoT hdT hz ?_;exact h _ (xO I hT) ⟨F.exc,o,vs,T,(Heap.get?_update_other _ _ ne).trans ho,hv,h1,hT,ne⟩
end
noncomputable def CXE(P:Program)(w:World):CXT:=fun outer H s E e s'=>∃ a C dx H',e=.ref a /\ s'.os=s.os /\ AllBare s'.gens /\ Un (frs outer) [] H H' s.heap s'.heap /\ HOk P w H' s'.heap /\ Fly H' s'.heap a C dx /\ E (.ref C) (some a) H'
abbrev XW:=Value->Option Addr->St->Hp->Prop
noncomputable def Thr(X:Cx)(W:XW):Prop:=∀(pins:List (Addr×Obj)) (σ:St) (H:Hp) (s:Shared) (a C:Addr) (dx:Option Addr),Inv X pins σ H s->Fly H s.heap a C dx->W (.ref C) (some a) σ H->X.xe (.ref a) s
section
variable{CX:CXT}{P:Program}{w:World}{K:PySem.W.Frag}{mg:Str->Option Value}{base:Heap}{N:List Str}{qual:Str}{scope:Scope}{f:Addr}{cd:Value}{A:Around}{outer:List Env}{s₀:Shared}{H₀:Hp}{E:XK}
theorem aJ:Thr (lG (CXE P w) P w K mg base N qual scope f cd A outer s₀ H₀ E) (fun C a _ H=>∀ H',ay H H'->E C a H'):=by
 intro pins σ H s a C dx I F hw;show wpAny _ _ (leaving _ _) _ _ s;unfold leaving;refine wpAny_bind (yg I ⟨rfl,rfl⟩ F fun s1 H1 I1 g1 F1=>?_)
 refine vb I1 F1 fun s2 I2 F2=>?_
 exact⟨a,C,dx,H1,rfl,I2.os,I2.bare,I2.base,I2.hok,F2.fly,hw H1 g1⟩
theorem j8:PassesOwn (model P w) (lG (CXE P w) P w K mg base N qual scope f cd A outer s₀ H₀ E).A (lG (CXE P w) P w K mg base N qual scope f cd A outer s₀ H₀ E).env (lG (CXE P w) P w K mg base N qual scope f cd A outer s₀ H₀ E).xe:=by
 show PassesOwn (model P w) (A.deeper (envOfC qual scope s₀.heap.objs.size f cd)) (envOfC qual scope s₀.heap.objs.size f cd) (fun e s'=>wpAny (model P w) (A.deeper (envOfC qual scope s₀.heap.objs.size f cd)) (leaving (envOfC qual scope s₀.heap.objs.size f cd) e) (fun _ s''=>CXE P w outer H₀ s₀ E e s'') (fun e' s''=>CXE P w outer H₀ s₀ E e' s'') s')
 passes_own
end
section
variable{X:Cx}{k:Nat}{f:Addr}{fd:FuncData}{ps:List Str}{sp:Sp}{dvs:List V}{ds:List Value}{W:XW}{x m:Str}{p pos apos:Pos}{e o:Expr}{es:List Expr}{ta:TE}{t:TA}
noncomputable def m9(sp:Sp)(dvs:List V)(W:XW)(t:TA):TE:=fun σ H Q=>t σ H fun vs H1=>sp (vs++dvs) H1 Q fun C a H'=>W C a σ H'
theorem yX{pins:List (Addr×Obj)}(F:cO X.prog X.w X.K X.mg X.base (CXE X.prog X.w) k f fd ps sp)(hr:fF k X.A)(hb:Binds X.K fd ps ds)(hd:Vals dvs ds)(hx:Thr X W)
  (I:Inv X pins σ H s) (r:Vals vs us) (h:sp (vs++dvs) H Q fun C a H'=>W C a σ H'):wpAny (model X.prog X.w) X.A (call (.ref f) us) (EP X pins σ Q) X.xe s:=by
 have r2:Vals (vs++dvs) (us++ds):=r.append hd
 have hl:(us++ds).length=ps.length:=by rw[<- r2.length];exact F.len _ _ _ _ h
 refine wpAny_call (codeAny_mono (F.run X.A X.stack s H ⟨us,[]⟩ (us++ds) (vs++dvs) Q _ hr I.E5 (hb s us I.kIn hl) r2 h) fun r s' hq=>?_)
 cases r with
 | error e=>
   obtain⟨a,C,dx,H',rfl,ho,bare,un,hok,fl,hw⟩:=hq;exact hx pins σ H' s' a C dx (I.zA ho un hok bare fun b z=>absurd z (by simp)) fl hw
 | ok fl=>
   cases fl with
   |ret u=>exact I.after hq
   |next=>exact False.elim hq
   |brk=>exact False.elim hq
   |cont=>exact False.elim hq
theorem wQ(F:cO X.prog X.w X.K X.mg X.base (CXE X.prog X.w) k f fd ps sp)(hr:fF k X.A)(hg:Gl X x)(hm:X.mg x=some (.ref f))(hk:PySem.W.keepIn X.K (.ref f)=true)(hb:Binds X.K fd ps ds)(hd:Vals dvs ds)(hx:Thr X W)
  (ha:PA X (e ::es) t) (hdb:(x==("__debug__":Str))=false:=by decide) (he:starEach (e ::es) X.env=(false,eval e X.env) ::starEach es X.env:=by rfl) (hpl:(backTo pos (starEach es X.env)).any (·.1)=false:=by rfl):
  PE X (.Call (.Name x p) (e ::es) [] pos) (m9 sp dvs W t):=by
 intro pins s σ H Q I h;refine wpAny_Call_Name_kw (yN I hg hm ?_ hdb);refine PySem.W.callWith_K (h₀:=X.base) I.ok.mod.kin hk (thn (ha pos pins s σ H _ I h) fun us s1 ⟨vs,H1,I1,r,q⟩=>⟨I1.kIn,?_⟩) he hpl;exact yX F hr hb hd hx I1 r q
end
noncomputable abbrev blk(X:Cx)(scope:Scope)(cl:List (Str×Addr))(N:List Str)(C:Addr)(s₀:Shared)(H₀:Hp)(ex:List Addr):Cx:=
 { prog:=X.prog,w:=X.w,K:=X.K,mg:=X.mg,base:=X.base,A:=X.A,N:=N,s₀:=s₀,H₀:=H₀,env:=compEnvC scope cl C X.env,outer:=X.stack,stack:=X.stack,ex:=ex,fn:=fun _=>false,calm:=X.calm,pn:=[],xe:=fun _ _=>False }
theorem sF:Thr X (fun _ _ _ _=>False):=fun _ _ _ _ _ _ _ _ _ h=>h.elim
structure nV(X:Cx)(scope:Scope)(cl:List (Str×Addr))(M:List Str)(ι:List Nat)(x:Str):Prop where
 clos:closureFor scope X.env=pure cl
 kind:scope.kind=.function
 nocell:(scope.names.all fun p=>p.2 != .cell)=true
 locs:(scope.names.all fun p=>p.2 != .local||scope.names.lookup p.1==some .local)=true
 var:scope.names.lookup x=some .local
 names:M.map some=ι.map fun i=>X.N[i]?
 cells:M.map (fun y=>scope.names.lookup y)=M.map fun _=>some .free
 kinds:M.map X.env.kindOf=M.map fun _=>some .cell
 same:M.map (fun y=>cl.lookup y)=M.map fun y=>X.env.cells.lookup y
 sub:cl.map (fun p=>X.env.cells.lookup p.1)=cl.map fun p=>some p.2
 all:(scope.names.all fun p=>!(p.2 == .free)||(cl.lookup p.1).isSome)=true
 nd:(M++[x]).Nodup
theorem pL{α β:Type}{f g:α->β}{l:List α}(h:l.map f=l.map g){a:α}(ha:a∈l):f a=g a:=by
 induction l with
 |nil=>cases ha
 | cons b r ih=>
   rw[List.map_cons,List.map_cons]at h
   injection h with h1 h2
   rcases List.mem_cons.mp ha with z|z
   . rw[z];exact h1
   . exact ih h2 z
theorem pS{scope:Scope}(h:scope.names.lookup y=some .free):(relabel scope env).names.lookup y=some .cell \/ (relabel scope env).names.lookup y=some .free:=by
 unfold relabel;dsimp only;generalize scope.names=l at h
 induction l with
 |nil=>cases h
 | cons p r ih=>
   obtain⟨n,k⟩:=p;rw[List.lookup_cons]at h;rw[List.map_cons]
   by_cases e:(y==n)=true
   . rw[e]at h
     have hk:k=.free:=Option.some.inj h
     subst hk;dsimp only;split
     . rw[List.lookup_cons,e];exact .inl rfl
     . rw[List.lookup_cons,e];exact .inr rfl
   . have e':(y==n)=false:=by simpa using e
     rw[e']at h;dsimp only;split
     . rw[List.lookup_cons,e'];exact ih h
     . rw[List.lookup_cons,e'];exact ih h
theorem qb{scope:Scope}(hc:(scope.names.all fun p=>p.2 != .cell)=true)(h:(relabel scope env).names.lookup y=some .cell \/ (relabel scope env).names.lookup y=some .free):∃ p∈scope.names,p.1=y /\ p.2=.free:=by
 unfold relabel at h
 dsimp only at h
 generalize scope.names=l at h hc
 induction l with
 |nil=>rcases h with h|h<;>cases h
 | cons p r ih=>
   obtain⟨n,k⟩:=p;rw[List.all_cons,Bool.and_eq_true]at hc;rw[List.map_cons]at h
   by_cases e:(y==n)=true
   . refine⟨(n,k),List.mem_cons_self,(beq_iff_eq.mp e).symm,?_⟩
     dsimp only at h ⊢
     split at h
     . rename_i c;simp only[Bool.and_eq_true,beq_iff_eq]at c;exact c.1.1
     . rw[List.lookup_cons,e]at h
       have hk:(k != NameKind.cell)=true:=hc.1
       rcases h with h|h
       . have:k=.cell:=Option.some.inj h
         subst this;exact absurd hk (by decide)
       . exact Option.some.inj h
   . have e':(y==n)=false:=by simpa using e
     have h':(List.map (fun x=>match x with|(n,k)=>if(k==NameKind.free&&env.scope.kind==ScopeKind.function&&env.kindOf n==some NameKind.cell)=true then(n,NameKind.cell)else(n,k)) r).lookup y=some .cell \/
       (List.map (fun x=>match x with|(n,k)=>if(k==NameKind.free&&env.scope.kind==ScopeKind.function&&env.kindOf n==some NameKind.cell)=true then(n,NameKind.cell)else(n,k)) r).lookup y=some .free:=by
      dsimp only at h
      split at h
      . rw[List.lookup_cons,e']at h;exact h
      . rw[List.lookup_cons,e']at h;exact h
     obtain⟨q,hq,z⟩:=ih h' hc.2
     exact⟨q,List.mem_cons_of_mem _ hq,z⟩
noncomputable def pick(ι:List Nat)(σ:St):St:=ι.map fun i=>(σ[i]?).join
noncomputable def uH(wi:TI)(ι:List Nat)(te:TE):TE:=fun σ H Q=>wi σ H fun J H1=>∀ D,H1 D=none->∃ W:Nat->Nat->List V->Hp->Prop,(∃ m,W 0 m [] (upd H1 D (.lst []))) /\ ∀ i m ys H,W i m ys H ->
 H D=some (.lst ys) /\ ((J.stop i H /\ Q (.ref D) H) \/ (J.go i H /\ ∀ x H',J.yld i H x H'->te (pick ι σ++[some x]) H' fun y H2=>H2 D=some (.lst ys) /\ ys.length<sizeLine /\ ∃ m',m'<m /\ W (i+1) m' (ys++[y]) (upd H2 D (.lst (ys++[y])))))
section
variable{X:Cx}{scope:Scope}{cl:List (Str×Addr)}{M:List Str}{ι:List Nat}{x:Str}
theorem nV.nv(S:nV X scope cl M ι x)(h:cl.lookup y=some c):X.env.cells.lookup y=some c:=pL S.sub (PySem.mem_of_lookup h)
theorem B4{pins:List (Addr×Obj)}{s:Shared}{h₁:Heap}(S:nV X scope cl M ι x)(I:Inv X pins σ H s)(hex:∀ b∈ex,nZ X pins H b /\ b<s.heap.objs.size)(hn:h₁.Ns s.heap.objs.size (fun _=>none))
  (hk:∀ b o,s.heap.get? b=some o->h₁.get? b=some o):Inv (blk X scope cl (M++[x]) s.heap.objs.size s H ex) [] (pick ι σ++[none]) H { s with heap:=h₁,toks:=t' }:=by
 have noM:∀ b:Addr,b∈ex->b≠s.heap.objs.size:=fun b hb=>Nat.ne_of_lt (hex b hb).2
 have fsx:∀ b∈ex,b∉frs X.stack:=fun b hb z=>by
  obtain⟨⟨_,f1,f2,_⟩,_⟩:=hex b hb
  rcases List.mem_cons.mp (I.rY b z)with e|e
  . exact f1 e
  . exact f2 e
 have base0:∀ b o,X.base.get? b=some o->b∉ex:=fun b o e z=>by
  obtain⟨⟨_,_,_,f3,_⟩,_⟩:=hex b z
  rcases f3 with f|f
  . exact I.ok.noex b o e f
  . exact absurd (Nat.lt_of_lt_of_le (Heap.lt_size e) (Nat.le_trans I.ok.bsz f)) (Nat.lt_irrefl _)
 refine⟨⟨I.ok.mod,S.kind,I.ok.glob,I.ok.blt,Nat.le_refl _,fun y z c h1 h2=>I.ok.inj y z c (S.nv h1) (S.nv h2),fun y hy=>?_,fun y c z=>absurd z Bool.false_ne_true,I.ok.hd,I.ok.frames,.inl rfl,
  fun b hb=>⟨noM b hb,fun y c h z=>(hex b hb).1.2.2.2.2.1 y c (S.nv h) z⟩,I.bs,Nat.le_trans I.ok.bsz I.sz,base0,fsx,I.stack,I.pK⟩,
  rfl,I.bare,Un.kept hk,⟨_,hn,fun i y v e1 e2 e3=>?_⟩,fun y c h=>?_,I.fresh,fun y c h=>?_,fun p hp=>absurd (show p∈([]:List (Addr×Obj)) from hp) (by simp),I.hok.kept hk,?_⟩
 . obtain⟨p,hp,rfl,hpf⟩:=qb S.nocell hy;have q:=List.all_eq_true.mp S.all p hp;rw[hpf]at q
   have q':(cl.lookup p.1).isSome=true:=by
    cases e:(cl.lookup p.1).isSome with
    |true=>rfl
    |false=>rw[e]at q;exact absurd q (by decide)
   exact Option.isSome_iff_exists.mp q'
 . have hiM:i < M.length:=by
    by_cases hlt:i<M.length
    . exact hlt
    . exfalso
      have hl:(pick ι σ).length=M.length:=by
       have q:=congrArg List.length S.names;rw[List.length_map,List.length_map]at q;unfold pick;rw[List.length_map,q]
      rw[List.getElem?_append_right (by omega),hl]at e2
      have:i - M.length=0 \/ 1<=i - M.length:=by omega
      rcases this with z|z
      . rw[z]at e2;cases e2
      . rw[List.getElem?_eq_none (by simpa using z)]at e2;cases e2
   have hl:ι.length=M.length:=by
    have q:=congrArg List.length S.names;rw[List.length_map,List.length_map]at q;exact q.symm
   rw[List.getElem?_append_left hiM]at e1
   have hyM:y∈M:=List.mem_of_getElem? e1
   have e2':((σ[ι[i]]?).join)=some v:=by
    rw[List.getElem?_append_left (by unfold pick;rw[List.length_map];omega)]at e2;unfold pick at e2;rw[List.getElem?_map,List.getElem?_eq_getElem (by omega)]at e2;exact Option.some.inj e2
   have e4:σ[ι[i]]?=some (some v):=by
    cases q:σ[ι[i]]? with
    |none=>rw[q]at e2';cases e2'
    |some w=>rw[q]at e2';exact congrArg some e2'
   have e5:X.N[ι[i]]?=some y:=by
    have q:=congrArg (fun l=>l[i]?) S.names;rw[List.getElem?_map,List.getElem?_map,e1,List.getElem?_eq_getElem (by omega)]at q
    exact(Option.some.inj q).symm
   have kc:X.env.kindOf y=some .cell:=pL S.kinds hyM
   obtain⟨m,hm,hl⟩:=I.loc;obtain⟨u,r,q⟩:=hl _ y v e5 e4 (.inr (.inl kc))
   refine⟨u,r,.inr ⟨?_,?_⟩⟩
   . exact pS (pL S.cells hyM)
   . rcases q with⟨k,_⟩|⟨_,c,e,o,ho,hd⟩
     . rw[kc]at k;cases k
     . exact⟨c,(pL S.same hyM).trans e,o,hk _ _ ho,hd⟩
 . obtain⟨v,o,ho,hd⟩:=I.cell y c (S.nv h)
   exact⟨v,o,hk _ _ ho,hd⟩
 . exact I.freeC y c (S.nv h)
 . have q:=congrArg List.length S.names;rw[List.length_map,List.length_map]at q
   show(pick ι σ++[none]).length=(M++[x]).length
   unfold pick;rw[List.length_append,List.length_append,List.length_map,q];rfl
theorem yG{pins:List (Addr×Obj)}{s s':Shared}(I:Inv X pins σ H s)(hC:C=s.heap.objs.size)(hex:∀ b∈ex,nZ X pins H b)(J:Inv (blk X scope cl N C s H ex) [] σ' H' s')
  (hs:Heap.SameBut C s'.heap h'):Inv X pins σ H' { s' with heap:=h' }:=by
 subst hC
 have K:Inv X pins σ H' s':=I.zA (ch:=ex) J.os J.base J.hok J.bare fun b hb=>by
  obtain⟨_,f1,_,f3,f4,f5⟩:=hex b hb
  exact⟨f3,f1,f4,f5⟩
 refine K.turned (t':=s'.toks) (it:=s.heap.objs.size) (fun b o hb e=>(hs.2 b hb).trans e) J.free (Nat.ne_of_gt I.lt) (.inr I.sz) (fun y c e z=>?_) (fun p hp z=>?_)
 . obtain⟨v,q⟩:=I.cell y c e;exact absurd (z ▸ q.lt) (Nat.lt_irrefl _)
 . exact absurd (z ▸ Heap.lt_size (I.pin p hp).1) (Nat.lt_irrefl _)
theorem vF(elt target iter:Expr)(scope:Scope)(pos:Pos)(it acc:Value)(env:Env):
  compTurn (.ListComp elt [⟨target,iter,[],0⟩] scope pos) 0 it acc env=(do
   standAt iter.pos
   match <- pyNext it with
   |none=>pure (.done .next)
   | some v=>do
     letOwnedTupleGo target it v
     assign target env v
     (do let x <- eval elt env;let _ <- call (.builtin "list.append") [acc,x];pure ())
     again (.compLoop (.ListComp elt [⟨target,iter,[],0⟩] scope pos) 0 it acc env)):=by rfl
theorem zj(S:nV X scope cl M ι x)(hc:X.calm=true)(hi:PI X (.Name x px) iter wi)(he:∀ C s₀ H₀ ex,PE (blk X scope cl (M++[x]) C s₀ H₀ ex) elt te)
  (hs:∀ v,foldedSetIterable iter X.env v=pure v:=by intro _;rfl):PE X (.ListComp elt [⟨.Name x px,iter,[],0⟩] scope pos) (uH wi ι te):=by
 intro pins s σ H Q I h;rw[eval_ListComp];refine wpAny_comprehension_free (use:=none) rfl hs S.clos S.kind (fun y hy hl=>?_) (wpAny_mono (hi pins s σ H _ I h) (fun v s1 h1=>wpAny_mono h1 (fun itv s2 h2=>?_) fun _ _ z=>z) fun _ _ z=>z)
 . have q:=List.all_eq_true.mp S.locs y hy;rw[hl]at q
   simpa using q
 obtain⟨it,fp,tn,J,H2,rfl,I2,T,st2,f2,hW⟩:=h2;have I3:=I2.EN (ys:=[]) (its:=[]) (t':=s2.toks) .nil (Nat.zero_le _);obtain⟨W,⟨m0,w0⟩,turn⟩:=hW s2.heap.objs.size I2.fresh
 have fpo:∀ b∈fp,b<s2.heap.objs.size:=fun b hb=>let ⟨_,e,_⟩:=T.obj _ _ st2 b hb;Heap.lt_size e
 have f3:∀ b∈fp,nZ X pins (upd H2 s2.heap.objs.size (.lst [])) b:=fun b hb=>by
  obtain⟨q0,q⟩:=f2 b hb
  exact⟨by rw[bB (Nat.ne_of_lt (fpo b hb))];exact q0,q⟩
 show wpAny _ _ (newObj (.type "list") _ none) _ _ s2;refine wpAny_newObj_type (wpAny_newFunctionEnv (fun y hy=>?_) (by intro y hy;simp at hy) (fun h₁ hn₁ sb₁=>?_) S.kind)
 . have q:=List.all_eq_true.mp S.nocell y hy
   simpa using q
 have hsz:(s2.heap.push { cls:=.type "list",dict:=none,data:=.seq ([]:List Value).toArray }).objs.size=s2.heap.objs.size+1:=Heap.size_push ..
 have hk₁:∀ b o,(s2.heap.push { cls:=.type "list",dict:=none,data:=.seq ([]:List Value).toArray }).get? b=some o->h₁.get? b=some o:=fun b o e=>
  (sb₁.2 b (Nat.ne_of_lt (Heap.lt_size e))).trans (Heap.get?_push_of_some _ e)
 have J0:=B4 (t':=s2.toks+([]:List (Str×Value)).length) S I3 (ex:=fp) (fun b hb=>⟨f3 b hb,Nat.lt_of_lt_of_le (fpo b hb) (by rw[hsz];exact Nat.le_succ _)⟩) hn₁ hk₁
 have old:∀ b∈fp,∀ o,s2.heap.get? b=some o->h₁.get? b=some o:=fun b _ o e=>hk₁ b o (Heap.get?_push_of_some _ e)
 have st₁:tn 0 h₁:=T.keep _ _ _ st2 old
 have loop:codeAny (model X.prog X.w) X.A (.compLoop (.ListComp elt [⟨.Name x px,iter,[],0⟩] scope pos) 0 (.ref it) (.ref s2.heap.objs.size) (compEnvC scope cl (s2.heap.objs.size+1) X.env))
   (compPost (model X.prog X.w) X.A X.xe none (EP X pins σ Q) (.ref s2.heap.objs.size) (s2.heap.objs.size+1)) { s2 with heap:=h₁,toks:=s2.toks+([]:List (Str×Value)).length }:=by
  rw[hsz]at J0
  refine codeAny_loop rfl (fun n s'=>∃ i H' ys v,Inv (blk X scope cl (M++[x]) (s2.heap.objs.size+1) { s2 with heap:=s2.heap.push { cls:=.type "list",data:=.seq ([]:List Value).toArray },toks:=s2.toks } (upd H2 s2.heap.objs.size (.lst [])) fp) [] (pick ι σ++[v]) H' s' /\ tn i s'.heap /\ (∀ b∈fp,H' b=none) /\ W i n ys H')
   (fun n s' hI=>?_) m0 ⟨0,_,[],none,J0,st₁,fun b hb=>(f3 b hb).1,w0⟩
  obtain⟨i,H',ys,v,J',st',fr',w'⟩:=hI;obtain⟨hD,alt⟩:=turn i n ys H' w'
  have fpY:∀{G:Hp},(∀ b∈fp,G b=none)->∀ b∈fp,nZ (blk X scope cl (M++[x]) (s2.heap.objs.size+1) { s2 with heap:=s2.heap.push { cls:=.type "list",data:=.seq ([]:List Value).toArray },toks:=s2.toks } (upd H2 s2.heap.objs.size (.lst [])) fp) [] G b:=fun hG b hb=>
   ⟨hG b hb,(J'.ok.exf b hb).1,J'.ok.exfs b hb,.inl hb,(J'.ok.exf b hb).2,fun p hp=>absurd (show p∈([]:List (Addr×Obj)) from hp) (by simp)⟩
  show wpAny _ _ ((compTurn _ 0 (.ref it) (.ref s2.heap.objs.size) (compEnvC scope cl (s2.heap.objs.size+1) X.env)).onRaise _) _ _ s';refine wpAny_noted (wpAny_noRaise ?_);rw[vF];refine wpAny_bind (wpAny_standAt (wpAny_bind ?_))
  rcases alt with⟨stop,qn⟩|⟨go,step⟩
  . refine thn (T.done (blk X scope cl (M++[x]) (s2.heap.objs.size+1) _ _ fp) rfl rfl rfl hc i [] s' _ H' _ J' (fpY fr') st' stop) fun r s4 ⟨hr,J4⟩=>?_
    subst hr;refine wpAny_pure ?_;obtain⟨m,hm,_⟩:=id J4.loc
    refine⟨m,hm,fun h' sb=>⟨.ref s2.heap.objs.size,H',yG I3 hsz.symm f3 J4 sb,rfl,qn⟩⟩
  . refine thn (T.item (blk X scope cl (M++[x]) (s2.heap.objs.size+1) _ _ fp) rfl rfl rfl hc i [] s' _ H' _ J' (fpY fr') st' go) fun r s4 ⟨u,hr,h4⟩=>?_
    subst hr;refine wpAny_bind (thn h4 fun _ s5 ⟨z,H5,J5,r5,y5,st5,fr5⟩=>?_)
    have J5':=J5.pinned (fpY fr5) (T.obj _ _ st5)
    have hxN:(M++[x])[M.length]?=some x:=by simp
    refine wpAny_bind ?_;refine wpAny_assign_Name ?_;refine kf (X:=blk X scope cl (M++[x]) (s2.heap.objs.size+1) _ _ fp) (i:=M.length) (v:=z) J5' S.nd hxN (.inl (lookup_relabel_local S.var)) r5 (fun s6 J6=>?_) (.inr (lookup_relabel_local S.var))
    have hlp:(pick ι σ).length=M.length:=by
     have q:=congrArg List.length S.names;rw[List.length_map,List.length_map]at q;unfold pick;rw[List.length_map,q]
    have hset:(pick ι σ++[v]).set M.length (some z)=pick ι σ++[some z]:=by
     rw[<- hlp,List.set_append_right _ _ (Nat.le_refl _),Nat.sub_self];rfl
    rw[hset]at J6;refine wpAny_bind (wpAny_bind (thn (he _ _ _ _ _ s6 _ H5 _ J6 (step z H5 y5)) fun yv s7 ⟨y,H7,J7,r7,hD7,hz7,m',hm',w7⟩=>?_));refine wpAny_bind (thn (ju (X:=blk X scope cl (M++[x]) (s2.heap.objs.size+1) _ _ fp) _ s7 _ H7 (.ref s2.heap.objs.size) [y] (.ref s2.heap.objs.size) [yv] (fun _ G=>G=upd H7 s2.heap.objs.size (.lst (ys++[y]))) J7 rfl (.cons r7 .nil) ⟨_,_,y,rfl,rfl,hD7,hz7,rfl⟩) fun _ s8 ⟨_,H8,J8,_,e8⟩=>?_);subst e8;refine wpAny_pure (wpAny_pure ⟨rfl,m',hm',i+1,_,_,some z,J8.j7,?_,fun b hb=>?_,w7⟩)
    . exact T.keep _ _ _ st5 fun b hb o e=>(J8.pin (b,o) (List.mem_append_right _ (List.mem_append_right _ (gU hb e)))).1
    . obtain⟨o,e,d⟩:=T.obj _ _ st5 b hb
      exact(J8.pin (b,o) (List.mem_append_right _ (List.mem_append_right _ (gU hb e)))).2.1
 rw[hsz]at *;exact codeAny_compStart_list loop (T.self X.A 0 _ _ _ st₁ loop)
end
section
variable{X:Cx}
noncomputable def IsV(K:PySem.W.Frag)(T:String)(x:V)(H:Hp)(b:Bool):Prop:=match x with
 |.int _=>(T = "int" /\ b=true) \/ (T = "bool" /\ b=false) \/ (T = "list" /\ b=false) \/ (T = "tuple" /\ b=false) \/ (T = "str" /\ b=false)
 |.bl _=>(T = "int" /\ b=true) \/ (T = "bool" /\ b=true) \/ (T = "list" /\ b=false) \/ (T = "tuple" /\ b=false) \/ (T = "str" /\ b=false)
 |.non=>(T = "int" /\ b=false) \/ (T = "bool" /\ b=false) \/ (T = "list" /\ b=false) \/ (T = "tuple" /\ b=false) \/ (T = "str" /\ b=false)
 |.str _=>(T = "int" /\ b=false) \/ (T = "bool" /\ b=false) \/ (T = "list" /\ b=false) \/ (T = "tuple" /\ b=false) \/ (T = "str" /\ b=true)
 | .ref p=>((∃ xs,SqL K H p xs) /\ ((T = "int" /\ b = false) \/ (T = "bool" /\ b = false) \/ (T = "list" /\ b = true) \/ (T = "tuple" /\ b = false) \/ (T = "str" /\ b = false))) \/
    ((∃ xs,SqT K H p xs) /\ ((T = "int" /\ b=false) \/ (T = "bool" /\ b=false) \/ (T = "list" /\ b=false) \/ (T = "tuple" /\ b=true) \/ (T = "str" /\ b=false)))
 |_=>False
theorem vY:iG X (.builtin "isinstance") (fun xs H Q=>∃ x T b,xs=[x,.ty T] /\ IsV X.K T x H b /\ Q (.bl b) H):=by
 intro pins s σ H vs us Q I rv h;obtain⟨x,T,b,rfl,hv,q⟩:=h;obtain⟨u,v,rfl,ru,rT⟩:=rv.two;cases rT
 cases x with
 | int i=>
   obtain⟨t,rfl⟩:=ru
   rcases hv with⟨rfl,rfl⟩|⟨rfl,rfl⟩|⟨rfl,rfl⟩|⟨rfl,rfl⟩|⟨rfl,rfl⟩
   . exact IsiPair.int_int ⟨.bl _,H,I,rfl,q⟩
   . exact IsiPair.int_bool ⟨.bl _,H,I.tok _,rfl,q⟩
   . exact IsiPair.int_list ⟨.bl _,H,I.tok _,rfl,q⟩
   . exact IsiPair.int_tuple ⟨.bl _,H,I.tok _,rfl,q⟩
   . exact IsiPair.int_str ⟨.bl _,H,I.tok _,rfl,q⟩
 | bl i=>
   cases ru
   rcases hv with⟨rfl,rfl⟩|⟨rfl,rfl⟩|⟨rfl,rfl⟩|⟨rfl,rfl⟩|⟨rfl,rfl⟩
   . exact IsiPair.bool_int ⟨.bl _,H,I,rfl,q⟩
   . exact IsiPair.bool_bool ⟨.bl _,H,I,rfl,q⟩
   . exact IsiPair.bool_list ⟨.bl _,H,I.tok _,rfl,q⟩
   . exact IsiPair.bool_tuple ⟨.bl _,H,I.tok _,rfl,q⟩
   . exact IsiPair.bool_str ⟨.bl _,H,I.tok _,rfl,q⟩
 | non=>
   cases ru
   rcases hv with⟨rfl,rfl⟩|⟨rfl,rfl⟩|⟨rfl,rfl⟩|⟨rfl,rfl⟩|⟨rfl,rfl⟩
   . exact IsiPair.NoneType_int ⟨.bl _,H,I.tok _,rfl,q⟩
   . exact IsiPair.NoneType_bool ⟨.bl _,H,I.tok _,rfl,q⟩
   . exact IsiPair.NoneType_list ⟨.bl _,H,I.tok _,rfl,q⟩
   . exact IsiPair.NoneType_tuple ⟨.bl _,H,I.tok _,rfl,q⟩
   . exact IsiPair.NoneType_str ⟨.bl _,H,I.tok _,rfl,q⟩
 | str i=>
   obtain⟨t,rfl⟩:=ru
   rcases hv with⟨rfl,rfl⟩|⟨rfl,rfl⟩|⟨rfl,rfl⟩|⟨rfl,rfl⟩|⟨rfl,rfl⟩
   . exact IsiPair.str_int ⟨.bl _,H,I.tok _,rfl,q⟩
   . exact IsiPair.str_bool ⟨.bl _,H,I.tok _,rfl,q⟩
   . exact IsiPair.str_list ⟨.bl _,H,I.tok _,rfl,q⟩
   . exact IsiPair.str_tuple ⟨.bl _,H,I.tok _,rfl,q⟩
   . exact IsiPair.str_str ⟨.bl _,H,I,rfl,q⟩
 | ref p=>
   cases ru
   rcases hv with⟨⟨xs,hS⟩,hv⟩|⟨⟨xs,hS⟩,hv⟩
   . obtain⟨its,r,pl,hz⟩:=I.list hS;obtain⟨o,e,c,_⟩:=pl.isList
     rcases hv with⟨rfl,rfl⟩|⟨rfl,rfl⟩|⟨rfl,rfl⟩|⟨rfl,rfl⟩|⟨rfl,rfl⟩
     . exact IsiPair.list_int e c ⟨.bl _,H,I.tok _,rfl,q⟩
     . exact IsiPair.list_bool e c ⟨.bl _,H,I.tok _,rfl,q⟩
     . exact IsiPair.list_list e c ⟨.bl _,H,I,rfl,q⟩
     . exact IsiPair.list_tuple e c ⟨.bl _,H,I.tok _,rfl,q⟩
     . exact IsiPair.list_str e c ⟨.bl _,H,I.tok _,rfl,q⟩
   . obtain⟨its,r,pl,hz⟩:=I.tuple hS;obtain⟨o,e,c,_⟩:=pl
     rcases hv with⟨rfl,rfl⟩|⟨rfl,rfl⟩|⟨rfl,rfl⟩|⟨rfl,rfl⟩|⟨rfl,rfl⟩
     . exact IsiPair.tuple_int e c ⟨.bl _,H,I.tok _,rfl,q⟩
     . exact IsiPair.tuple_bool e c ⟨.bl _,H,I.tok _,rfl,q⟩
     . exact IsiPair.tuple_list e c ⟨.bl _,H,I.tok _,rfl,q⟩
     . exact IsiPair.tuple_tuple e c ⟨.bl _,H,I,rfl,q⟩
     . exact IsiPair.tuple_str e c ⟨.bl _,H,I.tok _,rfl,q⟩
 |_=>exact hv.elim
theorem boot_isinstance:bootBuiltins "isinstance" = some (.builtin "isinstance"):=by decide +kernel
theorem boot_all:bootBuiltins "all" = some (.builtin "all"):=by decide +kernel
theorem boot_tuple:bootBuiltins "tuple" = some (.type "tuple"):=by decide +kernel
theorem boot_list:bootBuiltins "list" = some (.type "list"):=by decide +kernel
theorem boot_len:bootBuiltins "len" = some (.builtin "len"):=by decide +kernel
end
section
variable{P:Program}{w:World}{K:PySem.W.Frag}{mg:Str->Option Value}{base:Heap}
theorem okX{x qual:Str}{st:Stmt}{f:Addr}{fd:FuncData}{N ps:List Str}{k:Nat}{sp:Sp}(F:Fun K x qual st f fd)(S:bu N ps (aD st))(len:∀ vs H Q E,sp vs H Q E->vs.length=ps.length)
  (hbody:∀(cdv:Value) (A:Around) (outer:List Env) (s:Shared) (H:Hp) (vs:List V) (Q:VK) (E:XK),fF k (A.deeper (envOfC qual (aD st) s.heap.objs.size f cdv))->sp vs H Q E ->
    ∃ t,PSs (lG (CXE P w) P w K mg base N qual (aD st) f cdv A outer s H E) (cV st) t /\ t { nx:=fun _ H'=>Q .non H',rt:=Q } (start N vs) H):cO P w K mg base (CXE P w) (k+1) f fd ps sp:=by
 obtain⟨oc,od,kV,doc,pm,an,cdv,ct,osl,rfl,lk,hcd⟩:=F.ex
 exact DE lk hcd S len fun A outer s H vs Q E hr hsp=>hbody cdv A outer s H vs Q E hr hsp
end
theorem SqL.new{K:PySem.W.Frag}{H:Hp}{p:Addr}{xs:List V}(h:H p=some (.lst xs)):SqL K H p xs:=.inl (.inl h)
theorem SqT.new{K:PySem.W.Frag}{H:Hp}{p:Addr}{xs:List V}(h:H p=some (.tup xs)):SqT K H p xs:=.inl (.inl h)
theorem yn{H:Hp}{p q:Addr}{o:HO}(h:H q=some o)(n:H p=none):q≠p:=fun z=>by rw[z,n]at h;cases h
theorem _root_.L2.ay.upd{H H':Hp}{p:Addr}{o:HO}(e:ay H H')(n:H p=none):ay H (upd H' p o):=fun b u h=>by
 rw[bB (yn h n)];exact e b u h
theorem _root_.L2.ay.new{H:Hp}{p:Addr}{o:HO}(n:H p=none):ay H (L2.upd H p o):=(ay.refl H).upd n
section
variable{X:Cx}
theorem vq:iG X (.builtin "all") (fun xs H Q=>∃(p:Addr) (bs:List Bool),xs=[.ref p] /\ SqL X.K H p (bs.map V.bl) /\ X.A.handled=none /\ Q (.bl (bs.all id)) H):=by
 intro pins s σ H vs us Q I rv h;obtain⟨p,bs,rfl,hp,hh,q⟩:=h;obtain⟨u,rfl,ru⟩:=rv.one;cases ru;obtain⟨its,r,pl,_⟩:=I.list hp;have hl:=r.length
 have isl:s.heap.IsList p its.toArray:=pl.isList
 obtain⟨o,e,_⟩:=id isl;refine call_all_walk (wpAny_pyIter_list isl ?_)
 have ne:p≠s.heap.objs.size:=Nat.ne_of_lt (Heap.lt_size e)
 have tv:∀(i:Nat) (v:Value),its.toArray[i]?=some v->∃ b,bs[i]?=some b /\ v=Value.bool b:=fun i v hv=>by
  have hv':its[i]?=some v:=by simpa using hv
  have hi:i<its.length:=(List.getElem?_eq_some_iff.mp hv').1
  rw[<- hl,List.length_map]at hi
  have hx:(bs.map V.bl)[i]?=some (V.bl bs[i]):=by simp[hi]
  obtain⟨u,hu,ru⟩:=r.get hx;rw[hv']at hu;cases hu
  exact⟨bs[i],by simp[hi],ru⟩
 refine⟨s.heap.objs.size,_,_,_,_,_,(fun i=>(bs[i]?).getD false),rfl,Walks.list (A:=X.A.in1) hh s.heap.objs.size p ne its.toArray,⟨⟨_,Heap.get?_push_size _ rfl,rfl,rfl⟩,isl.at fun o e=>Heap.get?_push_of_some _ e⟩,fun i v s' Q' E' hP hQ=>?_,fun h' tk hk=>?_⟩
 . obtain⟨b,hb,rfl⟩:=tv i v hP
   have hQ':Q' ((bs[i]?).getD false) s':=hQ
   rw[hb]at hQ';exact wpAny_truthy_bool hQ'
 . have en:its.toArray.size=bs.length:=by rw[List.size_toArray,<- hl,List.length_map]
   have eb:(List.range its.toArray.size).all (fun i=>(bs[i]?).getD false)=bs.all id:=by
    rw[en];rw[Bool.eq_iff_iff,List.all_eq_true,List.all_eq_true];constructor
    . intro hA b hb;obtain⟨i,hi,rfl⟩:=List.mem_iff_getElem.mp hb;have:=hA i (by simpa using hi)
      simpa [hi]using this
    . intro hA i hi
      have hi':i<bs.length:=by simpa using hi
      have:=hA bs[i] (List.getElem_mem hi')
      simpa [hi']using this
   rw[eb]
   refine⟨.bl _,H,I.kept (h':=h') (t':=tk) fun b o e'=>hk b o ?_ (Heap.get?_push_of_some _ e'),rfl,q⟩
   have lt:=Heap.lt_size e';intro z
   have z':b=s.heap.objs.size:=by simpa using z
   exact absurd (z' ▸ lt) (Nat.lt_irrefl _)
end
noncomputable def isStar:Expr->Bool
 |.Starred ..=>true
 |_=>false
theorem u0{e:Expr}{es:List Expr}{env:Env}(h:isStar e=false):starEach (e ::es) env=(false,eval e env) ::starEach es env:=by
 cases e<;>first|rfl|cases h
theorem wW{X:Cx}{e:Expr}{es:List Expr}{te:TE}{t:TA}(ha:PE X e te)(hr:PA X es t)(hs:isStar e=false:=by rfl):PA X (e ::es) (eA te t):=yt ha hr (u0 hs)
end L2.E
namespace L2.P
open PySem
noncomputable def ixP(n:Nat)(i:Int):Option Nat:=if 0<=i then(if i<n then some i.toNat else none)else if -(n:Int)<=i then some (i+n).toNat else none
noncomputable def atP{α:Type}(xs:List α)(i:Int):Option α:=(ixP xs.length i).bind fun j=>xs[j]?
noncomputable def vt(n d:Nat):Option Int->Nat
 |none=>d
 |some v=>if v<0 then(v+(n:Int)).toNat else min v.toNat n
inductive PV where
 |non|bl (b:Bool)|int (i:Int)|str (s:Str)|lst (xs:List PV)|tup (xs:List PV)
inductive OV where
 | sh (x:PV)|ol (ts:List OV)|ob (c:String) (ks:List Str) (ts:List OV)
   |di (kvs:List (Int×PV))|dt (kvs:List (List Int×PV))
inductive Sl where
 | sh (x:PV)|ow (xs:List PV)|ex (c:String) (fs:List (Str×PV))
   |tr (io:Bool) (t:OV)|bo (t:OV)
abbrev af:=List (Option Sl)
inductive RV where
 |sh (x:PV)|fr (xs:List PV)|al (xs:List PV)
noncomputable def RV.pv:RV->PV
 |.sh x=>x
 |.fr xs=>.lst xs
 |.al xs=>.lst xs
abbrev XF:=List (Str×PV)
inductive OE where
 |ok (r:RV)|exc (c:String) (fs:XF)|bad
inductive OT where
 |ok (b:Bool)|exc (c:String) (fs:XF)|bad
inductive OA where
 |ok (xs:List PV)|exc (c:String) (fs:XF)|bad
inductive OS where
 |nx (ρ:af)|rt (ρ:af) (r:RV)|bk (ρ:af)|ct (ρ:af)|exc (ρ:af) (c:String) (fs:XF)|bad
noncomputable def OE.bind:OE->(RV->OE)->OE
 |.ok r,f=>f r
 |.exc c fs,_=>.exc c fs
 |.bad,_=>.bad
noncomputable def OE.cB:OE->(RV->OT)->OT
 |.ok r,f=>f r
 |.exc c fs,_=>.exc c fs
 |.bad,_=>.bad
noncomputable def OE.cD:OE->(RV->OA)->OA
 |.ok r,f=>f r
 |.exc c fs,_=>.exc c fs
 |.bad,_=>.bad
noncomputable def OE.bp(ρ:af):OE->(RV->OS)->OS
 |.ok r,f=>f r
 |.exc c fs,_=>.exc ρ c fs
 |.bad,_=>.bad
noncomputable def OT.bind:OT->(Bool->OE)->OE
 |.ok r,f=>f r
 |.exc c fs,_=>.exc c fs
 |.bad,_=>.bad
noncomputable def OT.cB:OT->(Bool->OT)->OT
 |.ok r,f=>f r
 |.exc c fs,_=>.exc c fs
 |.bad,_=>.bad
noncomputable def OT.bp(ρ:af):OT->(Bool->OS)->OS
 |.ok r,f=>f r
 |.exc c fs,_=>.exc ρ c fs
 |.bad,_=>.bad
noncomputable def OA.bind:OA->(List PV->OE)->OE
 |.ok r,f=>f r
 |.exc c fs,_=>.exc c fs
 |.bad,_=>.bad
noncomputable def OA.cD:OA->(List PV->OA)->OA
 |.ok r,f=>f r
 |.exc c fs,_=>.exc c fs
 |.bad,_=>.bad
noncomputable def OA.bp(ρ:af):OA->(List PV->OS)->OS
 |.ok r,f=>f r
 |.exc c fs,_=>.exc ρ c fs
 |.bad,_=>.bad
noncomputable def ao(i:Nat):af->OE:=fun ρ=>match ρ[i]? with
 |some (some (.sh x))=>.ok (.sh x)
 |some (some (.ow xs))=>.ok (.al xs)
 |_=>.bad
noncomputable def mC(x:PV):af->OE:=fun _=>.ok (.sh x)
noncomputable def oE:Option RV->OE
 |some r=>.ok r
 |none=>.bad
noncomputable def mOp(g:PV->PV->Option RV)(ma mb:af->OE):af->OE:=fun ρ=>(ma ρ).bind fun a=>(mb ρ).bind fun b=>oE (g a.pv b.pv)
noncomputable def gI(C:Int->Int->Bool)(f:Int->Int->PV):PV->PV->Option RV
 |.int i,.int j=>if C i j then some (.sh (f i j))else none
 |_,_=>none
noncomputable def gE:=gI (fun _ _=>true) fun i j=>.int (i+j)
noncomputable def zc:=gI (fun _ _=>true) fun i j=>.int (i - j)
noncomputable def vG:=gI (fun i j=>(decide (-(2 ^ 64)<i)&&decide (i<2 ^ 64))||(decide (-(2 ^ 64)<j)&&decide (j<2 ^ 64))) fun i j=>.int (i*j)
noncomputable def hU:=gI (fun _ j=>decide (0<j)&&decide (j<1073741824)) fun i j=>.int (i/j)
noncomputable def cF:=gI (fun _ j=>decide (0<j)) fun i j=>.int (i%j)
noncomputable def gLt:=gI (fun _ _=>true) fun i j=>.bl (decide (i<j))
noncomputable def gGt:=gI (fun _ _=>true) fun i j=>.bl (decide (j<i))
noncomputable def eqS:PV->PV->Option Bool
 |.non,.non=>some true|.non,.int _=>some false|.int _,.non=>some false|.non,.bl _=>some false|.bl _,.non=>some false|.non,.str _=>some false|.str _,.non=>some false
 |.int a,.int b=>some (decide (a=b))|.bl a,.bl b=>some (decide (a=b))|.str a,.str b=>some (decide (a=b))
 |.int _,.str _=>some false|.str _,.int _=>some false|.bl _,.str _=>some false|.str _,.bl _=>some false
 |_,_=>none
noncomputable def gEq:PV->PV->Option RV:=fun x y=>(eqS x y).map fun b=>.sh (.bl b)
noncomputable def kC:RV->Option PV
 |.sh x=>some x
 |.fr xs=>some (.lst xs)
 |.al _=>none
noncomputable def az:af->OA:=fun _=>.ok []
noncomputable def ah(me:af->OE)(mr:af->OA):af->OA:=fun ρ=>(me ρ).cD fun r=>match kC r with
 |some x=>(mr ρ).cD fun xs=>.ok (x ::xs)
 |none=>.bad
noncomputable def lim:Nat:=16777216
noncomputable def gi(ma:af->OA):af->OE:=fun ρ=>(ma ρ).bind fun xs=>if xs.length<=lim then .ok (.fr xs)else .bad
noncomputable def bb(ma:af->OA):af->OE:=fun ρ=>(ma ρ).bind fun xs=>if xs.length<=lim then .ok (.sh (.tup xs))else .bad
noncomputable def aW(f:List PV->OE)(ma:af->OA):af->OE:=fun ρ=>(ma ρ).bind f
noncomputable def mUn(g:PV->Option RV)(ma:af->OE):af->OE:=fun ρ=>(ma ρ).bind fun a=>oE (g a.pv)
noncomputable def jO:PV->Option RV
 |.int i=>some (.sh (.int (-i)))
 |_=>none
noncomputable def kF:PV->Option RV
 |.lst xs=>some (.sh (.int xs.length))
 |.tup xs=>some (.sh (.int xs.length))
 |_=>none
noncomputable def ke:PV->Option RV
 |.lst xs=>some (.fr xs)
 |.tup xs=>some (.fr xs)
 |_=>none
noncomputable def jw:PV->PV->Option RV
 |.lst xs,.int i=>(atP xs i).map .sh
 |_,_=>none
noncomputable def bc:PV->PV->Option RV
 |.tup xs,.int i=>(atP xs i).map .sh
 |_,_=>none
noncomputable def kU:List PV->Option (List Int)
 |[]=>some []
 |.int i ::r=>(kU r).map (i ::·)
 |_ ::_=>none
noncomputable def gn:List PV->Option (List Bool)
 |[]=>some []
 |.bl i ::r=>(gn r).map (i ::·)
 |_ ::_=>none
noncomputable def Cd:PV->Option RV
 |.lst xs=>(gn xs).map fun bs=>.sh (.bl (bs.all id))
 |_=>none
noncomputable def isP(T:String):PV->Option Bool
 |.int _=>if T = "int" then some true else if T = "bool" \/ T = "list" \/ T = "tuple" \/ T = "str" then some false else none
 |.bl _=>if T = "int" \/ T = "bool" then some true else if T = "list" \/ T = "tuple" \/ T = "str" then some false else none
 |.non=>if T = "int" \/ T = "bool" \/ T = "list" \/ T = "tuple" \/ T = "str" then some false else none
 |.str _=>if T = "str" then some true else if T = "int" \/ T = "bool" \/ T = "list" \/ T = "tuple" then some false else none
 |.lst _=>if T = "list" then some true else if T = "int" \/ T = "bool" \/ T = "tuple" \/ T = "str" then some false else none
 |.tup _=>if T = "tuple" then some true else if T = "int" \/ T = "bool" \/ T = "list" \/ T = "str" then some false else none
noncomputable def mIs(T:String)(ma:af->OE):af->OE:=mUn (fun x=>(isP T x).map fun b=>.sh (.bl b)) ma
noncomputable def pD:PV->Option Bool
 |.non=>some false
 |.bl b=>some b
 |.int i=>some (i != 0)
 |.lst xs=>some (!xs.isEmpty)
 |.tup xs=>some (!xs.isEmpty)
 |.str _=>none
noncomputable def oT:Option Bool->OT
 |some b=>.ok b
 |none=>.bad
noncomputable def kT(ma:af->OE):af->OT:=fun ρ=>(ma ρ).cB fun r=>oT (pD r.pv)
noncomputable def aR(ma:af->OE):af->OT:=fun ρ=>(ma ρ).cB fun r=>match r.pv with
 |.bl b=>.ok b
 |_=>.bad
noncomputable def uA(m:af->OT):af->OT:=fun ρ=>(m ρ).cB fun b=>.ok (!b)
noncomputable def dA(m n:af->OT):af->OT:=fun ρ=>(m ρ).cB fun b=>if b=true then n ρ else .ok false
noncomputable def iB(m n:af->OT):af->OT:=fun ρ=>(m ρ).cB fun b=>if b=true then .ok true else n ρ
noncomputable def wM(m n:af->OE):af->OE:=fun ρ=>(m ρ).bind fun r=>match r.pv with
 |.bl b=>if b=true then n ρ else .ok (.sh (.bl false))
 |_=>.bad
noncomputable def x8(c:af->OT)(m n:af->OE):af->OE:=fun ρ=>(c ρ).bind fun b=>if b=true then m ρ else n ρ
noncomputable def OS.andThen:OS->(af->OS)->OS
 |.nx ρ,k=>k ρ
 |o,_=>o
noncomputable def OS.turn:OS->(af->OS)->OS
 |.nx ρ,k=>k ρ
 |.ct ρ,k=>k ρ
 |.bk ρ,_=>.nx ρ
 |o,_=>o
noncomputable def bf(a b:af->OS):af->OS:=fun ρ=>(a ρ).andThen b
noncomputable def bU:af->OS:=fun ρ=>.nx ρ
noncomputable def wK:RV->Option Sl
 |.sh x=>some (.sh x)
 |.fr xs=>some (.ow xs)
 |.al _=>none
noncomputable def cU(i:Nat)(me:af->OE):af->OS:=fun ρ=>(me ρ).bp ρ fun r=>match wK r with
 |some s=>.nx (ρ.set i (some s))
 |none=>.bad
noncomputable def bW(c:af->OT)(m n:af->OS):af->OS:=fun ρ=>(c ρ).bp ρ fun b=>if b=true then m ρ else n ρ
noncomputable def b4(me:af->OE):af->OS:=fun ρ=>(me ρ).bp ρ fun r=>match r with
 |.al _=>.bad
 |r=>.rt ρ r
noncomputable def gX(i:Nat):af->OS:=fun ρ=>match ρ[i]? with
 |some (some (.sh x))=>.rt ρ (.sh x)
 |some (some (.ow xs))=>.rt (ρ.set i none) (.fr xs)
 |_=>.bad
noncomputable def DM(i:Nat)(ρ:af):af:=match ρ[i]? with
 |some (some (.ow xs))=>ρ.set i (some (.sh (.lst xs)))
 |_=>ρ
noncomputable def kn(i:Nat)(me:af->OE):af->OS:=fun ρ=>match ρ[i]? with
 | some (some (.ow xs))=>(me ρ).bp ρ fun r=>match r with
   |.fr ys=>if xs.length+ys.length<=lim then .nx (ρ.set i (some (.ow (xs++ys))))else .bad
   |_=>.bad
 |_=>.bad
noncomputable def fM(i:Nat)(mb:af->OS):List PV->af->OS
 |[],ρ=>.nx ρ
 |x ::xs,ρ=>(mb (ρ.set i (some (.sh x)))).turn (fM i mb xs)
noncomputable def de(n:Nat):List PV:=(List.range n).map fun k:Nat=>PV.int (k:Int)
noncomputable def kB(i:Nat)(me:af->OE)(mb:af->OS):af->OS:=fun ρ=>(me ρ).bp ρ fun r=>match r.pv with
 |.int j=>if -(2 ^ 62)<=j /\ j<2 ^ 62 then fM i mb (de j.toNat) ρ else .bad
 |_=>.bad
noncomputable def bR(mc:af->OT)(mb:af->OS):Nat->af->OS
 |0,_=>.bad
 |n+1,ρ=>(mc ρ).bp ρ fun b=>if b=true then(mb ρ).turn (bR mc mb n)else .nx ρ
noncomputable def iM:PV->Option Int
 |.int i=>some i
 |_=>none
noncomputable def ez(m:af->OE):af->OE:=fun ρ=>(m ρ).bind fun r=>match r.pv with
 |.int i=>.ok (.sh (.int i))
 |_=>.bad
noncomputable def p8(xs:List PV)(lo hi:Option Int):List PV:=(xs.drop (vt xs.length 0 lo)).take (vt xs.length xs.length hi - vt xs.length 0 lo)
noncomputable def eV(ι:List Nat)(ρ:af):af:=ι.map fun i=>(ρ[i]?).join
noncomputable def bC(me:af->OE)(ρ:af):List PV->OA
 |[]=>.ok []
 | x ::xs=>(me (ρ++[some (.sh x)])).cD fun r=>match kC r with
   |some y=>(bC me ρ xs).cD fun ys=>.ok (y ::ys)
   |none=>.bad
noncomputable def noX:OA->OE
 |.ok xs=>if xs.length<=lim then .ok (.fr xs)else .bad
 |_=>.bad
noncomputable def m6(ml:af->OE)(ι:List Nat)(me:af->OE):af->OE:=fun ρ=>(ml ρ).bind fun r=>match r.pv with
 |.lst xs=>noX (bC me (eV ι ρ) xs)
 |_=>.bad
noncomputable def fin:OS->OE
 |.nx _=>.ok (.sh .non)
 |.rt _ (.al _)=>.bad
 |.rt _ r=>.ok r
 |.exc _ c fs=>.exc c fs
 |_=>.bad
noncomputable def jg(n:Nat)(xs:List PV):af:=xs.map (fun x=>some (.sh x))++List.replicate (n - xs.length) none
noncomputable def fnP(np n:Nat)(m:af->OS):List PV->OE:=fun xs=>if xs.length=np then fin (m (jg n xs))else .bad
noncomputable def fuel:Nat:=100000
noncomputable def u9(i:Nat)(g:PV->PV->Option RV)(me:af->OE):af->OS:=fun ρ=>match ρ[i]? with
 | some (some (.sh x))=>(me ρ).bp ρ fun r=>match g x r.pv with
   |some (.sh z)=>.nx (ρ.set i (some (.sh z)))
   |_=>.bad
 |_=>.bad
noncomputable def jU:PV->Bool
 |.non=>true
 |_=>false
noncomputable def yr:PV->PV->Option RV
 |x,.non=>some (.sh (.bl (jU x)))
 |_,_=>none
@[simp] theorem E4(i:Nat)(ρ:af):ao i ρ=(match ρ[i]? with
  |some (some (.sh x))=>.ok (.sh x)
  |some (some (.ow xs))=>.ok (.al xs)
  |_=>.bad):=rfl
@[simp] theorem Fs(g:PV->PV->Option RV)(ma mb:af->OE)(ρ:af):mOp g ma mb ρ=((ma ρ).bind fun a=>(mb ρ).bind fun b=>oE (g a.pv b.pv)):=rfl
@[simp] theorem ya(me:af->OE)(mr:af->OA)(ρ:af):ah me mr ρ=((me ρ).cD fun r=>match kC r with
  |some x=>(mr ρ).cD fun xs=>.ok (x ::xs)
  |none=>.bad):=rfl
@[simp] theorem EF(ma:af->OA)(ρ:af):gi ma ρ=((ma ρ).bind fun xs=>if xs.length<=lim then .ok (.fr xs)else .bad):=rfl
@[simp] theorem Bn(ma:af->OA)(ρ:af):bb ma ρ=((ma ρ).bind fun xs=>if xs.length<=lim then .ok (.sh (.tup xs))else .bad):=rfl
@[simp] theorem DW(f:List PV->OE)(ma:af->OA)(ρ:af):aW f ma ρ=((ma ρ).bind f):=rfl
@[simp] theorem FA(g:PV->Option RV)(ma:af->OE)(ρ:af):mUn g ma ρ=((ma ρ).bind fun a=>oE (g a.pv)):=rfl
@[simp] theorem Df(ma:af->OE)(ρ:af):kT ma ρ=((ma ρ).cB fun r=>oT (pD r.pv)):=rfl
@[simp] theorem DS(ma:af->OE)(ρ:af):aR ma ρ=((ma ρ).cB fun r=>match r.pv with
  |.bl b=>.ok b
  |_=>.bad):=rfl
@[simp] theorem DO(m:af->OT)(ρ:af):uA m ρ=((m ρ).cB fun b=>.ok (!b)):=rfl
@[simp] theorem Ef(m n:af->OT)(ρ:af):dA m n ρ=((m ρ).cB fun b=>if b=true then n ρ else .ok false):=rfl
@[simp] theorem EB(m n:af->OT)(ρ:af):iB m n ρ=((m ρ).cB fun b=>if b=true then .ok true else n ρ):=rfl
@[simp] theorem D3(m n:af->OE)(ρ:af):wM m n ρ=((m ρ).bind fun r=>match r.pv with
  |.bl b=>if b=true then n ρ else .ok (.sh (.bl false))
  |_=>.bad):=rfl
@[simp] theorem EE(c:af->OT)(m n:af->OE)(ρ:af):x8 c m n ρ=((c ρ).bind fun b=>if b=true then m ρ else n ρ):=rfl
@[simp] theorem gf(a b:af->OS)(ρ:af):bf a b ρ=((a ρ).andThen b):=rfl
@[simp] theorem DZ(ρ:af):bU  ρ=(.nx ρ):=rfl
@[simp] theorem E9(i:Nat)(me:af->OE)(ρ:af):cU i me ρ=((me ρ).bp ρ fun r=>match wK r with
  |some s=>.nx (ρ.set i (some s))
  |none=>.bad):=rfl
@[simp] theorem ET(c:af->OT)(m n:af->OS)(ρ:af):bW c m n ρ=((c ρ).bp ρ fun b=>if b=true then m ρ else n ρ):=rfl
@[simp] theorem EM(me:af->OE)(ρ:af):b4 me ρ=((me ρ).bp ρ fun r=>match r with
  |.al _=>.bad
  |r=>.rt ρ r):=rfl
@[simp] theorem CP(i:Nat)(ρ:af):gX i ρ=(match ρ[i]? with
  |some (some (.sh x))=>.rt ρ (.sh x)
  |some (some (.ow xs))=>.rt (ρ.set i none) (.fr xs)
  |_=>.bad):=rfl
@[simp] theorem CU(i:Nat)(me:af->OE)(ρ:af):kn i me ρ=(match ρ[i]? with
  | some (some (.ow xs))=>(me ρ).bp ρ fun r=>match r with
    |.fr ys=>if xs.length+ys.length<=lim then .nx (ρ.set i (some (.ow (xs++ys))))else .bad
    |_=>.bad
  |_=>.bad):=rfl
@[simp] theorem D0(i:Nat)(me:af->OE)(mb:af->OS)(ρ:af):kB i me mb ρ=((me ρ).bp ρ fun r=>match r.pv with
  |.int j=>if -(2 ^ 62)<=j /\ j<2 ^ 62 then fM i mb (de j.toNat) ρ else .bad
  |_=>.bad):=rfl
@[simp] theorem Ee(m:af->OE)(ρ:af):ez m ρ=((m ρ).bind fun r=>match r.pv with
  |.int i=>.ok (.sh (.int i))
  |_=>.bad):=rfl
@[simp] theorem Di(ml:af->OE)(ι:List Nat)(me:af->OE)(ρ:af):m6 ml ι me ρ=((ml ρ).bind fun r=>match r.pv with
  |.lst xs=>noX (bC me (eV ι ρ) xs)
  |_=>.bad):=rfl
@[simp] theorem Fb(i:Nat)(g:PV->PV->Option RV)(me:af->OE)(ρ:af):u9 i g me ρ=(match ρ[i]? with
  | some (some (.sh x))=>(me ρ).bp ρ fun r=>match g x r.pv with
    |some (.sh z)=>.nx (ρ.set i (some (.sh z)))
    |_=>.bad
  |_=>.bad):=rfl
@[simp] theorem FO(x:PV)(ρ:af):mC x ρ=.ok (.sh x):=rfl
@[simp] theorem Bl(ρ:af):az ρ=.ok []:=rfl
@[simp] theorem CO(r:RV)(f:RV->OE):OE.bind (.ok r) f=f r:=rfl
@[simp] theorem A4(c:String)(fs:XF)(f:RV->OE):OE.bind (.exc c fs) f=.exc c fs:=rfl
@[simp] theorem BX{p:Prop}[Decidable p](x y:OE)(f:RV->OE):OE.bind (if p then x else y) f=if p then OE.bind x f else OE.bind y f:=by split<;>rfl
@[simp] theorem Bx(r:RV)(f:RV->OT):OE.cB (.ok r) f=f r:=rfl
@[simp] theorem Ap(c:String)(fs:XF)(f:RV->OT):OE.cB (.exc c fs) f=.exc c fs:=rfl
@[simp] theorem zG{p:Prop}[Decidable p](x y:OE)(f:RV->OT):OE.cB (if p then x else y) f=if p then OE.cB x f else OE.cB y f:=by split<;>rfl
@[simp] theorem BK(r:RV)(f:RV->OA):OE.cD (.ok r) f=f r:=rfl
@[simp] theorem zH(c:String)(fs:XF)(f:RV->OA):OE.cD (.exc c fs) f=.exc c fs:=rfl
@[simp] theorem zy{p:Prop}[Decidable p](x y:OE)(f:RV->OA):OE.cD (if p then x else y) f=if p then OE.cD x f else OE.cD y f:=by split<;>rfl
@[simp] theorem CN(r:Bool)(f:Bool->OE):OT.bind (.ok r) f=f r:=rfl
@[simp] theorem B7(c:String)(fs:XF)(f:Bool->OE):OT.bind (.exc c fs) f=.exc c fs:=rfl
@[simp] theorem BU{p:Prop}[Decidable p](x y:OT)(f:Bool->OE):OT.bind (if p then x else y) f=if p then OT.bind x f else OT.bind y f:=by split<;>rfl
@[simp] theorem Bi(r:Bool)(f:Bool->OT):OT.cB (.ok r) f=f r:=rfl
@[simp] theorem zw(c:String)(fs:XF)(f:Bool->OT):OT.cB (.exc c fs) f=.exc c fs:=rfl
@[simp] theorem zS{p:Prop}[Decidable p](x y:OT)(f:Bool->OT):OT.cB (if p then x else y) f=if p then OT.cB x f else OT.cB y f:=by split<;>rfl
@[simp] theorem CQ(r:List PV)(f:List PV->OE):OA.bind (.ok r) f=f r:=rfl
@[simp] theorem Bu(c:String)(fs:XF)(f:List PV->OE):OA.bind (.exc c fs) f=.exc c fs:=rfl
@[simp] theorem Ci{p:Prop}[Decidable p](x y:OA)(f:List PV->OE):OA.bind (if p then x else y) f=if p then OA.bind x f else OA.bind y f:=by split<;>rfl
@[simp] theorem A0(r:List PV)(f:List PV->OA):OA.cD (.ok r) f=f r:=rfl
@[simp] theorem zN(c:String)(fs:XF)(f:List PV->OA):OA.cD (.exc c fs) f=.exc c fs:=rfl
@[simp] theorem Ad{p:Prop}[Decidable p](x y:OA)(f:List PV->OA):OA.cD (if p then x else y) f=if p then OA.cD x f else OA.cD y f:=by split<;>rfl
@[simp] theorem nT(ρ:af)(r:RV)(f:RV->OS):OE.bp ρ (.ok r) f=f r:=rfl
@[simp] theorem zX(ρ:af)(c:String)(fs:XF)(f:RV->OS):OE.bp ρ (.exc c fs) f=.exc ρ c fs:=rfl
@[simp] theorem Ai{p:Prop}[Decidable p](ρ:af)(x y:OE)(f:RV->OS):OE.bp ρ (if p then x else y) f=if p then OE.bp ρ x f else OE.bp ρ y f:=by split<;>rfl
@[simp] theorem B6(ρ:af)(r:Bool)(f:Bool->OS):OT.bp ρ (.ok r) f=f r:=rfl
@[simp] theorem zF(ρ:af)(c:String)(fs:XF)(f:Bool->OS):OT.bp ρ (.exc c fs) f=.exc ρ c fs:=rfl
@[simp] theorem Aa{p:Prop}[Decidable p](ρ:af)(x y:OT)(f:Bool->OS):OT.bp ρ (if p then x else y) f=if p then OT.bp ρ x f else OT.bp ρ y f:=by split<;>rfl
@[simp] theorem AW(ρ:af)(r:List PV)(f:List PV->OS):OA.bp ρ (.ok r) f=f r:=rfl
@[simp] theorem zW(ρ:af)(c:String)(fs:XF)(f:List PV->OS):OA.bp ρ (.exc c fs) f=.exc ρ c fs:=rfl
@[simp] theorem Ak{p:Prop}[Decidable p](ρ:af)(x y:OA)(f:List PV->OS):OA.bp ρ (if p then x else y) f=if p then OA.bp ρ x f else OA.bp ρ y f:=by split<;>rfl
@[simp] theorem si(ρ:af)(k:af->OS):(OS.nx ρ).andThen k=k ρ:=rfl
@[simp] theorem pA(ρ:af)(k:af->OS):(OS.nx ρ).turn k=k ρ:=rfl
@[simp] theorem Bo(ρ:af)(k:af->OS):(OS.bk ρ).andThen k=OS.bk ρ:=rfl
@[simp] theorem DN(ρ:af)(k:af->OS):(OS.bk ρ).turn k=.nx ρ:=rfl
@[simp] theorem AZ(ρ:af)(k:af->OS):(OS.ct ρ).andThen k=OS.ct ρ:=rfl
@[simp] theorem DV(ρ:af)(k:af->OS):(OS.ct ρ).turn k=k ρ:=rfl
@[simp] theorem BZ(ρ:af)(r:RV)(k:af->OS):(OS.rt ρ r).andThen k=OS.rt ρ r:=rfl
@[simp] theorem D9(ρ:af)(r:RV)(k:af->OS):(OS.rt ρ r).turn k=OS.rt ρ r:=rfl
@[simp] theorem Am(ρ:af)(c:String)(fs:XF)(k:af->OS):(OS.exc ρ c fs).andThen k=OS.exc ρ c fs:=rfl
@[simp] theorem Dw(ρ:af)(c:String)(fs:XF)(k:af->OS):(OS.exc ρ c fs).turn k=OS.exc ρ c fs:=rfl
@[simp] theorem zZ{p:Prop}[Decidable p](x y:OS)(k:af->OS):OS.andThen (if p then x else y) k=if p then x.andThen k else y.andThen k:=by split<;>rfl
@[simp] theorem C2{p:Prop}[Decidable p](x y:OS)(k:af->OS):OS.turn (if p then x else y) k=if p then x.turn k else y.turn k:=by split<;>rfl
@[simp] theorem Ey(ρ:af):fin (.nx ρ)=.ok (.sh .non):=rfl
@[simp] theorem Fh(ρ:af)(x:PV):fin (.rt ρ (.sh x))=.ok (.sh x):=rfl
@[simp] theorem E2(ρ:af)(x:List PV):fin (.rt ρ (.fr x))=.ok (.fr x):=rfl
@[simp] theorem D5(ρ:af)(c:String)(fs:XF):fin (.exc ρ c fs)=.exc c fs:=rfl
@[simp] theorem DP{p:Prop}[Decidable p](x y:OS):fin (if p then x else y)=if p then fin x else fin y:=by split<;>rfl
@[simp] theorem FG(x:PV):RV.pv (.sh x)=x:=rfl
@[simp] theorem FH(x:List PV):RV.pv (.fr x)=.lst x:=rfl
@[simp] theorem Fy(x:List PV):RV.pv (.al x)=.lst x:=rfl
@[simp] theorem Ei(r:RV):oE (some r)=.ok r:=rfl
@[simp] theorem DR(r:Bool):oT (some r)=.ok r:=rfl
@[simp] theorem CT(i:Nat)(mb:af->OS)(ρ:af):fM i mb [] ρ=.nx ρ:=rfl
@[simp] theorem mW(i:Nat)(mb:af->OS)(x:PV)(xs:List PV)(ρ:af):fM i mb (x ::xs) ρ=(mb (ρ.set i (some (.sh x)))).turn (fM i mb xs):=rfl
@[simp] theorem EX(i j:Int):gE (.int i) (.int j)=some (.sh (.int (i+j))):=rfl
@[simp] theorem E8(i j:Int):zc (.int i) (.int j)=some (.sh (.int (i - j))):=rfl
@[simp] theorem El(i j:Int):vG (.int i) (.int j)=if((decide (-(2 ^ 64)<i)&&decide (i<2 ^ 64))||(decide (-(2 ^ 64)<j)&&decide (j<2 ^ 64)))=true then some (.sh (.int (i*j)))else none:=rfl
@[simp] theorem Ek(i j:Int):hU (.int i) (.int j)=if(decide (0<j)&&decide (j<1073741824))=true then some (.sh (.int (i/j)))else none:=rfl
@[simp] theorem EI(i j:Int):cF (.int i) (.int j)=if decide (0<j)=true then some (.sh (.int (i%j)))else none:=rfl
@[simp] theorem Fq(i j:Int):gLt (.int i) (.int j)=some (.sh (.bl (decide (i<j)))):=rfl
@[simp] theorem FI(i j:Int):gGt (.int i) (.int j)=some (.sh (.bl (decide (j<i)))):=rfl
@[simp] theorem Fx(i j:Int):gEq (.int i) (.int j)=some (.sh (.bl (decide (i=j)))):=rfl
@[simp] theorem Fu(i j:Bool):gEq (.bl i) (.bl j)=some (.sh (.bl (decide (i=j)))):=rfl
@[simp] theorem EH(xs:List PV):kF (.lst xs)=some (.sh (.int xs.length)):=rfl
@[simp] theorem E7(xs:List PV):kF (.tup xs)=some (.sh (.int xs.length)):=rfl
@[simp] theorem Ew(xs:List PV)(i:Int):jw (.lst xs) (.int i)=(atP xs i).map .sh:=rfl
@[simp] theorem Eo(xs:List PV)(i:Int):bc (.tup xs) (.int i)=(atP xs i).map .sh:=rfl
@[simp] theorem Er{p:Prop}[Decidable p](x y:Option RV):oE (if p then x else y)=if p then oE x else oE y:=by split<;>rfl
@[simp] theorem ES(b:Bool):pD (.bl b)=some b:=rfl
@[simp] theorem EU(i:Int):pD (.int i)=some (i != 0):=rfl
@[simp] theorem EO(xs:List PV):pD (.lst xs)=some (!xs.isEmpty):=rfl
@[simp] theorem Fg(xs:List PV):pD (.tup xs)=some (!xs.isEmpty):=rfl
@[simp] theorem EA:pD .non=some false:=rfl
@[simp] theorem CV(i:Int):isP "int" (.int i)=some true:=rfl
@[simp] theorem AQ(i:Int):isP "bool" (.int i)=some false:=rfl
@[simp] theorem BB(i:Bool):isP "bool" (.bl i)=some true:=rfl
@[simp] theorem Bw(xs:List PV):isP "list" (.lst xs)=some true:=rfl
@[simp] theorem CW(xs:List PV):ke (.lst xs)=some (.fr xs):=rfl
@[simp] theorem CS(xs:List PV):ke (.tup xs)=some (.fr xs):=rfl
@[simp] theorem DQ:iM .non=none:=rfl
@[simp] theorem Eg(i:Int):iM (.int i)=some i:=rfl
@[simp] theorem EV(i:Int):jO (.int i)=some (.sh (.int (-i))):=rfl
@[simp] theorem Ed(x:PV):kC (.sh x)=some x:=rfl
@[simp] theorem D2(x:List PV):kC (.fr x)=some (.lst x):=rfl
@[simp] theorem DY(x:PV):wK (.sh x)=some (.sh x):=rfl
@[simp] theorem D7(x:List PV):wK (.fr x)=some (.ow x):=rfl
@[simp] theorem Ft(np n:Nat)(m:af->OS)(xs:List PV):fnP np n m xs=if xs.length=np then fin (m (jg n xs))else .bad:=rfl
@[simp] theorem DG(n:Nat)(xs:List PV):jg n xs=xs.map (fun x=>some (.sh x))++List.replicate (n - xs.length) none:=rfl
@[simp] theorem E6(x:PV):yr x .non=some (.sh (.bl (jU x))):=rfl
@[simp] theorem Ej(xs:List PV):noX (.ok xs)=if xs.length<=lim then .ok (.fr xs)else .bad:=rfl
@[simp] theorem Ca(me:af->OE)(ρ:af):bC me ρ []=.ok []:=rfl
@[simp] theorem Bm(f:RV->OE):OE.bind .bad f=.bad:=rfl
@[simp] theorem zx(f:RV->OT):OE.cB .bad f=.bad:=rfl
@[simp] theorem zu(f:RV->OA):OE.cD .bad f=.bad:=rfl
@[simp] theorem B3(f:Bool->OE):OT.bind .bad f=.bad:=rfl
@[simp] theorem zz(f:Bool->OT):OT.cB .bad f=.bad:=rfl
@[simp] theorem A3(f:List PV->OE):OA.bind .bad f=.bad:=rfl
@[simp] theorem Ac(f:List PV->OA):OA.cD .bad f=.bad:=rfl
@[simp] theorem Al(ρ:af)(f:RV->OS):OE.bp ρ .bad f=.bad:=rfl
@[simp] theorem zU(ρ:af)(f:Bool->OS):OT.bp ρ .bad f=.bad:=rfl
@[simp] theorem zJ(ρ:af)(f:List PV->OS):OA.bp ρ .bad f=.bad:=rfl
@[simp] theorem Aq(k:af->OS):OS.bad.andThen k=.bad:=rfl
@[simp] theorem De(k:af->OS):OS.bad.turn k=.bad:=rfl
@[simp] theorem D6:fin .bad=.bad:=rfl
@[simp] theorem D1:oE none=.bad:=rfl
@[simp] theorem Eb:oT none=.bad:=rfl
@[simp] theorem DX(x:List PV):kC (.al x)=none:=rfl
@[simp] theorem D8(x:List PV):wK (.al x)=none:=rfl
@[simp] theorem Fw:(0<=lim)=True:=by simp[lim]
@[simp] theorem FF:(1<=lim)=True:=by simp[lim]
@[simp] theorem Fv:(2<=lim)=True:=by simp[lim]
@[simp] theorem FK:(3<=lim)=True:=by simp[lim]
@[simp] theorem FC:(4<=lim)=True:=by simp[lim]
@[simp] theorem Fp:(5<=lim)=True:=by simp[lim]
@[simp] theorem Fm:(6<=lim)=True:=by simp[lim]
@[simp] theorem FJ:(7<=lim)=True:=by simp[lim]
@[simp] theorem Fz:(8<=lim)=True:=by simp[lim]
@[simp] theorem FN:(9<=lim)=True:=by simp[lim]
@[simp] theorem EY:(10<=lim)=True:=by simp[lim]
@[simp] theorem Ex:(11<=lim)=True:=by simp[lim]
@[simp] theorem Fi:(12<=lim)=True:=by simp[lim]
@[simp] theorem Ep:(13<=lim)=True:=by simp[lim]
@[simp] theorem Ez:(14<=lim)=True:=by simp[lim]
@[simp] theorem ED:(15<=lim)=True:=by simp[lim]
@[simp] theorem Es:(16<=lim)=True:=by simp[lim]
theorem sL{n:Nat}(h:n<=1000000):n<lim:=by unfold lim;omega
theorem mz{α:Type}(xs:List α)(k:Nat):atP xs (k:Int)=xs[k]?:=by
 unfold atP ixP
 by_cases h:k<xs.length
 . simp[h]
 . simp[h]
@[simp] theorem FE{α:Type}(xs:List α):atP xs 0=xs[0]?:=mz xs 0
@[simp] theorem FD{α:Type}(xs:List α):atP xs 1=xs[1]?:=mz xs 1
@[simp] theorem Ea{α:Type}(xs:List α)(n:Nat):atP xs (no_index (OfNat.ofNat n:Int))=xs[n]?:=mz xs n
theorem sG{α:Type}(xs:List α)(i:Int)(h:0<=i):atP xs i=xs[i.toNat]?:=by
 have:=mz xs i.toNat
 rwa [Int.toNat_of_nonneg h]at this
@[simp] theorem Fo(T:String)(ma:af->OE)(ρ:af):mIs T ma ρ=(ma ρ).bind fun a=>oE ((isP T a.pv).map fun b=>.sh (.bl b)):=rfl
@[simp] theorem jR(ns:List Int):kU (ns.map .int)=some ns:=by
  induction ns with
  |nil=>rfl
  |cons n ns ih=>show(kU (ns.map .int)).map (n ::·)=_;rw[ih];rfl
@[simp] theorem lR(ns:List Bool):gn (ns.map .bl)=some ns:=by
  induction ns with
  |nil=>rfl
  |cons n ns ih=>show(gn (ns.map .bl)).map (n ::·)=_;rw[ih];rfl
@[simp] theorem Be(n:Nat):(de n).length=n:=by simp[de]
noncomputable def lZ(b:Bool):PV->Bool
 |.bl c=>decide (c=b)
 |_=>false
noncomputable def sC:PV->PV->Option RV
 |x,.bl b=>some (.sh (.bl (lZ b x)))
 |_,_=>none
noncomputable def gm:PV->PV->Option RV
 |x,.bl b=>some (.sh (.bl (!lZ b x)))
 |_,_=>none
@[simp] theorem EL(x:PV)(b:Bool):sC x (.bl b)=some (.sh (.bl (lZ b x))):=rfl
@[simp] theorem CM(x:PV)(b:Bool):gm x (.bl b)=some (.sh (.bl (!lZ b x))):=rfl
@[simp] theorem EZ(b c:Bool):lZ b (.bl c)=decide (c=b):=rfl
end L2.P
namespace L2.P
open PySem PySem.Spec PyProof.Rows L2 L2.E
mutual
noncomputable def Rep(K:PySem.W.Frag)(S:Hp):PV->V->Prop
 |.non,v=>v=.non
 |.bl b,v=>v=.bl b
 |.int i,v=>v=.int i
 |.str s,v=>v=.str s
 |.lst xs,v=>∃ p vs,v=.ref p /\ SqL K S p vs /\ aV K S xs vs
 |.tup xs,v=>∃ p vs,v=.ref p /\ SqT K S p vs /\ aV K S xs vs
noncomputable def aV(K:PySem.W.Frag)(S:Hp):List PV->List V->Prop
 |[],vs=>vs=[]
 |x ::xs,vs=>∃ v r,vs=v ::r /\ Rep K S x v /\ aV K S xs r
end
theorem _root_.L2.ay.tup{K:PySem.W.Frag}(e:ay H H')(h:SqT K H a xs):SqT K H' a xs:=by
 rcases h with(h|⟨o,h⟩)|h
 . exact .inl (.inl (e _ _ h))
 . exact .inl (.inr ⟨o,e _ _ h⟩)
 . exact .inr h
section
variable{K:PySem.W.Frag}{S S':Hp}
mutual
theorem Rep.mono(s:ay S S'):∀{x:PV} {v:V},Rep K S x v->Rep K S' x v
 |.non,_,h=>by unfold Rep at h ⊢;exact h
 |.bl _,_,h=>by unfold Rep at h ⊢;exact h
 |.int _,_,h=>by unfold Rep at h ⊢;exact h
 |.str _,_,h=>by unfold Rep at h ⊢;exact h
 | .lst _,_,h=>by
   unfold Rep at h ⊢
   obtain⟨p,vs,e,q,r⟩:=h
   exact⟨p,vs,e,ay.seq s q,aV.mono s r⟩
 | .tup _,_,h=>by
   unfold Rep at h ⊢
   obtain⟨p,vs,e,q,r⟩:=h
   exact⟨p,vs,e,ay.tup s q,aV.mono s r⟩
theorem aV.mono(s:ay S S'):∀{xs:List PV} {vs:List V},aV K S xs vs->aV K S' xs vs
 |[],_,h=>by unfold aV at h ⊢;exact h
 | _ ::_,_,h=>by
   unfold aV at h ⊢
   obtain⟨v,r,e,q,t⟩:=h
   exact⟨v,r,e,Rep.mono s q,aV.mono s t⟩
end
theorem aV.nil:aV K S [] []:=by unfold aV;rfl
theorem aV.cons(h:Rep K S x v)(t:aV K S xs vs):aV K S (x ::xs) (v ::vs):=by unfold aV;exact⟨v,vs,rfl,h,t⟩
theorem aV.nil_inv(h:aV K S [] vs):vs=[]:=by unfold aV at h;exact h
theorem aV.cons_inv(h:aV K S (x ::xs) vs):∃ v r,vs=v ::r /\ Rep K S x v /\ aV K S xs r:=by unfold aV at h;exact h
theorem aV.append(h:aV K S xs vs)(t:aV K S ys us):aV K S (xs++ys) (vs++us):=by
 induction xs generalizing vs with
 |nil=>rw[h.nil_inv];exact t
 | cons x xs ih=>
   obtain⟨v,r,rfl,q,h'⟩:=h.cons_inv;exact .cons q (ih h')
theorem aV.length{xs:List PV}{vs:List V}(h:aV K S xs vs):vs.length=xs.length:=by
 induction xs generalizing vs with
 |nil=>rw[h.nil_inv];rfl
 | cons x xs ih=>
   obtain⟨v,r,rfl,q,h'⟩:=h.cons_inv;simp[ih h']
theorem aV.get(h:aV K S xs vs):∀{i:Nat} {x:PV},xs[i]?=some x->∃ v,vs[i]?=some v /\ Rep K S x v:=by
 induction xs generalizing vs with
 |nil=>intro i x e;simp at e
 | cons y xs ih=>
   obtain⟨v,r,rfl,q,h'⟩:=h.cons_inv;intro i x e
   cases i with
   |zero=>simp at e;subst e;exact⟨v,rfl,q⟩
   |succ i=>simp at e;obtain⟨u,e1,e2⟩:=ih h' e;exact⟨u,by simpa using e1,e2⟩
theorem aV.take{xs:List PV}{vs:List V}(h:aV K S xs vs):∀ n,aV K S (xs.take n) (vs.take n):=by
 induction xs generalizing vs with
 |nil=>intro n;rw[h.nil_inv];simpa using aV.nil
 | cons y xs ih=>
   obtain⟨v,r,rfl,q,h'⟩:=h.cons_inv;intro n
   cases n with
   |zero=>exact .nil
   |succ n=>exact .cons q (ih h' n)
theorem aV.drop{xs:List PV}{vs:List V}(h:aV K S xs vs):∀ n,aV K S (xs.drop n) (vs.drop n):=by
 induction xs generalizing vs with
 |nil=>intro n;rw[h.nil_inv];simpa using aV.nil
 | cons y xs ih=>
   obtain⟨v,r,rfl,q,h'⟩:=h.cons_inv;intro n
   cases n with
   |zero=>exact .cons q h'
   |succ n=>exact ih h' n
theorem aV.ints{ns:List Int}:aV K S (ns.map .int) (ns.map V.int):=by
 induction ns with
 |nil=>exact .nil
 |cons n ns ih=>exact .cons (by unfold Rep;rfl) ih
end
noncomputable def iD(K:PySem.W.Frag)(cls:String->Option Addr)(S H:Hp)(c:String)(fs:XF)(a C:Addr):Prop:=
 cls c=some C /\ ∃ dx,H a=some (tT a C dx) /\ (fs=[] \/ ∃ d us,dx=some d /\ H d=some (.xd us) /\ fs.map (·.1)=us.map (·.1) /\ aV K S (fs.map (·.2)) (us.map (·.2)))
noncomputable def isX:HO->Bool
 |.ext _=>true
 |.xd _=>true
 |_=>false
noncomputable def xt(K:PySem.W.Frag)(S:Hp)(kvs:List (Int×PV))(us:List (Key×V)):Prop:=Paired (fun (p:Int×PV) (q:Key×V)=>q.1=Sum.inl p.1 /\ Rep K S p.2 q.2) kvs us
noncomputable def cZ(K:PySem.W.Frag)(S:Hp)(kvs:List (List Int×PV))(us:List (List Key×Addr×V)):Prop:=Paired (fun (p:List Int×PV) (q:List Key×Addr×V)=>q.1=p.1.map Sum.inl /\ Rep K S (.tup (p.1.map .int)) (.ref q.2.1) /\ Rep K S p.2 q.2.2) kvs us
theorem xt.mono{K:PySem.W.Frag}(s:ay S S'):∀{kvs:List (Int×PV)} {us:List (Key×V)},xt K S kvs us->xt K S' kvs us
 |_,_,.nil=>.nil
 |_,_,.cons h t=>.cons ⟨h.1,Rep.mono s h.2⟩ (xt.mono s t)
theorem cZ.mono{K:PySem.W.Frag}(s:ay S S'):∀{kvs:List (List Int×PV)} {us:List (List Key×Addr×V)},cZ K S kvs us->cZ K S' kvs us
 |_,_,.nil=>.nil
 |_,_,.cons h t=>.cons ⟨h.1,Rep.mono s h.2.1,Rep.mono s h.2.2⟩ (cZ.mono s t)
mutual
noncomputable def aX(K:PySem.W.Frag)(cls:String->Option Addr)(S H:Hp):OV->V->List Addr->Prop
 |.sh x,v,fp=>fp=[] /\ Rep K S x v
 |.ol ts,v,fp=>∃ p vs f,v=.ref p /\ H p=some (.lst vs) /\ fp=p ::f /\ aS K cls S H ts vs f
 |.ob c ks ts,v,fp=>∃ p C dx us f,v=.ref p /\ cls c=some C /\ H p=some (.ins C dx us) /\ H dx=some (.own p) /\ us.map (·.1)=ks /\ fp=p ::dx ::f /\ aS K cls S H ts (us.map (·.2)) f
 |.di kvs,v,fp=>∃ p us,v=.ref p /\ H p=some (.dK us) /\ fp=[p] /\ xt K S kvs us
 |.dt kvs,v,fp=>∃ p us,v=.ref p /\ H p=some (.dT us) /\ fp=[p] /\ cZ K S kvs us
noncomputable def aS(K:PySem.W.Frag)(cls:String->Option Addr)(S H:Hp):List OV->List V->List Addr->Prop
 |[],vs,fp=>vs=[] /\ fp=[]
 |t ::ts,vs,fp=>∃ v r f1 f2,vs=v ::r /\ fp=f1++f2 /\ aX K cls S H t v f1 /\ aS K cls S H ts r f2
end
noncomputable def lX(K:PySem.W.Frag)(cls:String->Option Addr)(Av G S H:Hp)(i:Nat):Sl->V->List Addr->Prop
 |.sh x,v,fp=>fp=[] /\ Rep K S x v
 |.ow xs,v,fp=>∃ p vs,v=.ref p /\ fp=[p] /\ G p=none /\ S p=none /\ H p=some (.lst vs) /\ aV K S xs vs
 |.ex c fs,v,fp=>fp=[] /\ ∃ a C,v=.ref a /\ iD K cls S H c fs a C
 |.tr io t,v,fp=>aX K cls S H t v fp /\ fp.Nodup /\ (∀ a∈fp,G a=none /\ S a=none) /\ (io=true->Av i=some (.lst [v]))
 |.bo t,v,fp=>fp=[] /\ ∃ f,aX K cls S G t v f
noncomputable def Ah(K:PySem.W.Frag)(cls:String->Option Addr)(G S H:Hp):Sl->V->Prop
 |.sh x,v=>Rep K S x v
 |.ow xs,v=>∃ p vs,v=.ref p /\ G p=none /\ S p=none /\ H p=some (.lst vs) /\ aV K S xs vs
 |.ex c fs,v=>∃ a C,v=.ref a /\ iD K cls S H c fs a C
 |_,_=>True
noncomputable def gN(K:PySem.W.Frag)(B S H:Hp):RV->V->Prop
 |.sh x,v=>Rep K S x v
 |.fr xs,v=>∃ p vs,v=.ref p /\ B p=none /\ S p=none /\ H p=some (.lst vs) /\ aV K S xs vs
 |.al xs,v=>∃ p vs,v=.ref p /\ SqL K H p vs /\ aV K S xs vs
noncomputable def RdV(K:PySem.W.Frag)(S H:Hp):PV->V->Prop
 |.lst xs,v=>∃ p vs,v=.ref p /\ SqL K H p vs /\ aV K S xs vs
 |x,v=>Rep K S x v
structure SRF(K:PySem.W.Frag)(cls:String->Option Addr)(Av G S₀:Hp)(ρ:af)(σ:St)(S H:Hp)(F:Nat->List Addr):Prop where
 gh:ay G H
 s0:ay S₀ S
 sh:ay S H
 new:∀ b,S b≠none->S₀ b≠none \/ G b=none
 own:∀(i:Nat) (s:Sl),ρ[i]?=some (some s)->∃ v,σ[i]?=some (some v) /\ lX K cls Av G S H i s v (F i)
 apart:∀ i j a,a∈F i->a∈F j->i=j
 live:∀ i a,a∈F i->(∃ o,H a=some o /\ isX o=false) /\ G a=none /\ S a=none
 len:ρ.length=σ.length
noncomputable def SR(K:PySem.W.Frag)(cls:String->Option Addr)(Av G S₀:Hp)(ρ:af)(σ:St)(S H:Hp):Prop:=∃ F,SRF K cls Av G S₀ ρ σ S H F
section
variable{K:PySem.W.Frag}{cls:String->Option Addr}{Av G S₀ S S' H H' B:Hp}{ρ:af}{σ:St}{F:Nat->List Addr}
theorem SR.gh(I:SR K cls Av G S₀ ρ σ S H):ay G H:=let ⟨_,J⟩:=I;J.gh
theorem SR.s0(I:SR K cls Av G S₀ ρ σ S H):ay S₀ S:=let ⟨_,J⟩:=I;J.s0
theorem SR.sh(I:SR K cls Av G S₀ ρ σ S H):ay S H:=let ⟨_,J⟩:=I;J.sh
theorem SR.new(I:SR K cls Av G S₀ ρ σ S H):∀ b,S b≠none->S₀ b≠none \/ G b=none:=let ⟨_,J⟩:=I;J.new
theorem SR.len(I:SR K cls Av G S₀ ρ σ S H):ρ.length=σ.length:=let ⟨_,J⟩:=I;J.len
theorem lX.one(h:lX K cls Av G S H i s v fp):Ah K cls G S H s v:=by
 cases s with
 |sh x=>exact h.2
 |ow xs=>obtain⟨p,vs,e,_,r⟩:=h;exact⟨p,vs,e,r⟩
 |ex c fs=>exact h.2
 |tr io t=>trivial
 |bo t=>trivial
theorem SR.good(I:SR K cls Av G S₀ ρ σ S H)(i:Nat)(s:Sl)(e:ρ[i]?=some (some s)):∃ v,σ[i]?=some (some v) /\ Ah K cls G S H s v:=by
 obtain⟨F,J⟩:=I;obtain⟨v,e1,r⟩:=J.own i s e
 exact⟨v,e1,r.one⟩
theorem iD.mono(h:iD K cls S H c fs a C)(s:ay S S')(g:ay H H'):iD K cls S' H' c fs a C:=by
 obtain⟨h1,dx,h2,h3⟩:=h
 refine⟨h1,dx,g _ _ h2,?_⟩
 rcases h3 with h3|⟨d,us,e1,e2,e3,e4⟩
 . exact .inl h3
 . exact .inr ⟨d,us,e1,g _ _ e2,e3,e4.mono s⟩
theorem iD.Dy(h:iD K cls S H c fs a C)(s:ay S S')(g:∀ b o,isX o=true->H b=some o->H' b=some o):iD K cls S' H' c fs a C:=by
 obtain⟨h1,dx,h2,h3⟩:=h
 refine⟨h1,dx,g _ _ rfl h2,?_⟩
 rcases h3 with h3|⟨d,us,e1,e2,e3,e4⟩
 . exact .inl h3
 . exact .inr ⟨d,us,e1,g _ _ rfl e2,e3,e4.mono s⟩
mutual
theorem aX.mono(s:ay S S'):∀{t:OV} {v:V} {fp:List Addr},aX K cls S H t v fp->(∀ a∈fp,∀ o,H a=some o->H' a=some o)->aX K cls S' H' t v fp
 |.sh _,_,_,h,_=>by unfold aX at h ⊢;exact⟨h.1,Rep.mono s h.2⟩
 | .ol _,_,_,h,g=>by
   unfold aX at h ⊢
   obtain⟨p,vs,f,e,q,e2,r⟩:=h;subst e2
   exact⟨p,vs,f,e,g p (by simp) _ q,rfl,aS.mono s r fun a ha=>g a (by simp[ha])⟩
 | .ob _ _ _,_,_,h,g=>by
   unfold aX at h ⊢
   obtain⟨p,C,dx,us,f,e,c,q,q2,k,e2,r⟩:=h;subst e2
   exact⟨p,C,dx,us,f,e,c,g p (by simp) _ q,g dx (by simp) _ q2,k,rfl,aS.mono s r fun a ha=>g a (by simp[ha])⟩
 | .di _,_,_,h,g=>by
   unfold aX at h ⊢
   obtain⟨p,us,e,q,e2,r⟩:=h;subst e2
   exact⟨p,us,e,g p (by simp) _ q,rfl,r.mono s⟩
 | .dt _,_,_,h,g=>by
   unfold aX at h ⊢
   obtain⟨p,us,e,q,e2,r⟩:=h;subst e2
   exact⟨p,us,e,g p (by simp) _ q,rfl,r.mono s⟩
theorem aS.mono(s:ay S S'):∀{ts:List OV} {vs:List V} {fp:List Addr},aS K cls S H ts vs fp->(∀ a∈fp,∀ o,H a=some o->H' a=some o)->aS K cls S' H' ts vs fp
 |[],_,_,h,_=>by unfold aS at h ⊢;exact h
 | _ ::_,_,_,h,g=>by
   unfold aS at h ⊢
   obtain⟨v,r,f1,f2,e,e2,q,t⟩:=h;subst e2
   exact⟨v,r,f1,f2,e,rfl,aX.mono s q fun a ha=>g a (List.mem_append_left _ ha),aS.mono s t fun a ha=>g a (List.mem_append_right _ ha)⟩
end
mutual
theorem aX.live:∀{t:OV} {v:V} {fp:List Addr},aX K cls S H t v fp->∀ a∈fp,∃ o,H a=some o /\ isX o=false
 |.sh _,_,_,h,a,ha=>by unfold aX at h;rw[h.1]at ha;cases ha
 | .ol _,_,_,h,a,ha=>by
   unfold aX at h;obtain⟨p,vs,f,e,q,e2,r⟩:=h;subst e2
   rcases List.mem_cons.mp ha with z|z
   . subst z;exact⟨_,q,rfl⟩
   . exact aS.live r a z
 | .ob _ _ _,_,_,h,a,ha=>by
   unfold aX at h;obtain⟨p,C,dx,us,f,e,c,q,q2,k,e2,r⟩:=h;subst e2
   rcases List.mem_cons.mp ha with z|z
   . subst z;exact⟨_,q,rfl⟩
   . rcases List.mem_cons.mp z with z|z
     . subst z;exact⟨_,q2,rfl⟩
     . exact aS.live r a z
 | .di _,_,_,h,a,ha=>by
   unfold aX at h;obtain⟨p,us,e,q,e2,r⟩:=h;subst e2
   have z:a=p:=by simpa using ha
   subst z
   exact⟨_,q,rfl⟩
 | .dt _,_,_,h,a,ha=>by
   unfold aX at h;obtain⟨p,us,e,q,e2,r⟩:=h;subst e2
   have z:a=p:=by simpa using ha
   subst z
   exact⟨_,q,rfl⟩
theorem aS.live:∀{ts:List OV} {vs:List V} {fp:List Addr},aS K cls S H ts vs fp->∀ a∈fp,∃ o,H a=some o /\ isX o=false
 |[],_,_,h,a,ha=>by unfold aS at h;rw[h.2]at ha;cases ha
 | _ ::_,_,_,h,a,ha=>by
   unfold aS at h;obtain⟨v,r,f1,f2,e,e2,q,t⟩:=h;subst e2
   rcases List.mem_append.mp ha with z|z
   . exact aX.live q a z
   . exact aS.live t a z
end
theorem lX.mono(h:lX K cls Av G S H i sl v fp)(s:ay S S')(g:∀ a∈fp,∀ o,H a=some o->H' a=some o)(x:∀ b o,isX o=true->H b=some o->H' b=some o)(n:∀ a∈fp,S' a=none):lX K cls Av G S' H' i sl v fp:=by
 cases sl with
 |sh y=>exact⟨h.1,Rep.mono s h.2⟩
 | ow xs=>
   obtain⟨p,vs,e,e2,h1,h2,h3,h4⟩:=h;subst e2
   exact⟨p,vs,e,rfl,h1,n p (by simp),g p (by simp) _ h3,h4.mono s⟩
 |ex c fs=>obtain⟨e,a,C,e2,q⟩:=h;exact⟨e,a,C,e2,q.Dy s x⟩
 |tr io t=>exact⟨h.1.mono s g,h.2.1,fun a ha=>⟨(h.2.2.1 a ha).1,n a ha⟩,h.2.2.2⟩
 |bo t=>obtain⟨e,f,r⟩:=h;exact⟨e,f,r.mono s fun _ _ _ z=>z⟩
theorem RdV.mono(h:RdV K S H x v)(s:ay S S')(g:ay H H'):RdV K S' H' x v:=by
 cases x with
 |lst xs=>obtain⟨p,vs,e,q,r⟩:=h;exact⟨p,vs,e,ay.seq g q,r.mono s⟩
 |non=>exact Rep.mono s h
 |bl b=>exact Rep.mono s h
 |int i=>exact Rep.mono s h
 |str x=>exact Rep.mono s h
 |tup xs=>exact Rep.mono s h
theorem Rep.rd(h:Rep K S x v)(g:ay S H):RdV K S H x v:=by
 cases x with
 |lst xs=>unfold Rep at h;obtain⟨p,vs,e,q,r⟩:=h;exact⟨p,vs,e,ay.seq g q,r⟩
 |non=>exact h
 |bl b=>exact h
 |int i=>exact h
 |str x=>exact h
 |tup xs=>exact h
theorem gN.rd{r:RV}(h:gN K B S H r v)(g:ay S H):RdV K S H r.pv v:=by
 cases r with
 |sh x=>exact Rep.rd h g
 |fr xs=>obtain⟨p,vs,e,_,_,q,r⟩:=h;exact⟨p,vs,e,SqL.new q,r⟩
 |al xs=>exact h
theorem SRF.change(I:SRF K cls Av G S₀ ρ σ S H F)(gh:ay G H')(s:ay S S')(sh:ay S' H')(new:∀ b,S' b≠none->S₀ b≠none \/ G b=none)
  (g:∀ i a,a∈F i->∀ o,H a=some o->H' a=some o) (x:∀ b o,isX o=true->H b=some o->H' b=some o) (n:∀ i a,a∈F i->S' a=none):SRF K cls Av G S₀ ρ σ S' H' F where
 gh:=gh
 s0:=I.s0.trans s
 sh:=sh
 new:=new
 own:=fun i t e=>by
  obtain⟨v,e1,r⟩:=I.own i t e
  exact⟨v,e1,r.mono s (fun a ha=>g i a ha) x fun a ha=>n i a ha⟩
 apart:=I.apart
 live:=fun i a ha=>by
  obtain⟨⟨o,h1,h2⟩,h3,_⟩:=I.live i a ha
  exact⟨⟨o,g i a ha o h1,h2⟩,h3,n i a ha⟩
 len:=I.len
theorem SRF.same(I:SRF K cls Av G S₀ ρ σ S H F)(g:ay H H'):SRF K cls Av G S₀ ρ σ S H' F:=
 I.change (I.gh.trans g) (ay.refl _) (I.sh.trans g) I.new (fun _ _ _ o e=>g _ _ e) (fun _ _ _ e=>g _ _ e) fun i a ha=>(I.live i a ha).2.2
theorem SR.same(I:SR K cls Av G S₀ ρ σ S H)(g:ay H H'):SR K cls Av G S₀ ρ σ S H':=let ⟨F,J⟩:=I;⟨F,J.same g⟩
theorem set_inv{α:Type}{l:List (Option α)}{x:Option α}{s:α}(h:(l.set i x)[j]?=some (some s)):(j=i /\ x=some s /\ i<l.length) \/ (j≠i /\ l[j]?=some (some s)):=by
 by_cases e:j=i
 . subst e;rw[List.getElem?_set]at h;simp only[if_true]at h;split at h
   . rename_i hl;exact .inl ⟨rfl,Option.some.inj h,hl⟩
   . cases h
 . rw[List.getElem?_set_ne (Ne.symm e)]at h;exact .inr ⟨e,h⟩
theorem AE{α:Type}{l:List (Option α)}{x:Option α}(h:i<l.length):(l.set i x)[i]?=some x:=by
 rw[List.getElem?_set];simp[h]
noncomputable def ki(F:Nat->List Addr)(i:Nat)(fp:List Addr):Nat->List Addr:=fun j=>if j=i then fp else F j
theorem fR:ki F i fp i=fp:=by unfold ki;rw[if_pos rfl]
theorem dg(h:j≠i):ki F i fp j=F j:=by unfold ki;rw[if_neg h]
theorem SRF.put(I:SRF K cls Av G S₀ ρ σ S H F)(h:∀ t,s=some t->∃ v,u=some v /\ lX K cls Av G S H i t v fp)
  (hl:∀ a∈fp,(∃ o,H a=some o /\ isX o=false) /\ G a=none /\ S a=none) (ap:∀ j a,j≠i->a∈fp->a∉F j):SRF K cls Av G S₀ (ρ.set i s) (σ.set i u) S H (ki F i fp) where
 gh:=I.gh
 s0:=I.s0
 sh:=I.sh
 new:=I.new
 own:=fun j t e=>by
  rcases set_inv e with⟨rfl,e1,hl⟩|⟨ne,e1⟩
  . obtain⟨v,e2,r⟩:=h t e1
    exact⟨v,by rw[AE (by rw[<- I.len];exact hl),e2],by rw[fR];exact r⟩
  . rw[List.getElem?_set_ne (Ne.symm ne),dg ne];exact I.own j t e1
 apart:=fun j k a h1 h2=>by
  by_cases ej:j=i
  . by_cases ek:k=i
    . rw[ej,ek]
    . subst ej;rw[fR]at h1;rw[dg ek]at h2;exact absurd h2 (ap k a ek h1)
  . by_cases ek:k=i
    . subst ek;rw[fR]at h2;rw[dg ej]at h1;exact absurd h1 (ap j a ej h2)
    . rw[dg ej]at h1;rw[dg ek]at h2;exact I.apart j k a h1 h2
 live:=fun j a ha=>by
  by_cases ej:j=i
  . subst ej;rw[fR]at ha;exact hl a ha
  . rw[dg ej]at ha;exact I.live j a ha
 len:=by simp[I.len]
theorem SR.xg(I:SR K cls Av G S₀ ρ σ S H)(h:Rep K S x v):SR K cls Av G S₀ (ρ.set i (some (.sh x))) (σ.set i (some v)) S H:=by
 obtain⟨F,J⟩:=I
 exact⟨_,J.put (fp:=[]) (fun t e=>by cases e;exact⟨v,rfl,rfl,h⟩) (fun a ha=>nomatch ha) fun j a _ ha=>nomatch ha⟩
theorem SR.C5(I:SR K cls Av G S₀ ρ σ S H):SR K cls Av G S₀ (ρ.set i none) (σ.set i v) S H:=by
 obtain⟨F,J⟩:=I
 exact⟨_,J.put (fp:=[]) (fun t e=>nomatch e) (fun a ha=>nomatch ha) fun j a _ ha=>nomatch ha⟩
theorem iN{α:Type}{l:List α}{x:α}(h:l[i]?=some x):l.set i x=l:=by
 apply List.ext_getElem?;intro j
 by_cases e:i=j
 . subst e;rw[List.getElem?_set,if_pos rfl,if_pos (List.getElem?_eq_some_iff.mp h).1,h]
 . rw[List.getElem?_set_ne e]
theorem SR.drop(I:SR K cls Av G S₀ ρ σ S H):SR K cls Av G S₀ (ρ.set i none) σ S H:=by
 cases e:σ[i]? with
 |some v=>have:=I.C5 (i:=i) (v:=v);rwa [iN e]at this
 | none=>
   have h1:σ.length<=i:=List.getElem?_eq_none_iff.mp e
   rw[List.set_eq_of_length_le (by rw[I.len];exact h1)];exact I
theorem SR.mut(I:SR K cls Av G S₀ ρ σ S H)(hi:ρ[i]?=some (some (.ow xs)))(hv:σ[i]?=some (some (.ref p)))(hr:aV K S ys us):SR K cls Av G S₀ (ρ.set i (some (.ow ys))) σ S (upd H p (.lst us)):=by
 obtain⟨F,J⟩:=I;obtain⟨v,e1,q,vs,e2,e3,hG,hS,hH,_⟩:=J.own i _ hi;rw[hv]at e1;cases e1;cases e2
 have J1:SRF K cls Av G S₀ (ρ.set i none) (σ.set i none) S H (ki F i []):=J.put (fun t e=>nomatch e) (fun a ha=>nomatch ha) fun j a _ ha=>nomatch ha
 have off:∀ j a,a∈ki F i [] j->a≠p:=fun j a ha z=>by
  by_cases ej:j=i
  . subst ej;rw[fR]at ha;cases ha
  . rw[dg ej]at ha;exact ej (J.apart j i a ha (by rw[e3,z];simp))
 have J2:=J1.change (H':=upd H p (.lst us)) (J.gh.upd hG) (ay.refl _) (J.sh.upd hS) J.new (fun j a ha o h=>by rw[bB (off j a ha)];exact h)
  (fun b o hx h=>by
    rw[bB]
    . exact h
    . intro z;rw[z,hH]at h;cases h;cases hx)
  fun j a ha=>(J1.live j a ha).2.2
 have J3:=J2.put (i:=i) (s:=some (.ow ys)) (u:=some (.ref p)) (fp:=[p]) (fun t e=>by cases e;exact⟨_,rfl,p,us,rfl,rfl,hG,hS,aY,hr⟩) (fun a ha=>by
  have z:a=p:=by simpa using ha
  subst z
  exact⟨⟨_,aY,rfl⟩,hG,hS⟩) fun j a hj ha hz=>by
   have z:a=p:=by simpa using ha
   exact off j a hz z
 rw[List.set_set,List.set_set,iN hv]at J3
 exact⟨_,J3⟩
end
structure aI(S H S' H':Hp):Prop where
 s:ay S S'
 g:ay H H'
 sh:ay S' H'
 new:∀ b,S' b≠none->S b≠none \/ H b=none
theorem aI.refl(h:ay S H):aI S H S H:=⟨ay.refl _,ay.refl _,h,fun _ z=>.inl z⟩
theorem aI.trans(a:aI S H S1 H1)(b:aI S1 H1 S2 H2):aI S H S2 H2:=
 ⟨a.s.trans b.s,a.g.trans b.g,b.sh,fun x h=>by
   rcases b.new x h with z|z
   . exact a.new x z
   . exact .inr (a.g.free z)⟩
theorem SRF.grow{K:PySem.W.Frag}{cls:String->Option Addr}{F:Nat->List Addr}(I:SRF K cls Av G S₀ ρ σ S H F)(w:aI S H S' H'):SRF K cls Av G S₀ ρ σ S' H' F:=
 I.change (I.gh.trans w.g) w.s w.sh (fun b h=>by
  rcases w.new b h with z|z
  . exact I.new b z
  . exact .inr (I.gh.free z)) (fun i a _ o h=>w.g _ _ h) (fun b o _ h=>w.g _ _ h) fun i a ha=>by
    obtain⟨⟨o,h1,_⟩,_,h3⟩:=I.live i a ha
    cases q:S' a with
    |none=>rfl
    | some o=>
      rcases w.new a (by rw[q];simp)with z|z
      . exact absurd h3 z
      . rw[h1]at z;cases z
theorem SR.grow{K:PySem.W.Frag}{cls:String->Option Addr}(I:SR K cls Av G S₀ ρ σ S H)(w:aI S H S' H'):SR K cls Av G S₀ ρ σ S' H':=let ⟨F,J⟩:=I;⟨F,J.grow w⟩
theorem SR.DA{K:PySem.W.Frag}{cls:String->Option Addr}{ρ:af}{σ:St}(I:SR K cls Av G S₀ ρ σ S H)(w:aI S H S' H')(h:gN K H S' H' (.fr xs) v):SR K cls Av G S₀ (ρ.set i (some (.ow xs))) (σ.set i (some v)) S' H':=by
 obtain⟨F,J⟩:=I;obtain⟨p,vs,rfl,hB,hS,hH,hr⟩:=h;have hG:=J.gh.free hB
 refine⟨_,(J.grow w).put (fp:=[p]) (fun t e=>by cases e;exact⟨_,rfl,p,vs,rfl,rfl,hG,hS,hH,hr⟩) (fun a ha=>?_) fun j a _ ha hz=>?_⟩
 . have z:a=p:=by simpa using ha
   subst z
   exact⟨⟨_,hH,rfl⟩,hG,hS⟩
 . have z:a=p:=by simpa using ha
   subst z;obtain⟨⟨o,h1,_⟩,_⟩:=J.live j a hz;rw[hB]at h1;cases h1
theorem aI.heap(h:ay S H)(hp:H p=none):aI S H S (upd H p o):=⟨ay.refl _,ay.new hp,h.trans (ay.new hp),fun _ z=>.inl z⟩
theorem aI.both(h:ay S H)(hp:H p=none):aI S H (upd S p o) (upd H p o):=by
 have hS:=h.free hp
 refine⟨ay.new hS,ay.new hp,fun b u z=>?_,fun b z=>?_⟩
 . by_cases e:b=p
   . subst e;rw[aY]at z ⊢;exact z
   . rw[bB e]at z ⊢;exact h b u z
 . by_cases e:b=p
   . subst e;exact .inr hp
   . rw[bB e]at z;exact .inl z
section
variable(K:PySem.W.Frag)(cls:String->Option Addr)(W:XW)
noncomputable def gS(σ:St)(S H:Hp)(Q:VK):OE->Prop
 |.ok r=>∀ v S' H',aI S H S' H'->gN K H S' H' r v->Q v H'
 |.exc c fs=>∀ a C S' H',aI S H S' H'->iD K cls S' H' c fs a C->W (.ref C) (some a) σ H'
 |.bad=>False
noncomputable def lP(σ:St)(S H:Hp)(Q:Bool->Hp->Prop):OT->Prop
 |.ok b=>∀ S' H',aI S H S' H'->Q b H'
 |.exc c fs=>∀ a C S' H',aI S H S' H'->iD K cls S' H' c fs a C->W (.ref C) (some a) σ H'
 |.bad=>False
noncomputable def o4(σ:St)(S H:Hp)(Q:List V->Hp->Prop):OA->Prop
 |.ok xs=>∀ vs S' H',aI S H S' H'->aV K S' xs vs->Q vs H'
 |.exc c fs=>∀ a C S' H',aI S H S' H'->iD K cls S' H' c fs a C->W (.ref C) (some a) σ H'
 |.bad=>False
noncomputable def fV(Av G S₀:Hp)(S:Hp)(D:Ends):OS->Prop
 |.nx ρ=>∀ σ' S' H',SR K cls Av G S₀ ρ σ' S' H'->ay S S'->D.nx σ' H'
 |.bk ρ=>∀ σ' S' H',SR K cls Av G S₀ ρ σ' S' H'->ay S S'->D.bk σ' H'
 |.ct ρ=>∀ σ' S' H',SR K cls Av G S₀ ρ σ' S' H'->ay S S'->D.ct σ' H'
 |.rt ρ r=>∀ v σ' S' H',SR K cls Av G S₀ ρ σ' S' H'->ay S S'->gN K G S' H' r v->D.rt v H'
 |.exc ρ c fs=>∀ a C σ' S' H',SR K cls Av G S₀ ρ σ' S' H'->ay S S'->iD K cls S' H' c fs a C->W (.ref C) (some a) σ' H'
 |.bad=>False
noncomputable def JE(te:TE)(m:af->OE):Prop:=∀ Av G S₀ ρ σ S H Q,SR K cls Av G S₀ ρ σ S H->gS K cls W σ S H Q (m ρ)->te σ H Q
noncomputable def JT(te:TT)(m:af->OT):Prop:=∀ Av G S₀ ρ σ S H Q,SR K cls Av G S₀ ρ σ S H->lP K cls W σ S H Q (m ρ)->te σ H Q
noncomputable def JA(te:TA)(m:af->OA):Prop:=∀ Av G S₀ ρ σ S H Q,SR K cls Av G S₀ ρ σ S H->o4 K cls W σ S H Q (m ρ)->te σ H Q
noncomputable def JS(ts:TS)(m:af->OS):Prop:=∀ Av G S₀ ρ σ S H D,SR K cls Av G S₀ ρ σ S H->fV K cls W Av G S₀ S D (m ρ)->ts D σ H
end
section
variable{K:PySem.W.Frag}{cls:String->Option Addr}{W:XW}{Av G S₀ S S' H H' B B':Hp}{ρ:af}{σ:St}{Q:VK}
theorem gN.back(h:gN K B' S H r v)(g:ay B B'):gN K B S H r v:=by
 cases r with
 |sh x=>exact h
 |fr xs=>obtain⟨p,vs,e,h1,h2⟩:=h;exact⟨p,vs,e,g.free h1,h2⟩
 |al xs=>exact h
theorem gS.back(w:aI S H S1 H1)(h:gS K cls W σ S H Q o):gS K cls W σ S1 H1 Q o:=by
 cases o with
 |ok r=>exact fun v S' H' w' r=>h v S' H' (w.trans w') (r.back w.g)
 |exc c fs=>exact fun a C S' H' w' r=>h a C S' H' (w.trans w') r
 |bad=>exact h
theorem lP.back{Q:Bool->Hp->Prop}(w:aI S H S1 H1)(h:lP K cls W σ S H Q o):lP K cls W σ S1 H1 Q o:=by
 cases o with
 |ok r=>exact fun S' H' w'=>h S' H' (w.trans w')
 |exc c fs=>exact fun a C S' H' w' r=>h a C S' H' (w.trans w') r
 |bad=>exact h
theorem o4.back{Q:List V->Hp->Prop}(w:aI S H S1 H1)(h:o4 K cls W σ S H Q o):o4 K cls W σ S1 H1 Q o:=by
 cases o with
 |ok r=>exact fun v S' H' w' r=>h v S' H' (w.trans w') r
 |exc c fs=>exact fun a C S' H' w' r=>h a C S' H' (w.trans w') r
 |bad=>exact h
theorem fV.back(s:ay S S1)(h:fV K cls W Av G S₀ S D o):fV K cls W Av G S₀ S1 D o:=by
 cases o with
 |nx ρ=>exact fun σ' S' H' I s'=>h σ' S' H' I (s.trans s')
 |bk ρ=>exact fun σ' S' H' I s'=>h σ' S' H' I (s.trans s')
 |ct ρ=>exact fun σ' S' H' I s'=>h σ' S' H' I (s.trans s')
 |rt ρ r=>exact fun v σ' S' H' I s'=>h v σ' S' H' I (s.trans s')
 |exc ρ c fs=>exact fun a C σ' S' H' I s'=>h a C σ' S' H' I (s.trans s')
 |bad=>exact h
theorem JE.go{m:af->OE}{f:RV->OE}(h:JE K cls W te m)(I:SR K cls Av G S₀ ρ σ S H)(p:gS K cls W σ S H Q ((m ρ).bind f))
  (k:∀ r v S1 H1,SR K cls Av G S₀ ρ σ S1 H1->aI S H S1 H1->gN K H S1 H1 r v->gS K cls W σ S1 H1 Q (f r)->Q' v H1):te σ H Q':=by
 refine h Av G S₀ ρ σ S H Q' I ?_
 cases e:m ρ with
 |ok r=>rw[e]at p;exact fun v S1 H1 w r1=>k r v S1 H1 (I.grow w) w r1 (p.back w)
 |exc c fs=>rw[e]at p;exact p
 |bad=>rw[e]at p;exact p
theorem JE.goT{m:af->OE}{f:RV->OT}{Q:Bool->Hp->Prop}(h:JE K cls W te m)(I:SR K cls Av G S₀ ρ σ S H)(p:lP K cls W σ S H Q ((m ρ).cB f))
  (k:∀ r v S1 H1,SR K cls Av G S₀ ρ σ S1 H1->aI S H S1 H1->gN K H S1 H1 r v->lP K cls W σ S1 H1 Q (f r)->Q' v H1):te σ H Q':=by
 refine h Av G S₀ ρ σ S H Q' I ?_
 cases e:m ρ with
 |ok r=>rw[e]at p;exact fun v S1 H1 w r1=>k r v S1 H1 (I.grow w) w r1 (p.back w)
 |exc c fs=>rw[e]at p;exact p
 |bad=>rw[e]at p;exact p
theorem JE.goS{m:af->OE}{f:RV->OS}(h:JE K cls W te m)(I:SR K cls Av G S₀ ρ σ S H)(p:fV K cls W Av G S₀ S D ((m ρ).bp ρ f))
  (k:∀ r v S1 H1,SR K cls Av G S₀ ρ σ S1 H1->aI S H S1 H1->gN K H S1 H1 r v->fV K cls W Av G S₀ S1 D (f r)->Q' v H1):te σ H Q':=by
 refine h Av G S₀ ρ σ S H Q' I ?_
 cases e:m ρ with
 |ok r=>rw[e]at p;exact fun v S1 H1 w r1=>k r v S1 H1 (I.grow w) w r1 (p.back w.s)
 |exc c fs=>rw[e]at p;exact fun a C S' H' w x=>p a C σ S' H' (I.grow w) w.s x
 |bad=>rw[e]at p;exact p
theorem JT.go{m:af->OT}{f:Bool->OE}{Q':Bool->Hp->Prop}(h:JT K cls W te m)(I:SR K cls Av G S₀ ρ σ S H)(p:gS K cls W σ S H Q ((m ρ).bind f))
  (k:∀ b S1 H1,SR K cls Av G S₀ ρ σ S1 H1->aI S H S1 H1->gS K cls W σ S1 H1 Q (f b)->Q' b H1):te σ H Q':=by
 refine h Av G S₀ ρ σ S H Q' I ?_
 cases e:m ρ with
 |ok r=>rw[e]at p;exact fun S1 H1 w=>k r S1 H1 (I.grow w) w (p.back w)
 |exc c fs=>rw[e]at p;exact p
 |bad=>rw[e]at p;exact p
theorem JT.goT{m:af->OT}{f:Bool->OT}{Q Q':Bool->Hp->Prop}(h:JT K cls W te m)(I:SR K cls Av G S₀ ρ σ S H)(p:lP K cls W σ S H Q ((m ρ).cB f))
  (k:∀ b S1 H1,SR K cls Av G S₀ ρ σ S1 H1->aI S H S1 H1->lP K cls W σ S1 H1 Q (f b)->Q' b H1):te σ H Q':=by
 refine h Av G S₀ ρ σ S H Q' I ?_
 cases e:m ρ with
 |ok r=>rw[e]at p;exact fun S1 H1 w=>k r S1 H1 (I.grow w) w (p.back w)
 |exc c fs=>rw[e]at p;exact p
 |bad=>rw[e]at p;exact p
theorem JT.goS{m:af->OT}{f:Bool->OS}{Q':Bool->Hp->Prop}(h:JT K cls W te m)(I:SR K cls Av G S₀ ρ σ S H)(p:fV K cls W Av G S₀ S D ((m ρ).bp ρ f))
  (k:∀ b S1 H1,SR K cls Av G S₀ ρ σ S1 H1->aI S H S1 H1->fV K cls W Av G S₀ S1 D (f b)->Q' b H1):te σ H Q':=by
 refine h Av G S₀ ρ σ S H Q' I ?_
 cases e:m ρ with
 |ok r=>rw[e]at p;exact fun S1 H1 w=>k r S1 H1 (I.grow w) w (p.back w.s)
 |exc c fs=>rw[e]at p;exact fun a C S' H' w x=>p a C σ S' H' (I.grow w) w.s x
 |bad=>rw[e]at p;exact p
theorem JA.go{m:af->OA}{f:List PV->OE}{Q':List V->Hp->Prop}(h:JA K cls W te m)(I:SR K cls Av G S₀ ρ σ S H)(p:gS K cls W σ S H Q ((m ρ).bind f))
  (k:∀ xs vs S1 H1,SR K cls Av G S₀ ρ σ S1 H1->aI S H S1 H1->aV K S1 xs vs->gS K cls W σ S1 H1 Q (f xs)->Q' vs H1):te σ H Q':=by
 refine h Av G S₀ ρ σ S H Q' I ?_
 cases e:m ρ with
 |ok r=>rw[e]at p;exact fun v S1 H1 w r1=>k r v S1 H1 (I.grow w) w r1 (p.back w)
 |exc c fs=>rw[e]at p;exact p
 |bad=>rw[e]at p;exact p
theorem JA.goA{m:af->OA}{f:List PV->OA}{Q Q':List V->Hp->Prop}(h:JA K cls W te m)(I:SR K cls Av G S₀ ρ σ S H)(p:o4 K cls W σ S H Q ((m ρ).cD f))
  (k:∀ xs vs S1 H1,SR K cls Av G S₀ ρ σ S1 H1->aI S H S1 H1->aV K S1 xs vs->o4 K cls W σ S1 H1 Q (f xs)->Q' vs H1):te σ H Q':=by
 refine h Av G S₀ ρ σ S H Q' I ?_
 cases e:m ρ with
 |ok r=>rw[e]at p;exact fun v S1 H1 w r1=>k r v S1 H1 (I.grow w) w r1 (p.back w)
 |exc c fs=>rw[e]at p;exact p
 |bad=>rw[e]at p;exact p
theorem ai:JE K cls W (tm i) (ao i):=by
 intro Av G S₀ ρ σ S H Q I p;unfold ao at p;split at p
 . rename_i x e;obtain⟨v,e1,r⟩:=I.good i _ e
   exact⟨v,e1,p v S H (aI.refl I.sh) r⟩
 . rename_i xs e;obtain⟨v,e1,a,vs,e2,_,_,h3,h4⟩:=I.good i _ e
   exact⟨v,e1,p v S H (aI.refl I.sh) ⟨a,vs,e2,SqL.new h3,h4⟩⟩
 . exact p.elim
theorem y0(h:∀ S,Rep K S x v):JE K cls W (tC v) (mC x):=fun Av G S₀ ρ σ S H Q I p=>p v S H (aI.refl I.sh) (h S)
theorem ak:JE K cls W (tC (.int n)) (mC (.int n)):=y0 fun _=>by unfold Rep;rfl
theorem fA:JE K cls W (tC (.bl n)) (mC (.bl n)):=y0 fun _=>by unfold Rep;rfl
theorem lj:JE K cls W (tC .non) (mC .non):=y0 fun _=>by unfold Rep;rfl
theorem bq:JE K cls W (tC (.str n)) (mC (.str n)):=y0 fun _=>by unfold Rep;rfl
noncomputable def JR(K:PySem.W.Frag)(r:R2)(g:PV->PV->Option RV):Prop:=∀ S H x y v u rr Q,ay S H->RdV K S H x v->RdV K S H y u->g x y=some rr ->
 (∀ z S' H',aI S H S' H'->gN K H S' H' rr z->Q z H')->r v u H Q
theorem au{g:PV->PV->Option RV}{ma mb:af->OE}(hr:JR K r g)(ha:JE K cls W ta ma)(hb:JE K cls W tb mb):JE K cls W (tOp r ta tb) (mOp g ma mb):=by
 intro Av G S₀ ρ σ S H Q I p
 refine ha.go I p fun a v S1 H1 I1 w1 r1 p1=>hb.go I1 p1 fun b u S2 H2 I2 w2 r2 p2=>?_
 cases e:g a.pv b.pv with
 |none=>rw[e]at p2;exact p2.elim
 | some rr=>
   rw[e]at p2;exact hr S2 H2 a.pv b.pv v u rr Q I2.sh ((r1.rd I1.sh).mono w2.s w2.g) (r2.rd I2.sh) e p2
noncomputable def sv:PV->V
 |.non=>.non
 |.bl b=>.bl b
 |.int i=>.int i
 |.str s=>.str s
 |_=>.non
theorem ck(h:RdV K S H (.int i) v):v=.int i:=by unfold RdV Rep at h;exact h
theorem gj(h:RdV K S H (.bl i) v):v=.bl i:=by unfold RdV Rep at h;exact h
theorem fD(h:RdV K S H (.str i) v):v=.str i:=by unfold RdV Rep at h;exact h
theorem eD(h:RdV K S H .non v):v=.non:=by unfold RdV Rep at h;exact h
theorem dE(h:RdV K S H (.lst xs) v):∃ p vs,v=.ref p /\ SqL K H p vs /\ aV K S xs vs:=h
theorem dr(h:RdV K S H (.tup xs) v):∃ p vs,v=.ref p /\ SqT K S p vs /\ aV K S xs vs:=by unfold RdV Rep at h;exact h
theorem we{C:Int->Int->Prop}{c:Int->Int->Bool}{f:Int->Int->PV}{fv:Int->Int->V}(hc:∀ i j,c i j=true->C i j)(hf:∀ S i j,Rep K S (f i j) (fv i j)):JR K (rI C fv) (gI c f):=by
 intro S H x y v u rr Q I hx hy e k;unfold gI at e;split at e
 . rename_i i j;split at e
   . rename_i hcc;cases e
     exact⟨i,j,ck hx,ck hy,hc i j hcc,k _ S H (aI.refl I) (hf S i j)⟩
   . cases e
 . cases e
theorem pR{f:Int->Int->PV}{fv:Int->Int->V}(hf:∀ S i j,Rep K S (f i j) (fv i j)):JR K (rI0 fv) (gI (fun _ _=>true) f):=by
 intro S H x y v u rr Q I hx hy e k;unfold gI at e;split at e
 . rename_i i j;simp only[if_true]at e;cases e
   exact⟨i,j,ck hx,ck hy,k _ S H (aI.refl I) (hf S i j)⟩
 . cases e
theorem fC:JR K (rI0 fun i j=>.int (i+j)) gE:=pR fun _ _ _=>by unfold Rep;rfl
theorem vU:JR K (rI0 fun i j=>.int (i - j)) zc:=pR fun _ _ _=>by unfold Rep;rfl
theorem p5:JR K (rI v8 fun i j=>.int (i*j)) vG:=we (fun i j h=>by simpa [v8,Bool.or_eq_true,Bool.and_eq_true,decide_eq_true_eq]using h) fun _ _ _=>by unfold Rep;rfl
theorem eH:JR K (rI Cg fun i j=>.int (i/j)) hU:=we (fun i j h=>by simpa [Cg,Bool.and_eq_true,decide_eq_true_eq]using h) fun _ _ _=>by unfold Rep;rfl
theorem b7:JR K (rI (fun _ j=>0<j) fun i j=>.int (i%j)) cF:=we (fun i j h=>by simpa using h) fun _ _ _=>by unfold Rep;rfl
theorem wL:JR K (rI0 fun i j=>.bl (decide (i<j))) gLt:=pR fun _ _ _=>by unfold Rep;rfl
theorem An:JR K (rI0 fun i j=>.bl (decide (j<i))) gGt:=pR fun _ _ _=>by unfold Rep;rfl
theorem AL(hx:RdV K S H x v)(hy:RdV K S H y u)(e:eqS x y=some b):C1 v u=true /\ decide (v=u)=b:=by
 unfold eqS at e;split at e
 all_goals first
  |(have h1:=eD hx;subst h1;have h2:=eD hy;subst h2;cases e;exact⟨rfl,by simp⟩)
  |(have h1:=eD hx;subst h1;have h2:=ck hy;subst h2;cases e;exact⟨rfl,by simp⟩)
  |(have h1:=ck hx;subst h1;have h2:=eD hy;subst h2;cases e;exact⟨rfl,by simp⟩)
  |(have h1:=eD hx;subst h1;have h2:=gj hy;subst h2;cases e;exact⟨rfl,by simp⟩)
  |(have h1:=gj hx;subst h1;have h2:=eD hy;subst h2;cases e;exact⟨rfl,by simp⟩)
  |(have h1:=eD hx;subst h1;have h2:=fD hy;subst h2;cases e;exact⟨rfl,by simp⟩)
  |(have h1:=fD hx;subst h1;have h2:=eD hy;subst h2;cases e;exact⟨rfl,by simp⟩)
  |(have h1:=ck hx;subst h1;have h2:=ck hy;subst h2;cases e;exact⟨rfl,by simp⟩)
  |(have h1:=gj hx;subst h1;have h2:=gj hy;subst h2;cases e;exact⟨rfl,by simp⟩)
  |(have h1:=fD hx;subst h1;have h2:=fD hy;subst h2;cases e;exact⟨rfl,by simp⟩)
  |(have h1:=ck hx;subst h1;have h2:=fD hy;subst h2;cases e;exact⟨rfl,by simp⟩)
  |(have h1:=fD hx;subst h1;have h2:=ck hy;subst h2;cases e;exact⟨rfl,by simp⟩)
  |(have h1:=gj hx;subst h1;have h2:=fD hy;subst h2;cases e;exact⟨rfl,by simp⟩)
  |(have h1:=fD hx;subst h1;have h2:=gj hy;subst h2;cases e;exact⟨rfl,by simp⟩)
  |cases e
theorem jC:JR K rEq gEq:=by
 intro S H x y v u rr Q I hx hy e k;obtain⟨b,e1,e2⟩:=Option.map_eq_some_iff.mp e;obtain⟨h1,h2⟩:=AL hx hy e1
 refine⟨h1,k _ S H (aI.refl I) ?_⟩
 subst e2;show Rep K S _ _;unfold Rep;rw[h2]
end
section
variable{K:PySem.W.Frag}{cls:String->Option Addr}{W:XW}{Av G S₀ S S' H H' B B':Hp}{ρ:af}{σ:St}{Q:VK}
theorem gN.share(h:gN K H S1 H1 r v)(w:aI S H S1 H1)(e:kC r=some x):∃ S2,aI S H S2 H1 /\ ay S1 S2 /\ Rep K S2 x v:=by
 cases r with
 |sh y=>cases e;exact⟨S1,w,ay.refl _,h⟩
 |al xs=>cases e
 | fr xs=>
   cases e;obtain⟨p,vs,rfl,hB,hS,hH,hr⟩:=h
   refine⟨upd S1 p (.lst vs),⟨w.s.trans (ay.new hS),w.g,fun b u z=>?_,fun b z=>?_⟩,ay.new hS,?_⟩
   . by_cases e:b=p
     . subst e;rw[aY]at z;cases z;exact hH
     . rw[bB e]at z;exact w.sh b u z
   . by_cases e:b=p
     . subst e;exact .inr hB
     . rw[bB e]at z;exact w.new b z
   . unfold Rep
     exact⟨p,vs,rfl,SqL.new aY,hr.mono (ay.new hS)⟩
theorem av:JA K cls W iC az:=fun Av G S₀ ρ σ S H Q I p=>p [] S H (aI.refl I.sh) .nil
theorem ae{me:af->OE}{mr:af->OA}(he:JE K cls W te me)(ht:JA K cls W t mr):JA K cls W (eA te t) (ah me mr):=by
 intro Av G S₀ ρ σ S H Q I p;refine he Av G S₀ ρ σ S H _ I ?_;unfold ah at p
 cases e:me ρ with
 |exc c fs=>rw[e]at p;exact p
 |bad=>rw[e]at p;exact p
 | ok r=>
   rw[e]at p;intro v S1 H1 w1 r1;simp only[OE.cD]at p
   cases es:kC r with
   |none=>rw[es]at p;exact p.elim
   | some x=>
     rw[es]at p;obtain⟨S2,w2,s2,rx⟩:=r1.share w1 es
     refine ht.goA (I.grow w2) (p.back w2) fun xs vs S3 H3 I3 w3 r3 p3=>?_
     exact p3 (v ::vs) S3 H3 (aI.refl I3.sh) (.cons (Rep.mono w3.s rx) r3)
theorem CI:lim=sizeLine:=by decide
theorem fZ{ma:af->OA}(h:JA K cls W t ma):JE K cls W (x9 t) (gi ma):=by
 intro Av G S₀ ρ σ S H Q I p
 refine h.go I p fun xs vs S1 H1 I1 w1 r1 p1=>?_
 split at p1
 . rename_i hl
   refine⟨by rw[r1.length];exact hl,fun q hq=>p1 (.ref q) S1 _ (aI.heap I1.sh hq) ⟨q,vs,rfl,hq,I1.sh.free hq,aY,r1⟩⟩
 . exact p1.elim
theorem aB{ma:af->OA}(h:JA K cls W t ma):JE K cls W (A1 t) (bb ma):=by
 intro Av G S₀ ρ σ S H Q I p
 refine h.go I p fun xs vs S1 H1 I1 w1 r1 p1=>?_
 split at p1
 . rename_i hl
   refine⟨by rw[r1.length];exact hl,fun q hq=>p1 (.ref q) _ _ (aI.both I1.sh hq) ?_⟩
   show Rep K _ _ _;unfold Rep
   exact⟨q,vs,rfl,SqT.new aY,r1.mono (aI.both (o:=.tup vs) I1.sh hq).s⟩
 . exact p1.elim
noncomputable def C6(K:PySem.W.Frag)(cls:String->Option Addr)(S H:Hp)(Q:VK)(E:XK):OE->Prop
 |.ok r=>∀ v S' H',aI S H S' H'->gN K H S' H' r v->Q v H'
 |.exc c fs=>∀ a C S' H',aI S H S' H'->iD K cls S' H' c fs a C->E (.ref C) (some a) H'
 |.bad=>False
noncomputable def spP(K:PySem.W.Frag)(cls:String->Option Addr)(f:List PV->OE):Sp:=fun vs H Q E=>∃ S xs,ay S H /\ aV K S xs vs /\ C6 K cls S H Q E (f xs)
theorem aL{ma:af->OA}{f:List PV->OE}(h:JA K cls W t ma):JE K cls W (m9 (spP K cls f) [] W t) (aW f ma):=by
 intro Av G S₀ ρ σ S H Q I p
 refine h.go I p fun xs vs S1 H1 I1 w1 r1 p1=>?_
 show spP K cls f (vs++[]) H1 Q _;rw[List.append_nil]
 refine⟨S1,xs,I1.sh,r1,?_⟩
 cases e:f xs with
 |ok r=>rw[e]at p1;exact p1
 |exc c fs=>rw[e]at p1;exact p1
 |bad=>rw[e]at p1;exact p1
noncomputable def JU(K:PySem.W.Frag)(r:List V->Hp->VK->Prop)(g:PV->Option RV):Prop:=∀ S H x v rr Q,ay S H->RdV K S H x v->g x=some rr ->
 (∀ z S' H',aI S H S' H'->gN K H S' H' rr z->Q z H')->r [v] H Q
theorem dB{r:List V->Hp->VK->Prop}{g:PV->Option RV}{ma:af->OE}(hr:JU K r g)(ha:JE K cls W ta ma):JE K cls W (tCB r (eA ta iC)) (mUn g ma):=by
 intro Av G S₀ ρ σ S H Q I p
 refine ha.go I p fun a v S1 H1 I1 w1 r1 p1=>?_
 show r [v] H1 Q
 cases e:g a.pv with
 |none=>rw[e]at p1;exact p1.elim
 |some rr=>rw[e]at p1;exact hr S1 H1 a.pv v rr Q I1.sh (r1.rd I1.sh) e p1
theorem qN{r:V->Hp->VK->Prop}{g:PV->Option RV}{ma:af->OE}(hr:JU K (fun vs H Q=>∃ v,vs=[v] /\ r v H Q) g)(ha:JE K cls W ta ma):JE K cls W (tUn r ta) (mUn g ma):=by
 intro Av G S₀ ρ σ S H Q I p
 refine ha.go I p fun a v S1 H1 I1 w1 r1 p1=>?_
 cases e:g a.pv with
 |none=>rw[e]at p1;exact p1.elim
 | some rr=>
   rw[e]at p1;obtain⟨u,e1,h⟩:=hr S1 H1 a.pv v rr Q I1.sh (r1.rd I1.sh) e p1;cases e1;exact h
theorem mM:JU K (fun vs H Q=>∃ v,vs=[v] /\ rU (fun i=>.int (-i)) v H Q) jO:=by
 intro S H x v rr Q I hx e k
 cases x with
 |int i=>cases e;exact⟨v,rfl,i,ck hx,k _ S H (aI.refl I) (by show Rep K S _ _;unfold Rep;rfl)⟩
 |_=>cases e
theorem iE:JU K (fun xs H Q=>∃ p ys,xs=[.ref p] /\ (SqL K H p ys \/ SqT K H p ys) /\ Q (.int ys.length) H) kF:=by
 intro S H x v rr Q I hx e k
 cases x with
 | lst xs=>
   cases e;obtain⟨p,vs,rfl,hq,r⟩:=dE hx
   exact⟨p,vs,rfl,.inl hq,k _ S H (aI.refl I) (by show Rep K S _ _;unfold Rep;rw[r.length])⟩
 | tup xs=>
   cases e;obtain⟨p,vs,rfl,hq,r⟩:=dr hx
   exact⟨p,vs,rfl,.inr (ay.tup I hq),k _ S H (aI.refl I) (by show Rep K S _ _;unfold Rep;rw[r.length])⟩
 |_=>cases e
theorem sU:JU K (fun xs H Q=>∃ p ys,xs=[.ref p] /\ (SqL K H p ys \/ SqT K H p ys) /\ ∀ l,H l=none->Q (.ref l) (upd H l (.lst ys))) ke:=by
 intro S H x v rr Q I hx e k
 cases x with
 | lst xs=>
   cases e;obtain⟨p,vs,rfl,hq,r⟩:=dE hx
   exact⟨p,vs,rfl,.inl hq,fun l hl=>k _ S _ (aI.heap I hl) ⟨l,vs,rfl,hl,I.free hl,aY,r⟩⟩
 | tup xs=>
   cases e;obtain⟨p,vs,rfl,hq,r⟩:=dr hx
   exact⟨p,vs,rfl,.inr (ay.tup I hq),fun l hl=>k _ S _ (aI.heap I hl) ⟨l,vs,rfl,hl,I.free hl,aY,r⟩⟩
 |_=>cases e
theorem AA{α:Type}(xs:List α)(i:Int):atP xs i=L2.atI xs i:=rfl
theorem aV.atI(h:aV K S xs vs)(e:atP xs i=some x):∃ v,L2.atI vs i=some v /\ Rep K S x v:=by
 rw[AA]at e
 unfold L2.atI at e ⊢
 rw[h.length]
 cases q:ixN xs.length i with
 |none=>rw[q]at e;cases e
 |some j=>rw[q]at e;exact h.get e
theorem iP:JR K (yz K) jw:=by
 intro S H x y v u rr Q I hx hy e k;unfold jw at e;split at e
 . rename_i xs i;obtain⟨z,e1,e2⟩:=Option.map_eq_some_iff.mp e;obtain⟨p,vs,rfl,hq,r⟩:=dE hx;obtain⟨w,e3,rw'⟩:=r.atI e1;subst e2
   exact⟨p,vs,i,w,rfl,ck hy,hq,e3,k _ S H (aI.refl I) rw'⟩
 . cases e
theorem aP:JR K (Dt K) bc:=by
 intro S H x y v u rr Q I hx hy e k;unfold bc at e;split at e
 . rename_i xs i;obtain⟨z,e1,e2⟩:=Option.map_eq_some_iff.mp e;obtain⟨p,vs,rfl,hq,r⟩:=dr hx;obtain⟨w,e3,rw'⟩:=r.atI e1;subst e2
   exact⟨p,vs,i,w,rfl,ck hy,ay.tup I hq,e3,k _ S H (aI.refl I) rw'⟩
 . cases e
end
section
variable{K:PySem.W.Frag}{cls:String->Option Addr}{W:XW}{Av G S₀ S S' H H' B B':Hp}{ρ:af}{σ:St}{Q:VK}
theorem vM{xs:List PV}{ns:List Int}(h:kU xs=some ns):xs=ns.map .int:=by
 induction xs generalizing ns with
 |nil=>cases h;rfl
 | cons x xs ih=>
   cases x with
   | int i=>
     obtain⟨ms,e1,e2⟩:=Option.map_eq_some_iff.mp h;subst e2;rw[ih e1];rfl
   |_=>cases h
theorem tO{xs:List PV}{vs:List V}{bs:List Bool}(h:gn xs=some bs)(r:aV K S xs vs):vs=bs.map V.bl:=by
 induction xs generalizing bs vs with
 |nil=>cases h;exact r.nil_inv
 | cons x xs ih=>
   cases x with
   | bl i=>
     obtain⟨ms,e1,e2⟩:=Option.map_eq_some_iff.mp h;subst e2;obtain⟨v,t,rfl,h1,h2⟩:=r.cons_inv;unfold Rep at h1;rw[ih e1 h2,h1];rfl
   |_=>cases h
theorem Bf{A:Around}(hh:A.handled=none):JU K (fun xs H Q=>∃(p:Addr) (bs:List Bool),xs=[.ref p] /\ SqL K H p (bs.map V.bl) /\ A.handled=none /\ Q (.bl (bs.all id)) H) Cd:=by
 intro S H x v rr Q I hx e k
 cases x with
 | lst xs=>
   obtain⟨bs,e1,e2⟩:=Option.map_eq_some_iff.mp e;obtain⟨p,vs,rfl,hq,r⟩:=dE hx;rw[tO e1 r]at hq;subst e2
   exact⟨p,bs,rfl,hq,hh,k _ S H (aI.refl I) (by show Rep K S _ _;unfold Rep;rfl)⟩
 |_=>cases e
theorem Bh{T:String}{x:PV}{v:V}{b:Bool}(s:ay S H)(hx:RdV K S H x v)(e:isP T x=some b):IsV K T v H b:=by
 cases x with
 | int i=>
   have:=ck hx;subst this;simp only[isP]at e;split at e
   . cases e;exact .inl ⟨by assumption,rfl⟩
   . split at e
     . rename_i h;cases e;rcases h with h|h|h|h
       . exact .inr (.inl ⟨h,rfl⟩)
       . exact .inr (.inr (.inl ⟨h,rfl⟩))
       . exact .inr (.inr (.inr (.inl ⟨h,rfl⟩)))
       . exact .inr (.inr (.inr (.inr ⟨h,rfl⟩)))
     . cases e
 | bl i=>
   have:=gj hx;subst this;simp only[isP]at e;split at e
   . rename_i h;cases e;rcases h with h|h
     . exact .inl ⟨h,rfl⟩
     . exact .inr (.inl ⟨h,rfl⟩)
   . split at e
     . rename_i h;cases e;rcases h with h|h|h
       . exact .inr (.inr (.inl ⟨h,rfl⟩))
       . exact .inr (.inr (.inr (.inl ⟨h,rfl⟩)))
       . exact .inr (.inr (.inr (.inr ⟨h,rfl⟩)))
     . cases e
 | non=>
   have:=eD hx;subst this;simp only[isP]at e;split at e
   . rename_i h;cases e;rcases h with h|h|h|h|h
     . exact .inl ⟨h,rfl⟩
     . exact .inr (.inl ⟨h,rfl⟩)
     . exact .inr (.inr (.inl ⟨h,rfl⟩))
     . exact .inr (.inr (.inr (.inl ⟨h,rfl⟩)))
     . exact .inr (.inr (.inr (.inr ⟨h,rfl⟩)))
   . cases e
 | str i=>
   have:=fD hx;subst this;simp only[isP]at e;split at e
   . cases e;exact .inr (.inr (.inr (.inr ⟨by assumption,rfl⟩)))
   . split at e
     . rename_i h;cases e;rcases h with h|h|h|h
       . exact .inl ⟨h,rfl⟩
       . exact .inr (.inl ⟨h,rfl⟩)
       . exact .inr (.inr (.inl ⟨h,rfl⟩))
       . exact .inr (.inr (.inr (.inl ⟨h,rfl⟩)))
     . cases e
 | lst xs=>
   obtain⟨p,vs,rfl,hq,r⟩:=dE hx;refine .inl ⟨⟨vs,hq⟩,?_⟩;simp only[isP]at e;split at e
   . cases e;exact .inr (.inr (.inl ⟨by assumption,rfl⟩))
   . split at e
     . rename_i h;cases e;rcases h with h|h|h|h
       . exact .inl ⟨h,rfl⟩
       . exact .inr (.inl ⟨h,rfl⟩)
       . exact .inr (.inr (.inr (.inl ⟨h,rfl⟩)))
       . exact .inr (.inr (.inr (.inr ⟨h,rfl⟩)))
     . cases e
 | tup xs=>
   obtain⟨p,vs,rfl,hq,r⟩:=dr hx;refine .inr ⟨⟨vs,ay.tup s hq⟩,?_⟩;simp only[isP]at e;split at e
   . cases e;exact .inr (.inr (.inr (.inl ⟨by assumption,rfl⟩)))
   . split at e
     . rename_i h;cases e;rcases h with h|h|h|h
       . exact .inl ⟨h,rfl⟩
       . exact .inr (.inl ⟨h,rfl⟩)
       . exact .inr (.inr (.inl ⟨h,rfl⟩))
       . exact .inr (.inr (.inr (.inr ⟨h,rfl⟩)))
     . cases e
theorem Cm{T:String}{ta:TE}{ma:af->OE}(ha:JE K cls W ta ma):
  JE K cls W (tCB (fun xs H Q=>∃ x T b,xs=[x,.ty T] /\ IsV K T x H b /\ Q (.bl b) H) (eA ta (eA (tC (.ty T)) iC))) (mIs T ma):=by
 intro Av G S₀ ρ σ S H Q I p
 refine ha.go I p fun a v S1 H1 I1 w1 r1 p1=>?_
 show ∃ x T' b,[v,V.ty T]=[x,V.ty T'] /\ _
 dsimp only at p1
 cases e:isP T a.pv with
 |none=>rw[e]at p1;exact p1.elim
 | some b=>
   rw[e]at p1
   exact⟨v,T,b,rfl,Bh I1.sh (r1.rd I1.sh) e,p1 _ S1 H1 (aI.refl I1.sh) (by show Rep K S1 _ _;unfold Rep;rfl)⟩
end
section
variable{K:PySem.W.Frag}{cls:String->Option Addr}{W:XW}{Av G S₀ S S' H H' B B':Hp}{ρ:af}{σ:St}{Q:VK}
theorem kg{xs:List PV}{vs:List V}(h:aV K S xs vs):vs.isEmpty=xs.isEmpty:=by
 cases xs with
 |nil=>rw[h.nil_inv];rfl
 |cons x xs=>obtain⟨v,r,rfl,_⟩:=h.cons_inv;rfl
theorem ym(s:ay S H)(hx:RdV K S H x v)(e:pD x=some b):vK K v H b:=by
 cases x with
 |non=>have:=eD hx;subst this;cases e;rfl
 |bl c=>have:=gj hx;subst this;cases e;rfl
 |int i=>have:=ck hx;subst this;cases e;rfl
 |str z=>cases e
 | lst xs=>
   obtain⟨p,vs,rfl,hq,r⟩:=dE hx;cases e;exact .inl ⟨vs,hq,by rw[kg r]⟩
 | tup xs=>
   obtain⟨p,vs,rfl,hq,r⟩:=dr hx;cases e;exact .inr (.inl ⟨vs,ay.tup s hq,by rw[kg r]⟩)
theorem kG{ma:af->OE}(ha:JE K cls W ta ma):JT K cls W (fun σ H Q=>ta σ H fun x H'=>∃ k,vK K x H' k /\ Q k H') (kT ma):=by
 intro Av G S₀ ρ σ S H Q I p
 refine ha.goT I p fun r v S1 H1 I1 w1 r1 p1=>?_
 cases e:pD r.pv with
 |none=>rw[e]at p1;exact p1.elim
 |some b=>rw[e]at p1;exact⟨b,ym I1.sh (r1.rd I1.sh) e,p1 S1 H1 (aI.refl I1.sh)⟩
theorem wU{r:RV}(h:r.pv=.bl b)(r1:gN K H S1 H1 r v)(s:ay S1 H1):v=.bl b:=by
 have:=r1.rd s;rw[h]at this;exact gj this
theorem aO{ma:af->OE}(ha:JE K cls W ta ma):JT K cls W (ui ta) (aR ma):=by
 intro Av G S₀ ρ σ S H Q I p
 refine ha.goT I p fun r v S1 H1 I1 w1 r1 p1=>?_
 cases e:r.pv with
 |bl b=>rw[e]at p1;exact⟨b,wU e r1 I1.sh,p1 S1 H1 (aI.refl I1.sh)⟩
 |_=>rw[e]at p1;exact p1.elim
theorem wO{ma:af->OT}(ha:JT K cls W ta ma):JT K cls W (AM ta) (uA ma):=by
 intro Av G S₀ ρ σ S H Q I p
 exact ha.goT I p fun b S1 H1 I1 w1 p1=>p1 S1 H1 (aI.refl I1.sh)
theorem nQ{ma mb:af->OT}(ha:JT K cls W ta ma)(hb:JT K cls W tb mb):JT K cls W (AX ta tb) (dA ma mb):=by
 intro Av G S₀ ρ σ S H Q I p
 refine ha.goT I p fun b S1 H1 I1 w1 p1=>?_
 cases b with
 |true=>exact vx (hb Av G S₀ ρ σ S1 H1 Q I1 p1)
 |false=>exact uV (p1 S1 H1 (aI.refl I1.sh))
theorem oA{ma mb:af->OT}(ha:JT K cls W ta ma)(hb:JT K cls W tb mb):JT K cls W (tOr ta tb) (iB ma mb):=by
 intro Av G S₀ ρ σ S H Q I p
 refine ha.goT I p fun b S1 H1 I1 w1 p1=>?_
 cases b with
 |false=>exact uV (hb Av G S₀ ρ σ S1 H1 Q I1 p1)
 |true=>exact vx (p1 S1 H1 (aI.refl I1.sh))
theorem i0:gN K B S H (.sh (.bl b)) (.bl b):=by show Rep K S _ _;unfold Rep;rfl
theorem Ba{ma mb:af->OE}(ha:JE K cls W ta ma)(hb:JE K cls W tb mb):JE K cls W (wY ta tb) (wM ma mb):=by
 intro Av G S₀ ρ σ S H Q I p
 refine ha.go I p fun r v S1 H1 I1 w1 r1 p1=>?_
 cases e:r.pv with
 | bl b=>
   rw[e]at p1
   refine⟨b,wU e r1 I1.sh,?_⟩
   cases b with
   |true=>exact vx (hb Av G S₀ ρ σ S1 H1 Q I1 p1)
   |false=>exact uV (p1 _ S1 H1 (aI.refl I1.sh) i0)
 |_=>rw[e]at p1;exact p1.elim
theorem zD{mc:af->OT}{ma mb:af->OE}(hc:JT K cls W tc mc)(ha:JE K cls W ta ma)(hb:JE K cls W tb mb):JE K cls W (tIf tc ta tb) (x8 mc ma mb):=by
 intro Av G S₀ ρ σ S H Q I p
 refine hc.go I p fun b S1 H1 I1 w1 p1=>?_
 cases b with
 |true=>exact vx (ha Av G S₀ ρ σ S1 H1 Q I1 p1)
 |false=>exact uV (hb Av G S₀ ρ σ S1 H1 Q I1 p1)
theorem aF{ma mb:af->OS}(ha:JS K cls W ta ma)(hb:JS K cls W tb mb):JS K cls W (As ta tb) (bf ma mb):=by
 intro Av G S₀ ρ σ S H D I p;refine ha Av G S₀ ρ σ S H _ I ?_;unfold bf at p
 cases e:ma ρ with
 |nx ρ'=>rw[e]at p;exact fun σ' S' H' I' s'=>hb Av G S₀ ρ' σ' S' H' D I' (p.back s')
 |bk ρ'=>rw[e]at p;exact p
 |ct ρ'=>rw[e]at p;exact p
 |rt ρ' r=>rw[e]at p;exact p
 |exc ρ' c fs=>rw[e]at p;exact p
 |bad=>rw[e]at p;exact p
theorem bh:JS K cls W xc bU:=fun Av G S₀ ρ σ S H D I p=>p σ S H I (ay.refl _)
theorem bN{me:af->OE}(he:JE K cls W te me):JS K cls W (vO te (ie i)) (cU i me):=by
 intro Av G S₀ ρ σ S H D I p
 refine he.goS I p fun r v S1 H1 I1 w1 r1 p1=>?_
 show D.nx (σ.set i (some v)) H1
 cases r with
 |sh x=>exact p1 _ S1 H1 (I1.xg r1) (ay.refl _)
 |fr xs=>exact p1 _ S1 H1 (I.DA w1 r1) (ay.refl _)
 |al xs=>exact p1.elim
theorem cf{mc:af->OT}{ma mb:af->OS}(hc:JT K cls W tc mc)(ha:JS K cls W ta ma)(hb:JS K cls W tb mb):JS K cls W (Cs tc ta tb) (bW mc ma mb):=by
 intro Av G S₀ ρ σ S H D I p
 refine hc.goS I p fun b S1 H1 I1 w1 p1=>?_
 cases b with
 |true=>exact vx (ha Av G S₀ ρ σ S1 H1 D I1 p1)
 |false=>exact uV (hb Av G S₀ ρ σ S1 H1 D I1 p1)
theorem ba{me:af->OE}(he:JE K cls W te me):JS K cls W (yl te) (b4 me):=by
 intro Av G S₀ ρ σ S H D I p
 refine he.goS I p fun r v S1 H1 I1 w1 r1 p1=>?_
 cases r with
 |sh x=>exact p1 v σ S1 H1 I1 (ay.refl _) r1
 |fr xs=>exact p1 v σ S1 H1 I1 (ay.refl _) (r1.back I.gh)
 |al xs=>exact p1.elim
theorem jn:JS K cls W (yl (tm i)) (gX i):=by
 intro Av G S₀ ρ σ S H D I p;unfold gX at p;split at p
 . rename_i x e;obtain⟨v,e1,r⟩:=I.good i _ e
   exact⟨v,e1,p v σ S H I (ay.refl _) r⟩
 . rename_i xs e;obtain⟨v,e1,a,vs,e2,h1,h2,h3,h4⟩:=I.good i _ e
   exact⟨v,e1,p v σ S H I.drop (ay.refl _) ⟨a,vs,e2,h1,h2,h3,h4⟩⟩
 . exact p.elim
theorem vC{me:af->OE}(he:JE K cls W te me):JS K cls W (lM (tBM K "list" t7 (tm i) (eA te iC))) (kn i me):=by
 intro Av G S₀ ρ σ S H D I p;unfold kn at p;split at p
 . rename_i xs e;obtain⟨v,e1,a,vs,rfl,h1,h2,h3,h4⟩:=I.good i _ e
   refine⟨_,e1,.inl ⟨rfl,_,SqL.new h3⟩,?_⟩
   refine he.goS I p fun r u S1 H1 I1 w1 r1 p1=>?_
   cases r with
   | fr ys=>
     dsimp only at p1
     split at p1
     . rename_i hl;obtain⟨b,us,rfl,k1,k2,k3,k4⟩:=r1
       refine⟨a,b,vs,us,rfl,rfl,w1.g _ _ h3,k3,by rw[h4.length,k4.length];exact hl,?_⟩
       exact p1 σ S1 _ (I1.mut e e1 ((h4.mono w1.s).append k4)) (ay.refl _)
     . exact p1.elim
   |sh x=>exact p1.elim
   |al ys=>exact p1.elim
 . exact p.elim
theorem vf{mb:af->OS}{D:Ends}{N:St->Hp->Prop}(hb:JS K cls W tb mb)(I:SR K cls Av G S₀ ρ σ S H)(hx:Rep K S x v)
  (p:fV K cls W Av G S₀ S D (fM i mb (x ::xs) ρ)) (hN:∀ ρ' σ' S' H',SR K cls Av G S₀ ρ' σ' S' H'->ay S S'->fV K cls W Av G S₀ S' D (fM i mb xs ρ')->N σ' H'):
  ie i v σ H fun σ2 H2=>tb { D with nx:=N,ct:=N,bk:=D.nx } σ2 H2:=by
 refine hb Av G S₀ _ _ S H _ (I.xg hx) ?_;rw[mW]at p
 cases e:mb (ρ.set i (some (.sh x)))with
 |nx ρ'=>rw[e]at p;exact fun σ' S' H' I' s'=>hN ρ' σ' S' H' I' s' (p.back s')
 |ct ρ'=>rw[e]at p;exact fun σ' S' H' I' s'=>hN ρ' σ' S' H' I' s' (p.back s')
 |bk ρ'=>rw[e]at p;exact p
 |rt ρ' r=>rw[e]at p;exact p
 |exc ρ' c fs=>rw[e]at p;exact p
 |bad=>rw[e]at p;exact p
theorem qQ(h:k<n):(de n).drop k=.int (k:Int) ::(de n).drop (k+1):=by
 have hk:k<(de n).length:=by unfold de;simpa using h
 rw[List.drop_eq_getElem_cons hk]
 congr 1
 simp[de]
theorem ug{me:af->OE}{mb:af->OS}(he:JE K cls W te me)(hb:JS K cls W tb mb):JS K cls W (Ct (wx (eA te iC)) (ie i) tb) (kB i me mb):=by
 intro Av G S₀ ρ σ S H D I p
 refine he.goS I p fun r v S1 H1 I1 w1 r1 p1=>?_
 cases e:r.pv with
 | int j=>
   rw[e]at p1
   have hv:v=.int j:=by have:=r1.rd I1.sh;rw[e]at this;exact ck this
   subst hv
   dsimp only at p1
   split at p1
   . rename_i hj
     refine⟨j,rfl,hj.1,hj.2,?_⟩
     refine vp (n:=j.toNat) (fun k σ' H'=>∃ ρ' S',SR K cls Av G S₀ ρ' σ' S' H' /\ ay S1 S' /\ fV K cls W Av G S₀ S' D (fM i mb ((de j.toNat).drop k) ρ'))
      ⟨ρ,S1,I1,ay.refl _,p1⟩ ?_ ?_
     . rintro k σ' H' hk ⟨ρ',S',I',s',p'⟩
       rw[qQ hk]at p'
       refine vf hb I' ?_ p' fun ρ2 σ2 S3 H3 I3 s3 p3=>⟨ρ2,S3,I3,s'.trans s3,p3⟩
       unfold Rep;rw[Int.zero_add]
     . rintro σ' H' ⟨ρ',S',I',s',p'⟩
       rw[List.drop_of_length_le (by unfold de;simp)]at p';exact p' σ' S' H' I' (ay.refl _)
   . exact p1.elim
 |_=>rw[e]at p1;exact p1.elim
theorem nz{mc:af->OT}{mb:af->OS}(hc:JT K cls W tc mc)(hb:JS K cls W tb mb):JS K cls W (sT tc tb) (bR mc mb n):=by
 intro Av G S₀ ρ σ S H D I p
 refine⟨fun m σ' H'=>∃ ρ' S',SR K cls Av G S₀ ρ' σ' S' H' /\ ay S S' /\ fV K cls W Av G S₀ S' D (bR mc mb m ρ'),⟨n,ρ,S,I,ay.refl _,p⟩,?_⟩
 rintro m σ1 H1 ⟨ρ1,S1,I1,s1,p1⟩
 cases m with
 |zero=>exact p1.elim
 | succ m=>
   unfold bR at p1
   refine hc.goS I1 p1 fun b S2 H2 I2 w2 p2=>?_
   cases b with
   |false=>exact uV (p2 σ1 S2 H2 I2 (ay.refl _))
   | true=>
     refine vx ⟨fun σ' H'=>∃ ρ' S',SR K cls Av G S₀ ρ' σ' S' H' /\ ay S S' /\ fV K cls W Av G S₀ S' D (bR mc mb m ρ'),fun σ' H' h=>⟨m,Nat.lt_succ_self m,h⟩,?_⟩;refine hb Av G S₀ ρ1 σ1 S2 H2 _ I2 ?_;simp only[if_true]at p2
     cases e:mb ρ1 with
     |nx ρ'=>rw[e]at p2;exact fun σ' S' H' I' s'=>⟨ρ',S',I',(s1.trans w2.s).trans s',p2.back s'⟩
     |ct ρ'=>rw[e]at p2;exact fun σ' S' H' I' s'=>⟨ρ',S',I',(s1.trans w2.s).trans s',p2.back s'⟩
     |bk ρ'=>rw[e]at p2;exact p2
     |rt r=>rw[e]at p2;exact p2
     |exc ρ' c fs=>rw[e]at p2;exact p2
     |bad=>rw[e]at p2;exact p2
end
section
variable{K:PySem.W.Frag}{cls:String->Option Addr}{W:XW}{Av G S₀ S S' H H' B B':Hp}{ρ:af}{σ:St}{Q:VK}
noncomputable def wb:V->Option Int
 |.int i=>some i
 |_=>none
noncomputable def JO(K:PySem.W.Frag)(cls:String->Option Addr)(W:XW)(to:TO)(m:af->OE):Prop:=∀ Av G S₀ ρ σ S H (Q:Option Int->Hp->Prop),SR K cls Av G S₀ ρ σ S H ->
 gS K cls W σ S H (fun v H'=>Q (wb v) H') (m ρ)->to σ H Q
theorem fh:JO K cls W ql (mC .non):=fun Av G S₀ ρ σ S H Q I p=>p .non S H (aI.refl I.sh) (by show Rep K S _ _;unfold Rep;rfl)
theorem fi{m:af->OE}(h:JE K cls W te m):JO K cls W (xf te) (ez m):=by
 intro Av G S₀ ρ σ S H Q I p
 refine h.go I p fun r v S1 H1 I1 w1 r1 p1=>?_
 cases e:r.pv with
 | int i=>
   rw[e]at p1
   have hv:v=.int i:=by have:=r1.rd I1.sh;rw[e]at this;exact ck this
   exact⟨i,hv,p1 (.int i) S1 H1 (aI.refl I1.sh) (by show Rep K S1 _ _;unfold Rep;rfl)⟩
 |_=>rw[e]at p1;exact p1.elim
theorem JO.go{m:af->OE}{f:RV->OE}{Q':Option Int->Hp->Prop}(h:JO K cls W to m)(I:SR K cls Av G S₀ ρ σ S H)(p:gS K cls W σ S H Q ((m ρ).bind f))
  (k:∀ r v S1 H1,SR K cls Av G S₀ ρ σ S1 H1->aI S H S1 H1->gN K H S1 H1 r v->gS K cls W σ S1 H1 Q (f r)->Q' (wb v) H1):to σ H Q':=by
 refine h Av G S₀ ρ σ S H Q' I ?_
 cases e:m ρ with
 |ok r=>rw[e]at p;exact fun v S1 H1 w r1=>k r v S1 H1 (I.grow w) w r1 (p.back w)
 |exc c fs=>rw[e]at p;exact p
 |bad=>rw[e]at p;exact p
theorem part_of(h:RdV K S H x v):wb v=iM x:=by
 cases x with
 |int i=>rw[ck h];rfl
 |non=>rw[eD h];rfl
 |bl b=>rw[gj h];rfl
 |str b=>rw[fD h];rfl
 |lst xs=>obtain⟨p,vs,rfl,_⟩:=dE h;rfl
 |tup xs=>obtain⟨p,vs,rfl,_⟩:=dr h;rfl
theorem aV.cut(h:aV K S xs vs)(lo hi:Option Int):aV K S (p8 xs lo hi) (lY vs lo hi):=by
 have es:∀ n d o,vt n d o=HT.sIx n d o:=fun n d o=>by cases o<;>rfl
 unfold p8 lY;simp only[es];rw[h.length]
 exact(h.drop _).take _
theorem join_some{α:Type}{o:Option (Option α)}{s:α}(h:o.join=some s):o=some (some s):=by
 cases o with
 |none=>cases h
 | some x=>cases x with
   |none=>cases h
   |some y=>rw[show y=s from Option.some.inj h]
theorem zt{α:Type}{l:List (Option α)}{ι:List Nat}{j:Nat}{s:α}(h:(ι.map fun i=>(l[i]?).join)[j]?=some (some s)):∃ i,ι[j]?=some i /\ l[i]?=some (some s):=by
 rw[List.getElem?_map]at h
 cases e:ι[j]? with
 |none=>rw[e]at h;cases h
 |some i=>rw[e]at h;exact⟨i,rfl,join_some (Option.some.inj h)⟩
noncomputable def zT(ι:List Nat)(Av:Hp):Hp:=fun j=>match ι[j]? with
 |some i=>Av i
 |none=>none
noncomputable def rV(ι:List Nat)(F:Nat->List Addr):Nat->List Addr:=fun j=>match ι[j]? with
 |some i=>F i
 |none=>[]
theorem lX.at(h:lX K cls Av G S H i s v fp)(e:Av' j=Av i):lX K cls Av' G S H j s v fp:=by
 cases s with
 |sh x=>exact h
 |ow xs=>exact h
 |ex c fs=>exact h
 |tr io t=>exact⟨h.1,h.2.1,h.2.2.1,fun z=>by rw[e];exact h.2.2.2 z⟩
 |bo t=>exact h
theorem SR.pick{ι:List Nat}{x:PV}{v:V}(I:SR K cls Av G S₀ ρ σ S H)(hι:ι.Nodup)(hx:Rep K S x v):SR K cls (zT ι Av) G S₀ (eV ι ρ++[some (.sh x)]) (L2.E.pick ι σ++[some v]) S H:=by
 obtain⟨F,J⟩:=I
 have hl:(eV ι ρ).length=(L2.E.pick ι σ).length:=by unfold eV L2.E.pick;simp
 have hp:(eV ι ρ).length=ι.length:=by unfold eV;simp
 refine⟨rV ι F,J.gh,J.s0,J.sh,J.new,fun j s e=>?_,fun j k a h1 h2=>?_,fun j a h=>?_,by unfold eV L2.E.pick;simp⟩
 . by_cases hj:j<(eV ι ρ).length
   . rw[List.getElem?_append_left hj]at e;obtain⟨i,e1,e2⟩:=zt e;obtain⟨u,e3,r⟩:=J.own i s e2
     refine⟨u,?_,?_⟩
     . rw[List.getElem?_append_left (by rw[<- hl];exact hj)];unfold L2.E.pick;rw[List.getElem?_map,e1];show some (σ[i]?).join=_;rw[e3];rfl
     . unfold rV;rw[e1];exact r.at (by unfold zT;rw[e1])
   . have hj':(eV ι ρ).length<=j:=Nat.le_of_not_lt hj
     rw[List.getElem?_append_right hj']at e
     have h0:j - (eV ι ρ).length=0:=by
      by_cases h:j - (eV ι ρ).length=0
      . exact h
      . rw[List.getElem?_eq_none (by simp;omega)]at e;cases e
     rw[h0]at e;cases e
     refine⟨v,?_,?_,hx⟩
     . rw[List.getElem?_append_right (by rw[<- hl];exact hj'),<- hl,h0];rfl
     . unfold rV;rw[List.getElem?_eq_none (by rw[<- hp];exact hj')]
 . unfold rV at h1 h2
   cases e1:ι[j]? with
   |none=>rw[e1]at h1;cases h1
   | some i=>
     cases e2:ι[k]? with
     |none=>rw[e2]at h2;cases h2
     | some i'=>
       rw[e1]at h1;rw[e2]at h2;have z:=J.apart i i' a h1 h2;subst z;obtain⟨ha,ea⟩:=List.getElem?_eq_some_iff.mp e1;obtain⟨hb,eb⟩:=List.getElem?_eq_some_iff.mp e2
       exact(List.getElem_inj hι).mp (ea.trans eb.symm)
 . unfold rV at h
   cases e1:ι[j]? with
   |none=>rw[e1]at h;cases h
   |some i=>rw[e1]at h;exact J.live i a h
theorem xl{me:af->OE}(h:bC me ρ (x ::xs)=.ok ys):∃ r y zs,me (ρ++[some (.sh x)])=.ok r /\ kC r=some y /\ bC me ρ xs=.ok zs /\ ys=y ::zs:=by
 unfold bC at h
 cases e:me (ρ++[some (.sh x)])with
 | ok r=>
   rw[e]at h;simp only[OE.cD]at h
   cases e2:kC r with
   |none=>rw[e2]at h;cases h
   | some y=>
     rw[e2]at h
     dsimp only at h
     cases e3:bC me ρ xs with
     |ok zs=>rw[e3]at h;cases h;exact⟨r,y,zs,rfl,e2,rfl,rfl⟩
     |exc c fs=>rw[e3]at h;cases h
     |bad=>rw[e3]at h;cases h
 |exc c fs=>rw[e]at h;cases h
 |bad=>rw[e]at h;cases h
theorem oC{J:It}{ι:List Nat}{me:af->OE}{xs ys:List PV}(hι:ι.Nodup)(he:JE K cls (fun _ _ _ _=>False) te me)(I:SR K cls Av G S₀ ρ σ S H)(hy:bC me (eV ι ρ) xs=.ok ys)(hl:ys.length<=lim)
  (go:∀ k H' x,ay H H'->xs[k]?=some x->J.go k H' /\ ∀ v H2,J.yld k H' v H2->H2=H' /\ Rep K S x v) (stop:∀ H',ay H H'->J.stop xs.length H')
  (hQ:∀ D S' H',aI S H S' H'->H D=none->S' D=none->(∃ us,H' D=some (.lst us) /\ aV K S' ys us)->Q (.ref D) H'):
  ∀ D,H D=none->∃ W:Nat->Nat->List V->Hp->Prop,(∃ m,W 0 m [] (upd H D (.lst []))) /\ ∀ i m us H',W i m us H' ->
    H' D=some (.lst us) /\ ((J.stop i H' /\ Q (.ref D) H') \/ (J.go i H' /\ ∀ x H2,J.yld i H' x H2->te (L2.E.pick ι σ++[some x]) H2 fun y H3=>H3 D=some (.lst us) /\ us.length<sizeLine /\ ∃ m',m'<m /\ W (i+1) m' (us++[y]) (upd H3 D (.lst (us++[y]))))):=by
 intro D nD
 refine⟨fun k m us H'=>m+k=xs.length /\ H' D=some (.lst us) /\ ∃ S' zs ws,ay S S' /\ ay H H' /\ ay S' H' /\ (∀ b,S' b≠none->S b≠none \/ (H b=none /\ b≠D)) /\ aV K S' zs us /\ bC me (eV ι ρ) (xs.drop k)=.ok ws /\ ys=zs++ws,
  ⟨xs.length,rfl,aY,S,[],ys,ay.refl _,ay.new nD,I.sh.trans (ay.new nD),fun b z=>.inl z,.nil,hy,rfl⟩,?_⟩
 rintro k m us H' ⟨hm,hD,S',zs,ws,s1,g1,sh1,n1,r1,e1,rfl⟩
 refine⟨hD,?_⟩
 have hSD:S' D=none:=by
  cases q:S' D with
  |none=>rfl
  | some o=>
    rcases n1 D (by rw[q];simp)with z|⟨_,z⟩
    . exact absurd (I.sh.free nD) z
    . exact absurd rfl z
 by_cases hk:k<xs.length
 . refine .inr ?_
   have hx:xs[k]?=some xs[k]:=by simp[hk]
   obtain⟨hgo,hyld⟩:=go k H' xs[k] g1 hx
   refine⟨hgo,fun v H2 hv=>?_⟩
   obtain⟨rfl,rv⟩:=hyld v H2 hv;rw[List.drop_eq_getElem_cons hk]at e1;obtain⟨r,y,zs',em,es,e2,rfl⟩:=xl e1
   have I1:SR K cls Av G S₀ ρ σ S' H2:=I.grow ⟨s1,g1,sh1,fun b z=>by
    rcases n1 b z with z|⟨z,_⟩
    . exact .inl z
    . exact .inr z⟩
   refine he _ G S₀ _ _ S' H2 _ (I1.pick hι (Rep.mono s1 rv)) ?_;rw[em];intro u S2 H3 w2 r2;obtain⟨S3,w3,s3,ru⟩:=r2.share w2 es
   have hl2:(zs++y ::zs').length<=lim:=hl
   have hSD3:S3 D=none:=by
    cases q:S3 D with
    |none=>rfl
    | some o=>
      rcases w3.new D (by rw[q];simp)with z|z
      . exact absurd hSD z
      . rw[hD]at z;cases z
   refine⟨w3.g _ _ hD,?_,m - 1,by omega,by omega,aY,S3,zs++[y],zs',s1.trans w3.s,(g1.trans w3.g).upd nD,w3.sh.upd hSD3,fun b z=>?_,(r1.mono w3.s).append (.cons ru .nil),e2,by simp⟩
   . rw[r1.length,<- CI];rw[List.length_append,List.length_cons]at hl2;omega
   . rcases w3.new b z with z|z
     . exact n1 b z
     . refine .inr ⟨g1.free z,fun e=>?_⟩;rw[e,hD]at z;cases z
 . have hk':k=xs.length:=by omega
   subst hk';refine .inl ⟨stop H' g1,?_⟩;rw[List.drop_length]at e1;cases e1
   exact hQ D S' H' ⟨s1,g1,sh1,fun b z=>by
    rcases n1 b z with z|⟨z,_⟩
    . exact .inl z
    . exact .inr z⟩ nD hSD ⟨us,hD,by rw[List.append_nil];exact r1⟩
theorem xk{ml me:af->OE}{ι:List Nat}(hι:ι.Nodup)(hl:JE K cls W tl ml)(he:JE K cls (fun _ _ _ _=>False) te me):JE K cls W (uH (xo K tl) ι te) (m6 ml ι me):=by
 intro Av G S₀ ρ σ S H Q I p
 refine hl.go I p fun r v S1 H1 I1 w1 r1 p1=>?_
 have ra:=r1.rd I1.sh
 cases e:r.pv with
 | lst xs=>
   rw[e]at p1 ra;obtain⟨a,vs,rfl,hq,hr⟩:=dE ra
   refine⟨a,rfl,⟨vs,hq⟩,?_⟩
   dsimp only at p1
   cases em:bC me (eV ι ρ) xs with
   |exc c fs=>rw[em]at p1;exact p1.elim
   |bad=>rw[em]at p1;exact p1.elim
   | ok ys=>
     rw[em]at p1;simp only[noX]at p1;split at p1
     . rename_i hlen
       refine oC hι he I1 em hlen (fun k H' x g hx=>?_) (fun H' g=>⟨vs,ay.seq g hq,by rw[hr.length];exact Nat.le_refl _⟩) fun D S' H' w nD sD ⟨us,hD,rr⟩=>p1 (.ref D) S' H' w ⟨D,us,rfl,nD,sD,hD,rr⟩
       obtain⟨u,hu,ru⟩:=hr.get hx
       refine⟨⟨vs,u,ay.seq g hq,hu⟩,?_⟩
       rintro v' H2 ⟨rfl,hv⟩
       have:=hv vs (ay.seq g hq);rw[hu]at this;cases this
       exact⟨rfl,ru⟩
     . exact p1.elim
 |_=>rw[e]at p1;exact p1.elim
theorem aV.begin(h:aV K S xs vs)(N:List Str)(i:Nat)(s:Sl)(e:(jg N.length xs)[i]?=some (some s)):∃ x v,s=.sh x /\ (L2.start N vs)[i]?=some (some v) /\ Rep K S x v:=by
 unfold jg at e
 by_cases hi:i<xs.length
 . rw[List.getElem?_append_left (by simpa using hi),List.getElem?_map]at e
   have hx:xs[i]?=some xs[i]:=by simp[hi]
   rw[hx]at e;cases e;obtain⟨v,hv,r⟩:=h.get hx
   refine⟨_,v,rfl,?_,r⟩
   unfold L2.start;rw[List.getElem?_append_left (by rw[List.length_map,h.length];exact hi),List.getElem?_map,hv];rfl
 . rw[List.getElem?_append_right (by simpa using hi)]at e;rw[List.getElem?_replicate]at e
   split at e<;>cases e
theorem EK{P:Program}{w:World}{mg:Str->Option Value}{base:Heap}{x qual:Str}{st:Stmt}{f:Addr}{fd:FuncData}{N ps:List Str}{k:Nat}{m:af->OS}(F:Fun K x qual st f fd)(Sc:bu N ps (aD st))
  (hbody:∀(cdv:Value) (A:Around) (outer:List Env) (s:Shared) (H:Hp) (E:XK),fF k (A.deeper (envOfC qual (aD st) s.heap.objs.size f cdv)) ->
    ∃ t,PSs (lG (CXE P w) P w K mg base N qual (aD st) f cdv A outer s H E) (cV st) t /\ JS K cls (fun C a _ H=>∀ H',ay H H'->E C a H') t m):cO P w K mg base (CXE P w) (k+1) f fd ps (spP K cls (fnP ps.length N.length m)):=by
 refine okX F Sc (fun vs H Q E h=>?_) fun cdv A outer s H vs Q E hr h=>?_
 . obtain⟨S,xs,_,r,q⟩:=h;unfold fnP at q;split at q
   . rw[r.length];assumption
   . exact q.elim
 . obtain⟨S,xs,sS,r,q⟩:=h;unfold fnP at q;split at q
   . rename_i hl;obtain⟨t,ht,J⟩:=hbody cdv A outer s H E hr
     refine⟨t,ht,?_⟩
     refine J (fun _=>none) H S (jg N.length xs) (start N vs) S H _ ⟨fun _=>[],ay.refl _,ay.refl _,sS,fun _ z=>.inl z,fun i s e=>?_,fun i j a h=>(nomatch h),fun i a h=>(nomatch h),?_⟩ ?_
     . obtain⟨x,v,rfl,e1,rx⟩:=r.begin N i s e
       exact⟨v,e1,rfl,rx⟩
     . unfold jg L2.start;simp[r.length]
     . cases e:m (jg N.length xs)with
       |nx ρ'=>rw[e]at q;exact fun σ' S' H' I' s'=>q .non S' H' ⟨I'.s0,I'.gh,I'.sh,I'.new⟩ (by show Rep K S' _ _;unfold Rep;rfl)
       |bk ρ'=>rw[e]at q;exact q.elim
       |ct ρ'=>rw[e]at q;exact q.elim
       |bad=>rw[e]at q;exact q.elim
       | rt ρ' r=>
         rw[e]at q
         cases r with
         |al ys=>exact q.elim
         |sh y=>exact fun v σ' S' H' b' s' rr=>q v S' H' ⟨b'.s0,b'.gh,b'.sh,b'.new⟩ rr
         |fr ys=>exact fun v σ' S' H' b' s' rr=>q v S' H' ⟨b'.s0,b'.gh,b'.sh,b'.new⟩ rr
       | exc ρ' c fs=>
         rw[e]at q
         exact fun a C σ' S' H' I' s' x H2 g2=>q a C S' H2 ⟨I'.s0,I'.gh.trans g2,I'.sh.trans g2,I'.new⟩ (x.mono (ay.refl _) g2)
   . exact q.elim
noncomputable def qe(K:PySem.W.Frag):Sp:=fun vs H Q _=>∃(a:Addr) (ns:List Int),vs=[.ref a] /\ SqL K H a (ns.map V.int) /\ ns.length<=63 /\ ∀ H',Q (.bl true) H'
theorem yQ{f:List PV->OE}(h:∀ ns:List Int,ns.length<=63->f [.lst (ns.map .int)]=.ok (.sh (.bl true)))(vs:List V)(H:Hp)(Q:VK)(E:XK)(q:qe K vs H Q E):spP K cls f vs H Q E:=by
 obtain⟨a,ns,rfl,hS,hl,q⟩:=q
 refine⟨H,[.lst (ns.map .int)],ay.refl _,.cons (by unfold Rep;exact⟨a,_,rfl,hS,aV.ints⟩) .nil,?_⟩
 rw[h ns hl];intro v S' H' w r
 have:v=.bl true:=by have r':Rep K S' (.bl true) v:=r;unfold Rep at r';exact r'
 subst this;exact q H'
end
section
variable{K:PySem.W.Frag}{cls:String->Option Addr}{W:XW}{Av G S₀ S S' H H' B B':Hp}{ρ:af}{σ:St}{Q:VK}
theorem y9{i:Nat}{te:TE}{me:af->OE}{f:Int->Int->Int}(he:JE K cls W te me):JS K cls W (zm i te (ipI f)) (u9 i (gI (fun _ _=>true) fun i j=>.int (f i j)) me):=by
 intro Av G S₀ ρ σ S H D I p;unfold u9 at p;split at p
 . rename_i x e;obtain⟨v,e1,r⟩:=I.good i _ e
   refine⟨v,e1,he.goS I p fun rr u S1 H1 I1 w1 r1 p1=>?_⟩
   have ra:=r1.rd I1.sh
   cases x with
   | int a=>
     cases eb:rr.pv with
     | int b=>
       rw[eb]at p1 ra
       have r':Rep K S (.int a) v:=r
       unfold Rep at r';subst r'
       exact⟨a,b,rfl,ck ra,p1 _ S1 H1 (I1.xg (by unfold Rep;rfl)) (ay.refl _)⟩
     |_=>rw[eb]at p1;exact p1.elim
   |_=>cases eb:rr.pv<;>(rw[eb]at p1;exact p1.elim)
 . exact p.elim
theorem tM{i:Nat}{te:TE}{me:af->OE}(he:JE K cls W te me):JS K cls W (zm i te (ipI fun i j=>i+j)) (u9 i gE me):=y9 he
theorem uW{x:PV}{v:V}(h:RdV K S H x v):decide (v=.non)=jU x:=by
 cases x with
 |non=>rw[eD h];rfl
 |bl b=>rw[gj h];rfl
 |int b=>rw[ck h];rfl
 |str b=>rw[fD h];rfl
 |lst xs=>obtain⟨p,vs,rfl,_⟩:=dE h;rfl
 |tup xs=>obtain⟨p,vs,rfl,_⟩:=dr h;rfl
theorem BJ:JR K (fun x y H Q=>y=.non /\ Q (.bl (decide (x=.non))) H) yr:=by
 intro S H x y v u rr Q I hx hy e k;unfold yr at e;split at e
 . cases e
   exact⟨eD hy,k _ S H (aI.refl I) (by rw[uW hx];exact i0)⟩
 . cases e
end
end L2.P
namespace L2
open PySem PySem.Spec PyProof.Rows
structure QE(X:Cx)(e:Expr)(t:TE):Prop where
 out:PE X e t
structure QA(X:Cx)(es:List Expr)(t:TA):Prop where
 out:PA X es t
structure QS(X:Cx)(st:Stmt)(t:TS):Prop where
 out:PS X st t
structure QSs(X:Cx)(st:List Stmt)(t:TS):Prop where
 out:PSs X st t
structure QT(X:Cx)(e:Expr)(t:TT):Prop where
 out:PT X e t
structure QW(X:Cx)(e:Expr)(t:TT):Prop where
 out:PW X e t
structure QI(X:Cx)(tg e:Expr)(t:TI):Prop where
 out:PI X tg e t
structure QG(X:Cx)(e:Expr)(t:TG):Prop where
 out:PG X e t
structure QO(X:Cx)(e:Option Expr)(t:TO):Prop where
 out:PO X e t
end L2
namespace L2
theorem qau(h:True:=by first|rfl|decide|exact .inl rfl|exact .inr rfl|exact .inr (.inl rfl)|exact .inr (.inr rfl)|assumption|(intro _;rfl)|with_unfolding_all rfl):True:=h
end L2
namespace L2.E
open PySem PySem.Spec PyProof.Rows L2
theorem fz:QE X (Expr.Constant (Const.bool b) j pos) (tC (V.bl b)):=⟨Dg ⟩
theorem aj:QE X (Expr.Constant (Const.int i) j pos) (tC (V.int i)):=⟨CG ⟩
theorem br:QE X (Expr.Constant (Const.str x) j pos) (tC (V.str x)):=⟨A6 ⟩
theorem kX:QE X (Expr.Constant Const.none j pos) (tC V.non):=⟨AO ⟩
theorem qv{X:Cx}(h1:Nat)(h4:autoParam (X.N[h1]?=some x) qau._auto_1)(h5:autoParam (Vis X.env.scope x) qau._auto_1)(h6:autoParam ((x==Str.ofString "__debug__")=false) qau._auto_1)(h7:autoParam ((x==Str.ofString "__classdict__")=false) qau._auto_1):QE X (Expr.Name x pos) (tm h1):=⟨pv h1 h4 h5 h6 h7⟩
theorem yj{X:Cx}(h5:Gl X x)(h6:X.mg x=none)(h7:bootBuiltins x=some u)(h8:RelV v u)(h9:autoParam (x≠Str.ofString "__name__") qau._auto_1)(h10:autoParam ((x==Str.ofString "__debug__")=false) qau._auto_1):QE X (Expr.Name x pos) (tC v):=⟨zo h5 h6 h7 h8 h9 h10⟩
theorem rD{r:V->Hp->VK->Prop}(h6:UnR X (unaryOp op) r)(h7:QE X a ta):QE X (Expr.UnaryOp op a pos) (tUn r ta):=⟨Du h6 h7.out⟩
theorem aK(h8:OpR X (binaryOp op) r)(h9:QE X a ta)(h10:QE X b tb):QE X (Expr.BinOp a op b pos) (tOp r ta tb):=⟨Dd h8 h9.out h10.out⟩
theorem jq(h8:OpR X (compareOp op) r)(h9:QE X a ta)(h10:QE X b tb)(h11:behindInMarks op b=false):QE X (Expr.Compare a [op] [b] pos) (tOp r ta tb):=⟨yB h8 h9.out h10.out h11⟩
theorem Bk(h5:QE X a t):QE X (Expr.BoolOp op [a] pos) t:=⟨Bv h5.out⟩
theorem Cz{X:Cx}{a:Expr}{b:Expr}{ta:TE}{tb:TE}{pos:Pos}{rest:List Expr}(h7:QE X a ta)(h8:QE X (Expr.BoolOp BoolOp.And (b ::rest) pos) tb):QE X (Expr.BoolOp BoolOp.And (a ::b ::rest) pos) (wY ta tb):=⟨CD h7.out h8.out⟩
theorem rp(h8:QT X c tA)(h9:QE X a ta)(h10:QE X b tb):QE X (Expr.IfExp c a b pos) (tIf tA ta tb):=⟨xi h8.out h9.out h10.out⟩
theorem fE(h4:QA X es t):QE X (Expr.List es pos) (x9 t):=⟨BG h4.out⟩
theorem aC(h5:QA X es t):QE X (Expr.Tuple es x1 pos) (A1 t):=⟨AN h5.out⟩
theorem dI{X:Cx}{e:Expr}{te:TE}{lo:Option Expr}{hi:Option Expr}{tl:TO}{th:TO}{pos:Pos}{p2:Pos}{r:V->Option Int->Option Int->Hp->VK->Prop}(h10:SlR X r)(h11:QE X e te)(h12:QO X lo tl)(h13:QO X hi th):QE X (Expr.Subscript e (Expr.Slice lo hi none p2) pos) (tSl r te tl th):=⟨xb h10 h11.out h12.out h13.out⟩
theorem DH(h7:IxR X r)(h8:QE X a ta)(h9:QE X b tb)(h10:pV b):QE X (Expr.Subscript a b pos) (tOp r ta tb):=⟨Dh h7 h8.out h9.out h10⟩
theorem gp{X:Cx}{cl:List (Str×Addr)}(h12:nV X scope cl M ι x)(h13:X.calm=true)(h14:QI X (Expr.Name x px) iter wi)(h15:∀(C:Addr) (s₀:Shared) (H₀:Hp) (ex:List Addr),QE (blk X scope cl (M++[x]) C s₀ H₀ ex) elt te)(h16:autoParam (∀(v:Value),foldedSetIterable iter X.env v=pure v) qau._auto_1):QE X (Expr.ListComp elt [Comprehension.mk (Expr.Name x px) iter [] 0] scope pos) (uH wi ι te):=⟨zj h12 h13 h14.out (fun z0 z1 z2 z3=>(h15 z0 z1 z2 z3).out) h16⟩
theorem fU{X:Cx}{x:Str}(h15:cO X.prog X.w X.K X.mg X.base (CXE X.prog X.w) k f fd ps sp)(h16:fF k X.A)(h17:Gl X x)(h18:X.mg x=some (Value.ref f))(h19:PySem.W.keepIn X.K (Value.ref f)=true)(h20:Binds X.K fd ps ds)(h21:Vals dvs ds)(h22:Thr X W)(h23:QA X (e ::es) t)(h24:autoParam ((x==Str.ofString "__debug__")=false) qau._auto_1)(h25:autoParam (starEach (e ::es) X.env=(false,eval e X.env) ::starEach es X.env) qau._auto_1)(h26:autoParam ((List.any (backTo pos (starEach es X.env)) fun x=>x.fst)=false) qau._auto_1):QE X (Expr.Call (Expr.Name x p) (e ::es) [] pos) (m9 sp dvs W t):=⟨wQ h15 h16 h17 h18 h19 h20 h21 h22 h23.out h24 h25 h26⟩
theorem jj{X:Cx}{x:Str}{p:Pos}{pos:Pos}{e:Expr}{es:List Expr}{t:TA}{id:String}{r:List V->Hp->VK->Prop}(h9:iG X (Value.builtin id) r)(h10:Gl X x)(h11:X.mg x=none)(h12:bootBuiltins x=some (Value.builtin id))(h13:QA X (e ::es) t)(h14:autoParam (x≠Str.ofString "__name__") qau._auto_1)(h15:autoParam ((x==Str.ofString "__debug__")=false) qau._auto_1)(h16:autoParam (starEach (e ::es) X.env=(false,eval e X.env) ::starEach es X.env) qau._auto_1)(h17:autoParam ((List.any (backTo pos (starEach es X.env)) fun x=>x.fst)=false) qau._auto_1):QE X (Expr.Call (Expr.Name x p) (e ::es) [] pos) (tCB r t):=⟨xY h9 h10 h11 h12 h13.out h14 h15 h16 h17⟩
theorem gR{X:Cx}{x:Str}{r:List V->Hp->VK->Prop}(h9:iG X (Value.type T) r)(h10:Gl X x)(h11:X.mg x=none)(h12:bootBuiltins x=some (Value.type T))(h13:QA X (e ::es) t)(h14:autoParam (x≠Str.ofString "__name__") qau._auto_1)(h15:autoParam ((x==Str.ofString "__debug__")=false) qau._auto_1)(h16:autoParam (starEach (e ::es) X.env=(false,eval e X.env) ::starEach es X.env) qau._auto_1)(h17:autoParam ((List.any (backTo pos (starEach es X.env)) fun x=>x.fst)=false) qau._auto_1):QE X (Expr.Call (Expr.Name x p) (e ::es) [] pos) (tCB r t):=⟨uZ h9 h10 h11 h12 h13.out h14 h15 h16 h17⟩
theorem zR{X:Cx}{o:Expr}{e:Expr}{es:List Expr}{to:TE}{t:TA}{name:Str}{apos:Pos}{cpos:Pos}{T:String}{id:String}{r:V->List V->Hp->VK->Prop}(h12:PlainAttrs T)(h13:Slot T name id)(h14:typeOf (Value.builtin id)=pure (Value.type "method_descriptor"))(h15:MtR X id r)(h16:QE X o to)(h17:QA X (e ::es) t)(h18:autoParam (attributeBase o name X.env (eval o X.env)=eval o X.env) qau._auto_1)(h19:autoParam ((((List.all (backTo cpos (starEach (e ::es) X.env)) fun x=>!x.fst)&&List.all (backToKw cpos (keywordEach [] X.env)) fun x=>Option.isSome x.fst)&&Decidable.decide ((List.length (e ::es)+List.length ([]:List Keyword)+if List.isEmpty ([]:List Keyword)=true then 0 else 1)<30))=true) qau._auto_1)(h20:autoParam ((apos.endLine==cpos.line)=true) qau._auto_1)(h21:autoParam (starEach (e ::es) X.env=(false,eval e X.env) ::starEach es X.env) qau._auto_1)(h22:autoParam ((List.any (backTo cpos (starEach es X.env)) fun x=>x.fst)=false) qau._auto_1):QE X (Expr.Call (Expr.Attribute o name apos) (e ::es) [] cpos) (tBM X.K T r to t):=⟨Dr h12 h13 h14 h15 h16.out h17.out h18 h19 h20 h21 h22⟩
theorem wR{X:Cx}{o:Expr}{to:TE}{name:Str}{apos:Pos}{cpos:Pos}{T:String}{id:String}{r:V->List V->Hp->VK->Prop}(h9:PlainAttrs T)(h10:Slot T name id)(h11:typeOf (Value.builtin id)=pure (Value.type "method_descriptor"))(h12:MtR X id r)(h13:QE X o to)(h14:autoParam (attributeBase o name X.env (eval o X.env)=eval o X.env) qau._auto_1)(h15:autoParam ((apos.endLine==cpos.line)=true) qau._auto_1):QE X (Expr.Call (Expr.Attribute o name apos) [] [] cpos) (AI X.K T r to):=⟨BE h9 h10 h11 h12 h13.out h14 h15⟩
theorem fm:QO X none ql:=⟨yq ⟩
theorem fj(h3:QE X e te):QO X (some e) (xf te):=⟨yh h3.out⟩
theorem aq:QA X [] iC:=⟨BW ⟩
theorem aa(h5:QE X e te)(h6:QA X es t)(h7:autoParam (isStar e=false) qau._auto_1):QA X (e ::es) (eA te t):=⟨wW h5.out h6.out h7⟩
theorem tY(h8:OpR X (compareOp op) r)(h9:QE X a ta)(h10:QE X b tb)(h11:behindInMarks op b=false):QT X (Expr.Compare a [op] [b] pos) (ui (tOp r ta tb)):=⟨yT h8 h9.out h10.out h11⟩
theorem wc(h4:QT X a tA):QT X (Expr.UnaryOp UnaryOp.Not a pos) (AM tA):=⟨CJ h4.out⟩
theorem dH{X:Cx}(h3:QE X a ta)(h4:∀(whole:Sem Value),
 isTrue a X.env whole=do
  let v <- whole
  standAt (Expr.pos a)
  holding [v] (truthy v)):QT X a fun σ H Q=>ta σ H fun x H'=>∃ k,vK X.K x H' k /\ Q k H':=⟨xC h3.out h4⟩
theorem kb(h3:QW X e t):QT X e t:=⟨PW.pt h3.out⟩
theorem mj(h4:QT X a tA):QW X (Expr.BoolOp BoolOp.And [a] pos) tA:=⟨yO h4.out⟩
theorem mV(h4:QT X a tA):QW X (Expr.BoolOp BoolOp.Or [a] pos) tA:=⟨BI h4.out⟩
theorem nG{X:Cx}{a:Expr}{b:Expr}{pos:Pos}{tA:TT}{tB':TT}{rest:List Expr}(h7:QT X a tA)(h8:QW X (Expr.BoolOp BoolOp.And (b ::rest) pos) tB'):QW X (Expr.BoolOp BoolOp.And (a ::b ::rest) pos) (AX tA tB'):=⟨CK h7.out h8.out⟩
theorem oK{X:Cx}{a:Expr}{b:Expr}{pos:Pos}{tA:TT}{tB':TT}{rest:List Expr}(h7:QT X a tA)(h8:QW X (Expr.BoolOp BoolOp.Or (b ::rest) pos) tB'):QW X (Expr.BoolOp BoolOp.Or (a ::b ::rest) pos) (tOr tA tB'):=⟨Ds h7.out h8.out⟩
theorem oy{X:Cx}(h6:Gl X (Str.ofString "range"))(h7:X.mg (Str.ofString "range")=none)(h8:QA X [a] ta)(h9:autoParam (starEach [a] X.env=[(false,eval a X.env)]) qau._auto_1):QI X tg (Expr.Call (Expr.Name (Str.ofString "range") p) [a] [] pos) (wx ta):=⟨vA h6 h7 h8.out h9⟩
theorem yH{X:Cx}(h4:QE X l tl):QI X tg l (xo X.K tl):=⟨y4 h4.out⟩
theorem jX{X:Cx}(h4:QE X l tl):QI X tg l (Bq X.K tl):=⟨B0 h4.out⟩
theorem B2{X:Cx}{pos:Pos}(h7:List.Nodup X.N)(h8:X.N[i]?=some x)(h9:Loc X.env.scope x)(h10:QE X e te)(h11:autoParam (swapsWith e (some (Expr.Name x pos')) pos.line X.env=pure false) qau._auto_1)(h12:autoParam (X.fn x=true \/ List.lookup x X.env.scope.names=some NameKind.local) qau._auto_1):QS X (Stmt.Assign [Expr.Name x pos'] e pos) (vO te (ie i)):=⟨Ce h7 h8 h9 h10.out h11 h12⟩
theorem CC{X:Cx}(h9:List.Nodup X.N)(h10:X.N[i]?=some x)(h11:Loc X.env.scope x)(h12:QE X e te)(h13:PIp X op ti)(h14:autoParam (X.fn x=true \/ List.lookup x X.env.scope.names=some NameKind.local) qau._auto_1):QS X (Stmt.AugAssign (Expr.Name x pos') op e pos) (zm i te ti):=⟨AS h9 h10 h11 h12.out h13 h14⟩
theorem cg(h8:QT X c tc)(h9:QSs X a t)(h10:QSs X b u):QS X (Stmt.If c a b pos) (Cs tc t u):=⟨C7 h8.out h9.out h10.out⟩
theorem aT(h4:QE X e te):QS X (Stmt.Return (some e) pos) (yl te):=⟨Cv h4.out⟩
theorem mm{X:Cx}{pos:Pos}(h4:QE X e te)(h5:autoParam (swapsWith e none pos.line X.env=pure false) qau._auto_1):QS X (Stmt.Expr e pos) (lM te):=⟨y2 h4.out h5⟩
theorem mI{X:Cx}(h6:PassesOwn (model X.prog X.w) X.A X.env X.xe)(h7:QT X c tc)(h8:QSs X body tb):QS X (Stmt.While c body [] pos) (sT tc tb):=⟨wj h6 h7.out h8.out⟩
theorem xR{X:Cx}(h8:PassesOwn (model X.prog X.w) X.A X.env X.xe)(h9:X.calm=true)(h10:QI X tg iter wi)(h11:QG X tg g)(h12:QSs X body tb)(h13:autoParam (∀(x:Value),foldedSetIterable iter X.env x=pure x) qau._auto_1):QS X (Stmt.For tg iter body [] pos) (Ct wi g tb):=⟨Br h8 h9 h10.out h11.out h12.out h13⟩
theorem uq{X:Cx}(h4:List.Nodup X.N)(h5:X.N[i]?=some x)(h6:Loc X.env.scope x)(h7:autoParam (X.fn x=true \/ List.lookup x X.env.scope.names=some NameKind.local) qau._auto_1):QG X (Expr.Name x pos) (ie i):=⟨yU h4 h5 h6 h7⟩
theorem bg:QSs X [] xc:=⟨yE ⟩
theorem aA{X:Cx}{st:Stmt}{t:TS}(h3:QS X st t):QSs X [st] t:=⟨yk h3.out⟩
theorem ax{X:Cx}{st:Stmt}{rest:List Stmt}{t:TS}{u:TS}(h5:QS X st t)(h6:QSs X rest u):QSs X (st ::rest) (As t u):=⟨xF h5.out h6.out⟩
end L2.E
namespace L2.P
open PySem PySem.Spec PyProof.Rows L2 L2.E
theorem iH{K:PySem.W.Frag}{cls:String->Option Addr}{P:Program}{w:World}{mg:Str->Option Value}{base:Heap}{x qual:Str}{st:Stmt}{f:Addr}{fd:FuncData}{N ps:List Str}{k:Nat}{m:af->OS}(F:Fun K x qual st f fd)(Sc:bu N ps (aD st))
  (hbody:∀(cdv:Value) (A:Around) (outer:List Env) (s:Shared) (H:Hp) (E:XK),fF k (A.deeper (envOfC qual (aD st) s.heap.objs.size f cdv)) ->
    ∃ t,QSs (lG (CXE P w) P w K mg base N qual (aD st) f cdv A outer s H E) (cV st) t /\ JS K cls (fun C a _ H=>∀ H',ay H H'->E C a H') t m):cO P w K mg base (CXE P w) (k+1) f fd ps (spP K cls (fnP ps.length N.length m)):=
 EK F Sc fun cdv A outer s H E hr=>let ⟨t,h1,h2⟩:=hbody cdv A outer s H E hr;⟨t,h1.out,h2⟩
end L2.P
namespace L2.E
open PySem PySem.Spec PyProof.Rows L2
section
variable{X:Cx}
theorem rn{x:V}{v:Value}{b:Bool}(r:RelV x v):(v==Value.bool b)=decide (x=.bl b):=by
 cases x<;>first
  |(cases r;cases b<;>rfl)
  |(obtain⟨t,rfl⟩:=r;cases b<;>rfl)
  |(rename_i c;cases r;cases c<;>cases b<;>rfl)
theorem mR{x:V}{v:Value}{b:Bool}(r:RelV x v):plainIs v (.bool b)=true:=by
 cases x<;>first
  |(cases r;rfl)
  |(obtain⟨t,rfl⟩:=r;rfl)
theorem pk:OpR X (compareOp .Is) (fun x y H Q=>∃ b,y=.bl b /\ Q (.bl (decide (x=.bl b))) H):=by
 intro pins s σ H x y v u Q I rx ry h;obtain⟨b,rfl,q⟩:=h;cases ry;refine wpAny_is_plain (mR rx) ?_;rw[rn rx]
 exact⟨.bl _,H,I,rfl,q⟩
theorem gQ:OpR X (compareOp .IsNot) (fun x y H Q=>∃ b,y=.bl b /\ Q (.bl (!decide (x=.bl b))) H):=by
 intro pins s σ H x y v u Q I rx ry h;obtain⟨b,rfl,q⟩:=h;cases ry;refine wpAny_isNot_plain (mR rx) ?_;rw[rn rx]
 exact⟨.bl _,H,I,rfl,q⟩
end
end L2.E
namespace L2.P
open PySem PySem.Spec PyProof.Rows L2 L2.E
section
variable{K:PySem.W.Frag}{S H:Hp}
theorem uB{x:PV}{v:V}{b:Bool}(h:RdV K S H x v):decide (v=.bl b)=lZ b x:=by
 cases x with
 |non=>rw[eD h];rfl
 |bl c=>rw[gj h];cases b<;>cases c<;>rfl
 |int c=>rw[ck h];rfl
 |str c=>rw[fD h];rfl
 |lst xs=>obtain⟨p,vs,rfl,_⟩:=dE h;rfl
 |tup xs=>obtain⟨p,vs,rfl,_⟩:=dr h;rfl
theorem pH:JR K (fun x y H Q=>∃ b,y=.bl b /\ Q (.bl (decide (x=.bl b))) H) sC:=by
 intro S H x y v u rr Q I hx hy e k;unfold sC at e;split at e
 . rename_i b;cases e
   exact⟨b,gj hy,k _ S H (aI.refl I) (by rw[uB hx];exact i0)⟩
 . cases e
theorem gH:JR K (fun x y H Q=>∃ b,y=.bl b /\ Q (.bl (!decide (x=.bl b))) H) gm:=by
 intro S H x y v u rr Q I hx hy e k;unfold gm at e;split at e
 . rename_i b;cases e
   exact⟨b,gj hy,k _ S H (aI.refl I) (by rw[uB hx];exact i0)⟩
 . cases e
end
end L2.P
namespace L2.E
open PySem PySem.Spec PyProof.Rows L2
section
variable{prog:Program}{w:World}{A:Around}{E:Value->Shared->Prop}{s:Shared}{K:PySem.W.Frag}{x C:Addr}{name:Str}{v:Value}
open PySem.W in
open PySem.W in
end
noncomputable def Dn(a C:Addr)(dx:Option Addr)(h:Heap):Prop:=∃ o t,h.get? a=some o /\ o.cls=.ref C /\ o.dict=dx /\ o.data=.fields #[.ref t,.none,.none,.none,.bool false,.none]
theorem Dn.exc{a C:Addr}{dx:Option Addr}{h:Heap}(x:Dn a C dx h):AH a C dx h:=let ⟨o,t,e,c,d,f⟩:=x;⟨o,_,e,c,d,f,rfl⟩
section
variable{prog:Program}{w:World}{A:Around}{E:Value->Shared->Prop}{s:Shared}{K:PySem.W.Frag}{x C:Addr}{name:Str}{v:Value}{tk:Tok}
open PySem.W in
end
section
variable{prog:Program}{w:World}{A:Around}{E:Value->Shared->Prop}{hh:Heap}{g:Array GenState}{d:Drawn}{t:Nat}{os:OsState}{K:PySem.W.Frag}{x C:Addr}{name:Str}{v:Value}{tk:Tok}
open PySem.W in
end
section
variable{prog:Program}{w:World}{A:Around}{E:Value->Shared->Prop}{s:Shared}{K:PySem.W.Frag}{x C:Addr}{name:Str}{v:Value}
open PySem.W in
end
section
variable{prog:Program}{w:World}{A:Around}{E:Value->Shared->Prop}{h:Heap}{g:Array GenState}{d:Drawn}{t:Nat}{os:OsState}{K:PySem.W.Frag}
variable{nm q:Str}{C N:Addr}{bs bm bmB:List Value}{hdct:Bool}{sn:List Str}{sub:List Value}{ab:Bool}{col:Option Bool}{dd:Option Addr}{k0 k1 k2 k3 k5:Option Value}{B newId initId:String}
open PySem.W in
open PySem.W in
end
end L2.E
namespace L2.P
open PySem PySem.Spec PyProof.Rows L2 L2.E
end L2.P
namespace L2.P
open PySem
inductive Stp where
 |ix (k:Nat)|fd (f:Str)
noncomputable def oS:List Str->List OV->Str->Option OV
 |k ::ks,t ::ts,f=>if k=f then some t else oS ks ts f
 |_,_,_=>none
noncomputable def v9:List Str->List OV->Str->OV->List OV
 |k ::ks,t ::ts,f,u=>if k=f then u ::ts else t ::v9 ks ts f u
 |_,ts,_,_=>ts
noncomputable def OV.at1:OV->Stp->Option OV
 |.ol ts,.ix k=>ts[k]?
 |.ob _ ks ts,.fd f=>oS ks ts f
 |_,_=>none
noncomputable def OV.xS:OV->Stp->OV->OV
 |.ol ts,.ix k,u=>.ol (ts.set k u)
 |.ob c ks ts,.fd f,u=>.ob c ks (v9 ks ts f u)
 |t,_,_=>t
noncomputable def OV.get:OV->List Stp->Option OV
 |t,[]=>some t
 |t,s ::π=>(t.at1 s).bind fun u=>u.get π
noncomputable def OV.put:OV->List Stp->OV->OV
 |_,[],u=>u
 | t,s ::π,u=>match t.at1 s with
   |some t'=>t.xS s (t'.put π u)
   |none=>t
noncomputable def slT:Sl->Option OV
 |.tr _ t=>some t
 |.bo t=>some t
 |_=>none
noncomputable def cI(i:Nat)(ρ:af):Option OV:=match ρ[i]? with
 |some (some s)=>slT s
 |_=>none
abbrev MP:=af->Option (List Stp)
noncomputable def aZ:MP:=fun _=>some []
noncomputable def pIx(i:Nat)(mp:MP)(mk:af->OE):MP:=fun ρ=>match cI i ρ with
 | some t=>(match mp ρ with
   | some π=>(match t.get π with
     | some (.ol ts)=>(match mk ρ with
       | .ok r=>(match r.pv with
         |.int k=>(ixP ts.length k).map fun j=>π++[.ix j]
         |_=>none)
       |_=>none)
     |_=>none)
   |none=>none)
 |none=>none
noncomputable def subAt(i:Nat)(mp:MP)(ρ:af):Option OV:=match cI i ρ with
 | some t=>(match mp ρ with
   |some π=>t.get π
   |none=>none)
 |none=>none
noncomputable def rA:List OV->Option (List PV)
 |[]=>some []
 |.sh x ::r=>(rA r).map (x ::·)
 |_ ::_=>none
@[simp] theorem u5(xs:List PV):rA (xs.map .sh)=some xs:=by
  induction xs with
  |nil=>rfl
  |cons x xs ih=>show(rA (xs.map .sh)).map (x ::·)=_;rw[ih];rfl
noncomputable def gF(i:Nat)(mp:MP):af->OE:=fun ρ=>match subAt i mp ρ with
 |some (.sh x)=>.ok (.sh x)
 | some (.ol ts)=>(match rA ts with
   |some xs=>.ok (.al xs)
   |none=>.bad)
 |_=>.bad
noncomputable def bP(i:Nat)(mp:MP):af->OT:=fun ρ=>match subAt i mp ρ with
 |some (.ol ts)=>.ok (!ts.isEmpty)
 |_=>.bad
noncomputable def lK(i:Nat)(mp:MP):af->OE:=fun ρ=>match subAt i mp ρ with
 |some (.ol ts)=>.ok (.sh (.int ts.length))
 |_=>.bad
inductive OD where
 |ok (t:OV)|exc (c:String) (fs:XF)|bad
inductive ODs where
 |ok (ts:List OV)|exc (c:String) (fs:XF)|bad
noncomputable def mD(me:af->OE):af->OD:=fun ρ=>match me ρ with
 |.ok (.sh x)=>.ok (.sh x)
 |.ok (.fr xs)=>.ok (.ol (xs.map .sh))
 |.ok (.al _)=>.bad
 |.exc c fs=>.exc c fs
 |.bad=>.bad
noncomputable def mDn:af->ODs:=fun _=>.ok []
noncomputable def mDc(md:af->OD)(mr:af->ODs):af->ODs:=fun ρ=>match md ρ with
 | .ok t=>(match mr ρ with
   |.ok ts=>.ok (t ::ts)
   |.exc c fs=>.exc c fs
   |.bad=>.bad)
 |.exc c fs=>.exc c fs
 |.bad=>.bad
noncomputable def mDl(mr:af->ODs):af->OD:=fun ρ=>match mr ρ with
 |.ok ts=>if ts.length<=lim then .ok (.ol ts)else .bad
 |.exc c fs=>.exc c fs
 |.bad=>.bad
noncomputable def jb(i:Nat)(md:af->OD):af->OS:=fun ρ=>match md ρ with
 |.ok t=>.nx (ρ.set i (some (.tr false t)))
 |.exc c fs=>.exc ρ c fs
 |.bad=>.bad
noncomputable def tJ(i:Nat)(mp:MP)(ρ:af)(k:OV->(OV->af)->OS):OS:=match ρ[i]? with
 | some (some (.tr io t))=>(match mp ρ with
   | some π=>(match t.get π with
     |some u=>k u fun u'=>ρ.set i (some (.tr io (t.put π u')))
     |none=>.bad)
   |none=>.bad)
 |_=>.bad
noncomputable def dM(i:Nat)(mp:MP)(md:af->OD):af->OS:=fun ρ=>tJ i mp ρ fun u put=>match u with
 | .ol ts=>(match md ρ with
   |.ok x=>if ts.length<lim then .nx (put (.ol (ts++[x])))else .bad
   |.exc c fs=>.exc ρ c fs
   |.bad=>.bad)
 |_=>.bad
inductive OX where
 |ok (ρ:af) (s:Sl)|exc (ρ:af) (c:String) (fs:XF)|bad
noncomputable def slO:OV->Sl
 |.sh x=>.sh x
 |t=>.tr false t
noncomputable def i9(i:Nat)(mp:MP):af->OX:=fun ρ=>match ρ[i]? with
 | some (some (.tr io t))=>(match mp ρ with
   | some π=>(match t.get π with
     | some (.ol ts)=>(match ts.getLast? with
       |some x=>.ok (ρ.set i (some (.tr io (t.put π (.ol ts.dropLast))))) (slO x)
       |none=>.bad)
     |_=>.bad)
   |none=>.bad)
 |_=>.bad
noncomputable def nio:Sl->Bool
 |.tr true _=>false
 |.bo _=>false
 |_=>true
noncomputable def fL(i:Nat)(m:af->OX):af->OS:=fun ρ=>match m ρ with
 |.ok ρ' s=>if nio s then .nx (ρ'.set i (some s))else .bad
 |.exc ρ' c fs=>.exc ρ' c fs
 |.bad=>.bad
noncomputable def dR(m:af->OX):af->OS:=fun ρ=>match m ρ with
 |.ok ρ' _=>.nx ρ'
 |.exc ρ' c fs=>.exc ρ' c fs
 |.bad=>.bad
inductive OI where
 |ok (x:PV) (outs:List (Option OV))|exc (c:String) (fs:XF) (outs:List (Option OV))|bad
inductive Arg where
 |e (me:af->OE)|t (i:Nat) (mp:MP)|b (i:Nat) (mp:MP)
noncomputable def kJ:Option Sl->Option OV
 |some (.tr true t)=>some t
 |_=>none
noncomputable def lW(np:Nat):OS->OI
 |.nx ρ=>.ok .non ((ρ.take np).map kJ)
 |.rt ρ (.sh x)=>.ok x ((ρ.take np).map kJ)
 |.exc ρ c fs=>.exc c fs ((ρ.take np).map kJ)
 |_=>.bad
noncomputable def iJ(n:Nat)(as:List Sl):af:=as.map some++List.replicate (n - as.length) none
noncomputable def fnI(np n:Nat)(m:af->OS)(as:List Sl):OI:=if as.length=np then lW np (m (iJ n as))else .bad
noncomputable def n8(a:Arg)(ρ:af):Option Sl:=match a with
 | .e me=>(match me ρ with
   |.ok r=>(kC r).map .sh
   |_=>none)
 | .t i mp=>(match ρ[i]? with
   |some (some (.tr _ t))=>((mp ρ).bind fun π=>t.get π).map (.tr true)
   |_=>none)
 |.b i mp=>(subAt i mp ρ).map .bo
noncomputable def jh:List Arg->af->Option (List Sl)
 |[],_=>some []
 |a ::as,ρ=>(n8 a ρ).bind fun s=>(jh as ρ).map (s ::·)
noncomputable def eK(ρ₀:af):Arg->Option OV->af->af
 | .t i mp,some u,ρ=>(match ρ[i]? with
   | some (some (.tr io t))=>(match mp ρ₀ with
     |some π=>ρ.set i (some (.tr io (t.put π u)))
     |none=>ρ.set i none)
   |_=>ρ.set i none)
 |.t i _,none,ρ=>ρ.set i none
 |_,_,ρ=>ρ
noncomputable def cb(ρ₀:af):List Arg->List (Option OV)->af->af
 |[],_,ρ=>ρ
 |a ::as,us,ρ=>cb ρ₀ as us.tail (eK ρ₀ a us.head?.join ρ)
noncomputable def cj(f:List Sl->OI)(as:List Arg):af->OX:=fun ρ=>match jh as ρ with
 | some ss=>(match f ss with
   |.ok x outs=>.ok (cb ρ as outs ρ) (.sh x)
   |.exc c fs outs=>.exc (cb ρ as outs ρ) c fs
   |.bad=>.bad)
 |none=>.bad
noncomputable def FL(c:String)(f:List Sl->OI):af->OD:=fun _=>match f [.tr true (.ob c [] [])]with
 |.ok .non (some t ::_)=>.ok t
 |_=>.bad
noncomputable def Cp(i j:Nat)(mb:af->OS):List PV->af->OS
 |[],ρ=>.nx ρ
 |.tup [x,y] ::xs,ρ=>(mb ((ρ.set i (some (.sh x))).set j (some (.sh y)))).turn (Cp i j mb xs)
 |_ ::_,_=>.bad
noncomputable def Dx(k:Nat):List PV->List PV
 |[]=>[]
 |x ::xs=>.tup [.int k,x] ::Dx (k+1) xs
noncomputable def dC(ml:af->OE)(ι:List Nat)(me:af->OE):af->OE:=fun ρ=>(ml ρ).bind fun r=>match r.pv with
 |.tup xs=>noX (bC me (eV ι ρ) xs)
 |_=>.bad
noncomputable def mZ(mc:af->OT)(me:af->OE)(ρ:af):List PV->OA
 |[]=>.ok []
 | x ::xs=>(match mc (ρ++[some (.sh x)])with
   | .ok true=>(me (ρ++[some (.sh x)])).cD fun r=>(match kC r with
     |some y=>(mZ mc me ρ xs).cD fun ys=>.ok (y ::ys)
     |none=>.bad)
   |.ok false=>mZ mc me ρ xs
   |_=>.bad)
noncomputable def Dz(ml:af->OE)(ι:List Nat)(mc:af->OT)(me:af->OE):af->OE:=fun ρ=>(ml ρ).bind fun r=>match r.pv with
 |.lst xs=>noX (mZ mc me (eV ι ρ) xs)
 |_=>.bad
noncomputable def jP:PV->Option RV
 |.lst xs=>some (.sh (.tup xs))
 |.tup xs=>some (.sh (.tup xs))
 |_=>none
noncomputable def zQ:PV->PV->Option RV
 |.tup (x ::xs),.tup ys=>if(x ::xs).length+ys.length<=lim then some (.sh (.tup (x ::xs++ys)))else none
 |_,_=>none
mutual
noncomputable def dD:PV->PV->Bool
 |.non,y=>(match y with|.non=>true|_=>false)
 |.bl a,y=>(match y with|.bl b=>a==b|.int j=>(if a then 1 else 0)==j|_=>false)
 |.int i,y=>(match y with|.bl b=>i==(if b then 1 else 0)|.int j=>i==j|_=>false)
 |.str x,y=>(match y with|.str z=>x==z|_=>false)
 |.lst xs,y=>(match y with|.lst ys=>fK xs ys|_=>false)
 |.tup xs,y=>(match y with|.tup ys=>fK xs ys|_=>false)
noncomputable def fK:List PV->List PV->Bool
 |[],ys=>(match ys with|[]=>true|_ ::_=>false)
 |x ::xs,ys=>(match ys with|y ::ys=>dD x y&&fK xs ys|[]=>false)
end
mutual
noncomputable def gM:PV->Nat->Bool
 |.str x,_=>x.cps.all (·<0x110000)
 |.lst xs,n=>(match n with|0=>false|n+1=>ir xs n)
 |.tup xs,n=>(match n with|0=>false|n+1=>ir xs n)
 |_,_=>true
noncomputable def ir:List PV->Nat->Bool
 |[],_=>true
 |x ::xs,n=>gM x n&&ir xs n
end
noncomputable def eU:PV->PV->Option RV:=fun x y=>if(gM x 64&&gM y 64)=true then some (.sh (.bl (dD x y)))else none
noncomputable def sj:PV->PV->Option RV:=fun x y=>if(gM x 64&&gM y 64)=true then some (.sh (.bl (!dD x y)))else none
theorem nA(ns:List Int):∀ ms:List Int,fK (ns.map .int) (ms.map .int)=decide (ns=ms):=by
 induction ns with
 |nil=>intro ms;cases ms<;>simp[fK]
 | cons n ns ih=>
   intro ms
   cases ms with
   |nil=>simp[fK]
   |cons m ms=>simp[fK,dD,ih,Bool.beq_eq_decide_eq]
theorem nh(ns:List Int)(n:Nat):ir (ns.map .int) n=true:=by
 induction ns with
 |nil=>simp[ir]
 |cons n ns ih=>simp[ir,gM,ih]
noncomputable def eQ:PV->Bool
 |.lst _=>false
 |.tup _=>false
 |_=>true
noncomputable def rC:PV->PV->Option Bool
 |x,.tup ys=>if ys.all eQ=true then some (ys.any fun y=>dD y x)else none
 |x,.lst ys=>if ys.all eQ=true then some (ys.any fun y=>dD y x)else none
 |_,_=>none
noncomputable def gIn:PV->PV->Option RV:=fun x y=>(rC x y).map fun b=>.sh (.bl b)
end L2.P
namespace L2
open PySem PySem.Spec PyProof.Rows
end L2
namespace L2.P
open PySem PySem.Spec PyProof.Rows L2 L2.E PySem.SeqAt
mutual
noncomputable def dOf:PV->PyData
 |.non=>.none
 |.bl b=>.bool b
 |.int i=>.int i
 |.str x=>.str x
 |.lst xs=>.list (kl xs)
 |.tup xs=>.tuple (kl xs)
noncomputable def kl:List PV->List PyData
 |[]=>[]
 |x ::xs=>dOf x ::kl xs
end
mutual
theorem pW:∀ x y:PV,PyData.eqv (dOf x) (dOf y)=dD x y
 |.non,y=>by cases y<;>simp[dOf,PyData.eqv,dD]
 |.bl a,y=>by cases y<;>simp[dOf,PyData.eqv,dD]
 |.int a,y=>by cases y<;>simp[dOf,PyData.eqv,dD]
 |.str a,y=>by cases y<;>simp[dOf,PyData.eqv,dD]
 |.lst xs,y=>by cases y<;>simp[dOf,PyData.eqv,dD,ni xs]
 |.tup xs,y=>by cases y<;>simp[dOf,PyData.eqv,dD,ni xs]
theorem ni:∀ xs ys:List PV,PyData.eqvAll (kl xs) (kl ys)=fK xs ys
 |[],ys=>by cases ys<;>simp[kl,PyData.eqvAll,fK]
 |x ::xs,ys=>by cases ys<;>simp[kl,PyData.eqvAll,fK,pW x,ni xs]
end
mutual
theorem xN:∀(x:PV) (n:Nat),gM x n=true->(dOf x).canLay0=true /\ (dOf x).depth<=n
 |.non,n,h=>by simp[dOf,PyData.canLay0,PyData.depth]
 |.bl a,n,h=>by simp[dOf,PyData.canLay0,PyData.depth]
 |.int a,n,h=>by simp[dOf,PyData.canLay0,PyData.depth]
 |.str a,n,h=>by simp[dOf,PyData.canLay0,PyData.depth];exact h
 | .lst xs,n,h=>by
   cases n with
   |zero=>simp[gM]at h
   | succ n=>
     have:=qa xs n (by simpa [gM]using h);simp[dOf,PyData.canLay0,PyData.depth]
     exact⟨this.1,by omega⟩
 | .tup xs,n,h=>by
   cases n with
   |zero=>simp[gM]at h
   | succ n=>
     have:=qa xs n (by simpa [gM]using h);simp[dOf,PyData.canLay0,PyData.depth]
     exact⟨this.1,by omega⟩
theorem qa:∀(xs:List PV) (n:Nat),ir xs n=true->PyData.canLayAll0 (kl xs)=true /\ PyData.depthAll (kl xs)<=n
 |[],n,h=>by simp[kl,PyData.canLayAll0,PyData.depthAll]
 | x ::xs,n,h=>by
   simp[ir]at h;have h1:=xN x n h.1;have h2:=qa xs n h.2;simp[kl,PyData.canLayAll0,PyData.depthAll]
   exact⟨⟨h1.1,h2.1⟩,by omega⟩
end
section
variable{X:Cx}{pins:List (Addr×Obj)}{σ:St}{H:Hp}{s:Shared}
mutual
theorem iI(I:Inv X pins σ H s):∀(x:PV) (v:V) (u:Value),Rep X.K H x v->RelV v u->∃ as,Reads s.heap u (dOf x) as
 |.non,v,u,h,r=>by unfold Rep at h;subst h;cases r;exact⟨_,.none⟩
 |.bl b,v,u,h,r=>by unfold Rep at h;subst h;cases r;exact⟨_,.bool b⟩
 |.int i,v,u,h,r=>by unfold Rep at h;subst h;obtain⟨t,rfl⟩:=r;exact⟨_,.int i t⟩
 |.str x,v,u,h,r=>by unfold Rep at h;subst h;obtain⟨t,rfl⟩:=r;exact⟨_,.str x t⟩
 | .lst xs,v,u,h,r=>by
   unfold Rep at h;obtain⟨p,vs,rfl,hq,hr⟩:=h;cases r;obtain⟨its,rv,pl,hz⟩:=I.list hq;obtain⟨as,ra⟩:=i5 I xs vs its hr rv;obtain⟨o,e,c,n,d⟩:=pl.isList
   exact⟨_,.list (xs:=kl xs) e c d (by simpa using ra)⟩
 | .tup xs,v,u,h,r=>by
   unfold Rep at h;obtain⟨p,vs,rfl,hq,hr⟩:=h;cases r;obtain⟨its,rv,pl,hz⟩:=I.tuple hq;obtain⟨as,ra⟩:=i5 I xs vs its hr rv;obtain⟨o,e,c,n,d⟩:=pl
   exact⟨_,.tuple (xs:=kl xs) e c d (by simpa using ra)⟩
theorem i5(I:Inv X pins σ H s):∀(xs:List PV) (vs:List V) (us:List Value),aV X.K H xs vs->Vals vs us->∃ as,ReadsAll s.heap us (kl xs) as
 |[],vs,us,h,r=>by rw[h.nil_inv]at r;cases r;exact⟨_,.nil⟩
 | x ::xs,vs,us,h,r=>by
   obtain⟨v,t,rfl,h1,h2⟩:=h.cons_inv
   cases r with
   | cons r1 r2=>
     obtain⟨as,ra⟩:=iI I x _ _ h1 r1;obtain⟨bs,rb⟩:=i5 I xs _ _ h2 r2
     exact⟨_,.cons ra rb⟩
end
noncomputable def yZ(K:PySem.W.Frag)(A:Around)(neg:Bool):R2:=fun v u H Q=>∃ x y,Rep K H x v /\ Rep K H y u /\ (gM x 64&&gM y 64)=true /\ A.units+64<cLine /\ Q (.bl (if neg then !dD x y else dD x y)) H
theorem jr{x:PV}(h:gM x 64=true):shaped (dOf x)=true:=by
 have:=xN x 64 h;unfold shaped;simp[this]
theorem eZ:OpR X (compareOp .Eq) (yZ X.K X.A false):=by
 intro pins s σ H v u a b Q I rx ry h;obtain⟨x,y,h1,h2,ok,hu,q⟩:=h;rw[Bool.and_eq_true]at ok;obtain⟨as,ra⟩:=iI I x v a h1 rx;obtain⟨bs,rb⟩:=iI I y u b h2 ry;refine eq_dataH ra rb (jr ok.1) (jr ok.2) hu ⟨.bl _,H,I,rfl,?_⟩;rw[pW];exact q
theorem r8:OpR X (compareOp .NotEq) (yZ X.K X.A true):=by
 intro pins s σ H v u a b Q I rx ry h;obtain⟨x,y,h1,h2,ok,hu,q⟩:=h;rw[Bool.and_eq_true]at ok;obtain⟨as,ra⟩:=iI I x v a h1 rx;obtain⟨bs,rb⟩:=iI I y u b h2 ry;refine ne_dataH ra rb (jr ok.1) (jr ok.2) hu ⟨.bl _,H,I,rfl,?_⟩;rw[pW];exact q
end
section
variable{K:PySem.W.Frag}{S H:Hp}
theorem RdV.rep{x:PV}{v:V}(h:RdV K S H x v)(s:ay S H):Rep K H x v:=by
 cases x with
 |lst xs=>obtain⟨p,vs,e,q,r⟩:=h;unfold Rep;exact⟨p,vs,e,q,r.mono s⟩
 |non=>exact Rep.mono s h
 |bl b=>exact Rep.mono s h
 |int i=>exact Rep.mono s h
 |str x=>exact Rep.mono s h
 |tup xs=>exact Rep.mono s h
theorem e7{A:Around}(hu:A.units+64<cLine):JR K (yZ K A false) eU:=by
 intro S H x y v u rr Q I hx hy e k;unfold eU at e;split at e
 . rename_i ok;cases e
   exact⟨x,y,hx.rep I,hy.rep I,ok,hu,k _ S H (aI.refl I) i0⟩
 . cases e
theorem tq{A:Around}(hu:A.units+64<cLine):JR K (yZ K A true) sj:=by
 intro S H x y v u rr Q I hx hy e k;unfold sj at e;split at e
 . rename_i ok;cases e
   exact⟨x,y,hx.rep I,hy.rep I,ok,hu,k _ S H (aI.refl I) i0⟩
 . cases e
end
section
variable{X:Cx}{K:PySem.W.Frag}{S H:Hp}
theorem qG{x:PV}{v:V}(h:Rep K H x v)(f:eQ x=true):jx v=true:=by
 cases x with
 |lst xs=>cases f
 |tup xs=>cases f
 |non=>unfold Rep at h;subst h;rfl
 |bl b=>unfold Rep at h;subst h;rfl
 |int b=>unfold Rep at h;subst h;rfl
 |str b=>unfold Rep at h;subst h;rfl
theorem yM{x y:PV}{v u:V}(h:Rep K H x v)(k:Rep K H y u)(f:eQ x=true)(g:eQ y=true):eqV u v=dD y x:=by
 cases x<;>first|(cases f;done)|skip
 all_goals(unfold Rep at h;subst h;cases y<;>first|(cases g;done)|(unfold Rep at k;subst k;simp[eqV,dD]))
theorem uS{xs:List PV}{vs:List V}(h:aV K H xs vs)(f:xs.all eQ=true):vs.all jx=true:=by
 induction xs generalizing vs with
 |nil=>rw[h.nil_inv];rfl
 | cons x xs ih=>
   obtain⟨v,r,rfl,h1,h2⟩:=h.cons_inv
   rw[List.all_cons,Bool.and_eq_true]at f ⊢
   exact⟨qG h1 f.1,ih h2 f.2⟩
theorem wt{x:PV}{v:V}{xs:List PV}{vs:List V}(hx:Rep K H x v)(g:eQ x=true)(h:aV K H xs vs)(f:xs.all eQ=true):inV v vs=xs.any fun y=>dD y x:=by
 induction xs generalizing vs with
 |nil=>rw[h.nil_inv];rfl
 | cons y xs ih=>
   obtain⟨u,r,rfl,h1,h2⟩:=h.cons_inv;rw[List.all_cons,Bool.and_eq_true]at f;have:=ih h2 f.2
   unfold inV at this ⊢
   rw[List.any_cons,List.any_cons,this,yM hx h1 g f.1]
theorem xI{x:PV}{xs:List PV}(g:eQ x=false)(f:xs.all eQ=true):(xs.any fun y=>dD y x)=false:=by
 induction xs with
 |nil=>rfl
 | cons y xs ih=>
   rw[List.all_cons,Bool.and_eq_true]at f;rw[List.any_cons,ih f.2,Bool.or_false];have f1:=f.1
   cases y<;>first|(cases f1;done)|(cases x<;>first|(cases g;done)|simp[dD])
theorem wF{α:Type}(l:List α):(l.any fun _=>false)=false:=by induction l<;>simp_all
theorem qu{A:Around}{s:Shared}{pins:List (Addr×Obj)}{σ:St}(I:Inv X pins σ H s)(hu:A.units<cLine){x:PV}{v:V}{a:Value}(hx:Rep X.K H x v)(ra:RelV v a)(g:eQ x=false):
  ∀{xs:List PV} {vs:List V} {us:List Value},aV X.K H xs vs->Vals vs us->xs.all eQ=true->∀ u∈us,EqAt A s u a false:=by
 intro xs
 induction xs with
 |nil=>intro vs us h r _ u hu;rw[h.nil_inv]at r;cases r;cases hu
 | cons y xs ih=>
   intro vs us h r f u hm;obtain⟨w,t,rfl,h1,h2⟩:=h.cons_inv;rw[List.all_cons,Bool.and_eq_true]at f
   cases r with
   | cons r1 r2=>
     rcases List.mem_cons.mp hm with rfl|hm
     . cases x with
       |non=>cases g
       |bl b=>cases g
       |int b=>cases g
       |str b=>cases g
       | lst zs=>
         unfold Rep at hx;obtain⟨p,us',rfl,hq,_⟩:=hx;cases ra;obtain⟨its,_,pl,_⟩:=I.list hq
         cases y with
         |non=>unfold Rep at h1;subst h1;cases r1;exact EqAt.none_list pl.isList hu
         |bl b=>unfold Rep at h1;subst h1;cases r1;exact EqAt.bool_list b pl.isList hu
         |int b=>unfold Rep at h1;subst h1;obtain⟨t',rfl⟩:=r1;exact EqAt.int_list b t' pl.isList hu
         |str b=>unfold Rep at h1;subst h1;obtain⟨t',rfl⟩:=r1;exact EqAt.str_list b t' pl.isList hu
         |lst _=>cases f.1
         |tup _=>cases f.1
       | tup zs=>
         unfold Rep at hx;obtain⟨p,us',rfl,hq,_⟩:=hx;cases ra;obtain⟨its,_,pl,_⟩:=I.tuple hq
         cases y with
         |non=>unfold Rep at h1;subst h1;cases r1;exact EqAt.none_tuple pl hu
         |bl b=>unfold Rep at h1;subst h1;cases r1;exact EqAt.bool_tuple b pl hu
         |int b=>unfold Rep at h1;subst h1;obtain⟨t',rfl⟩:=r1;exact EqAt.int_tuple b t' pl hu
         |str b=>unfold Rep at h1;subst h1;obtain⟨t',rfl⟩:=r1;exact EqAt.str_tuple b t' pl hu
         |lst _=>cases f.1
         |tup _=>cases f.1
     . exact ih h2 r2 f.2 u hm
noncomputable def Cb(K:PySem.W.Frag)(A:Around)(neg:Bool):R2:=fun v u H Q=>∃ x ys p vs,Rep K H x v /\ u=.ref p /\ (SqL K H p vs \/ SqT K H p vs) /\ aV K H ys vs /\ ys.all eQ=true /\ A.units+64<cLine /\ Q (.bl (if neg then !(ys.any fun y=>dD y x)else ys.any fun y=>dD y x)) H
theorem Cr:OpR X (compareOp .In) (Cb X.K X.A false):=by
 intro pins s σ H v u a b Q I rx ry h;obtain⟨x,ys,p,vs,hx,rfl,hq,hr,hf,hu,q⟩:=h
 cases g:eQ x with
 |true=>exact vP pins s σ H v _ a b Q I rx ry ⟨p,vs,rfl,hq,qG hx g,uS hr hf,by rw[wt hx g hr hf];exact q⟩
 | false=>
   rw[xI g hf]at q;cases ry
   rcases hq with hq|hq
   . obtain⟨its,r,pl,hz⟩:=I.list hq;refine SeqAt.in_listAt (fun _=>false) pl.isList (fun w hw=>qu I (by show X.A.units+1<cLine;omega) hx rx g hr r hf w (by simpa using hw)) ⟨.bl _,H,I,rfl,?_⟩;rw[show(its.toArray.any fun _=>false)=false by simp[wF]];exact q
   . obtain⟨its,r,pl,hz⟩:=I.tuple hq;refine SeqAt.in_tupleAt (fun _=>false) pl (fun w hw=>qu I (by show X.A.units+1<cLine;omega) hx rx g hr r hf w (by simpa using hw)) ⟨.bl _,H,I,rfl,?_⟩;rw[show(its.toArray.any fun _=>false)=false by simp[wF]];exact q
theorem yx{A:Around}{neg:Bool}{x y:PV}{v u:V}{b:Bool}{Q:VK}(hu:A.units+64<cLine)(I:ay S H)(hx:RdV K S H x v)(hy:RdV K S H y u)(e:rC x y=some b)(k:∀ z S' H',aI S H S' H'->gN K H S' H' (.sh (.bl (if neg then !b else b))) z->Q z H'):Cb K A neg v u H Q:=by
 cases y with
 | tup ys=>
   simp only[rC]at e
   by_cases hf:ys.all eQ=true
   . rw[if_pos hf]at e;cases e;obtain⟨p,vs,rfl,hq,hr⟩:=dr hy
     exact⟨x,ys,p,vs,hx.rep I,rfl,.inr (ay.tup I hq),hr.mono I,hf,hu,k _ S H (aI.refl I) i0⟩
   . rw[if_neg hf]at e;cases e
 | lst ys=>
   simp only[rC]at e
   by_cases hf:ys.all eQ=true
   . rw[if_pos hf]at e;cases e;obtain⟨p,vs,rfl,hq,hr⟩:=dE hy
     exact⟨x,ys,p,vs,hx.rep I,rfl,.inl hq,hr.mono I,hf,hu,k _ S H (aI.refl I) i0⟩
   . rw[if_neg hf]at e;cases e
 |_=>simp only[rC]at e;cases e
theorem Dc{A:Around}(hu:A.units+64<cLine):JR K (Cb K A false) gIn:=by
 intro S H x y v u rr Q I hx hy e k;obtain⟨b,e1,e2⟩:=Option.map_eq_some_iff.mp e;subst e2;exact yx hu I hx hy e1 k
end
end L2.P
namespace L2.P
open PySem PySem.Spec PyProof.Rows L2 L2.E
section
variable{K:PySem.W.Frag}{cls:String->Option Addr}{W:XW}{Av G S₀ S S' H H' B B':Hp}{ρ:af}{σ:St}{Q:VK}
noncomputable abbrev g2(K:PySem.W.Frag)(i j:Nat):TG:=EJ K 2 (zK (ie i) (zK (ie j) EC))
end
end L2.P
namespace L2.E
open PySem PySem.Spec PyProof.Rows L2
end L2.E
namespace L2.P
open PySem PySem.Spec PyProof.Rows L2 L2.E
section
variable{K:PySem.W.Frag}{cls:String->Option Addr}{W:XW}{Av G S₀ S S' H H' B B':Hp}{ρ:af}{σ:St}{Q:VK}{F:Nat->List Addr}
theorem aS.length{ts:List OV}{vs:List V}(h:aS K cls S H ts vs f):vs.length=ts.length:=by
 induction ts generalizing vs f with
 |nil=>unfold aS at h;rw[h.1];rfl
 | cons t ts ih=>
   unfold aS at h;obtain⟨v,r,f1,f2,rfl,_,_,h2⟩:=h;simp[ih h2]
theorem aS.cons_inv(h:aS K cls S H (t ::ts) vs fp):∃ v r f1 f2,vs=v ::r /\ fp=f1++f2 /\ aX K cls S H t v f1 /\ aS K cls S H ts r f2:=by unfold aS at h;exact h
theorem aS.cons(h:aX K cls S H t v f1)(r:aS K cls S H ts vs f2):aS K cls S H (t ::ts) (v ::vs) (f1++f2):=by unfold aS;exact⟨v,vs,f1,f2,rfl,rfl,h,r⟩
theorem aS.nil:aS K cls S H [] [] []:=by unfold aS;exact⟨rfl,rfl⟩
theorem aS.append(h:aS K cls S H ts vs f)(k:aS K cls S H us ws g):aS K cls S H (ts++us) (vs++ws) (f++g):=by
 induction ts generalizing vs f with
 |nil=>unfold aS at h;rw[h.1,h.2];exact k
 | cons t ts ih=>
   obtain⟨v,r,f1,f2,rfl,rfl,h1,h2⟩:=h.cons_inv;have:=aS.cons h1 (ih h2);rw[List.append_assoc];exact this
theorem aS.shs{xs:List PV}(h:aV K S xs vs):aS K cls S H (xs.map .sh) vs []:=by
 induction xs generalizing vs with
 |nil=>rw[h.nil_inv];exact .nil
 | cons x xs ih=>
   obtain⟨v,r,rfl,h1,h2⟩:=h.cons_inv;exact aS.cons (f1:=[]) (by unfold aX;exact⟨rfl,h1⟩) (ih h2)
theorem aS.flat(e:rA ts=some xs)(h:aS K cls S H ts vs f):aV K S xs vs /\ f=[]:=by
 induction ts generalizing xs vs f with
 |nil=>cases e;unfold aS at h;rw[h.1,h.2];exact⟨.nil,rfl⟩
 | cons t ts ih=>
   cases t with
   | sh x=>
     obtain⟨ys,e1,e2⟩:=Option.map_eq_some_iff.mp e;subst e2;obtain⟨v,r,f1,f2,rfl,rfl,h1,h2⟩:=h.cons_inv;unfold aX at h1;obtain⟨h3,h4⟩:=ih e1 h2
     exact⟨.cons h1.2 h3,by rw[h1.1,h4];rfl⟩
   |ol _=>cases e
   |ob _ _ _=>cases e
   |di _=>cases e
   |dt _=>cases e
theorem aS.at{ts:List OV}{vs:List V}{f:List Addr}(h:aS K cls S H ts vs f)(e:ts[k]?=some u):
  ∃ w f1 rest,vs[k]?=some w /\ aX K cls S H u w f1 /\ f.Perm (f1++rest) /\
    ∀ S' H' u' w' f',ay S S'->aX K cls S' H' u' w' f'->(∀ a∈rest,∀ o,H a=some o->H' a=some o)->∃ g,aS K cls S' H' (ts.set k u') (vs.set k w') g /\ g.Perm (f'++rest):=by
 induction ts generalizing vs f k with
 |nil=>simp at e
 | cons t ts ih=>
   obtain⟨v,r,f1,f2,rfl,rfl,h1,h2⟩:=h.cons_inv
   cases k with
   | zero=>
     simp at e;subst e
     refine⟨v,f1,f2,rfl,h1,List.Perm.refl _,fun S' H' u' w' f' s r' g=>?_⟩
     exact⟨f'++f2,aS.cons r' (h2.mono s g),List.Perm.refl _⟩
   | succ k=>
     simp at e;obtain⟨w,g1,rest,e1,r1,p1,c1⟩:=ih h2 e
     refine⟨w,g1,f1++rest,by simpa using e1,r1,?_,fun S' H' u' w' f' s r' g=>?_⟩
     . have:(f1++f2).Perm (f1++(g1++rest)):=List.Perm.append_left f1 p1
       refine this.trans ?_;rw[<- List.append_assoc,<- List.append_assoc];exact List.Perm.append_right rest List.perm_append_comm
     . obtain⟨g2,r2,p2⟩:=c1 S' H' u' w' f' s r' fun a ha=>g a (List.mem_append_right _ ha)
       refine⟨f1++g2,aS.cons (h1.mono s fun a ha=>g a (List.mem_append_left _ ha)) r2,?_⟩
       refine(List.Perm.append_left f1 p2).trans ?_
       rw[<- List.append_assoc,<- List.append_assoc];exact List.Perm.append_right rest List.perm_append_comm
theorem zi{ts:List OV}(h:oS ks ts f=some u):∃ k,ts[k]?=some u /\ ks[k]?=some f /\ (∀ u',v9 ks ts f u'=ts.set k u') /\ ∀{α:Type} (us:List (Str×α)),us.map (·.1)=ks->us.lookup f=(us.map (·.2))[k]?:=by
 induction ks generalizing ts with
 |nil=>simp[oS]at h
 | cons g ks ih=>
   cases ts with
   |nil=>simp[oS]at h
   | cons t ts=>
     unfold oS at h;split at h
     . rename_i e;subst e;cases h
       refine⟨0,rfl,rfl,fun u'=>by simp[v9],fun us eu=>?_⟩
       cases us with
       |nil=>cases eu
       | cons q us=>
         simp at eu;obtain⟨a,b⟩:=q;simp at eu;rw[<- eu.1];simp[List.lookup]
     . rename_i ne;obtain⟨k,e1,e2,e3,e4⟩:=ih h
       refine⟨k+1,by simpa using e1,by simpa using e2,fun u'=>by simp[v9,ne,e3],fun us eu=>?_⟩
       cases us with
       |nil=>cases eu
       | cons q us=>
         obtain⟨a,b⟩:=q;simp at eu
         have:(f==a)=false:=by rw[eu.1];simpa using Ne.symm ne
         simp[List.lookup,this,e4 us eu.2]
noncomputable def o7(H:Hp):Stp->V->V->Prop
 |.ix k,v,w=>∃ p vs,v=.ref p /\ H p=some (.lst vs) /\ vs[k]?=some w
 |.fd f,v,w=>∃ p C dx us,v=.ref p /\ H p=some (.ins C dx us) /\ us.lookup f=some w
noncomputable def fw(H:Hp):V->List Stp->V->Prop
 |v,[],w=>w=v
 |v,s ::π,w=>∃ u,o7 H s v u /\ fw H u π w
theorem o7.inj(h:o7 H s v w)(k:o7 H s v w'):w=w':=by
 cases s with
 | ix n=>
   obtain⟨p,vs,rfl,e1,e2⟩:=h;obtain⟨p',vs',e3,e4,e5⟩:=k;cases e3;rw[e1]at e4;cases e4;rw[e2]at e5;cases e5;rfl
 | fd f=>
   obtain⟨p,C,dx,us,rfl,e1,e2⟩:=h;obtain⟨p',C',dx',us',e3,e4,e5⟩:=k;cases e3;rw[e1]at e4;cases e4;rw[e2]at e5;cases e5;rfl
theorem fw.inj:∀{v w w':V},fw H v π w->fw H v π w'->w=w':=by
 induction π with
 |nil=>intro v w w' h k;rw[h,k]
 | cons s π ih=>
   rintro v w w' ⟨u,h1,h2⟩ ⟨u',k1,k2⟩
   have:=h1.inj k1;subst this;exact ih h2 k2
theorem fw.snoc:∀{v w u:V},fw H v π w->o7 H s w u->fw H v (π++[s]) u:=by
 induction π with
 |nil=>intro v w u h k;rw[h]at k;exact⟨u,k,rfl⟩
 | cons t π ih=>
   rintro v w u ⟨x,h1,h2⟩ k
   exact⟨x,h1,ih h2 k⟩
theorem fw.mono(g:ay H H'):∀{v w:V},fw H v π w->fw H' v π w:=by
 induction π with
 |nil=>intro v w h;exact h
 | cons t π ih=>
   rintro v w ⟨x,h1,h2⟩
   refine⟨x,?_,ih h2⟩
   cases t with
   |ix k=>obtain⟨p,vs,e,e1,e2⟩:=h1;exact⟨p,vs,e,g _ _ e1,e2⟩
   |fd f=>obtain⟨p,C,dx,us,e,e1,e2⟩:=h1;exact⟨p,C,dx,us,e,g _ _ e1,e2⟩
theorem aX.step{t u:OV}{fp:List Addr}(h:aX K cls S H t v fp)(e:t.at1 s=some u):
  ∃ w f1 rest,o7 H s v w /\ aX K cls S H u w f1 /\ fp.Perm (f1++rest) /\
    ∀ S' H' u' f',ay S S'->aX K cls S' H' u' w f'->(∀ a∈rest,∀ o,H a=some o->H' a=some o)->∃ g,aX K cls S' H' (t.xS s u') v g /\ g.Perm (f'++rest):=by
 cases t with
 |sh x=>cases s<;>cases e
 |di x=>cases s<;>cases e
 |dt x=>cases s<;>cases e
 | ol ts=>
   cases s with
   |fd f=>cases e
   | ix k=>
     unfold aX at h;obtain⟨p,vs,f,rfl,hp,rfl,r⟩:=h;obtain⟨w,f1,rest,e1,r1,p1,c1⟩:=r.at e
     refine⟨w,f1,p ::rest,⟨p,vs,rfl,hp,e1⟩,r1,?_,fun S' H' u' f' s r' g=>?_⟩
     . exact(List.Perm.cons p p1).trans (List.perm_middle.symm)
     . obtain⟨g2,r2,p2⟩:=c1 S' H' u' w f' s r' fun a ha=>g a (by simp[ha])
       refine⟨p ::g2,?_,(List.Perm.cons p p2).trans List.perm_middle.symm⟩
       rw[iN e1]at r2;unfold OV.xS aX
       exact⟨p,vs,g2,rfl,g p (by simp) _ hp,rfl,r2⟩
 | ob c ks ts=>
   cases s with
   |ix k=>cases e
   | fd f=>
     unfold aX at h;obtain⟨p,C,dx,us,ff,rfl,hc,hp,hd,hk,rfl,r⟩:=h;obtain⟨k,e1,e2,e3,e4⟩:=zi e;obtain⟨w,f1,rest,q1,r1,p1,c1⟩:=r.at e1
     refine⟨w,f1,p ::dx ::rest,⟨p,C,dx,us,rfl,hp,by rw[e4 us hk];exact q1⟩,r1,?_,fun S' H' u' f' s r' g=>?_⟩
     . exact((List.Perm.cons p ((List.Perm.cons dx p1).trans List.perm_middle.symm))).trans List.perm_middle.symm
     . obtain⟨g2,r2,p2⟩:=c1 S' H' u' w f' s r' fun a ha=>g a (by simp[ha])
       refine⟨p ::dx ::g2,?_,(List.Perm.cons p ((List.Perm.cons dx p2).trans List.perm_middle.symm)).trans List.perm_middle.symm⟩
       rw[iN q1]at r2;unfold OV.xS aX
       exact⟨p,C,dx,us,g2,rfl,hc,g p (by simp) _ hp,g dx (by simp) _ hd,hk,rfl,by rw[e3];exact r2⟩
theorem aX.focus:∀{t u:OV} {v:V} {fp:List Addr},aX K cls S H t v fp->t.get π=some u ->
  ∃ w f1 rest,fw H v π w /\ aX K cls S H u w f1 /\ fp.Perm (f1++rest) /\
    ∀ S' H' u' f',ay S S'->aX K cls S' H' u' w f'->(∀ a∈rest,∀ o,H a=some o->H' a=some o)->∃ g,aX K cls S' H' (t.put π u') v g /\ g.Perm (f'++rest):=by
 induction π with
 | nil=>
   intro t u v fp h e;cases e
   exact⟨v,fp,[],rfl,h,by simp,fun S' H' u' f' _ r' _=>⟨f',by unfold OV.put;exact r',by simp⟩⟩
 | cons s π ih=>
   intro t u v fp h e;unfold OV.get at e;obtain⟨t1,e1,e2⟩:=Option.bind_eq_some_iff.mp e;obtain⟨w1,f1,rest1,st,r1,p1,c1⟩:=h.step e1;obtain⟨w,f2,rest2,wk,r2,p2,c2⟩:=ih r1 e2
   refine⟨w,f2,rest2++rest1,⟨w1,st,wk⟩,r2,?_,fun S' H' u' f' s' r' g=>?_⟩
   . rw[<- List.append_assoc];exact p1.trans (List.Perm.append_right rest1 p2)
   . obtain⟨g1,q1,k1⟩:=c2 S' H' u' f' s' r' fun a ha=>g a (List.mem_append_left _ ha)
     obtain⟨g2,q2,k2⟩:=c1 S' H' _ g1 s' q1 fun a ha=>g a (List.mem_append_right _ ha)
     refine⟨g2,?_,?_⟩
     . unfold OV.put;rw[e1];exact q2
     . rw[<- List.append_assoc];exact k2.trans (List.Perm.append_right rest1 k1)
theorem SR.tree(I:SR K cls Av G S₀ ρ σ S H)(e:cI i ρ=some t):∃ v fp,σ[i]?=some (some v) /\ aX K cls S H t v fp:=by
 obtain⟨F,J⟩:=I;unfold cI at e
 cases q:ρ[i]? with
 |none=>rw[q]at e;cases e
 | some o=>
   cases o with
   |none=>rw[q]at e;cases e
   | some s=>
     rw[q]at e;obtain⟨v,e1,r⟩:=J.own i s q
     cases s with
     |tr io t'=>cases e;exact⟨v,_,e1,r.1⟩
     | bo t'=>
       cases e;obtain⟨_,f,r⟩:=r
       exact⟨v,f,e1,r.mono (ay.refl _) fun _ _ _ h=>J.gh _ _ h⟩
     |sh x=>cases e
     |ow xs=>cases e
     |ex c fs=>cases e
noncomputable def JP(K:PySem.W.Frag)(cls:String->Option Addr)(te:TE)(i:Nat)(mp:MP):Prop:=∀ Av G S₀ ρ σ S H Q v0 t π,SR K cls Av G S₀ ρ σ S H->cI i ρ=some t->σ[i]?=some (some v0)->mp ρ=some π->(t.get π).isSome=true ->
 (∀ w S' H',aI S H S' H'->fw H' v0 π w->Q w H')->te σ H Q
theorem cJ:JP K cls (tm i) i aZ:=by
 intro Av G S₀ ρ σ S H Q v0 t π I e ev ep _ k;cases ep
 exact⟨v0,ev,k v0 S H (aI.refl I.sh) rfl⟩
theorem DL{mk:af->OE}(hp:JP K cls te i mp)(hk:JE K cls W tk mk):JP K cls (tOp (yz K) te tk) i (pIx i mp mk):=by
 intro Av G S₀ ρ σ S H Q v0 t π I e ev ep hs k;unfold pIx at ep;rw[e]at ep
 dsimp only at ep
 split at ep
 . rename_i π0 e0;split at ep
   . rename_i ts e1;split at ep
     . rename_i r er;split at ep
       . rename_i n en;obtain⟨j,ej,e2⟩:=Option.map_eq_some_iff.mp ep;subst e2
         refine hp Av G S₀ ρ σ S H _ v0 t π0 I e ev e0 (by rw[e1];rfl) fun w S1 H1 w1 wk=>?_
         refine hk Av G S₀ ρ σ S1 H1 _ (I.grow w1) ?_;rw[er];intro u S2 H2 w2 ru;have I2:=(I.grow w1).grow w2
         have hu:u=.int n:=by have:=ru.rd I2.sh;rw[en]at this;exact ck this
         subst hu;obtain⟨v,fp,ev',ro⟩:=I2.tree e;rw[ev]at ev';cases ev';obtain⟨w',f1,rest,wk',r',_,_⟩:=ro.focus e1;have:=(wk.mono w2.g).inj wk';subst this;unfold aX at r';obtain⟨p,vs,f,rfl,hl,rfl,rs⟩:=r'
         have hj:j<ts.length:=by
          have h1:L2.atI ts n=ts[j]?:=by unfold L2.atI;show(ixP ts.length n).bind _=_;rw[ej];rfl
          unfold ixP at ej;split at ej
          . split at ej
            . cases ej;omega
            . cases ej
          . split at ej
            . cases ej;omega
            . cases ej
         have hjv:j<vs.length:=by rw[rs.length];exact hj
         have hx:vs[j]?=some vs[j]:=by simp[hjv]
         refine⟨p,vs,n,vs[j],rfl,rfl,SqL.new hl,?_,k _ S2 H2 (w1.trans w2) (wk'.snoc ⟨p,vs,rfl,hl,hx⟩)⟩
         unfold L2.atI
         show(ixP vs.length n).bind _=_
         rw[rs.length,ej];exact hx
       . cases ep
     . cases ep
   . cases ep
 . cases ep
theorem JP.sub(hp:JP K cls te i mp)(I:SR K cls Av G S₀ ρ σ S H)(e:subAt i mp ρ=some u)
  (k:∀ w S' H' f,aI S H S' H'->SR K cls Av G S₀ ρ σ S' H'->aX K cls S' H' u w f->Q w H'):te σ H Q:=by
 unfold subAt at e;split at e
 . rename_i t et;split at e
   . rename_i π eπ;obtain⟨v0,fp0,ev,_⟩:=I.tree et
     refine hp Av G S₀ ρ σ S H _ v0 t π I et ev eπ (by rw[e];rfl) fun w S1 H1 w1 wk=>?_
     obtain⟨v,fp,ev',ro⟩:=(I.grow w1).tree et;rw[ev]at ev';cases ev';obtain⟨w',f1,rest,wk',r',_,_⟩:=ro.focus e;have:=wk.inj wk';subst this;exact k w S1 H1 f1 w1 (I.grow w1) r'
   . cases e
 . cases e
theorem pO(hp:JP K cls te i mp):JE K cls W te (gF i mp):=by
 intro Av G S₀ ρ σ S H Q I p;unfold gF at p;split at p
 . rename_i x e
   refine hp.sub I e fun w S1 H1 f w1 _ r=>?_
   unfold aX at r;exact p w S1 H1 w1 r.2
 . rename_i ts e;split at p
   . rename_i xs ex
     refine hp.sub I e fun w S1 H1 f w1 _ r=>?_
     unfold aX at r;obtain⟨q,vs,ff,rfl,hq,_,rs⟩:=r;exact p _ S1 H1 w1 ⟨q,vs,rfl,SqL.new hq,(rs.flat ex).1⟩
   . exact p.elim
 . exact p.elim
theorem fS(hp:JP K cls te i mp):JT K cls W (fun σ H Q=>te σ H fun x H'=>∃ k,vK K x H' k /\ Q k H') (bP i mp):=by
 intro Av G S₀ ρ σ S H Q I p;unfold bP at p;split at p
 . rename_i ts e
   refine hp.sub I e fun w S1 H1 f w1 _ r=>?_
   unfold aX at r;obtain⟨q,vs,ff,rfl,hq,_,rs⟩:=r
   refine⟨_,.inl ⟨vs,SqL.new hq,rfl⟩,?_⟩
   have:vs.isEmpty=ts.isEmpty:=by
    have:=rs.length
    cases vs<;>cases ts<;>simp_all
   rw[this];exact p S1 H1 w1
 . exact p.elim
theorem yo(hp:JP K cls te i mp):JE K cls W (tCB (fun xs H Q=>∃ p ys,xs=[.ref p] /\ (SqL K H p ys \/ SqT K H p ys) /\ Q (.int ys.length) H) (eA te iC)) (lK i mp):=by
 intro Av G S₀ ρ σ S H Q I p;unfold lK at p;split at p
 . rename_i ts e
   refine hp.sub I e fun w S1 H1 f w1 _ r=>?_
   unfold aX at r;obtain⟨q,vs,ff,rfl,hq,_,rs⟩:=r
   exact⟨q,vs,rfl,.inl (SqL.new hq),p _ S1 H1 w1 (by show Rep K S1 _ _;unfold Rep;rw[rs.length])⟩
 . exact p.elim
end
section
variable{K:PySem.W.Frag}{cls:String->Option Addr}{W:XW}{Av G S₀ S S' H H' B B':Hp}{ρ:af}{σ:St}{Q:VK}{F:Nat->List Addr}
theorem SRF.part{t u:OV}(J:SRF K cls Av G S₀ ρ σ S H F)(hi:ρ[i]?=some (some (.tr io t)))(hv:σ[i]?=some (some v0))(e:t.get π=some u):
  ∃ w f1 rest,fw H v0 π w /\ aX K cls S H u w f1 /\ (F i).Perm (f1++rest) /\ (f1++rest).Nodup /\ (∀ a∈f1,G a=none /\ S a=none) /\
    ∀ S' H' u' f',ay S S'->ay S' H'->ay G H'->(∀ b,S' b≠none->S₀ b≠none \/ G b=none)->aX K cls S' H' u' w f'->f'.Nodup->(∀ a∈f',a∈f1 \/ H a=none)->(∀ a∈f',S' a=none) ->
      (∀ a o,a∉f1->H a=some o->H' a=some o)->(∀ a,S' a≠none->S a≠none \/ H a=none \/ a∈f1) ->
      ∃ g,SRF K cls Av G S₀ (ρ.set i (some (.tr io (t.put π u')))) σ S' H' (ki F i g) /\ g.Perm (f'++rest):=by
 obtain⟨v,ev,ro,nd,gs,hio⟩:=J.own i _ hi;rw[hv]at ev;cases ev;obtain⟨w,f1,rest,wk,r1,p1,c1⟩:=ro.focus e
 have nd1:(f1++rest).Nodup:=p1.nodup_iff.mp nd
 have in1:∀ a,a∈f1->a∈F i:=fun a ha=>p1.mem_iff.mpr (List.mem_append_left _ ha)
 have inr:∀ a,a∈rest->a∈F i:=fun a ha=>p1.mem_iff.mpr (List.mem_append_right _ ha)
 have off1:∀ a,a∈rest->a∉f1:=fun a ha hb=>(List.nodup_append.mp nd1).2.2 a hb a ha rfl
 refine⟨w,f1,rest,wk,r1,p1,nd1,fun a ha=>gs a (in1 a ha),fun S' H' u' f' s sh gh new r' nd' fr nS keep nw=>?_⟩
 obtain⟨g,rg,pg⟩:=c1 S' H' u' f' s r' fun a ha o h=>keep a o (off1 a ha) h
 have noS:∀ j a,a∈F j->a∉f1->S' a=none:=fun j a ha hb=>by
  cases q:S' a with
  |none=>rfl
  | some o=>
    obtain⟨⟨o',h1,_⟩,_,h3⟩:=J.live j a ha
    rcases nw a (by rw[q];simp)with z|z|z
    . exact absurd h3 z
    . rw[h1]at z;cases z
    . exact absurd z hb
 have J1:SRF K cls Av G S₀ (ρ.set i none) (σ.set i none) S H (ki F i []):=J.put (fun t e=>nomatch e) (fun a ha=>nomatch ha) fun j a _ ha=>nomatch ha
 have off:∀ j a,a∈ki F i [] j->a∉f1 /\ j≠i:=fun j a ha=>by
  by_cases ej:j=i
  . subst ej;rw[fR]at ha;cases ha
  . rw[dg ej]at ha
    exact⟨fun hb=>ej (J.apart j i a ha (in1 a hb)),ej⟩
 have J2:=J1.change (S':=S') (H':=H') gh s sh new (fun j a ha o h=>keep a o (off j a ha).1 h)
  (fun b o hx h=>keep b o (fun hb=>by
    obtain⟨⟨o',h1,h2⟩,_⟩:=J.live i b (in1 b hb)
    rw[h]at h1;cases h1;rw[hx]at h2;cases h2) h)
  fun j a ha=>by
   have hj:=off j a ha;rw[dg hj.2]at ha;exact noS j a ha hj.1
 have mem:∀ a,a∈g->a∈f' \/ a∈rest:=fun a ha=>List.mem_append.mp (pg.mem_iff.mp ha)
 have hlive:∀ a∈g,(∃ o,H' a=some o /\ isX o=false) /\ G a=none /\ S' a=none:=fun a ha=>by
  refine⟨rg.live a ha,?_,?_⟩
  . rcases mem a ha with z|z
    . rcases fr a z with y|y
      . exact(gs a (in1 a y)).1
      . exact J.gh.free y
    . exact(gs a (inr a z)).1
  . rcases mem a ha with z|z
    . exact nS a z
    . exact noS i a (inr a z) (off1 a z)
 have ndg:g.Nodup:=pg.nodup_iff.mpr (List.nodup_append.mpr ⟨nd',(List.nodup_append.mp nd1).2.1,fun a ha b hb z=>by
  subst z
  rcases fr a ha with y|y
  . exact off1 a hb y
  . obtain⟨⟨o',h1,_⟩,_⟩:=J.live i a (inr a hb)
    rw[y]at h1;cases h1⟩)
 have J3:=J2.put (i:=i) (s:=some (.tr io (t.put π u'))) (u:=some v0) (fp:=g) (fun t' e=>by
  cases e
  exact⟨v0,rfl,rg,ndg,fun a ha=>⟨(hlive a ha).2.1,(hlive a ha).2.2⟩,hio⟩) hlive fun j a hj ha hz=>by
   rw[dg hj]at hz
   rcases mem a ha with z|z
   . rcases fr a z with y|y
     . exact hj (J.apart j i a hz (in1 a y))
     . obtain⟨⟨o',h1,_⟩,_⟩:=J.live j a hz;rw[y]at h1;cases h1
   . exact hj (J.apart j i a hz (inr a z))
 rw[List.set_set,List.set_set,iN hv]at J3
 have eF:ki (ki F i []) i g=ki F i g:=by
  funext j
  by_cases ej:j=i
  . subst ej;rw[fR,fR]
  . rw[dg ej,dg ej,dg ej]
 rw[eF]at J3
 exact⟨g,J3,pg⟩
theorem SRF.more(I:SRF K cls Av G S₀ ρ σ S H F)(h:∀ t,s=some t->∃ v,u=some v /\ lX K cls Av G S H ρ.length t v fp)
  (hl:∀ a∈fp,(∃ o,H a=some o /\ isX o=false) /\ G a=none /\ S a=none) (ap:∀ j a,j<ρ.length->a∈fp->a∉F j):∃ F',SRF K cls Av G S₀ (ρ++[s]) (σ++[u]) S H F':=by
 refine⟨fun j=>if j<ρ.length then F j else if j=ρ.length then fp else[],I.gh,I.s0,I.sh,I.new,fun j t e=>?_,fun j k a h1 h2=>?_,fun j a ha=>?_,by simp[I.len]⟩
 . by_cases hj:j<ρ.length
   . rw[List.getElem?_append_left hj]at e;rw[List.getElem?_append_left (by rw[<- I.len];exact hj)];simp only[hj,if_true];exact I.own j t e
   . rw[List.getElem?_append_right (Nat.le_of_not_lt hj)]at e
     have h0:j - ρ.length=0:=by
      by_cases h:j - ρ.length=0
      . exact h
      . rw[List.getElem?_eq_none (by simp;omega)]at e;cases e
     rw[h0]at e
     have ej:j=ρ.length:=by omega
     obtain⟨v,e2,r⟩:=h t (Option.some.inj e)
     refine⟨v,?_,?_⟩
     . rw[List.getElem?_append_right (by rw[<- I.len];omega),<- I.len,h0,e2];rfl
     . subst ej;simp only[Nat.lt_irrefl,if_false,if_true];exact r
 . by_cases hj:j<ρ.length
   . simp only[hj,if_true]at h1
     by_cases hk:k<ρ.length
     . simp only[hk,if_true]at h2;exact I.apart j k a h1 h2
     . simp only[hk,if_false]at h2;split at h2
       . exact absurd h1 (ap j a hj h2)
       . cases h2
   . simp only[hj,if_false]at h1;split at h1
     . rename_i ej
       by_cases hk:k<ρ.length
       . simp only[hk,if_true]at h2;exact absurd h2 (ap k a hk h1)
       . simp only[hk,if_false]at h2;split at h2
         . rename_i ek;rw[ej,ek]
         . cases h2
     . cases h1
 . by_cases hj:j<ρ.length
   . simp only[hj,if_true]at ha;exact I.live j a ha
   . simp only[hj,if_false]at ha;split at ha
     . exact hl a ha
     . cases ha
theorem SR.fold(I:SR K cls Av G S₀ (ρ++[some s]) (σ++[some v]) S H)(hs:nio s=true):SR K cls Av G S₀ (ρ.set i (some s)) (σ.set i (some v)) S H:=by
 obtain⟨F,J⟩:=I
 have hlen:ρ.length=σ.length:=by have:=J.len;simpa using this
 obtain⟨v',ev,r⟩:=J.own ρ.length s (by simp)
 have ev':v'=v:=by
  rw[List.getElem?_append_right (by rw[hlen];exact Nat.le_refl _),hlen,Nat.sub_self]at ev
  cases ev;rfl
 subst ev'
 have J1:SRF K cls Av G S₀ ρ σ S H (fun j=>if j<ρ.length then F j else[]):=by
  refine⟨J.gh,J.s0,J.sh,J.new,fun j t e=>?_,fun j k a h1 h2=>?_,fun j a ha=>?_,hlen⟩
  . have hj:j<ρ.length:=(List.getElem?_eq_some_iff.mp e).1
    obtain⟨v2,e2,r2⟩:=J.own j t (by rw[List.getElem?_append_left hj];exact e);rw[List.getElem?_append_left (by rw[<- hlen];exact hj)]at e2;simp only[hj,if_true]
    exact⟨v2,e2,r2⟩
  . split at h1
    . split at h2
      . exact J.apart j k a h1 h2
      . cases h2
    . cases h1
  . split at ha
    . exact J.live j a ha
    . cases ha
 refine⟨_,J1.put (i:=i) (s:=some s) (u:=some v') (fp:=F ρ.length) (fun t e=>?_) (fun a ha=>J.live _ a ha) fun j a hj ha hz=>?_⟩
 . cases e
   refine⟨v',rfl,?_⟩
   cases s with
   |sh x=>exact r
   |ow xs=>exact r
   |ex c fs=>exact r
   | tr io t=>
     cases io with
     |true=>cases hs
     |false=>exact⟨r.1,r.2.1,r.2.2.1,fun z=>nomatch z⟩
   |bo t=>cases hs
 . split at hz
   . rename_i hj';have:=J.apart j ρ.length a hz ha;omega
   . cases hz
theorem SR.yF(I:SR K cls Av G S₀ (ρ++[s]) (σ++[u]) S H):SR K cls Av G S₀ ρ σ S H:=by
 obtain⟨F,J⟩:=I
 have hlen:ρ.length=σ.length:=by have:=J.len;simpa using this
 refine⟨F,J.gh,J.s0,J.sh,J.new,fun j t e=>?_,J.apart,J.live,hlen⟩
 have hj:j<ρ.length:=(List.getElem?_eq_some_iff.mp e).1
 obtain⟨v2,e2,r2⟩:=J.own j t (by rw[List.getElem?_append_left hj];exact e);rw[List.getElem?_append_left (by rw[<- hlen];exact hj)]at e2
 exact⟨v2,e2,r2⟩
noncomputable def vd(K:PySem.W.Frag)(cls:String->Option Addr)(B S H:Hp)(t:OV)(v:V):Prop:=∃ fp,aX K cls S H t v fp /\ fp.Nodup /\ ∀ a∈fp,B a=none /\ S a=none
noncomputable def DF(K:PySem.W.Frag)(cls:String->Option Addr)(B S H:Hp)(ts:List OV)(vs:List V):Prop:=∃ fp,aS K cls S H ts vs fp /\ fp.Nodup /\ ∀ a∈fp,B a=none /\ S a=none
noncomputable def Dp(K:PySem.W.Frag)(cls:String->Option Addr)(W:XW)(σ:St)(S H:Hp)(Q:VK):OD->Prop
 |.ok t=>∀ v S' H',aI S H S' H'->vd K cls H S' H' t v->Q v H'
 |.exc c fs=>∀ a C S' H',aI S H S' H'->iD K cls S' H' c fs a C->W (.ref C) (some a) σ H'
 |.bad=>False
noncomputable def BN(K:PySem.W.Frag)(cls:String->Option Addr)(W:XW)(σ:St)(S H:Hp)(Q:List V->Hp->Prop):ODs->Prop
 |.ok ts=>∀ vs S' H',aI S H S' H'->DF K cls H S' H' ts vs->Q vs H'
 |.exc c fs=>∀ a C S' H',aI S H S' H'->iD K cls S' H' c fs a C->W (.ref C) (some a) σ H'
 |.bad=>False
noncomputable def JD(K:PySem.W.Frag)(cls:String->Option Addr)(W:XW)(te:TE)(m:af->OD):Prop:=∀ Av G S₀ ρ σ S H Q,SR K cls Av G S₀ ρ σ S H->Dp K cls W σ S H Q (m ρ)->te σ H Q
noncomputable def JDs(K:PySem.W.Frag)(cls:String->Option Addr)(W:XW)(te:TA)(m:af->ODs):Prop:=∀ Av G S₀ ρ σ S H Q,SR K cls Av G S₀ ρ σ S H->BN K cls W σ S H Q (m ρ)->te σ H Q
theorem vd.grow(h:vd K cls B S H t v)(w:aI S H S1 H1):vd K cls B S1 H1 t v:=by
 obtain⟨fp,r,nd,g⟩:=h
 refine⟨fp,r.mono w.s fun a _ o z=>w.g _ _ z,nd,fun a ha=>⟨(g a ha).1,?_⟩⟩
 obtain⟨o,h1,_⟩:=r.live a ha
 cases q:S1 a with
 |none=>rfl
 | some o'=>
   rcases w.new a (by rw[q];simp)with z|z
   . exact absurd (g a ha).2 z
   . rw[h1]at z;cases z
theorem vg{me:af->OE}(h:JE K cls W te me):JD K cls W te (mD me):=by
 intro Av G S₀ ρ σ S H Q I p;refine h Av G S₀ ρ σ S H Q I ?_;unfold mD at p
 cases e:me ρ with
 |exc c fs=>rw[e]at p;exact p
 |bad=>rw[e]at p;exact p
 | ok r=>
   rw[e]at p
   cases r with
   |sh x=>exact fun v S' H' w r=>p v S' H' w ⟨[],by unfold aX;exact⟨rfl,r⟩,List.nodup_nil,fun a ha=>nomatch ha⟩
   |al xs=>exact p.elim
   | fr xs=>
     intro v S' H' w r;obtain⟨q,vs,rfl,hB,hS,hH,hr⟩:=r;refine p _ S' H' w ⟨[q],by unfold aX;exact⟨q,vs,[],rfl,hH,rfl,.shs hr⟩,by simp,fun a ha=>?_⟩
     have z:a=q:=by simpa using ha
     subst z;exact⟨hB,hS⟩
theorem yd:JDs K cls W iC mDn:=fun Av G S₀ ρ σ S H Q I p=>p [] S H (aI.refl I.sh) ⟨[],.nil,List.nodup_nil,fun a ha=>nomatch ha⟩
theorem rJ{md:af->OD}{mr:af->ODs}(hd:JD K cls W te md)(ht:JDs K cls W t mr):JDs K cls W (eA te t) (mDc md mr):=by
 intro Av G S₀ ρ σ S H Q I p;refine hd Av G S₀ ρ σ S H _ I ?_;unfold mDc at p
 cases e:md ρ with
 |exc c fs=>rw[e]at p;exact p
 |bad=>rw[e]at p;exact p
 | ok x=>
   rw[e]at p;intro v S1 H1 w1 r1;refine ht Av G S₀ ρ σ S1 H1 _ (I.grow w1) ?_
   dsimp only at p
   cases e2:mr ρ with
   |exc c fs=>rw[e2]at p;exact fun a C S' H' w x=>p a C S' H' (w1.trans w) x
   |bad=>rw[e2]at p;exact p
   | ok ts=>
     rw[e2]at p;intro vs S2 H2 w2 r2;obtain⟨f2,q2,n2,g2⟩:=r2;have r3:=r1.grow w2;obtain⟨f0,q0,n0,g0⟩:=r1;refine p (v ::vs) S2 H2 (w1.trans w2) ⟨f0++f2,.cons (q0.mono w2.s fun a _ o z=>w2.g _ _ z) q2,List.nodup_append.mpr ⟨n0,n2,fun a ha b hb z=>?_⟩,fun a ha=>?_⟩
     . subst z;obtain⟨o,h1,_⟩:=q0.live a ha;rw[(g2 a hb).1]at h1;cases h1
     . rcases List.mem_append.mp ha with z|z
       . refine⟨(g0 a z).1,?_⟩
         obtain⟨o,h1,_⟩:=q0.live a z
         cases q:S2 a with
         |none=>rfl
         | some o'=>
           rcases w2.new a (by rw[q];simp)with y|y
           . exact absurd (g0 a z).2 y
           . rw[h1]at y;cases y
       . exact⟨w1.g.free (g2 a z).1,(g2 a z).2⟩
theorem A5{mr:af->ODs}(h:JDs K cls W t mr):JD K cls W (x9 t) (mDl mr):=by
 intro Av G S₀ ρ σ S H Q I p;refine h Av G S₀ ρ σ S H _ I ?_;unfold mDl at p
 cases e:mr ρ with
 |exc c fs=>rw[e]at p;exact p
 |bad=>rw[e]at p;exact p
 | ok ts=>
   rw[e]at p
   dsimp only at p
   split at p
   . rename_i hl;intro vs S1 H1 w1 r1;obtain⟨fp,r,nd,g⟩:=r1
     refine⟨by rw[r.length];exact hl,fun q hq=>?_⟩
     have w2:aI S1 H1 S1 (upd H1 q (.lst vs)):=aI.heap w1.sh hq
     refine p (.ref q) S1 _ (w1.trans w2) ⟨q ::fp,by unfold aX;exact⟨q,vs,fp,rfl,aY,rfl,r.mono (ay.refl _) fun a _ o z=>w2.g _ _ z⟩,List.nodup_cons.mpr ⟨fun z=>?_,nd⟩,fun a ha=>?_⟩
     . obtain⟨o,h1,_⟩:=r.live q z;rw[hq]at h1;cases h1
     . rcases List.mem_cons.mp ha with z|z
       . subst z;exact⟨w1.g.free hq,w1.sh.free hq⟩
       . exact g a z
   . exact p.elim
theorem SR.DB(I:SR K cls Av G S₀ ρ σ S H)(w:aI S H S' H')(h:vd K cls H S' H' t v):SR K cls Av G S₀ (ρ.set i (some (.tr false t))) (σ.set i (some v)) S' H':=by
 obtain⟨F,J⟩:=I;obtain⟨fp,r,nd,g⟩:=h
 refine⟨_,(J.grow w).put (fp:=fp) (fun t' e=>by cases e;exact⟨v,rfl,r,nd,fun a ha=>⟨J.gh.free (g a ha).1,(g a ha).2⟩,fun z=>nomatch z⟩) (fun a ha=>⟨r.live a ha,J.gh.free (g a ha).1,(g a ha).2⟩) fun j a _ ha hz=>?_⟩
 obtain⟨⟨o,h1,_⟩,_⟩:=J.live j a hz;rw[(g a ha).1]at h1;cases h1
theorem pq{md:af->OD}(h:JD K cls W te md):JS K cls W (vO te (ie i)) (jb i md):=by
 intro Av G S₀ ρ σ S H D I p;refine h Av G S₀ ρ σ S H _ I ?_;unfold jb at p
 cases e:md ρ with
 |exc c fs=>rw[e]at p;exact fun a C S' H' w x=>p a C σ S' H' (I.grow w) w.s x
 |bad=>rw[e]at p;exact p
 |ok t=>rw[e]at p;exact fun v S1 H1 w1 r1=>p _ S1 H1 (I.DB w1 r1) w1.s
end
section
variable{K:PySem.W.Frag}{cls:String->Option Addr}{W:XW}{Av G S₀ S S' H H' B B':Hp}{ρ:af}{σ:St}{Q:VK}{F:Nat->List Addr}
theorem aX.BR{ts:List OV}{v:V}{fp:List Addr}(h:aX K cls S H (.ol ts) v fp):∃ p vs f,v=.ref p /\ H p=some (.lst vs) /\ fp=p ::f /\ aS K cls S H ts vs f:=by unfold aX at h;exact h
theorem SRF.pG{i:Nat}{io:Bool}{t:OV}{ts:List OV}{v0:V}{π:List Stp}(J:SRF K cls Av G S₀ ρ σ S H F)(hi:ρ[i]?=some (some (.tr io t)))(hv:σ[i]?=some (some v0))(e:t.get π=some (.ol ts)):
  ∃ q vs ff rest,fw H v0 π (.ref q) /\ H q=some (.lst vs) /\ vs.length=ts.length /\ aS K cls S H ts vs ff /\ (F i).Perm ((q ::ff)++rest) /\ ((q ::ff)++rest).Nodup /\
    ∀ S' H' ts' vs' f',aI S H S' H'->aS K cls S' H' ts' vs' f'->f'.Nodup->(∀ a∈f',a∈ff \/ (H a=none /\ S' a=none)) ->
      ∃ g,SRF K cls Av G S₀ (ρ.set i (some (.tr io (t.put π (.ol ts'))))) σ S' (upd H' q (.lst vs')) (ki F i g) /\ g.Perm ((q ::f')++rest):=by
 obtain⟨w,f1,rest,wk,r1,p1,nd1,gs,c⟩:=J.part hi hv e;obtain⟨q,vs,ff,rfl,hq,rfl,rs⟩:=r1.BR
 refine⟨q,vs,ff,rest,wk,hq,rs.length,rs,p1,nd1,fun S' H' ts' vs' f' wg r' nd' fr=>?_⟩
 have hGq:=(gs q (by simp)).1;have hSq:=(gs q (by simp)).2
 have hS'q:S' q=none:=by
  cases z:S' q with
  |none=>rfl
  | some o=>
    rcases wg.new q (by rw[z];simp)with y|y
    . exact absurd hSq y
    . rw[hq]at y;cases y
 have nq:q∉f':=fun z=>by
  rcases fr q z with y|y
  . exact(List.nodup_cons.mp (List.nodup_append.mp nd1).1).1 y
  . rw[y.1]at hq;cases hq
 have nS:∀ a∈f',S' a=none:=fun a ha=>by
  rcases fr a ha with y|y
  . cases z:S' a with
    |none=>rfl
    | some o=>
      obtain⟨o',h1,_⟩:=rs.live a y
      rcases wg.new a (by rw[z];simp)with k|k
      . exact absurd (gs a (by simp[y])).2 k
      . rw[h1]at k;cases k
  . exact y.2
 refine c S' (upd H' q (.lst vs')) (.ol ts') (q ::f') wg.s (wg.sh.upd hS'q) ((J.gh.trans wg.g).upd hGq) (fun b h=>?_) ?_ (List.nodup_cons.mpr ⟨nq,nd'⟩) (fun a ha=>?_) (fun a ha=>?_) (fun a o hn h=>?_) fun a h=>?_
 . rcases wg.new b h with z|z
   . exact J.new b z
   . exact .inr (J.gh.free z)
 . unfold aX
   exact⟨q,vs',f',rfl,aY,rfl,r'.mono (ay.refl _) fun a ha o h=>by rw[bB (fun z=>nq (by rw[<- z];exact ha))];exact h⟩
 . rcases List.mem_cons.mp ha with z|z
   . subst z;exact .inl (by simp)
   . rcases fr a z with y|y
     . exact .inl (by simp[y])
     . exact .inr y.1
 . rcases List.mem_cons.mp ha with z|z
   . subst z;exact hS'q
   . exact nS a z
 . rw[bB (fun z=>hn (by rw[z];simp))];exact wg.g _ _ h
 . rcases wg.new a h with z|z
   . exact .inl z
   . exact .inr (.inl z)
theorem JP.at{i:Nat}{te:TE}{mp:MP}{io:Bool}{t u:OV}{v0:V}{π:List Stp}{Q:VK}(hp:JP K cls te i mp)(I:SR K cls Av G S₀ ρ σ S H)(hi:ρ[i]?=some (some (.tr io t)))(hv:σ[i]?=some (some v0))(e0:mp ρ=some π)(e1:t.get π=some u)
  (k:∀ w S' H',aI S H S' H'->SR K cls Av G S₀ ρ σ S' H'->fw H' v0 π w->Q w H'):te σ H Q:=
 hp Av G S₀ ρ σ S H Q v0 t π I (by unfold cI;rw[hi];rfl) hv e0 (by rw[e1];rfl) fun w S1 H1 w1 wk=>k w S1 H1 w1 (I.grow w1) wk
theorem rh{i:Nat}{mp:MP}{k:OV->(OV->af)->OS}{D:Ends}(p:fV K cls W Av G S₀ S D (tJ i mp ρ k)):∃ io t π u,ρ[i]?=some (some (.tr io t)) /\ mp ρ=some π /\ t.get π=some u /\ fV K cls W Av G S₀ S D (k u fun u'=>ρ.set i (some (.tr io (t.put π u')))):=by
 unfold tJ at p;split at p
 . rename_i io t hi;split at p
   . rename_i π e0;split at p
     . rename_i u e1
       exact⟨io,t,π,u,hi,e0,e1,p⟩
     . exact p.elim
   . exact p.elim
 . exact p.elim
theorem SR.val{i:Nat}{s:Sl}(I:SR K cls Av G S₀ ρ σ S H)(e:ρ[i]?=some (some s)):∃ v,σ[i]?=some (some v):=let ⟨v,h,_⟩:=I.good i s e;⟨v,h⟩
theorem jQ{i:Nat}{te tx:TE}{mp:MP}{md:af->OD}(hp:JP K cls te i mp)(hx:JD K cls W tx md):JS K cls W (lM (tBM K "list" uz te (eA tx iC))) (dM i mp md):=by
 intro Av G S₀ ρ σ S H D I p;obtain⟨io,t,π,u,hi,e0,e1,p⟩:=rh p;obtain⟨v0,hv⟩:=I.val hi
 cases u with
 |sh x=>exact p.elim
 |ob c ks us=>exact p.elim
 |di x=>exact p.elim
 |dt x=>exact p.elim
 | ol ts=>
   dsimp only at p
   refine hp.at I hi hv e0 e1 fun w S1 H1 w1 I1 wk=>?_
   obtain⟨F,J1⟩:=I1;obtain⟨q,vs,ff,rest,wk',hq,hl,rs,_,nd,c⟩:=J1.pG hi hv e1;have:=wk.inj wk';subst this
   refine⟨.inl ⟨rfl,_,SqL.new hq⟩,?_⟩
   refine hx Av G S₀ ρ σ S1 H1 _ ⟨F,J1⟩ ?_
   cases ed:md ρ with
   |exc c fs=>rw[ed]at p;exact fun a C S' H' w x=>p a C σ S' H' (SR.grow ⟨F,J1⟩ w) (w1.s.trans w.s) x
   |bad=>rw[ed]at p;exact p
   | ok x=>
     rw[ed]at p
     dsimp only at p
     split at p
     . rename_i hlt;intro v S2 H2 w2 r2;obtain⟨fx,rx,ndx,gx⟩:=r2
       refine⟨q,vs,v,rfl,rfl,w2.g _ _ hq,by rw[hl];exact hlt,?_⟩
       have ndf:ff.Nodup:=(List.nodup_cons.mp (List.nodup_append.mp nd).1).2
       have apx:∀ a∈ff,a∉fx:=fun a ha hb=>by
        obtain⟨o,h1,_⟩:=rs.live a ha;rw[(gx a hb).1]at h1;cases h1
       obtain⟨g,J3,_⟩:=c S2 H2 (ts++[x]) (vs++[v]) (ff++(fx++[])) w2 ((rs.mono w2.s fun a _ o h=>w2.g _ _ h).append (.cons rx .nil)) (by
         rw[List.append_nil]
         exact List.nodup_append.mpr ⟨ndf,ndx,fun a ha b hb z=>by subst z;exact apx a ha hb⟩) (fun a ha=>by
         rw[List.append_nil]at ha
         rcases List.mem_append.mp ha with z|z
         . exact .inl z
         . exact .inr (gx a z))
       exact p σ S2 _ ⟨_,J3⟩ (w1.s.trans w2.s)
     . exact p.elim
end
section
variable{K:PySem.W.Frag}{cls:String->Option Addr}{W:XW}{Av G S₀ S S' H H' B B':Hp}{ρ:af}{σ:St}{Q:VK}{F:Nat->List Addr}
noncomputable def zY(K:PySem.W.Frag)(cls:String->Option Addr)(W:XW)(Av G S₀:Hp)(σ:St)(S:Hp)(Q:VK):OX->Prop
 |.ok ρ' s=>∀ v S' H',SR K cls Av G S₀ (ρ'++[some s]) (σ++[some v]) S' H'->ay S S'->Q v H'
 |.exc ρ' c fs=>∀ a C S' H',SR K cls Av G S₀ ρ' σ S' H'->ay S S'->iD K cls S' H' c fs a C->W (.ref C) (some a) σ H'
 |.bad=>False
noncomputable def JX(K:PySem.W.Frag)(cls:String->Option Addr)(W:XW)(te:TE)(m:af->OX):Prop:=∀ Av G S₀ ρ σ S H Q,SR K cls Av G S₀ ρ σ S H->zY K cls W Av G S₀ σ S Q (m ρ)->te σ H Q
theorem mv{i:Nat}{te:TE}{m:af->OX}(h:JX K cls W te m):JS K cls W (vO te (ie i)) (fL i m):=by
 intro Av G S₀ ρ σ S H D I p;refine h Av G S₀ ρ σ S H _ I ?_;unfold fL at p
 cases e:m ρ with
 |exc ρ' c fs=>rw[e]at p;exact fun a C S' H' I' s' x=>p a C σ S' H' I' s' x
 |bad=>rw[e]at p;exact p
 | ok ρ' s=>
   rw[e]at p
   dsimp only at p
   split at p
   . rename_i hs
     exact fun v S' H' I' s'=>p _ S' H' (I'.fold hs) s'
   . exact p.elim
theorem rW{te:TE}{m:af->OX}(h:JX K cls W te m):JS K cls W (lM te) (dR m):=by
 intro Av G S₀ ρ σ S H D I p;refine h Av G S₀ ρ σ S H _ I ?_;unfold dR at p
 cases e:m ρ with
 |exc ρ' c fs=>rw[e]at p;exact fun a C S' H' I' s' x=>p a C σ S' H' I' s' x
 |bad=>rw[e]at p;exact p
 |ok ρ' s=>rw[e]at p;exact fun v S' H' I' s'=>p σ S' H' I'.yF s'
theorem aS.last{ts:List OV}{vs:List V}{f:List Addr}{x:OV}(h:aS K cls S H ts vs f)(e:ts.getLast?=some x):∃ y f1 f2,vs[vs.length - 1]?=some y /\ aS K cls S H ts.dropLast vs.dropLast f1 /\ aX K cls S H x y f2 /\ f=f1++f2:=by
 induction ts generalizing vs f with
 |nil=>cases e
 | cons t ts ih=>
   obtain⟨v,r,f1,f2,rfl,rfl,h1,h2⟩:=h.cons_inv
   cases ts with
   | nil=>
     unfold aS at h2;obtain⟨rfl,rfl⟩:=h2;simp at e;subst e
     exact⟨v,[],f1,rfl,.nil,h1,by simp⟩
   | cons t2 ts2=>
     rw[List.getLast?_cons_cons]at e;obtain⟨y,g1,g2,e1,r1,r2,rfl⟩:=ih h2 e
     have hr:r≠[]:=by intro z;subst z;have:=h2.length;simp at this
     refine⟨y,f1++g1,g2,?_,?_,r2,by simp⟩
     . cases r with
       |nil=>exact absurd rfl hr
       |cons a r'=>simpa using e1
     . cases r with
       |nil=>exact absurd rfl hr
       |cons a r'=>exact aS.cons h1 r1
theorem ze{x:OV}{v:V}{fp:List Addr}{i:Nat}(h:aX K cls S H x v fp)(nd:fp.Nodup)(g:∀ a∈fp,G a=none /\ S a=none):lX K cls Av G S H i (slO x) v fp:=by
 cases x with
 |sh y=>unfold aX at h;exact h
 |ol ts=>exact⟨h,nd,g,fun z=>nomatch z⟩
 |ob c ks ts=>exact⟨h,nd,g,fun z=>nomatch z⟩
 |di x=>exact⟨h,nd,g,fun z=>nomatch z⟩
 |dt x=>exact⟨h,nd,g,fun z=>nomatch z⟩
theorem ud{i:Nat}{te:TE}{mp:MP}(hp:JP K cls te i mp):JX K cls W (AI K "list" DD te) (i9 i mp):=by
 intro Av G S₀ ρ σ S H Q I p;unfold i9 at p;split at p
 . rename_i io t hi;split at p
   . rename_i π e0;split at p
     . rename_i ts e1;split at p
       . rename_i x ex;obtain⟨v0,hv⟩:=I.val hi
         refine hp.at I hi hv e0 e1 fun w S1 H1 w1 I1 wk=>?_
         obtain⟨F,J1⟩:=id I1;obtain⟨q,vs,ff,rest,wk',hq,hl,rs,pF,nd,c⟩:=J1.pG hi hv e1;have:=wk.inj wk';subst this;obtain⟨y,f1,f2,ey,ri,rx,rfl⟩:=rs.last ex
         have ndf:(f1++f2).Nodup:=(List.nodup_cons.mp (List.nodup_append.mp nd).1).2
         have nq:q∉f1++f2:=(List.nodup_cons.mp (List.nodup_append.mp nd).1).1
         refine⟨.inl ⟨rfl,_,SqL.new hq⟩,q,vs,y,rfl,rfl,hq,ey,?_⟩
         obtain⟨g,J3,pg⟩:=c S1 H1 ts.dropLast vs.dropLast f1 (aI.refl J1.sh) ri (List.nodup_append.mp ndf).1 fun a ha=>.inl (List.mem_append_left _ ha)
         have in2:∀ a∈f2,a∈F i:=fun a ha=>pF.mem_iff.mpr (by simp[ha])
         have rx':aX K cls S1 (upd H1 q (.lst vs.dropLast)) x y f2:=rx.mono (ay.refl _) fun a ha o h=>by rw[bB (fun z=>nq (by rw[<- z];simp[ha]))];exact h
         have gs2:∀ a∈f2,G a=none /\ S1 a=none:=fun a ha=>(J1.live i a (in2 a ha)).2
         obtain⟨F',J4⟩:=J3.more (s:=some (slO x)) (u:=some y) (fp:=f2) (fun t' e=>by cases e;exact⟨y,rfl,ze rx' (List.nodup_append.mp ndf).2.1 gs2⟩) (fun a ha=>⟨rx'.live a ha,gs2 a ha⟩) fun j a hj ha hz=>by
          by_cases ej:j=i
          . subst ej;rw[fR]at hz;have hm:=pg.mem_iff.mp hz;have hd:=List.nodup_append.mp nd
            rcases List.mem_append.mp hm with z|z
            . rcases List.mem_cons.mp z with z|z
              . subst z;exact nq (by simp[ha])
              . exact(List.nodup_append.mp ndf).2.2 a z a ha rfl
            . exact hd.2.2 a (by simp[ha]) a z rfl
          . rw[dg ej]at hz;exact ej (J1.apart j i a hz (in2 a ha))
         exact p y S1 _ ⟨F',J4⟩ w1.s
       . exact p.elim
     . exact p.elim
   . exact p.elim
 . exact p.elim
end
open Classical in
noncomputable def minus(H:Hp)(Fc:Nat->List Addr):Hp:=fun a=>if ∃ k,a∈Fc k then none else H a
section
variable{K:PySem.W.Frag}{cls:String->Option Addr}{W:XW}{Av G S₀ S S' H H' B B':Hp}{ρ:af}{σ:St}{Q:VK}{F Fc Fc':Nat->List Addr}
theorem qD(h:a∈Fc k):minus H Fc a=none:=by unfold minus;rw[if_pos ⟨k,h⟩]
theorem gO(h:∀ k,a∉Fc k):minus H Fc a=H a:=by unfold minus;rw[if_neg (fun ⟨k,z⟩=>h k z)]
theorem nP:ay (minus H Fc) H:=fun b u h=>by
 unfold minus at h;split at h
 . cases h
 . exact h
theorem j1(h:minus H Fc a=none):H a=none \/ ∃ k,a∈Fc k:=by
 unfold minus at h;split at h
 . rename_i z;exact .inr z
 . exact .inl h
noncomputable def EG(K:PySem.W.Frag)(cls:String->Option Addr)(S H Hm:Hp):Sl->V->List Addr->Prop
 |.sh x,v,fp=>fp=[] /\ Rep K S x v
 |.tr true t,v,fp=>aX K cls S H t v fp /\ fp.Nodup
 |.bo t,v,fp=>fp=[] /\ ∃ f,aX K cls S Hm t v f
 |_,_,_=>False
structure yi(K:PySem.W.Frag)(cls:String->Option Addr)(vs:List V)(S H:Hp)(Fc:Nat->List Addr)(outs:List (Option OV))(S' H':Hp)(Fc':Nat->List Addr):Prop where
 s:ay S S'
 sh:ay S' H'
 keep:ay (minus H Fc) H'
 new:∀ b,S' b≠none->S b≠none \/ H b=none \/ ∃ k,b∈Fc k
 out:∀ k t',outs[k]?=some (some t')->∃ u,vs[k]?=some u /\ aX K cls S' H' t' u (Fc' k) /\ (Fc' k).Nodup
 apart:∀ j k a,a∈Fc' j->a∈Fc' k->j=k
 live:∀ k a,a∈Fc' k->minus H Fc a=none /\ S' a=none
noncomputable def C9(K:PySem.W.Frag)(cls:String->Option Addr)(vs:List V)(S H:Hp)(Fc:Nat->List Addr)(Q:VK)(E:XK):OI->Prop
 |.ok x outs=>∀ v S' H' Fc',yi K cls vs S H Fc outs S' H' Fc'->Rep K S' x v->Q v H'
 |.exc c fs outs=>∀ a C S' H' Fc',yi K cls vs S H Fc outs S' H' Fc'->iD K cls S' H' c fs a C->E (.ref C) (some a) H'
 |.bad=>False
structure Aj(K:PySem.W.Frag)(cls:String->Option Addr)(as:List Sl)(vs:List V)(S H:Hp)(Fc:Nat->List Addr):Prop where
 sh:ay S H
 len:as.length=vs.length
 rel:∀(k:Nat) (s:Sl),as[k]?=some s->∃ v,vs[k]?=some v /\ EG K cls S H (minus H Fc) s v (Fc k)
 apart:∀ j k a,a∈Fc j->a∈Fc k->j=k
 live:∀ k a,a∈Fc k->(∃ o,H a=some o /\ isX o=false) /\ S a=none
noncomputable def spI(K:PySem.W.Frag)(cls:String->Option Addr)(f:List Sl->OI):Sp:=fun vs H Q E=>∃ S as Fc,Aj K cls as vs S H Fc /\ C9 K cls vs S H Fc Q E (f as)
theorem zk{as:List Sl}{vs:List V}{N:List Str}{i:Nat}{s:Sl}(hl:as.length=vs.length)(e:(iJ N.length as)[i]?=some (some s)):as[i]?=some s /\ (L2.start N vs)[i]?=some ((vs[i]?)):=by
 unfold iJ at e
 by_cases hi:i<as.length
 . rw[List.getElem?_append_left (by simpa using hi),List.getElem?_map]at e
   have hx:as[i]?=some as[i]:=by simp[hi]
   rw[hx]at e;cases e
   refine⟨hx,?_⟩
   unfold L2.start;rw[List.getElem?_append_left (by rw[List.length_map,<- hl];exact hi),List.getElem?_map]
   have hv:vs[i]?=some (vs[i]'(by rw[<- hl];exact hi)):=by simp[<- hl,hi]
   rw[hv];rfl
 . rw[List.getElem?_append_right (by simpa using hi)]at e;rw[List.getElem?_replicate]at e
   split at e<;>cases e
noncomputable def xU(vs:List V):Hp:=fun i=>(vs[i]?).map fun v=>.lst [v]
theorem SR.A8{ρ':af}(A:ay S H)(I:SR K cls (xU vs) (minus H Fc) S ρ' σ' S' H'):∃ Fc',yi K cls vs S H Fc ((ρ'.take np).map kJ) S' H' Fc':=by
 obtain⟨F,J⟩:=I
 refine⟨F,J.s0,J.sh,J.gh,fun b h=>?_,fun k t' e=>?_,J.apart,fun k a ha=>(J.live k a ha).2⟩
 . rcases J.new b h with z|z
   . exact .inl z
   . rcases j1 z with y|y
     . exact .inr (.inl y)
     . exact .inr (.inr y)
 . rw[List.getElem?_map]at e;obtain⟨s,e1,e2⟩:=Option.map_eq_some_iff.mp e
   have e3:ρ'[k]?=some s:=by
    rw[List.getElem?_take]at e1;split at e1
    . exact e1
    . cases e1
   cases s with
   |none=>cases e2
   | some s=>
     cases s with
     | tr io t=>
       cases io with
       |false=>cases e2
       | true=>
         cases e2;obtain⟨v,ev,ro,nd,_,hio⟩:=J.own k _ e3;have:=hio rfl;unfold xU at this;obtain⟨u,eu,e4⟩:=Option.map_eq_some_iff.mp this;cases e4
         exact⟨v,eu,ro,nd⟩
     |sh x=>cases e2
     |ow x=>cases e2
     |ex c fs=>cases e2
     |bo t=>cases e2
theorem zO{P:Program}{w:World}{mg:Str->Option Value}{base:Heap}{x qual:Str}{st:Stmt}{f:Addr}{fd:FuncData}{N ps:List Str}{k:Nat}{m:af->OS}(Fn:Fun K x qual st f fd)(Sc:bu N ps (aD st))
  (hbody:∀(cdv:Value) (A:Around) (outer:List Env) (s:Shared) (H:Hp) (E:XK),fF k (A.deeper (envOfC qual (aD st) s.heap.objs.size f cdv)) ->
    ∃ t,QSs (lG (CXE P w) P w K mg base N qual (aD st) f cdv A outer s H E) (cV st) t /\ JS K cls (fun C a _ H=>∀ H',ay H H'->E C a H') t m):cO P w K mg base (CXE P w) (k+1) f fd ps (spI K cls (fnI ps.length N.length m)):=by
 refine okX Fn Sc (fun vs H Q E h=>?_) fun cdv A outer s H vs Q E hr h=>?_
 . obtain⟨S,as,Fc,a,q⟩:=h;unfold fnI at q;split at q
   . rw[<- a.len];assumption
   . exact q.elim
 . obtain⟨S,as,Fc,a,q⟩:=h;unfold fnI at q;split at q
   . rename_i hl;obtain⟨t,ht,J⟩:=hbody cdv A outer s H E hr
     refine⟨t,ht.out,?_⟩
     have start:SR K cls (xU vs) (minus H Fc) S (iJ N.length as) (L2.start N vs) S H:=by
      refine⟨Fc,nP,ay.refl _,a.sh,fun _ z=>.inl z,fun i s e=>?_,a.apart,fun i b hb=>⟨(a.live i b hb).1,qD hb,(a.live i b hb).2⟩,?_⟩
      . obtain⟨e1,e2⟩:=zk a.len e;obtain⟨v,ev,r⟩:=a.rel i s e1;rw[ev]at e2
        refine⟨v,e2,?_⟩
        cases s with
        |sh x=>exact r
        |ow x=>exact r.elim
        |ex c fs=>exact r.elim
        | tr io t=>
          cases io with
          |false=>exact r.elim
          |true=>exact⟨r.1,r.2,fun b hb=>⟨qD hb,(a.live i b hb).2⟩,fun _=>by unfold xU;rw[ev];rfl⟩
        |bo t=>exact r
      . unfold iJ L2.start;simp[a.len]
     refine J (xU vs) (minus H Fc) S (iJ N.length as) (L2.start N vs) S H _ start ?_
     cases e:m (iJ N.length as)with
     |nx ρ'=>rw[e]at q;exact fun σ' S' H' I' s'=>let ⟨Fc',E'⟩:=I'.A8 (np:=ps.length) a.sh;q .non S' H' Fc' E' (by unfold Rep;rfl)
     |bk ρ'=>rw[e]at q;exact q.elim
     |ct ρ'=>rw[e]at q;exact q.elim
     |bad=>rw[e]at q;exact q.elim
     | rt ρ' r=>
       rw[e]at q
       cases r with
       |al ys=>exact q.elim
       |fr ys=>exact q.elim
       |sh y=>exact fun v σ' S' H' I' s' rr=>let ⟨Fc',E'⟩:=I'.A8 (np:=ps.length) a.sh;q v S' H' Fc' E' rr
     | exc ρ' c fs=>
       rw[e]at q
       exact fun b C σ' S' H' I' s' x H2 g2=>let ⟨Fc',E'⟩:=(I'.same g2).A8 (np:=ps.length) a.sh;q b C S' H2 Fc' E' (x.mono (ay.refl _) g2)
   . exact q.elim
noncomputable def AR1(K:PySem.W.Frag)(S H:Hp)(ρ:af)(σ:St):Arg->Sl->V->Prop
 |.e _,.sh x,v=>Rep K S x v
 |.t i mp,.tr true u,v=>∃ io t π v0,ρ[i]?=some (some (.tr io t)) /\ mp ρ=some π /\ t.get π=some u /\ σ[i]?=some (some v0) /\ fw H v0 π v
 |.b i mp,.bo u,v=>∃ t π v0,cI i ρ=some t /\ mp ρ=some π /\ t.get π=some u /\ σ[i]?=some (some v0) /\ fw H v0 π v
 |_,_,_=>False
noncomputable def ARs(K:PySem.W.Frag)(S H:Hp)(ρ:af)(σ:St):List Arg->List Sl->List V->Prop
 |[],ss,vs=>ss=[] /\ vs=[]
 |a ::as,ss,vs=>∃ s sr v vr,ss=s ::sr /\ vs=v ::vr /\ AR1 K S H ρ σ a s v /\ ARs K S H ρ σ as sr vr
theorem AR1.mono(h:AR1 K S H ρ σ a s v)(s1:ay S S')(g:ay H H'):AR1 K S' H' ρ σ a s v:=by
 cases a with
 |e me=>cases s<;>first|exact h.elim|exact Rep.mono s1 h
 | t i mp=>
   cases s with
   | tr io u=>
     cases io with
     |false=>exact h.elim
     |true=>obtain⟨io,t,π,v0,h1,h2,h3,h4,h5⟩:=h;exact⟨io,t,π,v0,h1,h2,h3,h4,h5.mono g⟩
   |_=>exact h.elim
 | b i mp=>
   cases s with
   |bo u=>obtain⟨t,π,v0,h1,h2,h3,h4,h5⟩:=h;exact⟨t,π,v0,h1,h2,h3,h4,h5.mono g⟩
   |_=>exact h.elim
theorem ARs.at:∀{ss:List Sl} {vs:List V} {k:Nat} {a:Arg},ARs K S H ρ σ as ss vs->as[k]?=some a->∃ s v,ss[k]?=some s /\ vs[k]?=some v /\ AR1 K S H ρ σ a s v:=by
 induction as with
 |nil=>intro ss vs k a _ e;simp at e
 | cons b as ih=>
   rintro ss vs k a ⟨s,sr,v,vr,rfl,rfl,h1,h2⟩ e
   cases k with
   |zero=>simp at e;subst e;exact⟨s,v,rfl,rfl,h1⟩
   |succ k=>simp at e;obtain⟨s',v',e1,e2,r⟩:=ih h2 e;exact⟨s',v',by simpa using e1,by simpa using e2,r⟩
theorem ARs.len{as:List Arg}:∀{ss:List Sl} {vs:List V},ARs K S H ρ σ as ss vs->ss.length=as.length /\ vs.length=as.length:=by
 induction as with
 |nil=>intro ss vs h;rw[h.1,h.2];exact⟨rfl,rfl⟩
 | cons b as ih=>
   rintro ss vs ⟨s,sr,v,vr,rfl,rfl,h1,h2⟩
   have:=ih h2;simp[this]
noncomputable def JAI(K:PySem.W.Frag)(cls:String->Option Addr)(t:TA)(as:List Arg):Prop:=∀ Av G S₀ ρ σ S H Q ss,SR K cls Av G S₀ ρ σ S H->jh as ρ=some ss->(∀ vs S' H',aI S H S' H'->ARs K S' H' ρ σ as ss vs->Q vs H')->t σ H Q
noncomputable def JA1(K:PySem.W.Frag)(cls:String->Option Addr)(te:TE)(a:Arg):Prop:=∀ Av G S₀ ρ σ S H Q s,SR K cls Av G S₀ ρ σ S H->n8 a ρ=some s->(∀ v S' H',aI S H S' H'->AR1 K S' H' ρ σ a s v->Q v H')->te σ H Q
theorem zV{me:af->OE}(h:JE K cls W te me):JA1 K cls te (.e me):=by
 intro Av G S₀ ρ σ S H Q s I e k;unfold n8 at e
 dsimp only at e
 refine h Av G S₀ ρ σ S H Q I ?_
 cases em:me ρ with
 |exc c fs=>rw[em]at e;cases e
 |bad=>rw[em]at e;cases e
 | ok r=>
   rw[em]at e;obtain⟨x,e1,rfl⟩:=Option.map_eq_some_iff.mp e;intro v S1 H1 w1 r1;obtain⟨S2,w2,s2,rx⟩:=r1.share w1 e1;exact k v S2 H1 w2 rx
theorem uc(h:JP K cls te i mp):JA1 K cls te (.t i mp):=by
 intro Av G S₀ ρ σ S H Q s I e k;unfold n8 at e
 dsimp only at e
 split at e
 . rename_i io t hi;obtain⟨u,e1,rfl⟩:=Option.map_eq_some_iff.mp e;obtain⟨π,e2,e3⟩:=Option.bind_eq_some_iff.mp e1;obtain⟨v0,hv⟩:=I.val hi
   exact h.at I hi hv e2 e3 fun w S1 H1 w1 I1 wk=>k w S1 H1 w1 ⟨io,t,π,v0,hi,e2,e3,hv,wk⟩
 . cases e
theorem mq:JAI K cls iC []:=by
 intro Av G S₀ ρ σ S H Q ss I e k;cases e;exact k [] S H (aI.refl I.sh) ⟨rfl,rfl⟩
theorem gK(h:JA1 K cls te a)(r:JAI K cls t as):JAI K cls (eA te t) (a ::as):=by
 intro Av G S₀ ρ σ S H Q ss I e k;unfold jh at e;obtain⟨s,e1,e2⟩:=Option.bind_eq_some_iff.mp e;obtain⟨sr,e3,rfl⟩:=Option.map_eq_some_iff.mp e2
 refine h Av G S₀ ρ σ S H _ s I e1 fun v S1 H1 w1 h1=>?_
 refine r Av G S₀ ρ σ S1 H1 _ sr (I.grow w1) e3 fun vs S2 H2 w2 h2=>?_
 exact k (v ::vs) S2 H2 (w1.trans w2) ⟨s,sr,v,vs,rfl,rfl,h1.mono w2.s w2.g,h2⟩
end
section
variable{K:PySem.W.Frag}{cls:String->Option Addr}{W:XW}{Av G S₀ S S' H H' B B':Hp}{ρ:af}{σ:St}{Q:VK}{F Fc Fc':Nat->List Addr}
noncomputable def bK:List Arg->List Nat
 |[]=>[]
 |.t i _ ::as=>i ::bK as
 |_ ::as=>bK as
noncomputable def lg:List Arg->List Nat
 |[]=>[]
 |.b i _ ::as=>i ::lg as
 |_ ::as=>lg as
noncomputable def argsOk(as:List Arg):Bool:=decide (bK as).Nodup&&(lg as).all fun i=>!(bK as).contains i
theorem dZ{as:List Arg}{k i:Nat}{mp:MP}(h:as[k]?=some (.t i mp)):i∈bK as:=by
 induction as generalizing k with
 |nil=>simp at h
 | cons a as ih=>
   cases k with
   |zero=>simp at h;subst h;simp[bK]
   | succ k=>
     simp at h;have:=ih h
     cases a<;>simp[bK,this]
theorem s9{as:List Arg}{k i:Nat}{mp:MP}(h:as[k]?=some (.b i mp)):i∈lg as:=by
 induction as generalizing k with
 |nil=>simp at h
 | cons a as ih=>
   cases k with
   |zero=>simp at h;subst h;simp[lg]
   | succ k=>
     simp at h;have:=ih h
     cases a<;>simp[lg,this]
theorem hE{as:List Arg}(nd:(bK as).Nodup){j k i:Nat}{mp mp':MP}(h:as[j]?=some (.t i mp))(h':as[k]?=some (.t i mp')):j=k:=by
 induction as generalizing j k with
 |nil=>simp at h
 | cons a as ih=>
   cases j with
   | zero=>
     simp at h;subst h
     cases k with
     |zero=>rfl
     | succ k=>
       simp at h';have:=dZ h';simp[bK]at nd;exact absurd this nd.1
   | succ j=>
     cases k with
     | zero=>
       simp at h';subst h';simp at h;have:=dZ h;simp[bK]at nd;exact absurd this nd.1
     | succ k=>
       simp at h h'
       have nd':(bK as).Nodup:=by
        cases a with
        |t i' mp=>simp[bK]at nd;exact nd.2
        |e me=>exact nd
        |b i' mp=>exact nd
       rw[ih nd' h h']
theorem lA{as:List Arg}{i:Nat}(h:i∈bK as):∃(k:Nat) (mp:MP),as[k]?=some (.t i mp):=by
 induction as with
 |nil=>simp[bK]at h
 | cons a as ih=>
   cases a with
   | t j mp=>
     simp[bK]at h
     rcases h with h|h
     . subst h;exact⟨0,mp,rfl⟩
     . obtain⟨k,mp',e⟩:=ih h;exact⟨k+1,mp',by simpa using e⟩
   |e me=>obtain⟨k,mp',e⟩:=ih h;exact⟨k+1,mp',by simpa using e⟩
   |b j mp=>obtain⟨k,mp',e⟩:=ih h;exact⟨k+1,mp',by simpa using e⟩
theorem lO{as:List Arg}{ρ₀:af}:∀{us:List (Option OV)} {ρ:af} {i:Nat},i∉bK as->(cb ρ₀ as us ρ)[i]?=ρ[i]?:=by
 induction as with
 |nil=>intro us ρ i _;rfl
 | cons a as ih=>
   intro us ρ i h;unfold cb
   cases a with
   |e me=>rw[ih h];rfl
   |b j mp=>rw[ih h];rfl
   | t j mp=>
     simp[bK]at h;rw[ih h.2]
     have:∀ x:Option Sl,(ρ.set j x)[i]?=ρ[i]?:=fun x=>List.getElem?_set_ne (Ne.symm h.1)
     cases us.head?.join with
     |none=>exact this _
     | some u=>
       unfold eK;dsimp only;split
       . split
         . exact this _
         . exact this _
       . exact this _
theorem tN{as:List Arg}{ρ₀:af}:∀{us:List (Option OV)} {ρ:af} {i k:Nat} {mp:MP} {s:Sl},(bK as).Nodup->as[k]?=some (.t i mp)->(cb ρ₀ as us ρ)[i]?=some (some s) ->
  ∃ io t π u,us[k]?=some (some u) /\ ρ[i]?=some (some (.tr io t)) /\ mp ρ₀=some π /\ s=.tr io (t.put π u):=by
 induction as with
 |nil=>intro us ρ i k mp s _ h;simp at h
 | cons a as ih=>
   intro us ρ i k mp s nd h e;unfold cb at e
   cases k with
   | zero=>
     simp at h;subst h;simp[bK]at nd;rw[lO nd.1]at e
     cases us with
     | nil=>
       unfold eK at e;simp at e;rw[List.getElem?_set]at e;simp at e
     | cons u us=>
       cases u with
       | none=>
         unfold eK at e;simp at e;rw[List.getElem?_set]at e;simp at e
       | some u=>
         unfold eK at e;simp only[List.head?_cons,Option.join_some]at e;split at e
         . rename_i io t hi;split at e
           . rename_i π hπ;rw[List.getElem?_set]at e;simp at e
             exact⟨io,t,π,u,rfl,hi,hπ,e.2.symm⟩
           . rw[List.getElem?_set]at e;simp at e
         . rw[List.getElem?_set]at e;simp at e
   | succ k=>
     simp at h
     have nd':(bK as).Nodup:=by
      cases a with
      |t i' mp=>simp[bK]at nd;exact nd.2
      |e me=>exact nd
      |b i' mp=>exact nd
     obtain⟨io,t,π,u,e1,e2,e3,e4⟩:=ih nd' h e
     refine⟨io,t,π,u,?_,?_,e3,e4⟩
     . cases us with
       |nil=>simp at e1
       |cons _ us=>simpa using e1
     . cases a with
       |e me=>exact e2
       |b j mp=>exact e2
       | t j mp'=>
         have hij:i≠j:=by
          intro z;subst z;simp[bK]at nd;exact nd.1 (dZ h)
         have:∀ x:Option Sl,(ρ.set j x)[i]?=ρ[i]?:=fun x=>List.getElem?_set_ne (Ne.symm hij)
         cases q:us.head?.join with
         |none=>rw[q]at e2;unfold eK at e2;simp only at e2;rw[this]at e2;exact e2
         | some u=>
           rw[q]at e2;unfold eK at e2;simp only at e2;split at e2
           . split at e2
             . rw[this]at e2;exact e2
             . rw[this]at e2;exact e2
           . rw[this]at e2;exact e2
theorem q8{as:List Arg}{ρ₀:af}:∀{us:List (Option OV)} {ρ:af},(cb ρ₀ as us ρ).length=ρ.length:=by
 induction as with
 |nil=>intro us ρ;rfl
 | cons a as ih=>
   intro us ρ;unfold cb;rw[ih];unfold eK;split
   . split
     . split<;>simp
     . simp
   . simp
   . rfl
theorem SR.DK{as:List Arg}{ss:List Sl}{vs:List V}(I:SR K cls Av G S₀ ρ σ S H)(ok:argsOk as=true)(h:ARs K S H ρ σ as ss vs):
  ∃ Fc,Aj K cls ss vs S H Fc /\ ∀ outs S' H' Fc',yi K cls vs S H Fc outs S' H' Fc'->SR K cls Av G S₀ (cb ρ as outs ρ) σ S' H':=by
 obtain⟨F,J⟩:=I;unfold argsOk at ok;rw[Bool.and_eq_true,decide_eq_true_eq]at ok;obtain⟨nd,hb⟩:=ok
 have cell:∀ k:Nat,∃ d:List Addr×List Addr,(∀ i mp,as[k]?=some (.t i mp)->∃ io t π u v0 w,ss[k]?=some (.tr true u) /\ vs[k]?=some w /\ ρ[i]?=some (some (.tr io t)) /\ mp ρ=some π /\ t.get π=some u /\ σ[i]?=some (some v0) /\ aX K cls S H u w d.1 /\ (F i).Perm (d.1++d.2) /\ (d.1++d.2).Nodup /\ (io=true->Av i=some (.lst [v0])) /\
   ∀ S' H' u' f',ay S S'->aX K cls S' H' u' w f'->(∀ a∈d.2,∀ o,H a=some o->H' a=some o)->∃ g,aX K cls S' H' (t.put π u') v0 g /\ g.Perm (f'++d.2)) /\ ((∀ i mp,as[k]?≠some (.t i mp))->d=([],[])):=by
  intro k
  by_cases hk:∃ i mp,as[k]?=some (.t i mp)
  . obtain⟨i,mp,e⟩:=hk;obtain⟨s,w,es,ev,r⟩:=h.at e
    cases s with
    | tr io' u=>
      cases io' with
      |false=>exact r.elim
      | true=>
        obtain⟨io,t,π,v0,h1,h2,h3,h4,h5⟩:=r;obtain⟨v,ev',ro,ndf,gs,hio⟩:=J.own i _ h1;rw[h4]at ev';cases ev';obtain⟨w',f1,rest,wk,r1,p1,c1⟩:=ro.focus h3;have:=h5.inj wk;subst this
        refine⟨(f1,rest),fun i' mp' e'=>?_,fun z=>absurd e (z i mp)⟩
        rw[e]at e'
        cases e'
        exact⟨io,t,π,u,v0,w,es,ev,h1,h2,h3,h4,r1,p1,p1.nodup_iff.mp ndf,hio,c1⟩
    |sh x=>exact r.elim
    |ow x=>exact r.elim
    |ex c fs=>exact r.elim
    |bo x=>exact r.elim
  . exact⟨([],[]),fun i mp e=>absurd ⟨i,mp,e⟩ hk,fun _=>rfl⟩
 obtain⟨d,hd⟩:=Classical.axiomOfChoice cell
 have tOf:∀ k a,a∈(d k).1->∃ i mp,as[k]?=some (.t i mp) /\ a∈F i:=by
  intro k a ha
  by_cases hk:∃ i mp,as[k]?=some (.t i mp)
  . obtain⟨i,mp,e⟩:=hk;obtain⟨io,t,π,u,v0,w,_,_,_,_,_,_,_,p1,_⟩:=(hd k).1 i mp e
    exact⟨i,mp,e,p1.mem_iff.mpr (List.mem_append_left _ ha)⟩
  . rw[(hd k).2 fun i mp e=>hk ⟨i,mp,e⟩]at ha;cases ha
 have hlen:=h.len
 have jM:∀ i a,a∈F i->(∀ k mp,as[k]?=some (.t i mp)->a∉(d k).1)->∀ k,a∉(d k).1:=by
  intro i a ha hn k hk;obtain⟨i',mp,e,ha'⟩:=tOf k a hk;have:=J.apart i i' a ha ha';subst this;exact hn k mp e hk
 refine⟨fun k=>(d k).1,⟨J.sh,by rw[hlen.1,hlen.2],fun k s es=>?_,fun j k a h1 h2=>?_,fun k a ha=>?_⟩,fun outs S' H' Fc' E=>?_⟩
 . have hk:k<as.length:=by rw[<- hlen.1];exact(List.getElem?_eq_some_iff.mp es).1
   obtain⟨s',w,es',ev,r⟩:=h.at (k:=k) (a:=as[k]) (by simp[hk]);rw[es]at es';cases es'
   refine⟨w,ev,?_⟩
   cases q:as[k]with
   | e me=>
     rw[q]at r
     have hz:=(hd k).2 fun i mp e=>by rw[List.getElem?_eq_getElem hk,q]at e;cases e
     cases s<;>first|exact r.elim|exact⟨by rw[hz],r⟩
   | t i mp=>
     have eq:as[k]?=some (.t i mp):=by rw[List.getElem?_eq_getElem hk,q]
     obtain⟨io,t,π,u,v0,w',es',ev',_,_,_,_,r1,_,nd1,_⟩:=(hd k).1 i mp eq;rw[es]at es';cases es';rw[ev]at ev';cases ev'
     exact⟨r1,(List.nodup_append.mp nd1).1⟩
   | b i mp=>
     have eq:as[k]?=some (.b i mp):=by rw[List.getElem?_eq_getElem hk,q]
     rw[q]at r
     have hz:=(hd k).2 fun i mp e=>by rw[eq]at e;cases e
     cases s with
     | bo u=>
       obtain⟨t,π,v0,h1,h2,h3,h4,h5⟩:=r
       refine⟨by rw[hz],?_⟩
       have nt:i∉bK as:=by
        have:=List.all_eq_true.mp hb i (s9 eq)
        simpa using this
       have ro:∃ f,aX K cls S (minus H fun k=>(d k).1) t v0 f:=by
        unfold cI at h1
        cases q1:ρ[i]? with
        |none=>rw[q1]at h1;cases h1
        | some o=>
          cases o with
          |none=>rw[q1]at h1;cases h1
          | some s1=>
            rw[q1]at h1;obtain⟨v,ev',r⟩:=J.own i s1 q1;rw[h4]at ev';cases ev'
            cases s1 with
            | tr io t'=>
              cases h1
              exact⟨_,r.1.mono (ay.refl _) fun a ha o ho=>by
               rw[gO (jM i a ha fun k' mp' e'=>absurd (dZ e') nt)];exact ho⟩
            | bo t'=>
              cases h1;obtain⟨_,f,r⟩:=r
              exact⟨f,r.mono (ay.refl _) fun a ha o ho=>by
               rw[gO fun k' hk'=>?_]
               . exact J.gh _ _ ho
               . obtain⟨i',mp',_,ha'⟩:=tOf k' a hk'
                 rw[(J.live i' a ha').2.1]at ho;cases ho⟩
            |sh x=>cases h1
            |ow x=>cases h1
            |ex c fs=>cases h1
       obtain⟨f,ro⟩:=ro;obtain⟨w',f1,rest,wk,r1,_,_⟩:=ro.focus h3;have:=h5.inj (wk.mono nP);subst this
       exact⟨f1,r1⟩
     |sh x=>exact r.elim
     |ow x=>exact r.elim
     |ex c fs=>exact r.elim
     |tr io x=>exact r.elim
 . obtain⟨i,mp,e1,m1⟩:=tOf j a h1;obtain⟨i',mp',e2,m2⟩:=tOf k a h2;have:=J.apart i i' a m1 m2;subst this;exact hE nd e1 e2
 . obtain⟨i,mp,e1,m1⟩:=tOf k a ha
   exact⟨(J.live i a m1).1,(J.live i a m1).2.2⟩
 .
  have noS:∀ i a,a∈F i->(∀ k,a∉(d k).1)->S' a=none:=fun i a ha hn=>by
   cases z:S' a with
   |none=>rfl
   | some o=>
     obtain⟨⟨o',h1,_⟩,_,h3⟩:=J.live i a ha
     rcases E.new a (by rw[z];simp)with y|y|⟨k,y⟩
     . exact absurd h3 y
     . rw[h1]at y;cases y
     . exact absurd y (hn k)
  have keep:∀ a o,(∀ k,a∉(d k).1)->H a=some o->H' a=some o:=fun a o hn ho=>E.keep a o (by rw[gO hn];exact ho)
  have restOff:∀ k i mp,as[k]?=some (.t i mp)->∀ a∈(d k).2,a∈F i /\ ∀ k',a∉(d k').1:=fun k i mp e a ha=>by
   obtain⟨io,t,π,u,v0,w,_,_,_,_,_,_,_,p1,nd1,_⟩:=(hd k).1 i mp e
   have m:a∈F i:=p1.mem_iff.mpr (List.mem_append_right _ ha)
   refine⟨m,jM i a m fun k' mp' e' hk'=>?_⟩
   have:=hE nd e e';subst this
   exact(List.nodup_append.mp nd1).2.2 a hk' a ha rfl
  have gcell:∀ k:Nat,∃ g:List Addr,∀ i mp u',as[k]?=some (.t i mp)->outs[k]?=some (some u')->∀ io t π,ρ[i]?=some (some (.tr io t))->mp ρ=some π->∃ v0,σ[i]?=some (some v0) /\ (io=true->Av i=some (.lst [v0])) /\ aX K cls S' H' (t.put π u') v0 g /\ g.Perm (Fc' k++(d k).2):=by
   intro k
   by_cases hk:∃ i mp u',as[k]?=some (.t i mp) /\ outs[k]?=some (some u')
   . obtain⟨i,mp,u',e,eo⟩:=hk;obtain⟨io,t,π,u,v0,w,es,ev,h1,h2,h3,h4,r1,p1,nd1,hio,c1⟩:=(hd k).1 i mp e;obtain⟨w',ew,r',ndf'⟩:=E.out k u' eo;rw[ev]at ew;cases ew
     obtain⟨g,rg,pg⟩:=c1 S' H' u' (Fc' k) E.s r' fun a ha o ho=>keep a o (restOff k i mp e a ha).2 ho
     refine⟨g,fun i' mp' u'' e' eo' io' t' π' h1' h2'=>?_⟩
     rw[e]at e';cases e';rw[eo]at eo';cases eo';rw[h1]at h1';cases h1';rw[h2]at h2';cases h2'
     exact⟨v0,h4,hio,rg,pg⟩
   . exact⟨[],fun i mp u' e eo=>absurd ⟨i,mp,u',e,eo⟩ hk⟩
  obtain⟨g,hg⟩:=Classical.axiomOfChoice gcell
  have fcell:∀ i:Nat,∃ f:List Addr,(i∉bK as->f=F i) /\ ∀ k mp,as[k]?=some (.t i mp)->((∃ io t π u',ρ[i]?=some (some (.tr io t)) /\ mp ρ=some π /\ outs[k]?=some (some u'))->f=g k) /\ ((¬ ∃ io t π u',ρ[i]?=some (some (.tr io t)) /\ mp ρ=some π /\ outs[k]?=some (some u'))->f=[]):=by
   intro i
   by_cases hi:i∈bK as
   . obtain⟨k,mp,e⟩:=lA hi
     by_cases hx:∃ io t π u',ρ[i]?=some (some (.tr io t)) /\ mp ρ=some π /\ outs[k]?=some (some u')
     . refine⟨g k,fun z=>absurd hi z,fun k' mp' e'=>?_⟩
       have:=hE nd e e';subst this;rw[e]at e';cases e'
       exact⟨fun _=>rfl,fun z=>absurd hx z⟩
     . refine⟨[],fun z=>absurd hi z,fun k' mp' e'=>?_⟩
       have:=hE nd e e';subst this;rw[e]at e';cases e'
       exact⟨fun z=>absurd z hx,fun _=>rfl⟩
   . exact⟨F i,fun _=>rfl,fun k mp e=>absurd (dZ e) hi⟩
  obtain⟨F',hF'⟩:=Classical.axiomOfChoice fcell
  have memF:∀ i a,a∈F' i->(i∉bK as /\ a∈F i /\ ∀ k,a∉(d k).1) \/ (∃ k mp,as[k]?=some (.t i mp) /\ F' i=g k /\ ((a∈Fc' k) \/ (a∈F i /\ ∀ k,a∉(d k).1)) /\ ∃ io t π u',ρ[i]?=some (some (.tr io t)) /\ mp ρ=some π /\ outs[k]?=some (some u')):=by
   intro i a ha
   by_cases hi:i∈bK as
   . obtain⟨k,mp,e⟩:=lA hi
     by_cases hx:∃ io t π u',ρ[i]?=some (some (.tr io t)) /\ mp ρ=some π /\ outs[k]?=some (some u')
     . have e1:=((hF' i).2 k mp e).1 hx;refine .inr ⟨k,mp,e,e1,?_,hx⟩;obtain⟨io,t,π,u',h1,h2,h3⟩:=hx;obtain⟨v0,_,_,rg,pg⟩:=hg k i mp u' e h3 io t π h1 h2;rw[e1]at ha
       rcases List.mem_append.mp (pg.mem_iff.mp ha)with z|z
       . exact .inl z
       . exact .inr (restOff k i mp e a z)
     . rw[((hF' i).2 k mp e).2 hx]at ha;cases ha
   . have e1:=(hF' i).1 hi;rw[e1]at ha;exact .inl ⟨hi,ha,jM i a ha fun k mp e=>absurd (dZ e) hi⟩
  refine⟨F',?_,J.s0.trans E.s,E.sh,fun b hbn=>?_,fun i s e=>?_,fun i j a h1 h2=>?_,fun i a ha=>?_,?_⟩
  . intro b u hu;refine keep b u (fun k hk=>?_) (J.gh b u hu);obtain⟨i,mp,_,m⟩:=tOf k b hk;rw[(J.live i b m).2.1]at hu;cases hu
  . rcases E.new b hbn with z|z|⟨k,z⟩
    . exact J.new b z
    . exact .inr (J.gh.free z)
    . obtain⟨i,mp,_,m⟩:=tOf k b z;exact .inr (J.live i b m).2.1
  . by_cases hi:i∈bK as
    . obtain⟨k,mp,ek⟩:=lA hi;obtain⟨io,t,π,u,e1,e2,e3,rfl⟩:=tN nd ek e;obtain⟨v0,h1,hio,rg,pg⟩:=hg k i mp u ek e1 io t π e2 e3;have e4:=((hF' i).2 k mp ek).1 ⟨io,t,π,u,e2,e3,e1⟩;rw[e4];obtain⟨w',ew,r',ndf'⟩:=E.out k u e1
      refine⟨v0,h1,rg,pg.nodup_iff.mpr (List.nodup_append.mpr ⟨ndf',?_,fun a ha b hb' z=>?_⟩),fun a ha=>?_,hio⟩
      . obtain⟨_,_,_,_,_,_,_,_,_,_,_,_,_,_,nd1,_⟩:=(hd k).1 i mp ek
        exact(List.nodup_append.mp nd1).2.1
      . subst z;obtain⟨m,off⟩:=restOff k i mp ek a hb';have:=(E.live k a ha).1;rw[gO off]at this;obtain⟨⟨o,ho,_⟩,_⟩:=J.live i a m;rw[this]at ho;cases ho
      . rcases List.mem_append.mp (pg.mem_iff.mp ha)with z|z
        . refine⟨?_,(E.live k a z).2⟩
          rcases j1 (E.live k a z).1 with y|⟨k',y⟩
          . exact J.gh.free y
          . obtain⟨i',mp',_,m⟩:=tOf k' a y
            exact(J.live i' a m).2.1
        . obtain⟨m,off⟩:=restOff k i mp ek a z
          exact⟨(J.live i a m).2.1,noS i a m off⟩
    . rw[lO hi]at e;obtain⟨v,ev,r⟩:=J.own i s e;rw[(hF' i).1 hi]
      have off:∀ a∈F i,∀ k,a∉(d k).1:=fun a ha=>jM i a ha fun k mp e=>absurd (dZ e) hi
      exact⟨v,ev,r.mono E.s (fun a ha o ho=>keep a o (off a ha) ho) (fun b o hx ho=>keep b o (fun k hk=>by
       obtain⟨i',mp',_,m⟩:=tOf k b hk;obtain⟨⟨o',h1,h2⟩,_⟩:=J.live i' b m
       rw[ho]at h1;cases h1;rw[hx]at h2;cases h2) ho) fun a ha=>noS i a ha (off a ha)⟩
  .
   have key:∀ i j a,a∈F' i->a∈F' j->(∃ k,a∈Fc' k)->∃ k mp,as[k]?=some (.t i mp) /\ a∈Fc' k:=by
    intro i j a ha _ ⟨k0,hk0⟩
    have no:∀ i',a∈F i'->¬ ∀ k,a∉(d k).1:=fun i' m off=>by
     have:=(E.live k0 a hk0).1;rw[gO off]at this;obtain⟨⟨o,ho,_⟩,_⟩:=J.live i' a m;rw[this]at ho;cases ho
    rcases memF i a ha with⟨_,m,off⟩|⟨k,mp,e,_,z,_⟩
    . exact absurd off (no i m)
    . rcases z with z|⟨m,off⟩
      . exact⟨k,mp,e,z⟩
      . exact absurd off (no i m)
   by_cases hk:∃ k,a∈Fc' k
   . obtain⟨k1,mp1,e1,z1⟩:=key i j a h1 h2 hk;obtain⟨k2,mp2,e2,z2⟩:=key j i a h2 h1 hk;have:=E.apart k1 k2 a z1 z2;subst this;rw[e1]at e2;cases e2;rfl
   . have fromF:∀ i,a ∈ F' i -> a ∈ F i:=fun i ha=>by
      rcases memF i a ha with⟨_,m,_⟩|⟨k,mp,e,_,z,_⟩
      . exact m
      . rcases z with z|⟨m,_⟩
        . exact absurd ⟨k,z⟩ hk
        . exact m
     exact J.apart i j a (fromF i h1) (fromF j h2)
  . rcases memF i a ha with⟨_,m,off⟩|⟨k,mp,e,eg,z,io,t,π,u',x1,x2,x3⟩
    . obtain⟨⟨o,ho,hx⟩,hg',_⟩:=J.live i a m
      exact⟨⟨o,keep a o off ho,hx⟩,hg',noS i a m off⟩
    . obtain⟨v0,_,_,rg,pg⟩:=hg k i mp u' e x3 io t π x1 x2;rw[eg]at ha
      refine⟨rg.live a ha,?_⟩
      rcases z with z|⟨m,off⟩
      . refine⟨?_,(E.live k a z).2⟩
        rcases j1 (E.live k a z).1 with y|⟨k',y⟩
        . exact J.gh.free y
        . obtain⟨i',mp',_,m⟩:=tOf k' a y
          exact(J.live i' a m).2.1
      . exact⟨(J.live i a m).2.1,noS i a m off⟩
  . rw[q8];exact J.len
end
end L2.P
namespace L2.E
open PySem PySem.Spec PyProof.Rows L2
end L2.E
namespace L2.P
open PySem PySem.Spec PyProof.Rows L2 L2.E
section
variable{K:PySem.W.Frag}{cls:String->Option Addr}{W:XW}{Av G S₀ S S' H H' B B':Hp}{ρ:af}{σ:St}{Q:VK}{F Fc Fc':Nat->List Addr}
theorem SR.more(I:SR K cls Av G S₀ ρ σ S H)(h:Rep K S x v):SR K cls Av G S₀ (ρ++[some (.sh x)]) (σ++[some v]) S H:=by
 obtain⟨F,J⟩:=I
 exact J.more (fp:=[]) (fun t e=>by cases e;exact⟨v,rfl,rfl,h⟩) (fun a ha=>nomatch ha) fun j a _ ha=>nomatch ha
theorem tB{f:List Sl->OI}(ok:argsOk as=true)(I:SR K cls Av G S₀ ρ σ S1 H1)(s1:ay S S1)(ar:ARs K S1 H1 ρ σ as ss vs)
  (p:zY K cls W Av G S₀ σ S Q (match f ss with
    |.ok x outs=>.ok (cb ρ as outs ρ) (.sh x)
    |.exc c fs outs=>.exc (cb ρ as outs ρ) c fs
    |.bad=>.bad)):spI K cls f vs H1 Q fun C a H'=>W C a σ H':=by
 obtain⟨Fc,A,fin⟩:=I.DK ok ar
 refine⟨S1,ss,Fc,A,?_⟩
 cases e:f ss with
 |bad=>rw[e]at p;exact p
 |ok x outs=>rw[e]at p;exact fun v S' H' Fc' E r=>p v S' H' ((fin outs S' H' Fc' E).more r) (s1.trans E.s)
 |exc c fs outs=>rw[e]at p;exact fun a C S' H' Fc' E r=>p a C S' H' (fin outs S' H' Fc' E) (s1.trans E.s) r
theorem j5{f:List Sl->OI}(ok:argsOk as=true)(h:JAI K cls t as):JX K cls W (m9 (spI K cls f) [] W t) (cj f as):=by
 intro Av G S₀ ρ σ S H Q I p;unfold cj at p
 cases e:jh as ρ with
 |none=>rw[e]at p;exact p.elim
 | some ss=>
   rw[e]at p
   refine h Av G S₀ ρ σ S H _ ss I e fun vs S1 H1 w1 ar=>?_
   show spI K cls f (vs++[]) H1 Q _;rw[List.append_nil];exact tB ok (I.grow w1) w1.s ar p
end
end L2.P
namespace L2.E
open PySem PySem.Spec PyProof.Rows L2
end L2.E
namespace L2.P
open PySem PySem.Spec PyProof.Rows L2 L2.E
section
variable{K:PySem.W.Frag}{cls:String->Option Addr}{W:XW}{Av G S₀ S S' H H' B B':Hp}{ρ:af}{σ:St}{Q:VK}
theorem gc{ml me:af->OE}{ι:List Nat}(hι:ι.Nodup)(hl:JE K cls W tl ml)(he:JE K cls (fun _ _ _ _=>False) te me):JE K cls W (uH (Bq K tl) ι te) (dC ml ι me):=by
 intro Av G S₀ ρ σ S H Q I p
 refine hl.go I p fun r v S1 H1 I1 w1 r1 p1=>?_
 have ra:=r1.rd I1.sh
 cases e:r.pv with
 | tup xs=>
   rw[e]at p1 ra;obtain⟨a,vs,rfl,hq,hr⟩:=dr ra
   refine⟨a,rfl,⟨vs,ay.tup I1.sh hq⟩,?_⟩
   dsimp only at p1
   cases em:bC me (eV ι ρ) xs with
   |exc c fs=>rw[em]at p1;exact p1.elim
   |bad=>rw[em]at p1;exact p1.elim
   | ok ys=>
     rw[em]at p1;simp only[noX]at p1;split at p1
     . rename_i hlen
       refine oC hι he I1 em hlen (fun k H' x g hx=>?_) (fun H' g=>⟨vs,ay.tup (I1.sh.trans g) hq,by rw[hr.length];exact Nat.le_refl _⟩) fun D S' H' w nD sD ⟨us,hD,rr⟩=>p1 (.ref D) S' H' w ⟨D,us,rfl,nD,sD,hD,rr⟩
       obtain⟨u,hu,ru⟩:=hr.get hx
       refine⟨⟨vs,u,ay.tup (I1.sh.trans g) hq,hu⟩,?_⟩
       rintro v' H2 ⟨rfl,hv⟩
       have:=hv vs (ay.tup (I1.sh.trans g) hq);rw[hu]at this;cases this
       exact⟨rfl,ru⟩
     . exact p1.elim
 |_=>rw[e]at p1;exact p1.elim
theorem sM:JU K (fun xs H Q=>∃ p ys,xs=[.ref p] /\ ((SqL K H p ys /\ ∀ l,H l=none->Q (.ref l) (upd H l (.tup ys))) \/ (SqT K H p ys /\ Q (.ref p) H))) jP:=by
 intro S H x v rr Q I hx e k
 cases x with
 | lst xs=>
   cases e;obtain⟨p,vs,rfl,hq,r⟩:=dE hx
   refine⟨p,vs,rfl,.inl ⟨hq,fun l hl=>k _ _ _ (aI.both I hl) ?_⟩⟩
   show Rep K _ _ _;unfold Rep
   exact⟨l,vs,rfl,SqT.new aY,r.mono (aI.both (o:=.tup vs) I hl).s⟩
 | tup xs=>
   cases e;obtain⟨p,vs,rfl,hq,r⟩:=dr hx
   refine⟨p,vs,rfl,.inr ⟨ay.tup I hq,k _ S H (aI.refl I) ?_⟩⟩
   show Rep K _ _ _;unfold Rep
   exact⟨p,vs,rfl,hq,r⟩
 |_=>cases e
theorem zr:JR K (xA K) zQ:=by
 intro S H x y v u rr Q I hx hy e k;unfold zQ at e;split at e
 . rename_i x xs ys;split at e
   . rename_i hl;cases e;obtain⟨p,vs,rfl,hq,r⟩:=dr hx;obtain⟨p2,vs2,rfl,hq2,r2⟩:=dr hy;obtain⟨w,t,rfl,h1,h2⟩:=r.cons_inv
     refine⟨p,p2,w ::t,vs2,rfl,rfl,ay.tup I hq,ay.tup I hq2,by simp,by rw[r.length,r2.length];exact hl,fun z=>?_,fun z l hl'=>?_⟩
     . refine k _ S H (aI.refl I) ?_;show Rep K _ _ _;unfold Rep
       have:ys=[]:=by have:=r2.length;rw[z]at this;simpa using this.symm
       subst this
       exact⟨p,w ::t,rfl,hq,by rw[List.append_nil];exact r⟩
     . refine k _ _ _ (aI.both I hl') ?_;show Rep K _ _ _;unfold Rep
       exact⟨l,_,rfl,SqT.new aY,(r.append r2).mono (aI.both (o:=.tup (w ::t++vs2)) I hl').s⟩
   . cases e
 . cases e
end
end L2.P
namespace L2.E
open PySem PySem.Spec PyProof.Rows L2
end L2.E
namespace L2.P
open PySem PySem.Spec PyProof.Rows L2 L2.E
end L2.P
namespace L2.E
open PySem PySem.Spec PyProof.Rows L2
end L2.E
namespace L2.P
open PySem PySem.Spec PyProof.Rows L2 L2.E
end L2.P
namespace L2.P
open PySem
end L2.P
namespace L2.P
open PySem PySem.Spec PyProof.Rows L2 L2.E
end L2.P
namespace L2.P
open PySem
noncomputable def bV:PV->PV->Option RV
 |.tup xs,.tup ys=>if xs.length+ys.length<=lim then some (.sh (.tup (xs++ys)))else none
 |_,_=>none
end L2.P
namespace L2
open PySem PySem.Spec PyProof.Rows
end L2
namespace L2.P
open PySem PySem.Spec PyProof.Rows L2 L2.E
end L2.P
namespace HT
open PySem PyProof.Rows
theorem wI{prog:Program}{w:World}{A:Around}{E:Value->Shared->Prop}{s:Shared}{t b:Addr}{ws:List Value}{Q:Value->Shared->Prop}(ht:IsTup s.heap t ([]:List Value).toArray)(hb:IsTup s.heap b ws.toArray)(h:Q (.ref b) s):wpAny (model prog w) A (binaryOp .Add (.ref t) (.ref b)) Q E s:=by
 obtain⟨⟨cls,dd,data,sl⟩,ho,hc,n,hd⟩:=id ht;obtain⟨⟨cls2,dd2,data2,sl2⟩,ho2,hc2,n2,hd2⟩:=id hb;simp only at hc hd hc2 hd2;subst hc hd hc2 hd2
 exact concat_meets ⟨_,ho,rfl⟩ ⟨_,ho2,rfl⟩ noFill_tuple_add seq_tuple_add PySem.F.slot_tuple_add PySem.F.entry_tuple_add (PySem.F.args_tuple_add_2 _ _)
   (tuple_addW0 t b #[] ws.toArray n n2 dd dd2 sl sl2 rfl) ⟨ho,ho2,h⟩
end HT
namespace L2
open PySem PySem.Spec PyProof.Rows
noncomputable def wB(K:PySem.W.Frag):R2:=fun x y H Q=>(∃ a b ys,x=.ref a /\ y=.ref b /\ SqT K H a [] /\ SqT K H b ys /\ Q (.ref b) H) \/ xA K x y H Q
theorem cX{X:Cx}:OpR X (binaryOp .Add) (wB X.K):=by
 intro pins s σ H x y v u Q I rx ry h
 rcases h with⟨a,b,ys,rfl,rfl,ha,hb,q⟩|h
 . cases rx;cases ry;obtain⟨its,r1,p1,_⟩:=I.tuple ha;obtain⟨its2,r2,p2,_⟩:=I.tuple hb
   have:its=[]:=r1.mn.mpr rfl
   subst this;exact HT.wI p1 p2 ⟨.ref b,H,I,rfl,q⟩
 . exact y1 pins s σ H x y v u Q I rx ry h
end L2
namespace L2.P
open PySem PySem.Spec PyProof.Rows L2 L2.E
theorem cY{K:PySem.W.Frag}:JR K (wB K) bV:=by
 intro S H x y v u rr Q I hx hy e k;unfold bV at e;split at e
 . rename_i xs ys;split at e
   . rename_i hl;cases e
     cases xs with
     | nil=>
       obtain⟨p,vs,rfl,hq,r⟩:=dr hx;obtain⟨p2,vs2,rfl,hq2,r2⟩:=dr hy
       have hvs:vs=[]:=by have:=r.length;simpa using this
       subst hvs;refine .inl ⟨p,p2,vs2,rfl,rfl,ay.tup I hq,ay.tup I hq2,k _ S H (aI.refl I) ?_⟩;show Rep K _ _ _;unfold Rep
       exact⟨p2,vs2,rfl,hq2,by rw[List.nil_append];exact r2⟩
     |cons x xs=>exact .inr (zr S H (.tup (x ::xs)) (.tup ys) v u _ Q I hx hy (if_pos hl) k)
   . cases e
 . cases e
end L2.P
namespace HT
open PySem PyProof.Rows
open AutoSeq1 (wpAny_loadPart')
end HT
namespace L2
open PySem PySem.Spec PyProof.Rows
end L2
namespace L2.P
open PySem PySem.Spec PyProof.Rows L2 L2.E
end L2.P
namespace L2.P
open PySem
noncomputable def Az:List PV->OE:=fun _=>.bad
noncomputable def kI(i:Nat)(mp:MP)(me:af->OE):af->OS:=fun ρ=>tJ i mp ρ fun u put=>match u with
 | .ol ts=>(me ρ).bp ρ fun r=>(match r with
   |.fr ys=>if ts.length+ys.length<=lim then .nx (put (.ol (ts++ys.map .sh)))else .bad
   |.sh (.lst ys)=>if ts.length+ys.length<=lim then .nx (put (.ol (ts++ys.map .sh)))else .bad
   |_=>.bad)
 |_=>.bad
end L2.P
namespace L2
open PySem PySem.Spec PyProof.Rows
end L2
namespace L2.E
open PySem PySem.Spec PyProof.Rows L2
end L2.E
namespace L2.P
open PySem PySem.Spec PyProof.Rows L2 L2.E
end L2.P
namespace L2.E
open PySem PySem.Spec PyProof.Rows L2
end L2.E
namespace L2.P
open PySem PySem.Spec PyProof.Rows L2 L2.E
end L2.P
namespace L2.E
open PySem PySem.Spec PyProof.Rows L2
end L2.E
namespace L2.P
open PySem PySem.Spec PyProof.Rows L2 L2.E
section
variable{K:PySem.W.Frag}{cls:String->Option Addr}{W:XW}
theorem xj{P:Program}{w:World}{mg:Str->Option Value}{base:Heap}{CX:CXT}{k:Nat}{f:Addr}{fd:FuncData}{ps:List Str}:cO P w K mg base CX k f fd ps (spP K cls Az) where
 len:=fun vs H Q E h=>by obtain⟨_,_,_,_,h⟩:=h;exact h.elim
 run:=fun A outer s H args us vs Q E hr e0 b r h=>by obtain⟨_,_,_,_,h⟩:=h;exact h.elim
end
end L2.P
namespace L2.E
open PySem PySem.Spec PyProof.Rows L2
end L2.E
namespace L2.P
open PySem PySem.Spec PyProof.Rows L2 L2.E
end L2.P
namespace L2.E
open PySem PySem.Spec PyProof.Rows L2
theorem qm(l:Addr)(items:Array Value)(n:Nat)(b:Addr)(items2:Array Value)(n2:Nat)(dd2:Option Addr)(sl2:Array (Option Value))(hc0:¬(!items.isEmpty&&Builtin.List.listTooLong (items.size+items2.size))=true)(hc1:items.size<=sizeLine)(hs2:items.size+items2.size<=sizeLine+1):
  Meets (Builtin.«list.extend» ⟨[.ref l,.ref b],[]⟩) (fun _ R s=>s.heap.get? l=some { cls:=.type "list",dict:=none,data:=.seq items n,slots:=#[] } /\ s.heap.get? b=some { cls:=.type "list",dict:=dd2,data:=.seq items2 n2,slots:=sl2 } /\ R (.ok (.ret Value.none)) { s with heap:=s.heap.update l (Obj.mapSeq fun x=>x++items2),toks:=s.toks }):=
 .of_wp fun prog w A R s h=>by
  obtain⟨hp,g,d,tk,os⟩:=s;obtain⟨hl,hb,h⟩:=h;have f1:=AutoSeq1.idx_int;have f2:=AutoSeq1.sub_tuple_tuple;have f3:=AutoSeq1.sub_list_list;have f4:=AutoSeq1.sub_tuple_list;have f5:=AutoSeq1.sub_list_tuple
  have hz':(items++items2).size<=sizeLine+1:=by rw[Array.size_append];exact hs2
  wp_walk using (wpAny_updateSeq hl rfl (hz:=hc1) (_hz':=hz')),wpAny_loadPart' hl,wpAny_loadPart' hb;exact⟨_,rfl,h⟩
noncomputable def rP(K:PySem.W.Frag):V->List V->Hp->VK->Prop:=fun x vs H Q=>∃ l b xs zs,x=.ref l /\ vs=[.ref b] /\ H l=some (.lst xs) /\ SqL K H b zs /\ xs.length+zs.length<=sizeLine /\ Q .non (upd H l (.lst (xs++zs)))
theorem tK{X:Cx}:MtM X "list.extend" (rP X.K):=by
 intro pins s σ H x vs v us Q I rx rv h;obtain⟨l,b,xs,zs,rfl,rfl,hH,hB,hz,q⟩:=h;cases rx;obtain⟨u,rfl,ru⟩:=rv.one;cases ru;obtain⟨z,its,n,r,hl,e⟩:=I.w5 hH;obtain⟨its2,r2,pl2,z2⟩:=I.list hB;obtain⟨⟨cls2,dd2,data2,sl2⟩,ho2,hc2,n2,hd2⟩:=pl2.isList;simp only at hc2 hd2;subst hc2 hd2;have hl2:=r2.length
 have hsz:its.toArray.size+its2.toArray.size<=sizeLine:=by rw[List.size_toArray,List.size_toArray];omega
 have hlong:¬ (!its.toArray.isEmpty&&Builtin.List.listTooLong (its.toArray.size+its2.toArray.size))=true:=by
  rw[rf hsz,Bool.and_false];exact Bool.false_ne_true
 refine call_meets F.slot_list_extend ⟨_,e,rfl⟩ F.entry_list_extend (F.args_list_extend_2 _ _)
  (qm l its.toArray n b its2.toArray n2 dd2 sl2 hlong (by rw[List.size_toArray];omega) (by omega)) ⟨e,ho2,?_⟩
 refine⟨.non,_,I.zl (its':=its++its2) hH e (by simp) (r.append r2) ?_,rfl,q⟩
 rw[List.length_append];omega
end L2.E
namespace L2.P
open PySem PySem.Spec PyProof.Rows L2 L2.E
section
variable{K:PySem.W.Frag}{cls:String->Option Addr}{W:XW}{Av G S₀ S S' H H' B B':Hp}{ρ:af}{σ:St}{Q:VK}{F:Nat->List Addr}
theorem sI{i:Nat}{te tx:TE}{mp:MP}{me:af->OE}(hp:JP K cls te i mp)(hx:JE K cls W tx me):JS K cls W (lM (tBM K "list" (rP K) te (eA tx iC))) (kI i mp me):=by
 intro Av G S₀ ρ σ S H D I p;obtain⟨io,t,π,u,hi,e0,e1,p⟩:=rh p;obtain⟨v0,hv⟩:=I.val hi
 cases u with
 |sh x=>exact p.elim
 |ob c ks us=>exact p.elim
 |di x=>exact p.elim
 |dt x=>exact p.elim
 | ol ts=>
   dsimp only at p
   refine hp.at I hi hv e0 e1 fun w S1 H1 w1 I1 wk=>?_
   have p1:=p.back w1.s;obtain⟨F,J1⟩:=id I1;obtain⟨q,vs,ff,rest,wk',hq,hl,rs,_,nd,c⟩:=J1.pG hi hv e1;have:=wk.inj wk';subst this
   refine⟨.inl ⟨rfl,_,SqL.new hq⟩,?_⟩
   refine hx.goS I1 p1 fun r v S2 H2 I2 w2 r2 p2=>?_
   have ndf:ff.Nodup:=(List.nodup_cons.mp (List.nodup_append.mp nd).1).2
   cases r with
   |al ys=>exact p2.elim
   | sh x=>
     cases x with
     | lst ys=>
       dsimp only at p2
       split at p2
       . rename_i hlt
         have r3:Rep K S2 (.lst ys) v:=r2
         unfold Rep at r3;obtain⟨b,us,rfl,k3,k4⟩:=r3
         refine⟨q,b,vs,us,rfl,rfl,w2.g _ _ hq,ay.seq w2.sh k3,by rw[hl,k4.length];exact hlt,?_⟩
         obtain⟨g,J3,_⟩:=c S2 H2 (ts++ys.map .sh) (vs++us) (ff++[]) w2 ((rs.mono w2.s fun a _ o h=>w2.g _ _ h).append (.shs k4)) (by rw[List.append_nil];exact ndf) fun a ha=>.inl (by simpa using ha)
         exact p2 σ S2 _ ⟨_,J3⟩ (ay.refl _)
       . exact p2.elim
     |_=>exact p2.elim
   | fr ys=>
     dsimp only at p2
     split at p2
     . rename_i hlt;obtain⟨b,us,rfl,k1,k2,k3,k4⟩:=r2
       refine⟨q,b,vs,us,rfl,rfl,w2.g _ _ hq,SqL.new k3,by rw[hl,k4.length];exact hlt,?_⟩
       obtain⟨g,J3,_⟩:=c S2 H2 (ts++ys.map .sh) (vs++us) (ff++[]) w2 ((rs.mono w2.s fun a _ o h=>w2.g _ _ h).append (.shs k4)) (by rw[List.append_nil];exact ndf) fun a ha=>.inl (by simpa using ha)
       exact p2 σ S2 _ ⟨_,J3⟩ (ay.refl _)
     . exact p2.elim
end
end L2.P
namespace L2.E
open PySem PySem.Spec PyProof.Rows L2
theorem hX{N P:List Str}{sc:Scope}(a:sc.kind=.function:=by rfl)(b:sc.isCoroutine=false:=by rfl)(c:sc.isGenerator=false:=by rfl)(d:N.Nodup:=by decide +kernel)(e:N.take P.length=P:=by rfl)
  (f:∀ x∈P,sc.names.lookup x=some .local \/ sc.names.lookup x=some .cell:=by decide +kernel) (g:∀ y∈sc.names,y.2≠.free:=by decide +kernel):bu N P sc:=⟨a,b,c,d,e,f,g⟩
structure Ent(K:PySem.W.Frag)(mg:Str->Option Value)(x:Str)(st:Stmt)(f:Addr)(d:FuncData)(ps:List Str):Prop where
 F:Fun K x x st f d
 m:mg x=some (.ref f)
 b:Binds K d ps []
structure Fd(K:PySem.W.Frag)(x:Str)(st:Stmt)(f:Addr)(d:FuncData):Prop where
 a:PySem.W.nsIn K mainGlobals x=some (some (.ref f))
 F:Fun K x x st f d
section
variable{K:PySem.W.Frag}{mg:Str->Option Value}{h:Heap}{x:Str}{st:Stmt}{f:Addr}{d:FuncData}
theorem eO{oc:Value}{od an:Option Addr}{osl:Array (Option Value)}{kV doc pm cdv ct:Value}(a:PySem.W.nsIn K mainGlobals x=some (some (.ref f)))
  (l:K.lookup f=some ⟨oc,od,.func (PySem.W.fnOf x x (eE st) (cV st) (aD st) .none kV doc pm an cdv ct),osl⟩) (c:PySem.W.codeIn K cdv x=true) (k:PySem.W.keepIn K (.ref f)=true):
  Fd K x st f (PySem.W.fnOf x x (eE st) (cV st) (aD st) .none kV doc pm an cdv ct):=⟨a,Bp l c k⟩
theorem Fd.e{ps:List Str}(H:Fd K x st f d)(X:K.In h)(G:h.Ns mainGlobals mg)
  (hb:∀(kV doc pm:Value) (an:Option Addr) (cdv ct:Value) (us:List Value),us.length=ps.length->bindArgs (PySem.W.fnOf x x (eE st) (cV st) (aD st) .none kV doc pm an cdv ct) ⟨us,[]⟩=pure (ps.zip us)):Ent K mg x st f d ps:=⟨H.F,PySem.W.mg_of X G H.a,H.F.binds hb⟩
theorem Fd.e1{a:Str}(H:Fd K x st f d)(X:K.In h)(G:h.Ns mainGlobals mg)
  (hb:∀(kV doc pm:Value) (an:Option Addr) (cdv ct i:Value),bindArgs (PySem.W.fnOf x x (eE st) (cV st) (aD st) .none kV doc pm an cdv ct) ⟨[i],[]⟩=pure [(a,i)]:=by intros;rfl):Ent K mg x st f d [a]:=
 H.e X G fun p q r s t u us hl=>match us,hl with|[_],_=>hb p q r s t u _
theorem Fd.e2{a b:Str}(H:Fd K x st f d)(X:K.In h)(G:h.Ns mainGlobals mg)
  (hb:∀(kV doc pm:Value) (an:Option Addr) (cdv ct i j:Value),bindArgs (PySem.W.fnOf x x (eE st) (cV st) (aD st) .none kV doc pm an cdv ct) ⟨[i,j],[]⟩=pure [(a,i),(b,j)]:=by intros;rfl):Ent K mg x st f d [a,b]:=
 H.e X G fun p q r s t u us hl=>match us,hl with|[_,_],_=>hb p q r s t u _ _
theorem Fd.e3{a b c:Str}(H:Fd K x st f d)(X:K.In h)(G:h.Ns mainGlobals mg)
  (hb:∀(kV doc pm:Value) (an:Option Addr) (cdv ct i j k:Value),bindArgs (PySem.W.fnOf x x (eE st) (cV st) (aD st) .none kV doc pm an cdv ct) ⟨[i,j,k],[]⟩=pure [(a,i),(b,j),(c,k)]:=by intros;rfl):Ent K mg x st f d [a,b,c]:=
 H.e X G fun p q r s t u us hl=>match us,hl with|[_,_,_],_=>hb p q r s t u _ _ _
end
theorem qz{X:Cx}{pos:Pos}(i:Nat)(h7:X.N.Nodup)(h10:QE X e te)(h8:X.N[i]?=some x:=by rfl)(h9:Loc X.env.scope x:=by first|exact Or.inl rfl|exact Or.inr rfl)
  (h11:autoParam (swapsWith e (some (.Name x pos')) pos.line X.env=pure false) L2.qau._auto_1) (h12:autoParam (X.fn x=true \/ X.env.scope.names.lookup x=some .local) L2.qau._auto_1):QS X (.Assign [.Name x pos'] e pos) (vO te (ie i)):=B2 h7 h8 h9 h10 h11 h12
theorem qx{X:Cx}{j k:Nat}{f:Addr}{fd:FuncData}{ps:List Str}{sp:Sp}{W:XW}{x:Str}{st:Stmt}{p pos:Pos}{e:Expr}{es:List Expr}{t:TA}(h15:cO X.prog X.w X.K X.mg X.base (CXE X.prog X.w) j f fd ps sp)(E:Ent X.K X.mg x st f fd ps)(h16:fF k X.A)(h22:Thr X W)(h23:QA X (e ::es) t)
  (hj:j<=k:=by decide) (h17:Gl X x:=by rfl) (h24:autoParam ((x==Str.ofString "__debug__")=false) L2.qau._auto_1) (h25:autoParam (starEach (e ::es) X.env=(false,eval e X.env) ::starEach es X.env) L2.qau._auto_1) (h26:autoParam (((backTo pos (starEach es X.env)).any fun x=>x.1)=false) L2.qau._auto_1):
  QE X (.Call (.Name x p) (e ::es) [] pos) (m9 sp [] W t):=fU (h15.mono hj) h16 h17 E.m E.F.kp E.b .nil h22 h23 h24 h25 h26
theorem pZ{X:Cx}(h11:X.mg "len" = none)(h:QE X e te)(h10:Gl X "len":=by rfl)(hs:isStar e=false:=by rfl)(h16:autoParam (starEach [e] X.env=(false,eval e X.env) ::starEach [] X.env) L2.qau._auto_1)(h17:autoParam (((backTo pos (starEach [] X.env)).any fun x=>x.1)=false) L2.qau._auto_1):
  QE X (.Call (.Name "len" p) [e] [] pos) (tCB (fun xs H Q=>∃ p ys,xs=[.ref p] /\ (SqL X.K H p ys \/ SqT X.K H p ys) /\ Q (.int ys.length) H) (eA te iC)):=jj p7 h10 h11 boot_len (aa h aq hs) (by decide) (by decide) h16 h17
theorem qi(h7:IxR X r)(h8:QE X a ta)(h9:QE X b tb)(h10:pV b:=by exact fun _ _=>rfl):QE X (.Subscript a b pos) (tOp r ta tb):=DH h7 h8 h9 h10
theorem dh(h8:OpR X (compareOp op) r)(h9:QE X a ta)(h10:QE X b tb)(h11:behindInMarks op b=false:=by exact jS _):QT X (.Compare a [op] [b] pos) (ui (tOp r ta tb)):=tY h8 h9 h10 h11
theorem qap{X:Cx}{apos cpos pos:Pos}{r:V->List V->Hp->VK->Prop}(h15:MtR X "list.append" r)(h16:QE X o to)(h:QE X e te)(hs:isStar e=false:=by rfl)
  (h18:autoParam (attributeBase o "append" X.env (eval o X.env)=eval o X.env) L2.qau._auto_1) (h19:autoParam (((((backTo cpos (starEach [e] X.env)).all fun x=>!x.1)&&(backToKw cpos (keywordEach [] X.env)).all fun x=>x.1.isSome)&&decide (([e].length+([]:List Keyword).length+if([]:List Keyword).isEmpty=true then 0 else 1)<30))=true) L2.qau._auto_1)
  (h20:autoParam ((apos.endLine==cpos.line)=true) L2.qau._auto_1) (h21:autoParam (starEach [e] X.env=(false,eval e X.env) ::starEach [] X.env) L2.qau._auto_1) (h22:autoParam (((backTo cpos (starEach [] X.env)).any fun x=>x.1)=false) L2.qau._auto_1) (h5:autoParam (swapsWith (.Call (.Attribute o "append" apos) [e] [] cpos) none pos.line X.env=pure false) L2.qau._auto_1):
  QS X (.Expr (.Call (.Attribute o "append" apos) [e] [] cpos) pos) (lM (tBM X.K "list" r to (eA te iC))):=mm (zR PySem.F.plainAttrs_list PySem.F.slot_list_append PySem.F.type_list_append h15 h16 (aa h aq hs) h18 h19 h20 h21 h22) h5
theorem qex{X:Cx}{apos cpos pos:Pos}{r:V->List V->Hp->VK->Prop}(h15:MtR X "list.extend" r)(h16:QE X o to)(h:QE X e te)(hs:isStar e=false:=by rfl)
  (h18:autoParam (attributeBase o "extend" X.env (eval o X.env)=eval o X.env) L2.qau._auto_1) (h19:autoParam (((((backTo cpos (starEach [e] X.env)).all fun x=>!x.1)&&(backToKw cpos (keywordEach [] X.env)).all fun x=>x.1.isSome)&&decide (([e].length+([]:List Keyword).length+if([]:List Keyword).isEmpty=true then 0 else 1)<30))=true) L2.qau._auto_1)
  (h20:autoParam ((apos.endLine==cpos.line)=true) L2.qau._auto_1) (h21:autoParam (starEach [e] X.env=(false,eval e X.env) ::starEach [] X.env) L2.qau._auto_1) (h22:autoParam (((backTo cpos (starEach [] X.env)).any fun x=>x.1)=false) L2.qau._auto_1) (h5:autoParam (swapsWith (.Call (.Attribute o "extend" apos) [e] [] cpos) none pos.line X.env=pure false) L2.qau._auto_1):
  QS X (.Expr (.Call (.Attribute o "extend" apos) [e] [] cpos) pos) (lM (tBM X.K "list" r to (eA te iC))):=mm (zR PySem.F.plainAttrs_list PySem.F.slot_list_extend PySem.F.type_list_extend h15 h16 (aa h aq hs) h18 h19 h20 h21 h22) h5
end L2.E
namespace L2.P
open PySem PySem.Spec PyProof.Rows L2 L2.E
theorem nX{K:PySem.W.Frag}{cls:String->Option Addr}{mk:af->OE}(h:JP K cls te i mp)(k:JE K cls (fun _ _ _ _=>False) tk mk):JP K cls (tOp (yz K) te tk) i (pIx i mp mk):=DL h k
end L2.P
namespace L2.P
open PySem
theorem OV.get_nil(t:OV):t.get []=some t:=by unfold OV.get;rfl
theorem OV.g8(t u:OV):t.put [] u=u:=by unfold OV.put;rfl
theorem uO{ρ:af}{i:Nat}{t:OV}(h:cI i ρ=some t):subAt i aZ ρ=some t:=by
 unfold subAt;rw[h];simp[aZ,OV.get_nil]
theorem wq{ρ:af}{i:Nat}{mp:MP}{ts:List OV}(h:subAt i mp ρ=some (.ol ts)):bP i mp ρ=.ok (!ts.isEmpty):=by unfold bP;rw[h]
theorem yy{ρ:af}{i:Nat}{io:Bool}{ts:List OV}{x:OV}(h:ρ[i]?=some (some (.tr io (.ol (ts++[x]))))):i9 i aZ ρ=.ok (ρ.set i (some (.tr io (.ol ts)))) (slO x):=by
 unfold i9;rw[h];simp[aZ,OV.get_nil,OV.g8]
theorem w6{ρ:af}{i:Nat}{io:Bool}{ts:List OV}{ys:List PV}{me:af->OE}(h:ρ[i]?=some (some (.tr io (.ol ts))))(he:me ρ=.ok (.fr ys) \/ me ρ=.ok (.sh (.lst ys)))(hl:ts.length+ys.length<=lim):kI i aZ me ρ=.nx (ρ.set i (some (.tr io (.ol (ts++ys.map .sh))))):=by
 unfold kI tJ;rw[h]
 rcases he with he|he<;>simp only[aZ,OV.get_nil,he,nT,hl,if_true,OV.g8]
theorem bx{m n:af->OS}{ρ ρ':af}(h:m ρ=.nx ρ'):bf m n ρ=n ρ':=by unfold bf;rw[h];rfl
theorem CL{m n:af->OS}{ρ ρ':af}{v:RV}(h:m ρ=.rt ρ' v):bf m n ρ=.rt ρ' v:=by unfold bf;rw[h];rfl
theorem yA(ρ:af):bU ρ=.nx ρ:=rfl
theorem oh{c:af->OT}{a b:af->OS}{ρ:af}(h:c ρ=.ok true):bW c a b ρ=a ρ:=by unfold bW;rw[h];rfl
theorem Ff{c:af->OT}{a b:af->OS}{ρ:af}(h:c ρ=.ok false):bW c a b ρ=b ρ:=by unfold bW;rw[h];rfl
theorem sk{c:af->OT}{a n:af->OS}{ρ:af}(h:c ρ=.ok false):bf (bW c a bU) n ρ=n ρ:=bx (Eq.trans (Ff h) (yA _))
end L2.P
namespace L2.E
open PySem PySem.Spec PyProof.Rows L2
end L2.E
namespace L2.P
open PySem PySem.Spec PyProof.Rows L2 L2.E
end L2.P
namespace L2.E
open PySem PySem.Spec PyProof.Rows L2
end L2.E
namespace L2.P
open PySem PySem.Spec PyProof.Rows L2 L2.E
end L2.P
namespace L2.E
open PySem PySem.Spec PyProof.Rows L2
end L2.E
namespace L2.P
open PySem PySem.Spec PyProof.Rows L2 L2.E
end L2.P
namespace L2.P
open PySem PySem.Spec PyProof.Rows L2 L2.E PySem.SeqAt
end L2.P
namespace L2.P
open PySem
noncomputable def ins(n:Int):List Int->List Int
 |[]=>[n]
 |m ::ms=>if n<=m then n ::m ::ms else m ::ins n ms
end L2.P
namespace L2
open PySem PySem.Spec PyProof.Rows PySem.W
end L2
namespace L2.E
open PySem PySem.Spec PyProof.Rows L2
end L2.E
namespace L2.P
open PySem PySem.Spec PyProof.Rows L2 L2.E
end L2.P
namespace L2.P
open PySem
end L2.P
namespace L2.E
open PySem PySem.Spec PyProof.Rows L2
end L2.E
namespace L2.P
open PySem PySem.Spec PyProof.Rows L2 L2.E
end L2.P
namespace L2.P
open PySem
noncomputable def wa(x:PV)(lo hi:Option Int):Option RV:=match x with
 |.tup xs=>some (.sh (.tup (p8 xs lo hi)))
 |_=>none
noncomputable def dj(ma ml mh:af->OE):af->OE:=fun ρ=>(ma ρ).bind fun a=>(ml ρ).bind fun l=>(mh ρ).bind fun h=>oE (wa a.pv (iM l.pv) (iM h.pv))
noncomputable def oe:PV->Option (List Int)
 |.tup xs=>kU xs
 |_=>none
abbrev DT:=List (List Int×PV)
noncomputable def j0:List PV->Option DT
 |[]=>some []
 |.tup [k,v] ::r=>(oe k).bind fun k=>(j0 r).map ((k,v) ::·)
 |_ ::_=>none
noncomputable def nC(d:DT)(k:List Int)(v:PV):DT:=if(d.any fun p=>decide (p.1=k))=true then d.map (fun p=>if p.1=k then(p.1,v)else p)else d++[(k,v)]
noncomputable def zP(ps:DT):DT:=ps.foldl (fun d p=>nC d p.1 p.2) []
noncomputable def g7(d:DT):List PV:=d.map fun p=>.tup [.tup (p.1.map .int),p.2]
end L2.P
namespace HT
open PySem PyProof.Rows
theorem pf:entryFor table "dict.update.loop" = some Builtin.«dict.update.loop»:=entryFor_of_tree (by kernel_rfl)
theorem js:plainId "dict.update.loop" = true:=by decide +kernel
structure uU{prog:Program}{w:World}{κ:Type}[DecidableEq κ](kk:KeyKind prog w κ)(h:Heap)(q:List κ×Addr×Value)(u:Value):Prop where
 pr:∃ p,u=.ref p /\ IsTup h p #[.ref q.2.1,q.2.2]
 ky:IsTupleKey kk h q.1 q.2.1
section
variable{prog:Program}{w:World}{κ:Type}[DecidableEq κ]{kk:KeyKind prog w κ}{A:Around}{R:Result->Shared->Prop}
noncomputable def putAll(xs:List (List κ×Addr×Value)):List (List κ×Addr×Value)->List (List κ×Addr×Value)
 |[]=>xs
 |q ::r=>putAll (storedH xs q.1 q.2.1 q.2.2) r
theorem uU.keep{h h':Heap}{q:List κ×Addr×Value}{u:Value}(x:uU kk h q u)(k:∀ b o,o.cls=.type "tuple" -> h.get? b=some o->h'.get? b=some o):uU kk h' q u:=by
 obtain⟨⟨p,e,o,h1,h2,h3⟩,o2,its,n,h4,h5,h6⟩:=x
 exact⟨⟨p,e,o,k _ _ h2 h1,h2,h3⟩,o2,its,n,k _ _ h5 h4,h5,h6⟩
theorem qM(xs:List (List κ×Addr×Value))(k:List κ)(b:Addr)(u:Value):(storedH xs k b u).length<=xs.length+1:=by
 unfold storedH;split
 . rw[List.length_map];omega
 . rw[List.length_append];simp
theorem vm{d it t:Addr}(hu:A.units+1<cLine)(hh:A.handled=none){items:List Value}{qs:List (List κ×Addr×Value)}(hl:qs.length=items.length){h₀:Heap}{g0:Shared}
  (hR:∀ h' tk,h'.DictOfH (tupleKind kk) d (putAll [] qs)->(∀ b o,b≠it->b≠d->h₀.get? b=some o->h'.get? b=some o)->R (.ok (.ret .none)) { g0 with heap:=h',toks:=tk }):
  ∀(n i:Nat) (h:Heap) (tk:Nat) (xs:List (List κ×Addr×Value)),items.length - i=n->i<=items.length->h.IsTupleIter it t i->IsTup h t items.toArray->h.DictOfH (tupleKind kk) d xs->xs.length+n<=sizeLine->it≠d ->
    (∀(j:Nat) q u,qs[j]?=some q->items[j]?=some u->uU kk h q u)->putAll xs (qs.drop i)=putAll [] qs->(∀ b o,b≠it->b≠d->h₀.get? b=some o->h.get? b=some o) ->
    codeAny (model prog w) A (.builtin "dict.update.loop" ⟨[.ref d,.ref it,.int i 0,.none],[]⟩) R { g0 with heap:=h,toks:=tk }:=by
 intro n
 induction n with
 | zero=>
   intro i h tk xs hn hi hit ht hd hz hne hp hq hk
   have hin:i=items.length:=by omega
   refine codeAny_builtin pf ?_;rw[Around.under_plainId js _];show wpAny _ A.in1 (pyNext (.ref it) >>= _) _ _ _;refine wpAny_bind (wpAny_pyNext_tuple_end (s:={ g0 with heap:=h,toks:=tk }) (A:=A.in1) hh hit ht (by simp;omega) fun h' he=>?_)
   have hqs:putAll xs (qs.drop i)=xs:=by rw[List.drop_eq_nil_of_le (by omega)];rfl
   rw[hqs]at hq;obtain⟨o,es,ep,e1,e2,e3,e4,e5,e6⟩:=hd;refine wpAny_bind (wpAny_pure ?_);refine wpAny_pure (hR h' tk (hq ▸ ⟨o,es,ep,he _ _ (Ne.symm hne) e1,e2,e3,e4,fun x hx=>?_,e6⟩) fun b ob h1 h2 e=>he b ob h1 (hk b ob h1 h2 e));obtain⟨o',its,m,f1,f2,f3⟩:=e5 x hx
   refine⟨o',its,m,he _ _ ?_ f1,f2,f3⟩
   rintro rfl
   obtain⟨oi,g1,g2,_⟩:=hit;rw[f1]at g1;cases g1;rw[f2]at g2;simp at g2
 | succ n ih=>
   intro i h tk xs hn hi hit ht hd hz hne hp hq hk
   have hlt:i<items.length:=by omega
   obtain⟨u,hu1⟩:∃ u,items[i]?=some u:=⟨items[i],List.getElem?_eq_getElem hlt⟩
   obtain⟨q,hq1⟩:∃ q,qs[i]?=some q:=⟨qs[i]'(by omega),List.getElem?_eq_getElem (by omega)⟩
   refine codeAny_builtin pf ?_;rw[Around.under_plainId js _];show wpAny _ A.in1 (pyNext (.ref it) >>= _) _ _ _;refine wpAny_bind (wpAny_pyNext_tuple_item (s:={ g0 with heap:=h,toks:=tk }) (A:=A.in1) hit ht (by simpa using hu1) fun h1 hit1 hs1=>?_)
   have nit:∀ b o,o.cls=.type "tuple" -> h.get? b=some o->b≠it:=by
    rintro b o hc hb rfl
    obtain⟨oi,g1,g2,_⟩:=hit;rw[hb]at g1;cases g1;rw[hc]at g2;simp at g2
   have k1:∀ b o,o.cls=.type "tuple" -> h.get? b=some o->h1.get? b=some o:=fun b o hc hb=>(hs1.2 b (nit b o hc hb)).trans hb
   have pa:=(hp i q u hq1 hu1).keep k1
   have hd1:h1.DictOfH (tupleKind kk) d xs:=by
    obtain⟨o,es,ep,e1,e2,e3,e4,e5,e6⟩:=hd
    refine⟨o,es,ep,(hs1.2 d (Ne.symm hne)).trans e1,e2,e3,e4,fun x hx=>?_,e6⟩
    obtain⟨o',its,m,f1,f2,f3⟩:=e5 x hx
    exact⟨o',its,m,k1 _ _ f2 f1,f2,f3⟩
   obtain⟨⟨p,rfl,o,o1,o2,m,o3⟩,hky⟩:=id pa;refine wpAny_bind (wpAny_holding ?_);refine wpAny_bind (wpAny_tryCatch ?_);unfold Builtin.Dict.pairItems;refine wpAny_bind (wpAny_typeOf (T:="tuple") ⟨o,o1,o2⟩ ?_);rw[if_pos (by decide)];refine wpAny_bind (wpAny_seqItems o1 o3 (wpAny_pure ?_));refine wpAny_holding (wpAny_dictSet_heap (knd:=tupleKind kk) (tupleKind_room_in1 hu) hky hd1 (fun h2 hd2 hs2=>?_) (by omega));refine wpAny_pure ⟨plainId_quiet js _,?_⟩;obtain⟨od,_,_,d1,d2,_⟩:=id hd1
   have k2:∀ b o,o.cls=.type "tuple" -> h1.get? b=some o->h2.get? b=some o:=fun b o hc hb=>(hs2.2 b (by
    rintro rfl
    rw[d1]at hb;cases hb
    rw[d2.1]at hc;simp at hc)).trans hb
   have k3:∀ b o,o.cls=.type "tuple" -> h.get? b=some o->h2.get? b=some o:=fun b o hc hb=>k2 b o hc (k1 b o hc hb)
   refine ih (i+1) h2 _ (storedH xs q.1 q.2.1 q.2.2) (by omega) (by omega) ?_ ?_ hd2 (by have:=qM xs q.1 q.2.1 q.2.2;omega) hne (fun j q' u' e1 e2=>(hp j q' u' e1 e2).keep k3) ?_ ?_
   . obtain⟨oi,g1,g2⟩:=hit1
     exact⟨oi,(hs2.2 it hne).trans g1,g2⟩
   . obtain⟨ot,g1,g2,g3⟩:=ht
     exact⟨ot,k3 _ _ g2 g1,g2,g3⟩
   . have e:qs.drop i = q ::qs.drop (i + 1):=by
      have hi':i<qs.length:=by omega
      rw[List.drop_eq_getElem_cons hi'];rw[List.getElem?_eq_getElem hi']at hq1;rw[Option.some.inj hq1]
     rw[e]at hq;exact hq
   . intro b ob h1' h2' e
     exact(hs2.2 b h2').trans ((hs1.2 b h1').trans (hk b ob h1' h2' e))
end
section
variable{prog:Program}{w:World}{κ:Type}[DecidableEq κ]{kk:KeyKind prog w κ}{A:Around}{E:Value->Shared->Prop}{s:Shared}
theorem u7:typeLookup (.type "tuple") "keys" = pure none:=by rw[typeLookup_type,builtinLookup_eq_fast];kernel_rfl
theorem yp{t:Addr}{items:Array Value}{n:Nat}{sl:Array (Option Value)}{Q:Option Value->Shared->Prop}(ht:s.heap.get? t=some ⟨.type "tuple",none,.seq items n,sl⟩)(hh:A.handled=none)(h:∀ h' tk,(∀ b o,s.heap.get? b=some o->h'.get? b=some o)->Q none { s with heap:=h',toks:=tk }):wpAny (model prog w) A (getAttr? (.ref t) "keys") Q E s:=by
 obtain⟨hp,g,d,tk,os⟩:=s
 have hT:∀ tk',(⟨hp,g,d,tk',os⟩:Shared).TypeIs (.ref t) "tuple":=fun _=>⟨_,ht,rfl⟩
 have f1:=sub_AttributeError;have f3:=F.slot_tuple_getattribute.lookup;have f4:=F.slot_tuple_getattribute.bind (.ref t);have f5:=am_tuple_getattr_none;unfold getAttr? getAttrBy? getAttrBy
 repeat (any_goals (first|assumption|exact hT _|((with_reducible show wpAny _ _ (call (Value.builtin "tuple.__getattribute__") _ _) _ _ _);refine call_meets F.slot_tuple_getattribute (hT _) am_entry_tuple_getattribute (F.args_tuple_getattribute_2 _ _) (meets_getattribute_miss_tuple t items n sl "keys" _ u7 (by decide)) ⟨ht,hh,fun h' tk' e hx=>?_⟩)|wp_step))
 obtain⟨t',u',he⟩:=hx.there;show wpAny _ _ (getattributeRaised _ _ _ _ _ _ _) _ _ _;unfold getattributeRaised
 repeat (any_goals (first|assumption|wp_step))
 exact h _ _ hx.keeps
theorem vJ{t:Addr}{items:List Value}{n:Nat}{sl:Array (Option Value)}{qs:List (List κ×Addr×Value)}{Q:Value->Shared->Prop}(hu:A.units+2<cLine)(hh:A.handled=none)
  (ht:s.heap.get? t=some ⟨.type "tuple",none,.seq items.toArray n,sl⟩) (hl:qs.length=items.length) (hz:items.length<=sizeLine) (hp:∀(j:Nat) q u,qs[j]?=some q->items[j]?=some u->uU kk s.heap q u)
  (h:∀ d h' tk,s.heap.objs.size<=d->h'.DictOfH (tupleKind kk) d (putAll [] qs)->(∀ b o,s.heap.get? b=some o->h'.get? b=some o)->Q (.ref d) { s with heap:=h',toks:=tk }):
  wpAny (model prog w) A (call (.type "dict") [.ref t]) Q E s:=by
 refine callType_codes (Q₁:=fun obj s₁=>obj=.ref s.heap.objs.size /\ s₁={ s with heap:=s.heap.push { cls:=.type "dict",data:=.dict #[] } }) F.kt_called_dict (F.kt_typeCall_dict_1 _) F.entry_dict_init (kt_code_dict_new _ ⟨rfl,rfl⟩) ?_
 rintro obj s₁ ⟨rfl,rfl⟩
 have hnew:(s.heap.push { cls:=.type "dict",data:=.dict #[] }).DictOfH (tupleKind kk) s.heap.objs.size []:=Heap.DictOfH.new s.heap
 refine⟨hnew.typeIs,F.args_dict_init_2 _ _,?_⟩
 unfold Builtin.«dict.__init__»;refine wpAny_bind ?_;unfold Builtin.Dict.selfAndRest;refine wpAny_bind (wpAny_notOrdered_dict hnew.typeIs ?_);show wpAny _ _ (pure (s.heap.objs.size,[Value.ref t])) _ _ _;refine wpAny_pure ?_;show wpAny _ _ (Builtin.Dict.updateFrom "dict.__init__" s.heap.objs.size (.ref t) [] .none) _ _ _
 have ht1:(s.heap.push { cls:=.type "dict",data:=.dict #[] }).get? t=some ⟨.type "tuple",none,.seq items.toArray n,sl⟩:=Heap.get?_push_of_some _ ht
 unfold Builtin.Dict.updateFrom;refine wpAny_bind (wpAny_typeOf (T:="tuple") ⟨_,ht1,rfl⟩ ?_);rw[if_pos (by decide)];refine wpAny_bind (yp (A:=A.in1.in1) ht1 hh fun h1 tk1 k1=>?_);refine wpAny_ite_split (fun _=>?_) (fun z=>absurd rfl z);refine wpAny_bind (wpAny_rule ?_);have ht2:=k1 _ _ ht1;refine wpAny_bind (wpAny_pyIter_tuple (items:=items.toArray) ⟨_,ht2,rfl,_,rfl⟩ ?_);refine wpAny_pure ⟨plainId_quiet js _,?_⟩;have hd0:=k1 _ _ (Heap.get?_push_size s.heap (o:={ cls:=.type "dict",data:=.dict #[] }) rfl)
 have hlt:s.heap.objs.size<h1.objs.size:=Heap.lt_size hd0
 have k2:∀ b o,s.heap.get? b=some o->(h1.push { cls:=.type "tuple_iterator",data:=.fields #[.ref t,.int 0 0] }).get? b=some o:=fun b o e=>Heap.get?_push_of_some _ (k1 b o (Heap.get?_push_of_some _ e))
 refine vm (kk:=kk) (A:=A.in1) (d:=s.heap.objs.size) (it:=h1.objs.size) (t:=t) (items:=items) (qs:=qs) (h₀:=s.heap) (g0:=s) hu hh hl (fun h' tk hd hk=>⟨rfl,h _ h' tk (Nat.le_refl _) hd fun b o e=>hk b o ?_ ?_ e⟩) items.length 0 _ _ [] (by omega) (Nat.zero_le _) ⟨_,Heap.get?_push_size _ rfl,rfl,rfl⟩ ⟨_,Heap.get?_push_of_some _ ht2,rfl,_,rfl⟩ ⟨_,#[],0,Heap.get?_push_of_some _ hd0,⟨rfl,rfl,rfl⟩,rfl,rfl,fun _ hx=>by simp at hx,List.nodup_nil⟩ (by simpa using hz) (Nat.ne_of_gt hlt) (fun j q u e1 e2=>(hp j q u e1 e2).keep fun b o _ e=>k2 b o e) (by simp) (fun b o _ _ e=>k2 b o e)
 . exact Nat.ne_of_lt (Nat.lt_trans (Heap.lt_size e) hlt)
 . exact Nat.ne_of_lt (Heap.lt_size e)
end
end HT
namespace L2
open PySem PySem.Spec PyProof.Rows
abbrev E3:=List Key×Addr×V
noncomputable def R3(p:E3)(q:List Key×Addr×Value):Prop:=p.1=q.1 /\ p.2.1=q.2.1 /\ RelV p.2.2 q.2.2
noncomputable def qR(xs:List E3)(k:List Key)(b:Addr)(v:V):List E3:=if(xs.any fun p=>decide (p.1=k))=true then xs.map (fun p=>if p.1=k then(p.1,p.2.1,v)else p)else xs++[(k,b,v)]
noncomputable def kz(xs:List E3):List E3->List E3
 |[]=>xs
 |p ::r=>kz (qR xs p.1 p.2.1 p.2.2) r
noncomputable def ua(K:PySem.W.Frag)(H:Hp)(xs:List E3):Prop:=∀ p∈xs,SqT K H p.2.1 (p.1.map kV)
theorem wH(xs:List E3)(k:List Key)(b:Addr)(v:V):(qR xs k b v).length<=xs.length+1:=by
 unfold qR;split
 . rw[List.length_map];omega
 . rw[List.length_append];simp
theorem oG:∀(ps xs:List E3),(kz xs ps).length<=xs.length+ps.length
 |[],xs=>by simp[kz]
 | p ::r,xs=>by
   have:=oG r (qR xs p.1 p.2.1 p.2.2);have:=wH xs p.1 p.2.1 p.2.2;rw[kz,List.length_cons];omega
theorem R3.any{xs:List E3}{ys:List (List Key×Addr×Value)}(r:Paired R3 xs ys)(k:List Key):(xs.any fun p=>decide (p.1=k))=(atKey ys k).isSome:=by
 induction r with
 |nil=>rfl
 | @cons p q ps qs h t ih=>
   rw[List.any_cons,ih,h.1]
   by_cases e:q.1=k
   . simp[atKey,List.find?_cons,e]
   . simp[atKey,List.find?_cons,e]
theorem R3.put{xs:List E3}{ys:List (List Key×Addr×Value)}(r:Paired R3 xs ys)(k:List Key)(b:Addr){v:V}{u:Value}(rv:RelV v u):Paired R3 (qR xs k b v) (storedH ys k b u):=by
 unfold qR storedH;rw[R3.any r k]
 by_cases q:(atKey ys k).isSome=true
 . rw[if_pos q,if_pos q];clear q
   induction r with
   |nil=>exact .nil
   | @cons p q ps qs h t ih=>
     rw[List.map_cons,List.map_cons];refine .cons ?_ ih;unfold putAt
     by_cases e:p.1=k
     . rw[if_pos e,if_pos (h.1.symm.trans e)];exact⟨h.1,h.2.1,rv⟩
     . rw[if_neg e,if_neg (fun z=>e (h.1.trans z))];exact h
 . rw[if_neg q,if_neg q];exact Paired.snoc r ⟨rfl,rfl,rv⟩
theorem R3.x5:∀{ps:List E3} {qs:List (List Key×Addr×Value)} {xs:List E3} {ys:List (List Key×Addr×Value)},Paired R3 ps qs->Paired R3 xs ys->Paired R3 (kz xs ps) (HT.putAll ys qs)
 |_,_,_,_,.nil,r=>r
 | _,_,_,_,.cons (a:=p) (b:=q) h t,r=>by
   have:=R3.put r p.1 p.2.1 h.2.2;rw[h.1,h.2.1]at this;rw[kz,HT.putAll,h.1,h.2.1];exact R3.x5 t this
section
variable{X:Cx}{pins:List (Addr×Obj)}{σ:St}{H:Hp}{s:Shared}{a d:Addr}
theorem Inv.Cw{k:List Key}(I:Inv X pins σ H s)(h:SqT X.K H a (k.map kV)):(tupleKind (dy X.prog X.w)).is s.heap k a:=by
 obtain⟨its,r,⟨o,e,c,n,f⟩,_⟩:=I.tuple h
 exact⟨o,its.toArray,n,e,c,f,by simpa using oo r⟩
theorem Inv.dT{xs:List E3}(I:Inv X pins σ H s)(e:H d=some (.dT xs))(k:ua X.K H xs):xs.length<=sizeLine /\ (d==sysModules)=false /\ ∃ ys,Paired R3 xs ys /\ s.heap.DictOfH (tupleKind (dy X.prog X.w)) d ys:=by
 obtain⟨z,y,ys,r,o,es,ep,h1,h2,h3,h4,h5⟩:=(show eB X.prog X.w H s.heap d (.dT xs) from I.hok d _ e)
 refine⟨z,y,ys,r,o,es,ep,h1,h2,h3,h4,fun q hq=>?_,h5⟩
 have all:∀{l:List E3} {m:List (List Key×Addr×Value)},Paired R3 l m->ua X.K H l->∀ x∈m,(tupleKind (dy X.prog X.w)).is s.heap x.1 x.2.1:=by
  intro l m r
  induction r with
  |nil=>intro _ x hx;cases hx
  | @cons p q ps qs h t ih=>
    intro kk x hx
    rcases List.mem_cons.mp hx with z|z
    . subst z;have:=kk p (List.mem_cons_self);rw[h.1,h.2.1]at this;exact I.Cw this
    . exact ih (fun p hp=>kk p (List.mem_cons_of_mem _ hp)) x z
 exact all r k q hq
theorem CH{P:Program}{w:World}{H:Hp}{h:Heap}{xs:List E3}{ys:List (List Key×Addr×Value)}(z:xs.length<=sizeLine)(y:(d==sysModules)=false)(r:Paired R3 xs ys)(dd:h.DictOfH (tupleKind (dy P w)) d ys):eB P w H h d (.dT xs):=by
 obtain⟨o,es,ep,h1,h2,h3,h4,_,h5⟩:=dd
 exact⟨z,y,ys,r,o,es,ep,h1,h2,h3,h4,h5⟩
noncomputable def PrT(K:PySem.W.Frag)(H:Hp)(v:V)(p:E3):Prop:=∃ q,v=.ref q /\ SqT K H q [.ref p.2.1,p.2.2] /\ SqT K H p.2.1 (p.1.map kV)
theorem Eu(I:Inv X pins σ H s):∀{vs:List V} {ps:List E3} {its:List Value},Paired (PrT X.K H) vs ps->Vals vs its->∃ qs,Paired R3 ps qs /\ qs.length=its.length /\ ∀(j:Nat) q u,qs[j]?=some q->its[j]?=some u->HT.uU (dy X.prog X.w) s.heap q u:=by
 intro vs ps its h
 induction h generalizing its with
 |nil=>intro r;cases r;exact⟨[],.nil,rfl,fun j q u e=>by simp at e⟩
 | @cons v p vs ps hp t ih=>
   intro r
   cases r with
   | @cons _ u _ us ru rt=>
     obtain⟨qs,r1,l1,h1⟩:=ih rt;obtain⟨q,rfl,s1,s2⟩:=hp;cases ru;obtain⟨its',rv,pt,_⟩:=I.tuple s1
     cases rv with
     | @cons _ u1 _ _ w1 rv=>
       cases w1
       cases rv with
       | @cons _ u2 _ _ w2 rv=>
         cases rv
         refine⟨(p.1,p.2.1,u2) ::qs,.cons ⟨rfl,rfl,w2⟩ r1,by simp[l1],fun j q' u' e1 e2=>?_⟩
         cases j with
         | zero=>
           simp at e1 e2;subst e1 e2
           exact⟨⟨q,rfl,pt⟩,I.Cw s2⟩
         |succ j=>exact h1 j q' u' (by simpa using e1) (by simpa using e2)
noncomputable def wV(K:PySem.W.Frag)(A:Around):List V->Hp->VK->Prop:=fun xs H Q=>∃ a vs ps,xs=[.ref a] /\ SqT K H a vs /\ Paired (PrT K H) vs ps /\ A.handled=none /\ A.units+2<cLine /\ ∀ d,H d=none->Q (.ref d) (upd H d (.dT (kz [] ps)))
theorem sA:iG X (.type "dict") (wV X.K X.A):=by
 intro pins s σ H xs us Q I r h;obtain⟨a,vs,ps,rfl,ha,hp,hh,hu,q⟩:=h;obtain⟨u,rfl,rx⟩:=vals1 r;cases rx;obtain⟨its,rv,⟨⟨cl,di,da,sl⟩,e1,e2,n,e3⟩,hz⟩:=I.tuple ha;have nd:=I.noD ha _ e1;simp only at e2 e3 nd;subst e2 e3 nd;obtain⟨qs,r1,l1,h1⟩:=Eu I hp rv;have hl:=rv.length
 refine HT.vJ (kk:=dy X.prog X.w) hu hh e1 l1 (by omega) h1 fun d h' tk hd dd k=>?_
 have hps:ps.length=vs.length:=(Paired.length hp).symm
 have hf:=I.hok.fresh hd
 have hbig:(d==sysModules)=false:=beq_eq_false_iff_ne.mpr (Ne.symm (Nat.ne_of_lt (Nat.lt_of_lt_of_le I.big hd)))
 exact⟨.ref d,_,I.laid (t':=tk) k hd (CH (by have:=oG ps [];simp at this;omega) hbig (R3.x5 r1 .nil) dd),rfl,q d hf⟩
end
section
variable{X:Cx}{pins:List (Addr×Obj)}{σ:St}{H H':Hp}{s:Shared}{h':Heap}
theorem Inv.Af{t':Nat}(I:Inv X pins σ H s)(k:∀ b u,s.heap.get? b=some u->h'.get? b=some u)(hH:∀ b,H' b=H b \/ (s.heap.objs.size<=b /\ ∃ o,H' b=some o /\ eB X.prog X.w H' h' b o)):Inv X pins σ H' { s with heap:=h',toks:=t' }:=by
 have old:∀ b,b<s.heap.objs.size->H' b=H b:=fun b hb=>by
  rcases hH b with z|⟨z,_⟩
  . exact z
  . exact absurd hb (Nat.not_lt.mpr z)
 have keep:∀ b o,H b=some o->H' b=some o:=fun b o e=>by rw[old b (I.hok.lt e)];exact e
 refine I.un ⟨fun b u q _ _ _=>k b u q,fun b u q _ _ _=>⟨u.slots,k b u q⟩,fun b u q n _=>by rw[old b (Heap.lt_size q)];exact n,fun b u q _=>⟨u,k b u q⟩,fun b xs q=>keep b _ q,fun b u xs q=>keep b _ q,fun b ps q=>⟨#[],by rw[keep b _ q];simp⟩⟩ fun b o e=>?_
 rcases hH b with z|⟨z,o',e',ok⟩
 . rw[z]at e
   exact(I.hok b o e).jM (fun c v _ q=>k c v q) (fun c q=>keep c _ q) fun c xs q=>keep c _ q
 . rw[e']at e;cases e;exact ok
end
end L2
namespace L2.E
open PySem PySem.Spec PyProof.Rows L2
theorem boot_dict:bootBuiltins "dict" = some (.type "dict"):=by decide +kernel
theorem sX{A:Around}{k:Nat}(hr:fF k A):A.units+2<cLine:=by have:=hr.un;omega
end L2.E
namespace L2.P
open PySem PySem.Spec PyProof.Rows L2 L2.E
section
variable{K:PySem.W.Frag}{cls:String->Option Addr}{W:XW}{Av G S₀ S S' H H' B B':Hp}{ρ:af}{σ:St}{Q:VK}
theorem ou:∀{ns:List Int} {vs:List V},aV K S (ns.map .int) vs->vs=(ns.map Sum.inl).map kV
 |[],vs,h=>by unfold aV at h;rw[h];rfl
 | n ::ns,vs,h=>by
   obtain⟨v,r,rfl,h1,h2⟩:=h.cons_inv;unfold Rep at h1;rw[h1,ou h2];rfl
theorem nK{x:PV}{v:V}{ns:List Int}(e:oe x=some ns)(h:Rep K S x v):∃ b,v=.ref b /\ SqT K S b ((ns.map Sum.inl).map kV) /\ Rep K S (.tup (ns.map .int)) (.ref b):=by
 cases x with
 | tup xs=>
   have e1:=vM (show kU xs=some ns from e);subst e1;have h0:=h;unfold Rep at h;obtain⟨b,vs,rfl,h1,h2⟩:=h;rw[ou h2]at h1
   exact⟨b,rfl,h1,h0⟩
 |_=>cases e
theorem pairs_at(sh:ay S H):∀{ps:List PV} {vs:List V} {d:DT},j0 ps=some d->aV K S ps vs->∃ es:List E3,Paired (PrT K H) vs es /\ cZ K S d es
 |[],vs,d,e,h=>by cases e;unfold aV at h;subst h;exact⟨[],.nil,.nil⟩
 | .tup [k,y] ::ps,vs,d,e,h=>by
   unfold j0 at e;obtain⟨ns,e1,e2⟩:=Option.bind_eq_some_iff.mp e;obtain⟨d',e3,e4⟩:=Option.map_eq_some_iff.mp e2;subst e4;obtain⟨v,r,rfl,h1,h2⟩:=h.cons_inv;obtain⟨es,h3,h4⟩:=pairs_at sh e3 h2;unfold Rep at h1;obtain⟨q,us,rfl,h5,h6⟩:=h1;obtain⟨vk,r1,rfl,hk,h6⟩:=h6.cons_inv;obtain⟨vy,r2,rfl,hy,h6⟩:=h6.cons_inv
   have:r2=[]:=by unfold aV at h6;exact h6
   subst this;obtain⟨b,rfl,hb,hkb⟩:=nK e1 hk
   exact⟨(ns.map Sum.inl,b,vy) ::es,.cons ⟨q,rfl,ay.tup sh h5,ay.tup sh hb⟩ h3,.cons ⟨rfl,hkb,hy⟩ h4⟩
 |.tup [] ::_,_,_,e,_=>by cases e
 |.tup [_] ::_,_,_,e,_=>by cases e
 |.tup (_ ::_ ::_ ::_) ::_,_,_,e,_=>by cases e
 |.non ::_,_,_,e,_=>by cases e
 |.bl _ ::_,_,_,e,_=>by cases e
 |.str _ ::_,_,_,e,_=>by cases e
 |.int _ ::_,_,_,e,_=>by cases e
 |.lst _ ::_,_,_,e,_=>by cases e
theorem qj:∀{a b:List Int},a.map (Sum.inl:Int->Key)=b.map Sum.inl↔a=b:=by
 intro a b
 refine⟨fun e=>?_,fun e=>by rw[e]⟩
 have:=congrArg (List.map fun k:Key=>match k with|.inl i=>i|.inr _=>0) e
 simpa [List.map_map,Function.comp_def]using this
theorem cZ.any{d:DT}{xs:List E3}(r:cZ K S d xs)(k:List Int):(d.any fun p=>decide (p.1=k))=xs.any fun p=>decide (p.1=k.map Sum.inl):=by
 induction r with
 |nil=>rfl
 | cons h t ih=>
   rw[List.any_cons,List.any_cons,ih,h.1]
   congr 1
   exact decide_eq_decide.mpr qj.symm
theorem cZ.put{d:DT}{xs:List E3}(r:cZ K S d xs)(k:List Int){b:Addr}{y:PV}{v:V}(hk:Rep K S (.tup (k.map .int)) (.ref b))(hy:Rep K S y v):cZ K S (nC d k y) (qR xs (k.map Sum.inl) b v):=by
 unfold nC qR;rw[r.any k];split
 . rename_i q;clear q
   induction r with
   |nil=>exact .nil
   | @cons p q ps qs h t ih=>
     rw[List.map_cons,List.map_cons];refine .cons ?_ ih
     by_cases e:p.1=k
     . rw[if_pos e,if_pos (by rw[h.1,e])];exact⟨h.1,h.2.1,hy⟩
     . rw[if_neg e,if_neg (fun z=>e (qj.mp (h.1.symm.trans z)))];exact h
 . exact Paired.snoc r ⟨rfl,hk,hy⟩
theorem cZ.x5{ps:DT}{es:List E3}(h:cZ K S ps es):∀{d:DT} {xs:List E3},cZ K S d xs->cZ K S (ps.foldl (fun d p=>nC d p.1 p.2) d) (kz xs es):=by
 induction h with
 |nil=>intro d xs r;exact r
 | @cons p q ps qs h t ih=>
   intro d xs r;have:=cZ.put r p.1 h.2.1 h.2.2;rw[<- h.1]at this;exact ih this
theorem cZ.Dv{d:DT}{xs:List E3}(sh:ay S H)(r:cZ K S d xs):ua K H xs:=by
 induction r with
 |nil=>intro p hp;cases hp
 | cons h t ih=>
   intro p hp
   rcases List.mem_cons.mp hp with z|z
   . subst z;obtain⟨b,e,h1,_⟩:=nK (x:=.tup _) (show oe (.tup (List.map PV.int _))=some _ from jR _) h.2.1;cases e;rw[h.1];exact ay.tup sh h1
   . exact ih p z
end
end L2.P
namespace HT
open PySem PyProof.Rows
section
open PySem.SeqAt
open PySem.AutoSeq1 (wpAny_loadPart')
variable{prog:Program}{w:World}{A:Around}{E:Value->Shared->Prop}{s:Shared}
theorem kD{t sl:Addr}{items:Array Value}{vl vu:Value}{lo hi:Option Int}{Q:Value->Shared->Prop}(ht:IsTup s.heap t items)(hs:s.heap.IsSliceOf sl vl vu .none)(pl:IsPart vl lo)(pu:IsPart vu hi)
  (hw:sIx items.size 0 lo=0 /\ sIx items.size items.size hi=items.size) (h:Q (.ref t) s):wpAny (model prog w) A (getItem (.ref t) (.ref sl)) Q E s:=by
 obtain⟨os,hos,hcs,hds⟩:=id hs
 have hTs:s.TypeIs (.ref sl) "slice":=⟨os,hos,hcs⟩
 unfold getItem
 try with_reducible refine wpAny_holding ?_
 first|refine wpAny_bind (wpAny_pure ?_)|skip
 refine wpAny_bind (wpAny_sequenceKey ht.typeIs (by decide) ?_);refine wpAny_bind (wpAny_callSpecial?_slot (name:=Str.ofString "__getitem__") ht.typeIs PyProof.Rows.slot_tuple_getitem (wpAny_call_entry PyProof.Rows.slot_tuple_getitem ht.typeIs entry_tuple_getitem ?_ (args_tuple_getitem _ _)));show wpAny _ _ (Builtin.Tuple.tupleItemsOf (.ref t) >>= _) _ _ s;refine wpAny_bind (tupleItemsOf_ ht ?_);refine wpAny_bind (wpAny_typeOf hTs ?_);rw[if_pos (by decide)];refine wpAny_bind (gG hs pl pu ?_)
 have hyes:(((sIx items.size 0 lo:Nat):Int)==0&&(1:Int)==1&&(sIx items.size items.size hi - sIx items.size 0 lo)==items.size)=true:=by rw[hw.1,hw.2];simp
 show wpAny _ _ (if(((sIx items.size 0 lo:Nat):Int)==0&&(1:Int)==1&&(sIx items.size items.size hi - sIx items.size 0 lo)==items.size)=true then _ else _) _ _ s;rw[if_pos hyes];obtain⟨hp,g,d,tk,os'⟩:=s;have hT:=ht.typeIs (s:=⟨hp,g,d,tk,os'⟩);obtain⟨o,ho,hc,n,hd⟩:=ht
 repeat (any_goals (first|assumption|wp_step))
 exact⟨_,rfl,wpAny_pure h⟩
end
end HT
namespace PySem
end PySem
namespace L2
open PySem PySem.Spec PyProof.Rows
section
variable{X:Cx}
noncomputable def zC(K:PySem.W.Frag):V->Option Int->Option Int->Hp->VK->Prop:=fun x lo hi H Q=>∃ a xs,x=.ref a /\ SqT K H a xs /\
 (HT.sIx xs.length 0 lo=0 /\ HT.sIx xs.length xs.length hi=xs.length->Q (.ref a) H) /\ (¬ (HT.sIx xs.length 0 lo=0 /\ HT.sIx xs.length xs.length hi=xs.length)->∀ p,H p=none->Q (.ref p) (upd H p (.tup (lY xs lo hi))))
theorem fo:SlR X (zC X.K):=by
 intro pins s σ H x v vl vu lo hi sl Q I rx hs pl pu h;obtain⟨a,xs,rfl,hx,q1,q2⟩:=h
 by_cases hw:HT.sIx xs.length 0 lo=0 /\ HT.sIx xs.length xs.length hi=xs.length
 . cases rx;obtain⟨its,r,ht,hz⟩:=I.tuple hx
   have hlen:its.toArray.size=xs.length:=by rw[List.size_toArray];exact r.length.symm
   exact⟨"tuple",_,PyProof.Rows.slot_tuple_getitem.lookup,ht.typeIs,HT.kD ht hs pl pu (by rw[hlen];exact hw) ⟨.ref a,H,I,rfl,q1 hw⟩⟩
 . exact Bs pins s σ H _ v vl vu lo hi sl Q I rx hs pl pu ⟨a,xs,rfl,hx,hw,q2 hw⟩
end
end L2
namespace L2.P
open PySem PySem.Spec PyProof.Rows L2 L2.E
section
variable{K:PySem.W.Frag}{cls:String->Option Addr}{W:XW}{Av G S₀ S S' H H' B B':Hp}{ρ:af}{σ:St}{Q:VK}
theorem fg{te:TE}{tl th:TO}{ma ml mh:af->OE}(ha:JE K cls W te ma)(hl:JO K cls W tl ml)(hh:JO K cls W th mh):JE K cls W (tSl (zC K) te tl th) (dj ma ml mh):=by
 intro Av G S₀ ρ σ S H Q I p
 refine ha.go I p fun a v S1 H1 I1 w1 r1 p1=>hl.go I1 p1 fun l u S2 H2 I2 w2 r2 p2=>hh.go I2 p2 fun h z S3 H3 I3 w3 r3 p3=>?_
 rw[part_of (r2.rd I2.sh),part_of (r3.rd I3.sh)];have ra:=((r1.rd I1.sh).mono w2.s w2.g).mono w3.s w3.g
 cases e:a.pv with
 | tup xs=>
   rw[e]at p3 ra;obtain⟨q,vs,rfl,hq,hr⟩:=dr ra
   refine⟨q,vs,rfl,ay.tup I3.sh hq,fun hw=>?_,fun hw b hb=>?_⟩
   . refine p3 _ S3 H3 (aI.refl I3.sh) ?_;show Rep K _ _ _;unfold Rep;have:=hr.cut (iM l.pv) (iM h.pv)
     have ec:lY vs (iM l.pv) (iM h.pv)=vs:=by unfold lY;rw[hw.1,hw.2];simp
     rw[ec]at this
     exact⟨q,vs,rfl,hq,this⟩
   . have w4:=aI.both (o:=.tup (lY vs (iM l.pv) (iM h.pv))) I3.sh hb;refine p3 _ _ _ w4 ?_;show Rep K _ _ _;unfold Rep
     exact⟨b,_,rfl,SqT.new aY,(hr.cut _ _).mono w4.s⟩
 |_=>rw[e]at p3;exact p3.elim
end
end L2.P
namespace HT
open PySem PyProof.Rows
end HT
namespace L2
open PySem PySem.Spec PyProof.Rows
noncomputable def kS(xs:List E3)(k:List Key):Option V:=(xs.find? fun p=>decide (p.1=k)).map (·.2.2)
theorem R3.val{xs:List E3}{ys:List (List Key×Addr×Value)}(r:Paired R3 xs ys)(k:List Key):aX (kS xs k) ((atKey ys k).map (·.2)):=by
 induction r with
 |nil=>exact True.intro
 | @cons p q ps qs h t ih=>
   by_cases e:p.1=k
   . have e':q.1=k:=h.1.symm.trans e
     have b:atKey (q ::qs) k=some q.2:=by simp[atKey,List.find?_cons,e']
     have a:kS (p ::ps) k=some p.2.2:=by simp[kS,List.find?_cons,e]
     rw[a,b];exact h.2.2
   . have e':¬ q.1=k:=fun z=>e (h.1.trans z)
     have b:atKey (q ::qs) k=atKey qs k:=by simp[atKey,List.find?_cons,e']
     have a:kS (p ::ps) k=kS ps k:=by simp[kS,List.find?_cons,e]
     rw[a,b];exact ih
end L2
namespace L2.E
open PySem PySem.Spec PyProof.Rows L2
end L2.E
namespace L2.P
open PySem
noncomputable def ij(d:DT)(k:List Int):Option PV:=(d.find? fun p=>decide (p.1=k)).map (·.2)
end L2.P
namespace L2.P
open PySem PySem.Spec PyProof.Rows L2 L2.E
section
variable{K:PySem.W.Frag}{cls:String->Option Addr}{W:XW}{Av G S₀ S S' H H' B B':Hp}{ρ:af}{σ:St}{Q:VK}{F:Nat->List Addr}
theorem Ay{x:PV}{v:V}{ns:List Int}(e:oe x=some ns)(h:RdV K S H x v):∃ b,v=.ref b /\ SqT K S b ((ns.map Sum.inl).map kV) /\ Rep K S (.tup (ns.map .int)) (.ref b):=by
 cases x with
 |tup xs=>exact nK e h
 |_=>cases e
end
end L2.P
namespace L2.P
open PySem
noncomputable def mG(me:af->OE):af->OD:=fun ρ=>match me ρ with
 | .ok r=>(match r.pv with
   | .tup ps=>(match j0 ps with
     |some d=>if ps.length<=lim then .ok (.dt (zP d))else .bad
     |none=>.bad)
   |_=>.bad)
 |.exc c fs=>.exc c fs
 |.bad=>.bad
end L2.P
namespace L2.P
open PySem PySem.Spec PyProof.Rows L2 L2.E
section
variable{K:PySem.W.Frag}{cls:String->Option Addr}{W:XW}{Av G S₀ S S' H H' B B':Hp}{ρ:af}{σ:St}{Q:VK}
theorem DI{us:List E3}{q:Addr}{d:DT}(hB:B q=none)(hS:S q=none)(h:H q=some (.dT us))(r:cZ K S d us):vd K cls B S H (.dt d) (.ref q):=by
 refine⟨[q],?_,by simp,fun a ha=>?_⟩
 . unfold aX;exact⟨q,us,rfl,h,rfl,r⟩
 . have z:a=q:=by simpa using ha
   subst z
   exact⟨hB,hS⟩
theorem yC{A:Around}{te:TE}{me:af->OE}(hh:A.handled=none)(hu:A.units+2<cLine)(he:JE K cls W te me):JD K cls W (tCB (wV K A) (eA te iC)) (mG me):=by
 intro Av G S₀ ρ σ S H Q I p;unfold mG at p;refine he Av G S₀ ρ σ S H _ I ?_
 cases em:me ρ with
 |exc c fs=>rw[em]at p;exact p
 |bad=>rw[em]at p;exact p
 | ok r=>
   rw[em]at p;intro z S1 H1 w1 r1;have I1:=I.grow w1;have ra:=r1.rd I1.sh
   dsimp only at p
   cases er:r.pv with
   | tup ps=>
     rw[er]at p ra
     dsimp only at p
     cases ed:j0 ps with
     |none=>rw[ed]at p;exact p.elim
     | some d=>
       rw[ed]at p
       dsimp only at p
       split at p
       . obtain⟨q,vs,rfl,hq,hr⟩:=dr ra;obtain⟨es,h1,h2⟩:=pairs_at I1.sh ed hr
         refine⟨q,vs,es,rfl,ay.tup I1.sh hq,h1,hh,hu,fun b hb=>?_⟩
         have w2:=aI.heap (o:=.dT (kz [] es)) I1.sh hb;exact p (.ref b) _ _ (w1.trans w2) (DI (w1.g.free hb) (I1.sh.free hb) aY (cZ.x5 h2 .nil))
       . exact p.elim
   |_=>rw[er]at p;exact p.elim
end
end L2.P
namespace L2.P
open PySem
end L2.P
namespace L2.P
open PySem PySem.Spec PyProof.Rows L2 L2.E PySem.SeqAt
end L2.P
namespace L2.P
open PySem
noncomputable def cM:List Int->List Int->Bool
 |[],[]=>false
 |[],_ ::_=>true
 |_ ::_,[]=>false
 |a ::as,b ::bs=>if a=b then cM as bs else decide (a<b)
noncomputable def va(x:List Int):List (List Int)->List (List Int)
 |[]=>[x]
 |y ::ys=>if cM x y=true then x ::y ::ys else y ::va x ys
noncomputable def eW(ks:List (List Int)):List (List Int):=ks.foldr va []
noncomputable def iL:List PV->Option (List (List Int))
 |[]=>some []
 |x ::xs=>(oe x).bind fun k=>(iL xs).map (k ::·)
noncomputable abbrev tupI(k:List Int):PV:=.tup (k.map .int)
noncomputable def jJ:PV->Option RV
 |.lst xs=>(iL xs).bind fun ks=>if ks.Nodup /\ ks.length<64 then some (.fr ((eW ks).map tupI))else none
 |_=>none
noncomputable def xV:PV->PV->Option RV
 |.lst xs,.lst ys=>if xs.length=ys.length then some (.fr (List.zipWith (fun a b=>.tup [a,b]) xs ys))else none
 |_,_=>none
noncomputable def pb(i:Nat)(mp:MP)(mk:af->OE):af->OE:=fun ρ=>match subAt i mp ρ with
 | some (.dt d)=>(mk ρ).bind fun k=>(match oe k.pv with
   | some k=>(match ij d k with
     |some v=>.ok (.sh v)
     |none=>.bad)
   |none=>.bad)
 |_=>.bad
theorem mx:∀ x,cM x x=false
 |[]=>rfl
 |a ::as=>by rw[cM,if_pos rfl,mx as]
theorem kM:∀{x y z:List Int},cM x y=true->cM y z=true->cM x z=true
 |[],[],_,h,_=>by simp[cM]at h
 |[],_ ::_,[],_,h=>by simp[cM]at h
 |[],_ ::_,_ ::_,_,_=>rfl
 |_ ::_,[],_,h,_=>by simp[cM]at h
 |_ ::_,_ ::_,[],_,h=>by simp[cM]at h
 | a ::as,b ::bs,c ::cs,h1,h2=>by
   rw[cM]at h1 h2 ⊢
   by_cases e1:a=b
   . subst e1
     by_cases e2:a=c
     . rw[if_pos rfl]at h1;rw[if_pos e2]at h2 ⊢;exact kM h1 h2
     . rw[if_neg e2]at h2 ⊢;exact h2
   . rw[if_neg e1]at h1;have l1:=of_decide_eq_true h1
     by_cases e2:b=c
     . subst e2;rw[if_neg e1];exact h1
     . rw[if_neg e2]at h2;have l2:=of_decide_eq_true h2;rw[if_neg (by omega)];exact decide_eq_true (by omega)
theorem mF:∀{x y:List Int},x≠y->cM x y=false->cM y x=true
 |[],[],h,_=>absurd rfl h
 |[],_ ::_,_,h=>by simp[cM]at h
 |_ ::_,[],_,_=>rfl
 | a ::as,b ::bs,h,h1=>by
   rw[cM]at h1 ⊢
   by_cases e1:a=b
   . subst e1
     rw[if_pos rfl]at h1 ⊢
     exact mF (fun z=>h (by rw[z])) h1
   . rw[if_neg e1]at h1;rw[if_neg (Ne.symm e1)];have:=of_decide_eq_false h1;exact decide_eq_true (by omega)
theorem lr(x:List Int):∀ l,(va x l).Perm (x ::l)
 |[]=>List.Perm.refl _
 | y ::ys=>by
   rw[va];split
   . exact List.Perm.refl _
   . exact((lr x ys).cons y).trans (List.Perm.swap x y ys)
theorem bE:∀ l,(eW l).Perm l
 |[]=>List.Perm.refl _
 |x ::l=>(lr x _).trans ((bE l).cons x)
noncomputable abbrev wJ(l:List (List Int)):Prop:=l.Pairwise fun x y=>cM x y=true
theorem oq(x:List Int):∀ l,wJ l->x∉l->wJ (va x l)
 |[],_,_=>List.pairwise_singleton _ _
 | y ::ys,r,hx=>by
   have r':=List.pairwise_cons.mp r
   rw[va];split
   . rename_i h;refine List.pairwise_cons.mpr ⟨fun z hz=>?_,r⟩
     rcases List.mem_cons.mp hz with e|e
     . rw[e];exact h
     . exact kM h (r'.1 z e)
   . rename_i h
     have hn:x≠y:=fun z=>hx (by rw[z];exact List.mem_cons_self)
     refine List.pairwise_cons.mpr ⟨fun z hz=>?_,oq x ys r'.2 fun z=>hx (List.mem_cons_of_mem _ z)⟩
     rcases List.mem_cons.mp ((lr x ys).mem_iff.mp hz)with e|e
     . rw[e];exact mF hn (by simpa using h)
     . exact r'.1 z e
theorem gW:∀{l},l.Nodup->wJ (eW l)
 |[],_=>List.Pairwise.nil
 | x ::l,n=>by
   rw[List.nodup_cons]at n
   exact oq x _ (gW n.2) fun z=>n.1 ((bE l).mem_iff.mp z)
theorem kO:∀{a b:List (List Int)},a.Perm b->wJ a->wJ b->a=b
 |[],b,p,_,_=>p.nil_eq
 |a ::as,[],p,_,_=>absurd p.symm.nil_eq (by simp)
 | a ::as,b ::bs,p,ra,rb=>by
   have ra':=List.pairwise_cons.mp ra
   have rb':=List.pairwise_cons.mp rb
   have e:a=b:=by
    rcases List.mem_cons.mp (p.mem_iff.mp List.mem_cons_self)with e|e
    . exact e
    . rcases List.mem_cons.mp (p.mem_iff.mpr List.mem_cons_self)with e'|e'
      . exact e'.symm
      . have:=kM (ra'.1 b e') (rb'.1 a e);rw[mx]at this;cases this
   subst e;rw[kO (List.Perm.cons_inv p) ra'.2 rb'.2]
theorem jd{a b:List (List Int)}(na:a.Nodup)(nb:b.Nodup):eW a=eW b↔a.Perm b:=
 ⟨fun e=>(bE a).symm.trans (e ▸ bE b),fun p=>kO ((bE a).trans (p.trans (bE b).symm)) (gW na) (gW nb)⟩
end L2.P
namespace HT
open PySem PyProof.Rows PySem.W
open L2.P (cM mx kM mF)
noncomputable def eT(h:Heap)(ns:List Int)(a:Addr):Prop:=∃ o its n,h.get? a=some o /\ o.cls=.type "tuple" /\ o.data=.seq its n /\ IntsAre its.toList ns
theorem eT.typeIs{s:Shared}{ns:List Int}{a:Addr}(x:eT s.heap ns a):s.TypeIs (.ref a) "tuple":=let ⟨o,_,_,h1,h2,_⟩:=x;⟨o,h1,h2⟩
section
variable{prog:Program}{w:World}{A:Around}{E:Value->Shared->Prop}{s:Shared}
theorem lt_int{a b:Int}{t u:Tok}{Q:Value->Shared->Prop}(h:Q (.bool (decide (a<b))) s):wpAny (model prog w) A (richCompare .Lt (.int a t) (.int b u)) Q E s:=
 wpAny_richCompare_same (op:=.Lt) (typeIs_int s a t) (typeIs_int s b u) slot_int_lt (call_int_lt ⟨(fun e=>nomatch e),h⟩)
theorem xP{x y:List Int}{a b:Addr}{P:Fin->Shared->Prop}(hx:eT s.heap x a)(hy:eT s.heap y b)(h:P (.done (.ret (.bool (cM x y)))) s):
  wpAny (model prog w) A (Builtin.«tuple.__lt__» ⟨[.ref a,.ref b],[]⟩) P E s:=by
 have tb:=hy.typeIs;obtain⟨oa,xs,na,a1,_,a2,ia⟩:=hx;obtain⟨ob,ys,nb,b1,_,b2,ib⟩:=hy;show wpAny _ _ (isInstance (.ref b) (.type "tuple") >>= _) _ _ s;refine wpAny_bind (wpAny_isInstance tb isSubtype_tuple_tuple ?_);simp only[Bool.not_true,Bool.false_eq_true,if_false];refine wpAny_bind (wpAny_tupleItemsOf a1 a2 (wpAny_bind (wpAny_tupleItemsOf b1 b2 (wpAny_bind ?_))));refine wpAny_forIn_list _ (fun rest r s'=>r.1=none /\ s'=s /\ ∃ x' y' us vs,rest=List.zip us vs /\ IntsAre us x' /\ IntsAre vs y' /\ cM x' y'=cM x y /\ decide (us.length<vs.length)=decide (xs.size<ys.size)) _ ?_ ?_ _ _ ⟨rfl,rfl,x,y,xs.toList,ys.toList,rfl,ia,ib,rfl,by simp⟩
 . rintro⟨u,v⟩ rest r s' ⟨hr,rfl,x',y',us,vs,hz,iu,iv,hl,hn⟩
   cases iu with
   |nil=>simp at hz
   | @cons m t us x' iu=>
     cases iv with
     |nil=>simp at hz
     | @cons n t' vs y' iv=>
       simp only[List.zip_cons_cons,List.cons.injEq,Prod.mk.injEq]at hz;obtain⟨⟨rfl,rfl⟩,rfl⟩:=hz;refine wpAny_bind (wpAny_eqBool_int ?_)
       by_cases e:m=n
       . subst e;simp only[beq_self_eq_true,Bool.not_true,Bool.false_eq_true,if_false];refine wpAny_pure ⟨rfl,rfl,x',y',us,vs,rfl,iu,iv,?_,by simpa using hn⟩;rw[<- hl,cM,if_pos rfl]
       . have e':(m==n)=false:=beq_eq_false_iff_ne.mpr e
         rw[e'];simp only[Bool.not_false,if_true];rw[<- hl,cM,if_neg e]at h;exact wpAny_bind (wpAny_rule (wpAny_bind (lt_int (wpAny_bind (wpAny_pure (wpAny_pure (wpAny_pure h)))))))
 . rintro⟨r1,r2⟩ s' ⟨hr,rfl,x',y',us,vs,hz,iu,iv,hl,hn⟩
   simp only at hr;subst hr
   have fin:decide (xs.size<ys.size)=cM x y:=by
    rw[<- hl,<- hn]
    cases iu with
    |nil=>cases iv<;>simp[cM]
    | cons _ _ _=>
      cases iv with
      |nil=>simp[cM]
      |cons _ _ _=>simp at hz
   refine wpAny_pure ?_;show P (.done (.ret (.bool (decide (xs.size<ys.size))))) s';rw[fin];exact h
theorem rm{x y:List Int}{a b:Addr}{Q:Value->Shared->Prop}(hx:eT s.heap x a)(hy:eT s.heap y b)(h:Q (.bool (cM x y)) s):wpAny (model prog w) A (call (.builtin "tuple.__lt__") [.ref a,.ref b]) Q E s:=
 wpAny_call_entry PySem.F.slot_tuple_lt hx.typeIs PySem.F.entry_tuple_lt (xP hx hy ⟨_,rfl,h⟩) (PySem.F.args_tuple_lt_2 _ _)
theorem xE{c:Bool}{x y:List Int}{a b:Addr}{Q:Bool->Shared->Prop}(hu:A.units<cLine)(hx:eT s.heap x a)(hy:eT s.heap y b)(h:Q (cM x y) s):wpAny (model prog w) A (oneLt' c (.ref a) (.ref b)) Q E s:=by
 rw[oneLt'_eq]
 cases c with
 | false=>
   simp only[Bool.false_eq_true,if_false];exact wpAny_bind (wpAny_richCompare_same_room (op:=.Lt) hx.typeIs hy.typeIs PySem.F.slot_tuple_lt (rm hx hy ⟨(fun e=>nomatch e),wpAny_truthy_bool h⟩) hu)
 | true=>
   simp only[if_true];refine wpAny_bind (wpAny_cRoomFor_or (.inr hu) (wpAny_bind (wpAny_callSpecialIfBound?_slot hx.typeIs PySem.F.slot_tuple_lt (rm hx hy ?_))));exact wpAny_truthy_bool h
theorem Co{κ:SortKind}(hκ:κ=oneType' \/ κ=general' \/ ∃ c,κ=tuples' c){x y:List Int}{a b:Addr}{Q:Bool->Shared->Prop}(hu:A.units<cLine)(hx:eT s.heap x a)(hy:eT s.heap y b)(h:Q (cM x y) s):
  wpAny (model prog w) A (keyLt' κ (.ref a) (.ref b)) Q E s:=by
 rcases hκ with rfl|rfl|⟨c,rfl⟩
 . exact xE (c:=true) hu hx hy h
 . exact xE (c:=false) hu hx hy h
 . obtain⟨oa,xs,na,a1,_,a2,ia⟩:=hx;obtain⟨ob,ys,nb,b1,_,b2,ib⟩:=hy;refine kat_lt a1 a2 b1 b2 ?_
   have go:∀{us vs:List Value} {x' y':List Int} (i:Nat),IntsAre us x'->IntsAre vs y'->cM x' y'=cM x y->decide (us.length<vs.length)=decide (xs.size<ys.size)->KatLex prog w A c (decide (xs.size<ys.size)) Q (us.zip vs) i s:=by
    intro us
    induction us with
    | nil=>
      intro vs x' y' i iu iv hl hn;cases iu;refine kat_nil ?_;rw[<- hn]
      cases iv with
      |nil=>rw[<- hl]at h;simpa [cM]using h
      |cons _ _ _=>rw[<- hl]at h;simpa [cM]using h
    | cons u us ih=>
      intro vs x' y' i iu iv hl hn
      cases iu with
      | cons m t iu=>
        cases iv with
        |nil=>refine kat_nil ?_;rw[<- hn];rw[<- hl]at h;simpa [cM]using h
        | cons n t' iv=>
          refine kat_cons (wpAny_eqBool_int (kat_go (fun e=>kat_yes (ih (i+1) iu iv ?_ (by simpa using hn))) fun e=>kat_no ?_))
          . rw[<- hl,cM,if_pos (eq_of_beq e)]
          . rw[<- hl,cM,if_neg (beq_eq_false_iff_ne.mp e)]at h
            cases c&&i==0 with
            |true=>exact oneLt_int h
            |false=>exact kat_one _ _ (lt_int h)
   exact go 0 ia ib rfl (by simp)
end
noncomputable def Pt{α:Type}(n:Nat)(lt:Nat->Nat->Bool):KasT α->(α->Prop)->Prop
 |.ret a,R=>R a
 |.ask i j k,R=>i<n /\ j<n /\ Pt n lt (k (lt i j)) R
variable{n:Nat}{lt:Nat->Nat->Bool}
theorem Pt.wp{α:Type}{cmp:Nat->Nat->(Bool->Shared->Prop)->Shared->Prop}{s:Shared}{Q:α->Shared->Prop}{R:α->Prop}(hc:∀ i j C,i<n->j<n->C (lt i j) s->cmp i j C s)(hq:∀ a,R a->Q a s):∀ t:KasT α,Pt n lt t R->t.kasWp cmp Q s
 |.ret a,h=>hq a h
 |.ask i j k,h=>hc i j _ h.1 h.2.1 (Pt.wp hc hq (k (lt i j)) h.2.2)
theorem Pt.bind{α β:Type}{f:α->KasT β}{R:β->Prop}:∀ t:KasT α,Pt n lt t (fun a=>Pt n lt (f a) R)->Pt n lt (t.bind f) R
 |.ret a,h=>h
 |.ask i j k,h=>⟨h.1,h.2.1,Pt.bind (k (lt i j)) h.2.2⟩
theorem Pt.mono{α:Type}{R R':α->Prop}(hr:∀ a,R a->R' a):∀ t:KasT α,Pt n lt t R->Pt n lt t R'
 |.ret a,h=>hr a h
 |.ask i j k,h=>⟨h.1,h.2.1,Pt.mono hr (k (lt i j)) h.2.2⟩
noncomputable abbrev Gt(p:Array Nat)(i:Nat):Nat:=p.getD i 0
noncomputable def Gd0(n:Nat)(p:Array Nat):Prop:=p.toList.Perm (List.range n)
noncomputable def Srt(lt:Nat->Nat->Bool)(p:Array Nat)(k:Nat):Prop:=∀ i j,i<j->j<k->lt (Gt p i) (Gt p j)=true
noncomputable def Dsc(lt:Nat->Nat->Bool)(p:Array Nat)(k:Nat):Prop:=∀ i j,i<j->j<k->lt (Gt p j) (Gt p i)=true
structure rL(n:Nat)(lt:Nat->Nat->Bool):Prop where
 tr:∀ i j k,lt i j=true->lt j k=true->lt i k=true
 co:∀ i j,i<n->j<n->i≠j->lt i j=false->lt j i=true
variable{p:Array Nat}
theorem Gd0.size(h:Gd0 n p):p.size=n:=by have:=h.length_eq;simpa using this
theorem rG{i:Nat}(h:i<p.size):Gt p i=p[i]:=by simp[Gt,Array.getD,h]
theorem Gd0.bd(h:Gd0 n p){i:Nat}(hi:i<n):Gt p i<n:=by
 have hs:=h.size;rw[rG (by omega)];exact List.mem_range.mp (h.mem_iff.mp (by simp))
theorem Gd0.ne(h:Gd0 n p){i j:Nat}(hi:i<n)(hj:j<n)(hij:i≠j):Gt p i≠Gt p j:=by
 have hs:=h.size;rw[rG (by omega),rG (by omega)]
 have nd:p.toList.Nodup:=h.nodup_iff.mpr List.nodup_range
 intro e;exact hij ((List.getElem_inj (h₀:=by simp;omega) (h₁:=by simp;omega) nd).mp (by simpa using e))
theorem uf{q:Array Nat}{i j:Nat}(h:p[i]?=q[j]?):Gt p i=Gt q j:=by simp only[Gt,Array.getD_eq_getD_getElem?,h]
theorem sP(o:rL n lt)(g:Gd0 n p):∀(f m:Nat),1<=m->m+f<=n->Srt lt p m->Pt n lt (kas_asc p f m) fun r=>m<=r /\ r<=m+f /\ Srt lt p r /\ (r=m+f \/ (r<n /\ lt (Gt p r) (Gt p (r - 1))=true))
 |0,m,_,_,hs=>⟨Nat.le_refl _,Nat.le_refl _,hs,.inl rfl⟩
 | f+1,m,h1,h2,hs=>by
   refine⟨g.bd (by omega),g.bd (by omega),?_⟩
   dsimp only
   cases e:lt (p.getD m 0) (p.getD (m - 1) 0)with
   |true=>rw[if_pos rfl];exact⟨Nat.le_refl _,by omega,hs,.inr ⟨by omega,e⟩⟩
   | false=>
     rw[if_neg (by simp)];have up:=o.co _ _ (g.bd (by omega)) (g.bd (by omega)) (g.ne (i:=m) (j:=m - 1) (by omega) (by omega) (by omega)) e;refine Pt.mono (fun r ⟨a,b,c,d⟩=>⟨by omega,by omega,c,d.imp (fun z=>by omega) id⟩) _ (sP o g f (m+1) (by omega) (by omega) fun i j hij hj=>?_)
     by_cases hjm:j<m
     . exact hs i j hij hjm
     . have:j=m:=by omega
       subst this
       by_cases him:i=j - 1
       . subst him;exact up
       . exact o.tr _ _ _ (hs i (j - 1) (by omega) (by omega)) up
theorem t9(o:rL n lt)(g:Gd0 n p):∀(f m:Nat),1<=m->m+f<=n->Dsc lt p m->Pt n lt (kas_desc f p m 0) fun r=>r.1=p /\ r.2.2=0 /\ m<=r.2.1 /\ r.2.1<=m+f /\ Dsc lt p r.2.1
 |0,m,_,_,hs=>⟨rfl,rfl,Nat.le_refl _,Nat.le_refl _,hs⟩
 | f+1,m,h1,h2,hs=>by
   refine⟨g.bd (by omega),g.bd (by omega),?_⟩
   dsimp only
   cases e:lt (p.getD m 0) (p.getD (m - 1) 0)with
   | true=>
     rw[if_pos rfl,if_neg (by omega)];refine Pt.mono (fun r ⟨a,b,c,d,x⟩=>⟨a,b,by omega,by omega,x⟩) _ (t9 o g f (m+1) (by omega) (by omega) fun i j hij hj=>?_)
     by_cases hjm:j<m
     . exact hs i j hij hjm
     . have:j=m:=by omega
       subst this
       by_cases him:i=j - 1
       . subst him;exact e
       . exact o.tr _ _ _ e (hs i (j - 1) (by omega) (by omega))
   | false=>
     rw[if_neg (by simp)];have up:=o.co _ _ (g.bd (by omega)) (g.bd (by omega)) (g.ne (i:=m) (j:=m - 1) (by omega) (by omega) (by omega)) e
     refine⟨g.bd (by omega),g.bd (by omega),?_⟩
     dsimp only;rw[up,if_pos rfl]
     exact⟨rfl,rfl,Nat.le_refl _,by show m<=m+(f+1);omega,hs⟩
theorem qY(g:Gd0 n p)(m:Nat):Gd0 n (kas_rev p 0 m):=(Array.perm_iff_toList_perm.mp (mirror_perm _ _ _ _)).trans g
theorem zf(g:Gd0 n p){m:Nat}(hm:m<=n)(d:Dsc lt p m):Srt lt (kas_rev p 0 m) m:=by
 intro i j hij hj;have hs:=g.size
 have at':∀ k,k<m->Gt (kas_rev p 0 m) k=Gt p (m - 1 - k):=fun k hk=>uf (by
  unfold kas_rev
  rw[getElem?_mirror_all (by omega),if_pos ⟨Nat.zero_le _,hk⟩,Nat.zero_add])
 rw[at' i (by omega),at' j hj];exact d _ _ (by omega) (by omega)
noncomputable def Cnt(n:Nat)(lt:Nat->Nat->Bool)(r:Nat×Array Nat):Prop:=1<=r.1 /\ r.1<=n /\ Gd0 n r.2 /\ Srt lt r.2 r.1
theorem yI(o:rL n lt)(g:Gd0 n p){m:Nat}(h1:1<=m)(hm:m<=n)(d:Dsc lt p m):Pt n lt (kas_tail3 m n p) (Cnt n lt):=
 Pt.bind _ (Pt.mono (fun r ⟨a,b,c,_⟩=>⟨by show 1<=r;omega,by show r<=n;omega,qY g m,c⟩) _ (sP o (qY g m) (n - m) m h1 (by omega) (zf g hm d)))
theorem xH(o:rL n lt)(g:Gd0 n p)(hn:1<=n):Pt n lt (kas_count n p) (Cnt n lt):=by
 refine Pt.bind _ (Pt.mono (fun r ⟨a,b,c,d⟩=>?_) _ (sP o g (n - 1) 1 (Nat.le_refl _) (by omega) fun i j h1 h2=>by omega))
 by_cases e:r=n
 . rw[if_pos (by simpa using e)];exact⟨a,by show r<=n;omega,g,c⟩
 . rw[if_neg (by simpa using e)];have dn:=d.resolve_left (by omega)
   by_cases h1:r>1
   . rw[if_pos h1]
     refine⟨g.bd (by omega),g.bd (by omega),?_⟩
     dsimp only;rw[c 0 (r - 1) (by omega) (by omega),if_pos rfl]
     exact⟨a,by show r<=n;omega,g,c⟩
   . rw[if_neg h1]
     have:r=1:=by omega
     subst this
     have d2:Dsc lt p (1+1):=fun i j hij hj=>by
      have z1:i=0:=by omega
      have z2:j=1:=by omega
      subst z1 z2;exact dn.2
     refine Pt.bind _ (Pt.mono (fun q ⟨q1,q2,q3,q4,q5⟩=>?_) _ (t9 o g (n - (1+1)) (1+1) (by omega) (by omega) d2));rw[if_neg (by omega),q1];exact yI o g (by omega) (by omega) q5
theorem mB(o:rL n lt)(g:Gd0 n p){k:Nat}(hk:k<n)(hs:Srt lt p k):∀(f l r:Nat),l<=r->r<=k->r - l<=f->(∀ i,i<l->lt (Gt p i) (Gt p k)=true)->(∀ i,r<=i->i<k->lt (Gt p k) (Gt p i)=true) ->
  Pt n lt (kas_place p k f l r) fun x=>x<=k /\ (∀ i,i<x->lt (Gt p i) (Gt p k)=true) /\ ∀ i,x<=i->i<k->lt (Gt p k) (Gt p i)=true
 |0,l,r,h1,h2,h3,lo,hi=>⟨by omega,lo,fun i a b=>hi i (by omega) b⟩
 | f+1,l,r,h1,h2,h3,lo,hi=>by
   unfold kas_place
   by_cases e:l≥r
   . rw[if_pos e];exact⟨by omega,lo,fun i a b=>hi i (by omega) b⟩
   . rw[if_neg e]
     refine⟨g.bd hk,g.bd (by omega),?_⟩
     dsimp only
     cases c:lt (p.getD k 0) (p.getD ((l+r)/2) 0)with
     | true=>
       rw[if_pos rfl]
       refine mB o g hk hs f l _ (by omega) (by omega) (by omega) lo fun i a b=>?_
       by_cases z:i=(l+r)/2
       . subst z;exact c
       . exact o.tr _ _ _ c (hs _ _ (by omega) b)
     | false=>
       rw[if_neg (by simp)];have up:=o.co _ _ (g.bd hk) (g.bd (by omega)) (g.ne (i:=k) (j:=(l+r)/2) hk (by omega) (by omega)) c;refine mB o g hk hs f _ r (by omega) (by omega) (by omega) (fun i a=>?_) hi
       by_cases z:i=(l+r)/2
       . subst z;exact up
       . exact o.tr _ _ _ (hs _ _ (show i<(l+r)/2 by omega) (by omega)) up
theorem xx(o:rL n lt):∀(f:Nat) (p:Array Nat) (k:Nat),Gd0 n p->Srt lt p k->k+f=n->Pt n lt (kas_bin f p k) fun q=>Gd0 n q /\ Srt lt q n
 | 0,p,k,g,hs,e=>by
   have:k=n:=by omega
   subst this
   exact⟨g,hs⟩
 | f+1,p,k,g,hs,e=>by
   refine Pt.bind _ (Pt.mono (fun l ⟨h1,lo,hi⟩=>?_) _ (mB o g (by omega) hs k 0 k (by omega) (Nat.le_refl _) (by omega) (fun i z=>by omega) fun i a b=>by omega));have hz:=g.size;refine xx o f _ (k+1) ((Array.perm_iff_toList_perm.mp (bubble_perm _ _ _)).trans g) (fun i j hij hj=>?_) (by omega)
   have b:∀ x,Gt (bubble p k (k - l)) x=if x=l then Gt p k else if l<x /\ x<=k then Gt p (x - 1)else Gt p x:=fun x=>by
    have e:=getElem?_bubble (xs:=p) (src:=k) (by omega) (k - l) (by omega) x;rw[show k - (k - l)=l by omega]at e;split
    . rename_i z;rw[if_pos z]at e;exact uf e
    . rename_i z;rw[if_neg z]at e;split
      . rename_i z;rw[if_pos z]at e;exact uf e
      . rename_i z;rw[if_neg z]at e;exact uf e
   rw[b i,b j]
   by_cases c1:i=l
   . rw[if_pos c1,if_neg (by omega),if_pos (by omega)];exact hi _ (by omega) (by omega)
   . rw[if_neg c1]
     by_cases c2:j=l
     . rw[if_pos c2,if_neg (by omega)];exact lo i (by omega)
     . rw[if_neg c2]
       by_cases c3:l<i
       . rw[if_pos ⟨c3,by omega⟩,if_pos ⟨by omega,by omega⟩];exact hs _ _ (by omega) (by omega)
       . rw[if_neg (fun z=>c3 z.1)]
         by_cases c4:l<j
         . rw[if_pos ⟨c4,by omega⟩];exact hs _ _ (by omega) (by omega)
         . rw[if_neg (fun z=>c4 z.1)];exact hs _ _ hij (by omega)
theorem y7(o:rL n lt)(hn:1<=n):Pt n lt (kas_sort n) fun q=>Gd0 n q /\ Srt lt q n:=by
 refine Pt.bind _ (Pt.mono (fun r ⟨a,b,c,d⟩=>?_) _ (xH o (p:=List.toArray (List.range n)) (List.Perm.refl _) hn))
 by_cases e:r.1<n
 . rw[if_pos e,show max r.1 1=r.1 by omega];exact xx o _ _ _ c d (by omega)
 . rw[if_neg e]
   have:r.1=n:=by omega
   rw[this]at d
   exact⟨c,d⟩
open L2.P (cM mx kM mF)
theorem w9{ks:List (List Int)}(nd:ks.Nodup):rL ks.length fun i j=>cM (ks.getD i []) (ks.getD j []) where
 tr:=fun i j k=>kM
 co:=fun i j hi hj hij h=>mF (fun z=>hij ((List.getElem_inj (h₀:=hi) (h₁:=hj) nd).mp (by simpa [List.getD_eq_getElem?_getD,hi,hj]using z))) h
section
variable{M:Model}{A:Around}{E:Value->Shared->Prop}{s:Shared}
theorem mapM_some{α β:Type}{f:α->Sem β}{R:β->Prop}:∀(l:List α) {Q:List β->Shared->Prop},(∀ v∈l,∀ Q':β->Shared->Prop,(∀ r,R r->Q' r s)->wpAny M A (f v) Q' E s)->(∀ rs,(∀ r∈rs,R r)->Q rs s)->wpAny M A (l.mapM f) Q E s
 |[],Q,_,h=>by rw[List.mapM_nil];exact wpAny_pure (h [] fun _ z=>by cases z)
 | v ::l,Q,hf,h=>by
   rw[List.mapM_cons];refine wpAny_bind (hf v List.mem_cons_self _ fun r hr=>wpAny_bind (mapM_some l (fun u hu=>hf u (List.mem_cons_of_mem _ hu)) fun rs hrs=>wpAny_pure (h _ fun x hx=>?_)))
   rcases List.mem_cons.mp hx with z|z
   . subst z;exact hr
   . exact hrs x z
theorem q9{vs:List Value}{Q:Option Value->Shared->Prop}(h:∀ v∈vs,∃ T,s.TypeIs v T)(hq:∀ r,Q r s):wpAny M A (oneTypeOnly' vs.toArray) Q E s:=by
 rw[oneTypeOnly'_eq,List.mapM_toArray,map_eq_pure_bind];refine wpAny_bind (wpAny_bind (mapM_some (R:=fun _=>True) vs (fun v hv Q' hq'=>?_) fun rs _=>wpAny_pure ?_))
 . obtain⟨T,hT⟩:=h v hv;exact wpAny_typeOf hT (hq' _ trivial)
 . cases rs.toArray[0]? with
   |none=>exact wpAny_pure (hq _)
   |some t=>exact wpAny_pure (hq _)
noncomputable def C3(κ:SortKind):Prop:=κ=oneType' \/ κ=general' \/ ∃ c,κ=tuples' c
theorem ve{vs:List Value}{Q:SortKind->Shared->Prop}(h:∀ v∈vs,∃ a ns,v=.ref a /\ eT s.heap ns a)(hq:∀ κ,C3 κ->Q κ s):wpAny M A (keyKind' vs.toArray) Q E s:=by
 rw[kat_kind_eq,List.mapM_toArray,map_eq_pure_bind];refine wpAny_bind (wpAny_bind (mapM_some (R:=fun r=>∀ x,r=some x->∃ m t,x=Value.int m t) vs (fun v hv Q' hq'=>?_) fun rs hrs=>wpAny_pure ?_))
 . obtain⟨a,ns,rfl,ti⟩:=h v hv;rw[kas_first_eq];refine wpAny_bind (wpAny_typeOf ti.typeIs ?_);obtain⟨o,its,k,h1,h2,h3,h4⟩:=ti;rw[if_neg (by decide)];refine wpAny_bind (listItems_at h1 h3 (wpAny_pure (hq' _ fun x hx=>?_)));rw[<- Array.getElem?_toList]at hx;obtain⟨t,e⟩:=IntsAre.int_at h4 0 x hx
   exact⟨_,t,e⟩
 . by_cases e:(rs.toArray.all fun x=>x.isSome)=true
   . rw[if_pos e];refine wpAny_bind (wpAny_rule ?_)
     have e2:rs.toArray.filterMap id=(rs.filterMap id).toArray:=by simp
     rw[e2];refine wpAny_bind (q9 (fun v hv=>?_) fun r=>wpAny_pure (hq _ (.inr (.inr ⟨_,rfl⟩))));obtain⟨x,hx,hx'⟩:=List.mem_filterMap.mp hv;obtain⟨m,t,rfl⟩:=hrs x hx v hx'
     exact⟨"int",typeIs_int s m t⟩
   . rw[if_neg e]
     by_cases e2:(rs.toArray[0]?.bind id).isSome=true
     . rw[if_pos e2];exact wpAny_pure (hq _ (.inr (.inl rfl)))
     . rw[if_neg e2];refine wpAny_bind (q9 (fun v hv=>?_) fun r=>wpAny_pure (hq _ ?_))
       . obtain⟨a,ns,rfl,ti⟩:=h v hv
         exact⟨"tuple",ti.typeIs⟩
       . cases r with
         |none=>exact .inr (.inl rfl)
         |some _=>exact .inl rfl
end
noncomputable def mf(h:Heap)(vs:List Value)(ks:List (List Int)):Prop:=vs.length=ks.length /\ ∀(j:Nat) v k,vs[j]?=some v->ks[j]?=some k->∃ a,v=.ref a /\ eT h k a
theorem mf.mem{h:Heap}{vs:List Value}{ks:List (List Int)}(t:mf h vs ks):∀ v∈vs,∃ a ns,v=.ref a /\ eT h ns a:=fun v hv=>by
 obtain⟨j,hj⟩:=List.mem_iff_getElem?.mp hv
 have hl:j<ks.length:=by rw[<- t.1];exact(List.getElem?_eq_some_iff.mp hj).1
 obtain⟨a,e,ti⟩:=t.2 j v _ hj (List.getElem?_eq_getElem hl)
 exact⟨a,_,e,ti⟩
theorem mf.keep{h h':Heap}{vs:List Value}{ks:List (List Int)}(t:mf h vs ks)(k:∀ b o,o.cls=.type "tuple" -> h.get? b=some o->h'.get? b=some o):mf h' vs ks:=⟨t.1,fun j v x e1 e2=>by
 obtain⟨a,e,o,its,n,h1,h2,h3⟩:=t.2 j v x e1 e2
 exact⟨a,e,o,its,n,k _ _ h2 h1,h2,h3⟩⟩
theorem mf.at{h:Heap}{vs:List Value}{ks:List (List Int)}(t:mf h vs ks){i:Nat}(hi:i<vs.length):∃ a,vs.getD i Value.none=.ref a /\ eT h (ks.getD i []) a:=by
 have hk:i<ks.length:=by rw[<- t.1];exact hi
 have e1:vs.getD i Value.none=vs[i]:=by simp[List.getD_eq_getElem?_getD,hi]
 have e2:ks.getD i []=ks[i]:=by simp[List.getD_eq_getElem?_getD,hk]
 rw[e1,e2];exact t.2 i _ _ (List.getElem?_eq_getElem hi) (List.getElem?_eq_getElem hk)
noncomputable def ny(vs out:List Value)(ks:List (List Int)):Prop:=∃ q:List Nat,q.Perm (List.range vs.length) /\ out=q.map (fun i=>vs.getD i Value.none) /\ (q.map fun i=>ks.getD i []).Pairwise fun x y=>cM x y=true
section
variable{prog:Program}{w:World}{A:Around}{E:Value->Shared->Prop}{s:Shared}
theorem AJ{vs:List Value}{ks:List (List Int)}{q:Array Nat}(g:Gd0 vs.length q)(r:Srt (fun i j=>cM (ks.getD i []) (ks.getD j [])) q vs.length):ny vs (q.toList.map fun i=>vs.getD i Value.none) ks:=by
 refine⟨q.toList,g,rfl,?_⟩
 have hz:=g.size;rw[List.pairwise_map,List.pairwise_iff_getElem];intro i j hi hj hij
 have hi':i<q.size:=by simpa using hi
 have hj':j<q.size:=by simpa using hj
 have:=r i j hij (by omega);rw[rG hi',rG hj']at this
 simpa using this
theorem u3{a:Addr}{vs:List Value}{ks:List (List Int)}{n:Nat}{P:PySem.Fin->Shared->Prop}(hu:A.units<cLine)(ho:s.heap.get? a=some (seqObj "list" vs.toArray n))(t:mf s.heap vs ks)(nd:ks.Nodup)(h64:vs.length<64)
  (h:∀ h' out e,ny vs out ks->h'.get? a=some (seqObj "list" out.toArray e)->(∀ b o,b≠a->s.heap.get? b=some o->h'.get? b=some o)->P (.done (.ret .none)) { s with heap:=h' }):
  wpAny (model prog w) A (Builtin.«list.sort» ⟨[.ref a],[]⟩) P E s:=by
 have la:a<s.heap.objs.size:=Heap.lt_size ho
 have small:∀ k:Nat,k<64->k<=sizeLine:=fun k hk=>by rw[sizeLine_eq];omega
 obtain⟨e1,o1⟩:∃ e1,(s.heap.update a (Obj.mapSeq fun _=>#[])).get? a=some (seqObj "list" #[] e1):=⟨_,get?_update_seq ho fun _=>#[]⟩
 generalize hh1:s.heap.update a (Obj.mapSeq fun _=>#[])=h1 at o1
 have sb:Heap.SameBut a s.heap h1:=by rw[<- hh1];exact Heap.SameBut.update s.heap a _
 have k1:∀ b o,b≠a->s.heap.get? b=some o->((h1.push (seqObj "tuple" vs.toArray 0)).push (seqObj "list" #[] 0)).get? b=some o:=fun b o hb e=>Heap.get?_push_of_some _ (Heap.get?_push_of_some _ ((sb.2 b hb).trans e))
 have o2:((h1.push (seqObj "tuple" vs.toArray 0)).push (seqObj "list" #[] 0)).get? a=some (seqObj "list" #[] e1):=Heap.get?_push_of_some _ (Heap.get?_push_of_some _ o1)
 have t2:mf ((h1.push (seqObj "tuple" vs.toArray 0)).push (seqObj "list" #[] 0)) vs ks:=t.keep fun b o hc e=>k1 b o (by
  rintro rfl
  rw[ho]at e;cases e
  simp[seqObj]at hc) e
 rw[list_sort_plain];refine wpAny_bind (listItems_at ho rfl (wpAny_bind (listUpdate_at ho rfl ?_ (by rw[List.size_toArray];exact small _ h64) (Nat.zero_le _))));rw[hh1];refine wpAny_bind (seqEpoch_at o1 rfl (wpAny_bind (wpAny_newTuple (wpAny_bind (wpAny_newList (wpAny_holding ?_) (Nat.zero_le _))) (by show vs.length<=_;exact small _ h64))));generalize hg:(h1.push (seqObj "tuple" vs.toArray 0)).push (seqObj "list" #[] 0)=h2 at k1 o2 t2
 have fin:∀ out:List Value,ny vs out ks->∃ e3,(h2.update a (Obj.mapSeq fun _=>out.toArray)).get? a=some (seqObj "list" out.toArray e3) /\ P (.done (.ret .none)) { s with heap:=h2.update a (Obj.mapSeq fun _=>out.toArray) }:=fun out io=>by
  refine⟨_,get?_update_seq o2 _,h _ out _ io (get?_update_seq o2 _) fun b o hb e=>?_⟩
  exact((Heap.SameBut.update h2 a _).2 b hb).trans (k1 b o hb e)
 show wpAny (model prog w) A _ P E { s with heap:=h2 };dsimp only
 by_cases l2:vs.toArray.size<2
 . rw[if_pos l2,if_pos l2];refine wpAny_bind (wpAny_pure ?_);rw[StateT.run_pure];refine wpAny_bind (wpAny_pure ?_);dsimp only;refine wpAny_bind (seqEpoch_at o2 rfl ?_)
   have l2':vs.length<2:=by simpa using l2
   have ev:Array.map (fun x=>x.snd) (arrOf (SortSt.mk' general' (vs.toArray.zip vs.toArray) #[] 7 none))=vs.toArray:=by
    apply Array.toList_inj.mp
    show(Array.map (fun x=>x.snd) (vs.toArray.zip vs.toArray)).toList=vs
    simp[List.map_snd_zip]
   have io:ny vs vs ks:=by
    refine⟨List.range vs.length,List.Perm.refl _,?_,?_⟩
    . match vs,l2' with
      |[],_=>rfl
      |[_],_=>rfl
    . match vs,l2' with
      |[],_=>exact .nil
      |[_],_=>exact List.pairwise_singleton _ _
   obtain⟨e3,_,q⟩:=fin vs io;rw[ev];refine wpAny_bind (listUpdate_at o2 rfl ?_ (Nat.zero_le _) (by rw[List.size_toArray];exact Nat.le_succ_of_le (small _ h64)));simp only[bne_self_eq_false,Bool.false_eq_true,if_false];exact wpAny_pure q
 . rw[if_neg l2,if_neg l2]
   have l2':2<=vs.length:=by simp at l2;omega
   refine wpAny_bind (ve t2.mem fun κ hκ=>?_)
   have tree:(kas_sort vs.length).kasWp (kas_ask prog w A κ vs) (fun q s'=>s'={ s with heap:=h2 } /\ ny vs (q.toList.map fun i=>vs.getD i Value.none) ks) { s with heap:=h2 }:=by
    have so:=y7 (n:=vs.length) (by rw[t.1];exact w9 nd) (by omega);refine Pt.wp (fun i j C hi hj hC=>?_) (fun q hq=>⟨rfl,AJ hq.1 hq.2⟩) _ so;obtain⟨x,ex,tx⟩:=t2.at hi;obtain⟨y,ey,ty⟩:=t2.at hj;unfold kas_ask;rw[ex,ey];exact Co hκ hu tx ty hC
   refine wpAny_bind (wpAny_mono (kat_run (Q:=fun st' s'=>∃ q:Array Nat,s'={ s with heap:=h2 } /\ q.size=vs.length /\ ny vs (q.toList.map fun i=>vs.getD i Value.none) ks /\ arrOf st'=q.map (kas_item (vs.toArray.zip vs.toArray)) /\ failedOf st'=none) rfl l2' h64 (fun q st' s' z1 z2 z3 z4=>⟨q,z4.1,z1,z4.2,z2,z3⟩) tree) ?_ fun _ _ e=>e)
   rintro⟨⟨⟩,st'⟩ s' ⟨q,rfl,hq,io,har,hf⟩
   dsimp only;obtain⟨e3,_,z⟩:=fin _ io;refine wpAny_bind (seqEpoch_at o2 rfl ?_);rw[kat_snds rfl har,hf];refine wpAny_bind (listUpdate_at o2 rfl ?_ (Nat.zero_le _) (by rw[List.size_toArray,List.length_map,Array.length_toList,hq];exact Nat.le_succ_of_le (small _ h64)));simp only[bne_self_eq_false,Bool.false_eq_true,if_false];exact wpAny_pure z
theorem qS{l:Addr}{vs:List Value}{ks:List (List Int)}{Q:Value->Shared->Prop}(hu:A.units+2<cLine)(hl:s.heap.IsList l vs.toArray)(t:mf s.heap vs ks)(nd:ks.Nodup)(h64:vs.length<64)
  (h:∀ D h' out e,ny vs out ks->s.heap.objs.size<=D->h'.get? D=some (seqObj "list" out.toArray e)->(∀ b o,s.heap.get? b=some o->h'.get? b=some o)->Q (.ref D) { s with heap:=h' }):
  wpAny (model prog w) A (call (.builtin "sorted") [.ref l]) Q E s:=by
 have small:vs.toArray.size<=sizeLine:=by rw[List.size_toArray,sizeLine_eq];omega
 refine Calls.call_function_entry kind_sorted plain_sorted entry_sorted (args_sorted1 _) ?_;unfold Builtin.«sorted»;refine wpAny_bind (m:=checkCount "sorted" 1 1 _) (wpAny_pure (wpAny_bind (collect_list hl (wpAny_bind (wpAny_newList ?_ small)) small)));generalize hg:(s.heap.push (seqObj "list" #[] 0)).update s.heap.objs.size (Obj.mapSeq (·++vs.toArray))=g1
 have z1:g1.objs.size=s.heap.objs.size+1:=by rw[<- hg,Heap.size_update,size_push']
 have k1:∀ b o,s.heap.get? b=some o->g1.get? b=some o:=fun b o e=>by
  have lb:b<s.heap.objs.size:=Heap.lt_size e
  rw[<- hg,Heap.get?_update_ne _ _ _ _ (Nat.ne_of_lt lb)];exact Heap.get?_push_of_some _ e
 show wpAny _ _ _ _ _ { s with heap:=g1.push (seqObj "list" vs.toArray 0) }
 have oL:(g1.push (seqObj "list" vs.toArray 0)).get? g1.objs.size=some (seqObj "list" vs.toArray 0):=Heap.get?_push_size _ rfl
 refine wpAny_bind (wpAny_holding (wpAny_call_entry slot_list_sort ⟨_,oL,rfl⟩ entry_list_sort (u3 (s:={ s with heap:=g1.push (seqObj "list" vs.toArray 0) }) (show A.units+2<cLine from hu) oL (t.keep fun b o _ e=>Heap.get?_push_of_some _ (k1 b o e)) nd h64 fun h' out e io o' k'=>⟨_,rfl,?_⟩) (args_list_sort _)));exact wpAny_pure ⟨_,rfl,h g1.objs.size h' out e io (by rw[z1];exact Nat.le_succ _) o' fun b o eb=>k' b o (Nat.ne_of_lt (by rw[z1];exact Nat.lt_succ_of_lt (Heap.lt_size eb))) (Heap.get?_push_of_some _ (k1 b o eb))⟩
end
end HT
namespace L2
open PySem PySem.Spec PyProof.Rows
open L2.P (cM)
section
variable{X:Cx}{pins:List (Addr×Obj)}{σ:St}{H:Hp}{s:Shared}
theorem oJ:∀{ns:List Int} {us:List Value},Vals (ns.map V.int) us->IntsAre us ns
 |[],us,h=>by cases h;exact .nil
 | n ::ns,us,h=>by
   cases h with
   | cons r t=>
     obtain⟨k,rfl⟩:=r;exact .cons n k (oJ t)
theorem Inv.tupI{a:Addr}{ns:List Int}(I:Inv X pins σ H s)(h:SqT X.K H a (ns.map V.int)):HT.eT s.heap ns a:=by
 obtain⟨its,r,⟨o,e,c,n,f⟩,_⟩:=I.tuple h
 exact⟨o,its.toArray,n,e,c,f,by simpa using oJ r⟩
noncomputable def Ae(K:PySem.W.Frag)(H:Hp)(vs:List V)(ks:List (List Int)):Prop:=vs.length=ks.length /\ ∀(j:Nat) v k,vs[j]?=some v->ks[j]?=some k->∃ b,v=.ref b /\ SqT K H b (k.map V.int)
noncomputable def BV(vs us:List V)(ks:List (List Int)):Prop:=∃ q:List Nat,q.Perm (List.range vs.length) /\ us=q.map (fun i=>vs.getD i .non) /\ (q.map fun i=>ks.getD i []).Pairwise fun x y=>cM x y=true
noncomputable def xM(K:PySem.W.Frag)(A:Around):List V->Hp->VK->Prop:=fun xs H Q=>∃ a vs ks,xs=[.ref a] /\ SqL K H a vs /\ Ae K H vs ks /\ ks.Nodup /\ ks.length<64 /\ A.units+2<cLine /\ ∀ l us,H l=none->BV vs us ks->Q (.ref l) (upd H l (.lst us))
theorem oz{vs:List V}{its:List Value}(r:Vals vs its):∀ q:List Nat,(∀ i∈q,i<vs.length)->Vals (q.map fun i=>vs.getD i .non) (q.map fun i=>its.getD i Value.none)
 |[],_=>.nil
 | i ::q,h=>by
   have hi:=h i List.mem_cons_self
   have e1:vs[i]?=some vs[i]:=List.getElem?_eq_getElem hi
   obtain⟨u,e2,ru⟩:=r.get e1;rw[List.map_cons,List.map_cons];refine .cons ?_ (oz r q fun j hj=>h j (List.mem_cons_of_mem _ hj));rw[List.getD_eq_getElem?_getD,List.getD_eq_getElem?_getD,e1,e2];exact ru
theorem nW:iG X (.builtin "sorted") (xM X.K X.A):=by
 intro pins s σ H xs us Q I r h;obtain⟨a,vs,ks,rfl,ha,hk,nd,h64,hu,q⟩:=h;obtain⟨u,rfl,rx⟩:=vals1 r;cases rx;obtain⟨its,rv,pl,hz⟩:=I.list ha;have hl:=rv.length
 refine HT.qS (ks:=ks) hu pl.isList ⟨by rw[<- hl];exact hk.1,fun j v k e1 e2=>?_⟩ nd (by rw[<- hl,hk.1];exact h64) fun D h' out e io hD hat kp=>?_
 . have hj:j<vs.length:=by rw[hl];exact(List.getElem?_eq_some_iff.mp e1).1
   obtain⟨w,e3,rw'⟩:=rv.get (List.getElem?_eq_getElem hj);rw[e1]at e3;cases e3;obtain⟨b,eb,sq⟩:=hk.2 j _ k (List.getElem?_eq_getElem hj) e2;rw[eb]at rw'
   cases rw'
   exact⟨b,rfl,I.tupI sq⟩
 . obtain⟨p,hp,ho,hs⟩:=io;rw[<- hl]at hp
   have hv:=oz rv p fun i hi=>List.mem_range.mp (hp.mem_iff.mp hi)
   rw[<- ho]at hv
   have hln:(p.map fun i=>vs.getD i .non).length<=sizeLine:=by rw[List.length_map,hp.length_eq,List.length_range];exact hz
   exact⟨.ref D,_,I.laid (t':=s.toks) kp hD (show eB X.prog X.w _ h' _ (.lst _) from⟨hln,out,e,hv,hat⟩),rfl,q D _ (I.hok.fresh hD) ⟨p,hp,rfl,hs⟩⟩
end
end L2
namespace L2.P
open PySem PySem.Spec PyProof.Rows L2 L2.E
section
variable{K:PySem.W.Frag}{S H:Hp}
theorem kZ:∀{xs:List PV} {ks:List (List Int)},iL xs=some ks->xs.length=ks.length
 |[],ks,e=>by cases e;rfl
 | x ::xs,ks,e=>by
   unfold iL at e;obtain⟨k,e1,e2⟩:=Option.bind_eq_some_iff.mp e;obtain⟨r,e3,e4⟩:=Option.map_eq_some_iff.mp e2;subst e4;rw[List.length_cons,List.length_cons,kZ e3]
theorem mJ:∀{xs:List PV} {ks:List (List Int)} {j:Nat} {k:List Int},iL xs=some ks->ks[j]?=some k->∃ x,xs[j]?=some x /\ oe x=some k
 |[],ks,j,k,e,h=>by cases e;simp at h
 | x ::xs,ks,j,k,e,h=>by
   unfold iL at e;obtain⟨k0,e1,e2⟩:=Option.bind_eq_some_iff.mp e;obtain⟨r,e3,e4⟩:=Option.map_eq_some_iff.mp e2;subst e4
   cases j with
   |zero=>simp at h;subst h;exact⟨x,rfl,e1⟩
   |succ j=>simpa using mJ e3 (by simpa using h)
theorem xQ(k:List Int):(k.map (Sum.inl:Int->Key)).map kV=k.map V.int:=by rw[List.map_map];rfl
theorem o6{vs:List V}{ks:List (List Int)}(hk:∀(j:Nat) v k,vs[j]?=some v->ks[j]?=some k->Rep K S (tupI k) v)(hl:vs.length=ks.length):∀ q:List Nat,(∀ i∈q,i<vs.length)->aV K S ((q.map fun i=>ks.getD i []).map tupI) (q.map fun i=>vs.getD i .non)
 |[],_=>.nil
 | i ::q,h=>by
   have hi:=h i List.mem_cons_self;rw[List.map_cons,List.map_cons,List.map_cons];refine .cons ?_ (o6 hk hl q fun j hj=>h j (List.mem_cons_of_mem _ hj))
   have e1:vs[i]?=some vs[i]:=List.getElem?_eq_getElem hi
   have e2:ks[i]?=some (ks[i]'(by omega)):=List.getElem?_eq_getElem (by omega)
   rw[List.getD_eq_getElem?_getD,List.getD_eq_getElem?_getD,e1,e2];exact hk i _ _ e1 e2
theorem u6{ks:List (List Int)}{q:List Nat}(h:q.Perm (List.range ks.length)):(q.map fun i=>ks.getD i []).Perm ks:=by
 refine(h.map _).trans (List.Perm.of_eq (List.ext_getElem (by simp) fun i h1 h2=>?_))
 simp[List.getD_eq_getElem?_getD,h2]
theorem rj{A:Around}(hu:A.units+2<cLine):JU K (xM K A) jJ:=by
 intro S H x v rr Q I hx e k
 cases x with
 | lst xs=>
   unfold jJ at e;obtain⟨ks,e1,e2⟩:=Option.bind_eq_some_iff.mp e;split at e2
   . rename_i hc;cases e2;obtain⟨p,vs,rfl,hq,r⟩:=dE hx
     have hl:vs.length=ks.length:=by rw[r.length,kZ e1]
     have hk:∀(j:Nat) v k,vs[j]?=some v->ks[j]?=some k->∃ b,v=.ref b /\ SqT K S b (k.map V.int) /\ Rep K S (tupI k) v:=fun j v k h1 h2=>by
      obtain⟨x,h3,h4⟩:=mJ e1 h2;obtain⟨u,h5,h6⟩:=r.get h3;rw[h1]at h5;cases h5;obtain⟨b,rfl,h7,h8⟩:=nK h4 h6;rw[xQ]at h7
      exact⟨b,rfl,h7,h8⟩
     refine⟨p,vs,ks,rfl,hq,⟨hl,fun j v k h1 h2=>?_⟩,hc.1,hc.2,hu,fun l us hl' io=>k _ S _ (aI.heap I hl') ⟨l,us,rfl,hl',I.free hl',aY,?_⟩⟩
     . obtain⟨b,h3,h4,_⟩:=hk j v k h1 h2
       exact⟨b,h3,ay.tup I h4⟩
     . obtain⟨q,hp,rfl,hs⟩:=io
       have e3:eW ks=q.map fun i=>ks.getD i []:=kO ((bE ks).trans (u6 (by rw[<- hl];exact hp)).symm) (gW hc.1) hs
       rw[e3]
       exact o6 (fun j v k h1 h2=>let ⟨_,_,_,h5⟩:=hk j v k h1 h2;h5) hl q fun i hi=>List.mem_range.mp (hp.mem_iff.mp hi)
   . cases e2
 |_=>cases e
end
end L2.P
namespace L2
open PySem PySem.Spec PyProof.Rows
section
variable{X:Cx}{o i:Expr}{pos:Pos}{td ty:TE}
noncomputable def tL(K:PySem.W.Frag)(td ty:TE):TE:=fun σ H Q=>td σ H fun x H1=>ty σ H1 fun y H2=>∃ d b xs k v,x=.ref d /\ y=.ref b /\ H2 d=some (.dT xs) /\ ua K H2 xs /\ SqT K H2 b (k.map kV) /\ kS xs k=some v /\ Q v H2
theorem vT(hu:X.A.units+1<cLine)(ho:PE X o td)(hi:PE X i ty)(hs:BM i):PE X (.Subscript o i pos) (tL X.K td ty):=by
 intro pins s σ H Q I h;refine zb PySem.F.slot_dict_getitem.lookup hs (thn (ho pins s σ H _ I h) fun u s1 ⟨x,H1,I1,rx,q1⟩=>thn (hi pins s1 σ H1 _ I1 q1) fun iv s2 ⟨y,H2,I2,ry,d,b,xs,k,v,ex,ey,e,kk,hk,hv,q2⟩=>?_);subst ex ey
 obtain rfl:u=Value.ref d:=rx
 obtain rfl:iv=Value.ref b:=ry
 obtain⟨z,y,ys,r3,dd⟩:=I2.dT e kk;have rv:=R3.val r3 k;rw[hv]at rv;obtain⟨w',hw,rw'⟩:=aX.some_of rv;obtain⟨p,hp,rfl⟩:=Option.map_eq_some_iff.mp hw
 exact⟨dd.typeIs,wpAny_getItem_heap (tupleKind_room_in1 hu) (I2.Cw hk) dd hp ⟨v,H2,I2.tok _,rw',q2⟩⟩
end
end L2
namespace L2.E
open PySem PySem.Spec PyProof.Rows L2
theorem wC{X:Cx}{o i:Expr}{pos:Pos}{td ty:TE}(hu:X.A.units+1<cLine)(ho:QE X o td)(hi:QE X i ty)(hs:BM i):QE X (.Subscript o i pos) (tL X.K td ty):=⟨vT hu ho.out hi.out hs⟩
end L2.E
namespace L2.P
open PySem PySem.Spec PyProof.Rows L2 L2.E
section
variable{K:PySem.W.Frag}{cls:String->Option Addr}{W:XW}{Av G S₀ S S' H H':Hp}{ρ:af}{σ:St}{Q:VK}
theorem cZ.CY{d:DT}{xs:List E3}{k:List Int}{y:PV}(r:cZ K S d xs)(e:ij d k=some y):∃ v,kS xs (k.map Sum.inl)=some v /\ Rep K S y v:=by
 induction r with
 |nil=>cases e
 | @cons p q ps qs h t ih=>
   by_cases z:p.1=k
   . have a:ij (p ::ps) k=some p.2:=by simp[ij,List.find?_cons,z]
     have b:kS (q ::qs) (k.map Sum.inl)=some q.2.2:=by simp[kS,List.find?_cons,h.1,z]
     rw[a]at e;cases e
     exact⟨_,b,h.2.2⟩
   . have z':¬ q.1=k.map Sum.inl:=fun y=>z (qj.mp (h.1.symm.trans y))
     have a:ij (p ::ps) k=ij ps k:=by simp[ij,List.find?_cons,z]
     have b:kS (q ::qs) (k.map Sum.inl)=kS qs (k.map Sum.inl):=by simp[kS,List.find?_cons,z']
     rw[a]at e;rw[b];exact ih e
theorem yf{i:Nat}{td ta:TE}{mp:MP}{ma:af->OE}(hp:JP K cls td i mp)(ha:JE K cls W ta ma):JE K cls W (tL K td ta) (pb i mp ma):=by
 intro Av G S₀ ρ σ S H Q I p;unfold pb at p;split at p
 . rename_i d es
   refine hp.sub I es fun w S2 H2 f w2 I2 r=>?_
   have r0:=r;unfold aX at r0;obtain⟨q,us,rfl,hq,_,hd⟩:=r0
   refine ha.go I2 (p.back w2) fun a v S1 H1 I1 w1 r1 p1=>?_
   cases e:oe a.pv with
   |none=>rw[e]at p1;exact p1.elim
   | some ks=>
     rw[e]at p1
     dsimp only at p1
     cases e2:ij d ks with
     |none=>rw[e2]at p1;exact p1.elim
     | some y=>
       rw[e2]at p1;obtain⟨b,rfl,hb,hkr⟩:=Ay e (r1.rd I1.sh);have hd1:=cZ.mono w1.s hd;obtain⟨v,hv,ry⟩:=cZ.CY hd1 e2
       exact⟨q,b,us,ks.map Sum.inl,v,rfl,rfl,w1.g _ _ hq,cZ.Dv I1.sh hd1,ay.tup I1.sh hb,hv,p1 _ S1 H1 (aI.refl I1.sh) ry⟩
 . exact p.elim
end
end L2.P
namespace HT
open PySem PyProof.Rows
noncomputable abbrev ZI(h:Heap)(z TI TO:Addr)(f0 f1:Value):Prop:=h.get? z=some { cls:=.type "zip",dict:=none,data:=.fields #[f0,f1,.bool false,.ref TI,.ref TO],slots:=#[] }
structure ZSt(h:Heap)(z TI TO i1 i2 l1 l2 S:Addr)(k:Nat)(xs ys:Array Value):Prop where
 zp:ZI h z TI TO .none (.bool false) \/ ∃(p:Nat) (f:Bool) (oa:Obj),ZI h z TI TO (.int p 0) (.bool f) /\ h.get? p=some oa /\ p≠z /\ p≠TO /\ p≠i1 /\ p≠i2 /\ p≠S
 ti:IsPair h TI (.ref i1) (.ref i2)
 to:∃ a b,IsPair h TO a b
 a1:h.IsListIter i1 l1 k
 a2:h.IsListIter i2 l2 k
 b1:h.IsList l1 xs
 b2:h.IsList l2 ys
noncomputable def Apart(z TO i1 i2:Addr)(h h':Heap):Prop:=∀ c o,c≠z->c≠TO->c≠i1->c≠i2->h.get? c=some o->h'.get? c=some o
section
variable{prog:Program}{w:World}{A:Around}{E:Value->Shared->Prop}{s:Shared}{z TI TO i1 i2 l1 l2 S:Addr}{k:Nat}{xs ys:Array Value}
theorem qr{p:Nat}{f:Bool}{oa:Obj}{Q:Bool->Shared->Prop}(zp:ZI s.heap z TI TO (.int p 0) (.bool f))(hp:s.heap.get? p=some oa)(hQ:∀ h1,ZI h1 z TI TO (.int p 0) (.bool true)->(∀ c o,c≠z->s.heap.get? c=some o->h1.get? c=some o)->h1.objs.size=s.heap.objs.size->Q false { s with heap:=h1 }):wpAny (model prog w) A (Builtin.SmallTypes.ownedTupleIsFree (.ref z)) Q E s:=by
 unfold Builtin.SmallTypes.ownedTupleIsFree;refine wpAny_bind (wpAny_field zp rfl (x:=.int p 0) rfl ?_);show wpAny _ _ (loadIfAlive (Int.toNat (p:Int)) >>= _) _ _ _;rw[Int.toNat_natCast];refine wpAny_bind (PySem.W.kdx_alive hp ?_);simp only[Option.isNone_some,Bool.false_eq_true,if_false];refine wpAny_bind (wpAny_field zp rfl (x:=.bool f) rfl ?_)
 cases f with
 | true=>
   rw[if_neg (show ¬ ((Value.bool true != Value.bool true)=true) from Bool.false_ne_true)];exact wpAny_pure (hQ _ zp (fun c o _ e=>e) rfl)
 | false=>
   rw[if_pos (show(Value.bool false != Value.bool true)=true from rfl)];exact wpAny_bind (wpAny_setField_rec zp (by simp) fun h1 z1 s1=>wpAny_pure (hQ h1 z1 (fun c o hc e=>s1.extBut _ _ hc e) s1.1))
theorem A7{x y:Value}{Q:Option Value->Shared->Prop}(D:ZipApart z TI TO i1 i2 l1 l2)(hS:S<s.heap.objs.size)(st:ZSt s.heap z TI TO i1 i2 l1 l2 S k xs ys)(hx:xs[k]?=some x)(hy:ys[k]?=some y)
  (hQ:∀ h' (p:Nat),s.heap.objs.size<=p->ZSt h' z TI TO i1 i2 l1 l2 S (k+1) xs ys->IsPair h' p x y->Apart z TO i1 i2 s.heap h'->Q (some (.ref p)) { s with heap:=h' }):wpAny (model prog w) A (pyNext (.ref z)) Q E s:=by
 obtain⟨zp,ti,⟨a,b,to⟩,a1,a2,b1,b2⟩:=st
 have lt1:i1<s.heap.objs.size:=by obtain⟨_,e,_⟩:=a1;exact Heap.lt_size e
 have lt2:i2<s.heap.objs.size:=by obtain⟨_,e,_⟩:=a2;exact Heap.lt_size e
 have lto:TO<s.heap.objs.size:=Heap.lt_size to
 rcases zp with zp|⟨p,f,oa,zp,hp,n1,n2,n3,n4,n5⟩
 . have ltz:z<s.heap.objs.size:=Heap.lt_size zp
   refine wpAny_pyNext_zip_item D zp ti to a1 a2 b1 b2 hx hy fun h' r1 r2 r3 r4 r5 r6 r7=>hQ h' s.heap.objs.size (Nat.le_refl _) ⟨.inr ⟨s.heap.objs.size,false,_,r1,r5,Nat.ne_of_gt ltz,Nat.ne_of_gt lto,Nat.ne_of_gt lt1,Nat.ne_of_gt lt2,Nat.ne_of_gt hS⟩,r7 _ _ D.TIz D.TITO D.TIi1 D.TIi2 ti,⟨_,_,r2⟩,r3,r4,b1.at fun o e=>r7 _ o D.l1z D.l1TO D.l1i1 D.l1i2 e,b2.at fun o e=>r7 _ o D.l2z D.l2TO D.l2i1 D.l2i2 e⟩ r5 r7
 . have hT:s.TypeIs (.ref z) "zip":=⟨_,zp,rfl⟩
   unfold pyNext;refine wpAny_bind (wpAny_attempt (wpAny_callSpecial?_slot (name:=Str.ofString "__next__") hT F.slot_zip_next (wpAny_call_entry F.slot_zip_next hT F.entry_zip_next ?_ (F.args_zip_next_1 _))));show wpAny _ _ (field (.ref z) 2 >>= _) _ _ _;refine wpAny_bind (wpAny_field zp rfl (x:=.bool false) rfl ?_);show wpAny _ _ (field (.ref z) 3 >>= _) _ _ _;refine wpAny_bind (wpAny_field zp rfl (x:=.ref TI) rfl (wpAny_bind (wpAny_seqItems ti rfl ?_)));show wpAny _ _ (Builtin.SmallTypes.ownedTupleIsFree (.ref z) >>= _) _ _ _;refine wpAny_bind (qr zp hp fun h1 z1 k1 e1=>?_);rw[if_neg Bool.false_ne_true];refine wpAny_bind ?_;rw[<- Array.forIn_toList];simp only[List.forIn_cons,List.forIn_nil];refine wpAny_bind (wpAny_bind (wpAny_holding ?_));show wpAny _ _ (Builtin.SmallTypes.nextOf (.ref i1) >>= _) _ _ _;refine wpAny_bind (wpAny_nextOf_list_item (a1.at fun o e=>k1 _ o D.i1z e) (b1.at fun o e=>k1 _ o D.l1z e) hx fun h2 t1 s2=>wpAny_pure (wpAny_pure ?_));refine wpAny_bind (wpAny_bind (wpAny_holding ?_));show wpAny _ _ (Builtin.SmallTypes.nextOf (.ref i2) >>= _) _ _ _
   have k2:∀ c o,c≠z->c≠i1->s.heap.get? c=some o->h2.get? c=some o:=fun c o c1 c2 e=>s2.extBut _ _ c2 (k1 c o c1 e)
   refine wpAny_bind (wpAny_nextOf_list_item (a2.at fun o e=>k2 _ o D.i2z D.i12.symm e) (b2.at fun o e=>k2 _ o D.l2z D.l2i1 e) hy fun h3 t2 s3=>wpAny_pure (wpAny_pure (wpAny_pure ?_)))
   have k3:∀ c o,c≠z->c≠i1->c≠i2->s.heap.get? c=some o->h3.get? c=some o:=fun c o c1 c2 c3 e=>s3.extBut _ _ c3 (k2 c o c1 c2 e)
   have z3:h3.objs.size=s.heap.objs.size:=by rw[s3.1,s2.1,e1]
   refine wpAny_bind (wpAny_newTuple (wpAny_pure ⟨_,rfl,wpAny_pure ?_⟩) (by show 2<=sizeLine;rw[sizeLine_eq];decide))
   refine hQ _ h3.objs.size (Nat.le_of_eq z3.symm) ⟨.inr ⟨p,true,oa,Heap.get?_push_of_some _ (s3.extBut _ _ D.i2z.symm (s2.extBut _ _ D.i1z.symm z1)),Heap.get?_push_of_some _ (k3 _ _ n1 n3 n4 hp),n1,n2,n3,n4,n5⟩,Heap.get?_push_of_some _ (k3 _ _ D.TIz D.TIi1 D.TIi2 ti),⟨a,b,Heap.get?_push_of_some _ (k3 _ _ D.TOz D.TOi1 D.TOi2 to)⟩,?_,?_,?_,?_⟩ (Heap.get?_push_size _ rfl) fun c o c1 c2 c3 c4 e=>Heap.get?_push_of_some _ (k3 c o c1 c3 c4 e)
   . exact t1.at fun o e=>Heap.get?_push_of_some _ (s3.extBut _ _ D.i12 e)
   . exact t2.at fun o e=>Heap.get?_push_of_some _ e
   . exact b1.at fun o e=>Heap.get?_push_of_some _ (k3 _ _ D.l1z D.l1i1 D.l1i2 e)
   . exact b2.at fun o e=>Heap.get?_push_of_some _ (k3 _ _ D.l2z D.l2i1 D.l2i2 e)
theorem BA{Q:Option Value->Shared->Prop}(hh:A.handled=none)(D:ZipApart z TI TO i1 i2 l1 l2)(st:ZSt s.heap z TI TO i1 i2 l1 l2 S k xs ys)(hx:xs[k]?=none)(hQ:∀ h',Apart z TO i1 i2 s.heap h'->Q none { s with heap:=h' }):wpAny (model prog w) A (pyNext (.ref z)) Q E s:=by
 obtain⟨zp,ti,⟨a,b,to⟩,a1,a2,b1,b2⟩:=st
 rcases zp with zp|⟨p,f,oa,zp,hp,n1,n2,n3,n4,n5⟩
 . exact wpAny_pyNext_zip_end hh D zp ti to a1 a2 b1 b2 (.inl hx) hQ
 . have hT:s.TypeIs (.ref z) "zip":=⟨_,zp,rfl⟩
   unfold pyNext;refine wpAny_bind (wpAny_attempt (wpAny_callSpecial?_slot (name:=Str.ofString "__next__") hT F.slot_zip_next (wpAny_call_entry F.slot_zip_next hT F.entry_zip_next ?_ (F.args_zip_next_1 _))));show wpAny _ _ (field (.ref z) 2 >>= _) _ _ _;refine wpAny_bind (wpAny_field zp rfl (x:=.bool false) rfl ?_);show wpAny _ _ (field (.ref z) 3 >>= _) _ _ _;refine wpAny_bind (wpAny_field zp rfl (x:=.ref TI) rfl (wpAny_bind (wpAny_seqItems ti rfl ?_)));show wpAny _ _ (Builtin.SmallTypes.ownedTupleIsFree (.ref z) >>= _) _ _ _;refine wpAny_bind (qr zp hp fun h1 z1 k1 e1=>?_);rw[if_neg Bool.false_ne_true];refine wpAny_bind ?_;rw[<- Array.forIn_toList];simp only[List.forIn_cons,List.forIn_nil];refine wpAny_bind (wpAny_bind (wpAny_holding ?_));show wpAny _ _ (Builtin.SmallTypes.nextOf (.ref i1) >>= _) _ _ _;refine wpAny_bind (wpAny_nextOf_list_end hh (a1.at fun o e=>k1 _ o D.i1z e) (b1.at fun o e=>k1 _ o D.l1z e) hx fun h2 e s2 he=>?_);obtain⟨o,ho,hc⟩:=he;refine wpAny_bind (wpAny_isInstance (T:="StopIteration") (b:=true) ⟨o,ho,hc⟩ isSubtype_stop ?_);exact wpAny_pure (hQ _ fun c o c1 c2 c3 c4 e=>s2 _ _ c3 (k1 c o c1 e))
end
structure AD(lo:Nat)(xs ys:Array Value)(h:Heap)(as:List Addr):Prop where
 rise:as.Pairwise (·<·)
 low:∀ a∈as,lo<=a /\ a<h.objs.size
 holds:∀(j:Nat) a,as[j]?=some a->∃ x y,xs[j]?=some x /\ ys[j]?=some y /\ IsPair h a x y
section
variable{prog:Program}{w:World}{A:Around}{R:Result->Shared->Prop}{z TI TO i1 i2 l1 l2 S:Addr}{xs ys:Array Value}
theorem wm(hh:A.handled=none)(D:ZipApart z TI TO i1 i2 l1 l2)(hl:xs.size=ys.size)(hn:xs.size<=sizeLine)(nS:S≠z /\ S≠TO /\ S≠i1 /\ S≠i2 /\ S≠TI /\ S≠l1 /\ S≠l2)(res:Value){h₀:Heap}{g0:Shared}(lo:Nat)(hlo:S<lo /\ z<lo /\ TO<lo /\ i1<lo /\ i2<lo)
  (hR:∀ h' tk acc c as,(∀ b o,b≠S->b≠z->b≠TO->b≠i1->b≠i2->h₀.get? b=some o->h'.get? b=some o)->h'.get? S=some { cls:=.type "list",dict:=none,data:=.seq acc c,slots:=#[] }->acc.toList=as.map Value.ref->as.length=xs.size->AD lo xs ys h' as->R (.ok (.ret res)) { g0 with heap:=h',toks:=tk }):
  ∀(k i:Nat) (h:Heap) (tk c:Nat) (acc:Array Value) (as:List Addr),xs.size - i=k->i<=xs.size->ZSt h z TI TO i1 i2 l1 l2 S i xs ys->(∀ b o,b≠S->b≠z->b≠TO->b≠i1->b≠i2->h₀.get? b=some o->h.get? b=some o) ->
    h.get? S=some { cls:=.type "list",dict:=none,data:=.seq acc c,slots:=#[] }->acc.toList=as.map Value.ref->as.length=i->lo<=h.objs.size->AD lo xs ys h as ->
    codeAny (model prog w) A (.builtin "list.extend.loop" ⟨[.ref S,.ref z,res],[]⟩) R { g0 with heap:=h,toks:=tk }:=by
 have ne:∀ a:Nat,lo<=a->a≠S /\ a≠z /\ a≠TO /\ a≠i1 /\ a≠i2:=fun a l=>⟨Nat.ne_of_gt (Nat.lt_of_lt_of_le hlo.1 l),Nat.ne_of_gt (Nat.lt_of_lt_of_le hlo.2.1 l),Nat.ne_of_gt (Nat.lt_of_lt_of_le hlo.2.2.1 l),Nat.ne_of_gt (Nat.lt_of_lt_of_le hlo.2.2.2.1 l),Nat.ne_of_gt (Nat.lt_of_lt_of_le hlo.2.2.2.2 l)⟩
 intro k
 induction k with
 | zero=>
   intro i h tk c acc as hk hi st hkp hS hacc hal hlh G;refine codeAny_builtin F.entry_extend_loop ?_;rw[Around.under_plainId F.plain_extend_loop _];show wpAny _ A.in1 (pyNext (.ref z) >>= _) _ _ _;refine wpAny_bind (BA (s:={ g0 with heap:=h,toks:=tk }) (A:=A.in1) hh D st (Array.getElem?_eq_none (by omega)) fun h' k'=>?_)
   have kp:∀ a o,lo<=a->h.get? a=some o->h'.get? a=some o:=fun a o l e=>let ⟨_,n2,n3,n4,n5⟩:=ne a l;k' a o n2 n3 n4 n5 e
   refine wpAny_pure (hR h' tk acc c as (fun b o h1 h2 h3 h4 h5 e=>k' b o h2 h3 h4 h5 (hkp b o h1 h2 h3 h4 h5 e)) (k' S _ nS.1 nS.2.1 nS.2.2.1 nS.2.2.2.1 hS) hacc (by omega) ⟨G.rise,fun a ha=>?_,fun j a hj=>?_⟩)
   . obtain⟨j,hj⟩:=List.mem_iff_getElem?.mp ha;obtain⟨_,_,_,_,e⟩:=G.holds j a hj
     exact⟨(G.low a ha).1,Heap.lt_size (kp a _ (G.low a ha).1 e)⟩
   . obtain⟨x,y,e1,e2,e⟩:=G.holds j a hj
     exact⟨x,y,e1,e2,kp a _ (G.low a (List.mem_of_getElem? hj)).1 e⟩
 | succ k ih=>
   intro i h tk c acc as hk hi st hkp hS hacc hal hlh G
   have lx:i<xs.size:=by omega
   have ly:i<ys.size:=by omega
   have hx:xs[i]?=some xs[i]:=Array.getElem?_eq_getElem lx
   have hy:ys[i]?=some ys[i]:=Array.getElem?_eq_getElem ly
   have hsz:acc.size=i:=by rw[<- Array.length_toList,hacc,List.length_map,hal]
   refine codeAny_builtin F.entry_extend_loop ?_;rw[Around.under_plainId F.plain_extend_loop _];show wpAny _ A.in1 (pyNext (.ref z) >>= _) _ _ _;refine wpAny_bind (A7 (s:={ g0 with heap:=h,toks:=tk }) (A:=A.in1) D (Heap.lt_size hS) st hx hy fun h' p hp st' hpo k'=>?_)
   have hS':=k' S _ nS.1 nS.2.1 nS.2.2.1 nS.2.2.2.1 hS
   have hpl:p<h'.objs.size:=Heap.lt_size hpo
   have lp:lo<=p:=Nat.le_trans hlh hp
   have up:∀ b o,b≠S->h'.get? b=some o->(h'.update S (Obj.mapSeq (·.push (Value.ref p)))).get? b=some o:=fun b o hb e=>(Heap.get?_update_other _ _ (Ne.symm hb)).trans e
   have kp:∀ a o,lo<=a->h.get? a=some o->(h'.update S (Obj.mapSeq (·.push (Value.ref p)))).get? a=some o:=fun a o l e=>let ⟨n1,n2,n3,n4,n5⟩:=ne a l;up a o n1 (k' a o n2 n3 n4 n5 e)
   show wpAny (model prog w) A.in1 (updateSeq S (·.push (.ref p)) >>= fun _=>again (.builtin "list.extend.loop" ⟨[.ref S,.ref z,res],[]⟩)) _ _ _;refine wpAny_bind (wpAny_updateSeq (s:={ g0 with heap:=h',toks:=tk }) hS' rfl (wpAny_pure ⟨plainId_quiet F.plain_extend_loop _,ih (i+1) _ tk _ (acc.push (.ref p)) (as++[p]) (by omega) (by omega) ?_ (fun b o h1 h2 h3 h4 h5 e=>up b o h1 (k' b o h2 h3 h4 h5 (hkp b o h1 h2 h3 h4 h5 e))) (Heap.get?_update_self _ hS' rfl) (by rw[Array.toList_push,hacc,List.map_append];rfl) (by rw[List.length_append,hal];rfl) (by rw[Heap.size_update];exact Nat.le_trans lp (Nat.le_of_lt hpl)) ⟨?_,?_,?_⟩⟩) (by rw[hsz];omega))
   . obtain⟨zp,ti,⟨a,b,to⟩,a1,a2,b1,b2⟩:=st'
     refine⟨?_,up _ _ nS.2.2.2.2.1.symm ti,⟨a,b,up _ _ nS.2.1.symm to⟩,a1.at fun o e=>up _ o nS.2.2.1.symm e,a2.at fun o e=>up _ o nS.2.2.2.1.symm e,b1.at fun o e=>up _ o nS.2.2.2.2.2.1.symm e,b2.at fun o e=>up _ o nS.2.2.2.2.2.2.symm e⟩
     rcases zp with zp|⟨q,f,oa,zp,hq,n1,n2,n3,n4,n5⟩
     . exact .inl (up _ _ nS.1.symm zp)
     . exact .inr ⟨q,f,oa,up _ _ nS.1.symm zp,up _ _ n5 hq,n1,n2,n3,n4,n5⟩
   . refine List.pairwise_append.mpr ⟨G.rise,List.pairwise_singleton _ _,fun a ha b hb=>?_⟩;rw[List.mem_singleton.mp hb];exact Nat.lt_of_lt_of_le (G.low a ha).2 hp
   . intro a ha
     rcases List.mem_append.mp ha with ha|ha
     . obtain⟨j,hj⟩:=List.mem_iff_getElem?.mp ha;obtain⟨_,_,_,_,e⟩:=G.holds j a hj
       exact⟨(G.low a ha).1,Heap.lt_size (kp a _ (G.low a ha).1 e)⟩
     . rw[List.mem_singleton.mp ha,Heap.size_update];exact⟨lp,hpl⟩
   . intro j a hj
     rcases Nat.lt_or_ge j as.length with h1|h1
     . rw[List.getElem?_append_left h1]at hj;obtain⟨x,y,e1,e2,e⟩:=G.holds j a hj
       exact⟨x,y,e1,e2,kp a _ (G.low a (List.mem_of_getElem? hj)).1 e⟩
     . rw[List.getElem?_append_right h1]at hj
       have hj0:j - as.length=0:=by
        cases q:j - as.length with
        |zero=>rfl
        |succ m=>rw[q]at hj;simp at hj
       rw[hj0]at hj
       have:p=a:=by simpa using hj
       subst this
       have ej:j=i:=by omega
       subst ej
       exact⟨_,_,hx,hy,up p _ (ne p lp).1 hpo⟩
end
section
variable{prog:Program}{w:World}{A:Around}{E:Value->Shared->Prop}{s:Shared}{l1 l2:Addr}{xs ys:Array Value}
theorem vo:typeLookup (.type "zip") "__len__" = pure none:=by rw[typeLookup_type,builtinLookup_eq_fast];kernel_rfl
theorem tI:typeLookup (.type "zip") "__length_hint__" = pure none:=by rw[typeLookup_type,builtinLookup_eq_fast];kernel_rfl
theorem wz{z:Addr}{Q:Bool->Shared->Prop}(hT:s.TypeIs (.ref z) "zip")(h:Q true s):wpAny (model prog w) A (Builtin.List.listLengthHint (.ref z)) Q E s:=by
 unfold Builtin.List.listLengthHint;refine wpAny_bind (wpAny_specialOf hT vo ?_);show wpAny _ _ (specialOf (.ref z) "__length_hint__" >>= _) _ _ _;refine wpAny_bind (wpAny_specialOf hT tI ?_);exact wpAny_pure h
theorem wu{z TI TO i1 i2:Addr}{Q:Value->Shared->Prop}(hh:A.handled=none)(D:ZipApart z TI TO i1 i2 l1 l2)(hl:xs.size=ys.size)(hn:xs.size<=sizeLine)(zp:ZI s.heap z TI TO .none (.bool false))(ti:IsPair s.heap TI (.ref i1) (.ref i2))(to:IsPair s.heap TO .none .none)(a1:s.heap.IsListIter i1 l1 0)(a2:s.heap.IsListIter i2 l2 0)(b1:s.heap.IsList l1 xs)(b2:s.heap.IsList l2 ys)
  (h:∀ h' tk acc c as,Apart z TO i1 i2 s.heap h'->h'.get? s.heap.objs.size=some { cls:=.type "list",dict:=none,data:=.seq acc c,slots:=#[] }->acc.toList=as.map Value.ref->as.length=xs.size->AD (s.heap.objs.size+1) xs ys h' as->Q (.ref s.heap.objs.size) { s with heap:=h',toks:=tk }):
  wpAny (model prog w) A (call (.type "list") [.ref z]) Q E s:=by
 have ltz:z<s.heap.objs.size:=Heap.lt_size zp
 have lti:TI<s.heap.objs.size:=Heap.lt_size ti
 have lto:TO<s.heap.objs.size:=Heap.lt_size to
 have lt1:i1<s.heap.objs.size:=by obtain⟨_,e,_⟩:=a1;exact Heap.lt_size e
 have lt2:i2<s.heap.objs.size:=by obtain⟨_,e,_⟩:=a2;exact Heap.lt_size e
 have lt3:l1<s.heap.objs.size:=by obtain⟨_,e,_⟩:=b1;exact Heap.lt_size e
 have lt4:l2<s.heap.objs.size:=by obtain⟨_,e,_⟩:=b2;exact Heap.lt_size e
 refine callType_codes (Q₁:=fun obj s₁=>obj=.ref s.heap.objs.size /\ s₁={ s with heap:=s.heap.push { cls:=.type "list",data:=.seq #[] } }) PySem.F.called_list (PySem.F.typeCall_list_1 _) PySem.F.entry_list_init (code_list_new _ ⟨rfl,rfl⟩) ?_
 rintro obj s₁ ⟨rfl,rfl⟩
 have hS:=Heap.get?_push_size s.heap (o:={ cls:=.type "list",data:=.seq #[] }) rfl
 refine⟨⟨_,hS,rfl⟩,PySem.F.args_list_init_2 _ _,?_⟩
 show wpAny _ _ (do let old <- Builtin.List.listItems (.ref s.heap.objs.size);Builtin.List.listUpdate (.ref s.heap.objs.size) (fun _=>#[]);letGo old.toList.reverse;Builtin.List.listExtendWith (.ref s.heap.objs.size) (.ref z) .none) _ _ _;refine wpAny_bind ?_;unfold Builtin.List.listItems;refine wpAny_bind (wpAny_seqItems hS rfl (wpAny_pure ?_));show wpAny _ _ (updateSeq s.heap.objs.size (fun _=>#[]) >>= fun _=>letGo (#[]:Array Value).toList.reverse >>= fun _=>Builtin.List.listExtendWith (.ref s.heap.objs.size) (.ref z) .none) _ _ _;refine wpAny_bind (wpAny_updateSeq hS rfl (wpAny_bind (wpAny_letGo ?_)));have hS2:=Heap.get?_update_self (Obj.mapSeq (fun _=>(#[]:Array Value))) hS rfl
 generalize hg:(s.heap.push { cls:=.type "list",data:=.seq #[] }).update s.heap.objs.size (Obj.mapSeq (fun _=>(#[]:Array Value)))=g1 at hS2 ⊢
 have zg:g1.objs.size=s.heap.objs.size+1:=by rw[<- hg,Heap.size_update,Heap.size_push]
 have k1:∀ b o,s.heap.get? b=some o->g1.get? b=some o:=fun b o e=>by
  rw[<- hg]
  exact(Heap.get?_update_other _ _ (Nat.ne_of_gt (Heap.lt_size e))).trans (Heap.get?_push_of_some _ e)
 have hT:({ s with heap:=g1 }:Shared).TypeIs (.ref z) "zip":=⟨_,k1 _ _ zp,rfl⟩
 unfold Builtin.List.listExtendWith;refine wpAny_bind (wpAny_typeOf hT ?_)
 have h1:Builtin.List.listSameRef (.ref s.heap.objs.size) (.ref z)=false:=by simp[Builtin.List.listSameRef];exact Nat.ne_of_gt ltz
 rw[if_neg (by rw[h1];decide)];refine wpAny_bind (wpAny_pyIter_zip (k1 _ _ zp) (wpAny_bind (wpAny_holding (wz hT ?_))));rw[if_pos (by decide)];refine wpAny_bind (wpAny_rule (wpAny_bind ?_));show wpAny _ _ (updateSeq s.heap.objs.size (·.push .none) >>= fun _=>updateSeq s.heap.objs.size (·.pop)) _ _ _;refine wpAny_bind (wpAny_updateSeq hS2 rfl ?_);have hS3:=Heap.get?_update_self (Obj.mapSeq (·.push Value.none)) hS2 rfl;refine wpAny_updateSeq (hz:=by seq_fits) hS3 rfl ?_;have hS4:=Heap.get?_update_self (Obj.mapSeq (·.pop)) hS3 rfl;refine wpAny_pure ⟨plainId_quiet PySem.F.plain_extend_loop _,?_⟩
 have k2:∀ b o,b≠s.heap.objs.size->s.heap.get? b=some o->((g1.update s.heap.objs.size (Obj.mapSeq (·.push Value.none))).update s.heap.objs.size (Obj.mapSeq (·.pop))).get? b=some o:=fun b o hb e=>(Heap.get?_update_other _ _ (Ne.symm hb)).trans ((Heap.get?_update_other _ _ (Ne.symm hb)).trans (k1 b o e))
 refine wm (A:=A.in1) (S:=s.heap.objs.size) hh D hl hn ⟨Nat.ne_of_gt ltz,Nat.ne_of_gt lto,Nat.ne_of_gt lt1,Nat.ne_of_gt lt2,Nat.ne_of_gt lti,Nat.ne_of_gt lt3,Nat.ne_of_gt lt4⟩ .none (h₀:=s.heap) (g0:=s) (s.heap.objs.size+1) ⟨Nat.lt_succ_self _,Nat.lt_succ_of_lt ltz,Nat.lt_succ_of_lt lto,Nat.lt_succ_of_lt lt1,Nat.lt_succ_of_lt lt2⟩ (fun h' tk acc c as hk hS' hacc hal G=>⟨rfl,h h' tk acc c as (fun b o c1 c2 c3 c4 e=>hk b o (Nat.ne_of_lt (Heap.lt_size e)) c1 c2 c3 c4 e) hS' hacc hal G⟩)
  xs.size 0 _ _ _ _ [] (by omega) (Nat.zero_le _) ⟨.inl (k2 _ _ (Nat.ne_of_lt ltz) zp),k2 _ _ (Nat.ne_of_lt lti) ti,⟨_,_,k2 _ _ (Nat.ne_of_lt lto) to⟩,a1.at fun o e=>k2 _ o (Nat.ne_of_lt lt1) e,a2.at fun o e=>k2 _ o (Nat.ne_of_lt lt2) e,b1.at fun o e=>k2 _ o (Nat.ne_of_lt lt3) e,b2.at fun o e=>k2 _ o (Nat.ne_of_lt lt4) e⟩ (fun b o hb _ _ _ _ e=>k2 b o hb e) hS4 rfl rfl (by rw[Heap.size_update,Heap.size_update,zg];exact Nat.le_refl _) ⟨List.Pairwise.nil,fun a ha=>(nomatch ha),fun j a hj=>by simp at hj⟩
end
end HT
namespace L2
open PySem PySem.Spec PyProof.Rows
noncomputable def xJ:List (List V)->Hp->(List Addr->Hp->Prop)->Prop
 |[],H,k=>k [] H
 |x ::xs,H,k=>∀ a,H a=none->xJ xs (upd H a (.tup x)) fun as H1=>k (a ::as) H1
noncomputable def iF:List (List V)->List Addr->Hp->Hp
 |x ::xs,a ::as,H=>iF xs as (upd H a (.tup x))
 |_,_,H=>H
theorem jl:∀(xs:List (List V)) (as:List Addr) (H:Hp) (b:Addr),b∉as->iF xs as H b=H b
 |[],_,_,_,_=>by simp[iF]
 |_ ::_,[],_,_,_=>by simp[iF]
 | x ::xs,a ::as,H,b,hb=>by
   rw[iF,jl xs as _ b (fun z=>hb (List.mem_cons_of_mem _ z)),bB (fun z=>hb (by rw[z];exact List.mem_cons_self))]
theorem ux:∀(xs:List (List V)) (as:List Addr) (H:Hp) (k:List Addr->Hp->Prop),as.length=xs.length->as.Nodup->(∀ a∈as,H a=none)->xJ xs H k->k as (iF xs as H)
 |[],[],H,k,_,_,_,h=>h
 |[],_ ::_,_,_,e,_,_,_=>by cases e
 |_ ::_,[],_,_,e,_,_,_=>by cases e
 | x ::xs,a ::as,H,k,e,n,f,h=>by
   rw[List.nodup_cons]at n
   exact ux xs as _ (fun bs H1=>k (a ::bs) H1) (by simpa using e) n.2 (fun b hb=>by
    rw[bB (fun z=>n.1 (by rw[<- z];exact hb))]
    exact f b (List.mem_cons_of_mem _ hb)) (h a (f a List.mem_cons_self))
theorem oR:∀(xs:List (List V)) (as:List Addr) (H:Hp),as.Nodup->as.length=xs.length->∀(j:Nat) (a:Addr),as[j]?=some a->∃ x,xs[j]?=some x /\ iF xs as H a=some (.tup x)
 |_,[],_,_,_,j,a,h=>by simp at h
 |[],_ ::_,_,_,e,_,_,_=>by cases e
 | x ::xs,a ::as,H,n,e,0,b,h=>by
   rw[List.nodup_cons]at n
   have:a=b:=by simpa using h
   subst this
   exact⟨x,rfl,by rw[iF,jl xs as _ a n.1,aY]⟩
 | x ::xs,a ::as,H,n,e,j+1,b,h=>by
   rw[List.nodup_cons]at n;obtain⟨y,e1,e2⟩:=oR xs as (upd H a (.tup x)) n.2 (by simpa using e) j b (by simpa using h)
   exact⟨y,by simpa using e1,by rw[iF];exact e2⟩
noncomputable def mN(vs us:List V):List (List V):=List.zipWith (fun a b=>[a,b]) vs us
noncomputable def B8(K:PySem.W.Frag)(A:Around):R2:=fun x y H Q=>∃ a b vs us,x=.ref a /\ y=.ref b /\ SqL K H a vs /\ SqL K H b us /\ vs.length=us.length /\ A.handled=none /\ xJ (mN vs us) H fun as H1=>∀ l,H1 l=none->Q (.ref l) (upd H1 l (.lst (as.map .ref)))
section
variable{X:Cx}{pins:List (Addr×Obj)}{σ:St}{H:Hp}{s:Shared}
theorem x4{vs us:List V}{a b:Addr}{Q:VK}(I:Inv X pins σ H s)(ha:SqL X.K H a vs)(hb:SqL X.K H b us)(hl:vs.length=us.length)(hh:X.A.handled=none)(q:xJ (mN vs us) H fun as H1=>∀ l,H1 l=none->Q (.ref l) (upd H1 l (.lst (as.map .ref)))):
  wpAny (model X.prog X.w) X.A (call (.type "zip") [.ref a,.ref b]) (fun v s1=>wpAny (model X.prog X.w) X.A (call (.type "list") [v]) (EP X pins σ Q) X.xe s1) X.xe s:=by
 obtain⟨its,rv,pl,hz⟩:=I.list ha;obtain⟨jts,ru,pl2,hz2⟩:=I.list hb;have l1:=rv.length;have l2:=ru.length;have isl:=pl.isList;have isl2:=pl2.isList
 have lta:a<s.heap.objs.size:=by obtain⟨_,e,_⟩:=isl;exact Heap.lt_size e
 have ltb:b<s.heap.objs.size:=by obtain⟨_,e,_⟩:=isl2;exact Heap.lt_size e
 refine call_zip_2 isl isl2 fun h1 zp ti to a1 a2 hsz k1=>?_
 have D:ZipApart (s.heap.objs.size+4) (s.heap.objs.size+2) (s.heap.objs.size+3) s.heap.objs.size (s.heap.objs.size+1) a b:=by
  have up:∀{c:Addr} (k:Nat),c<s.heap.objs.size->c≠s.heap.objs.size+k:=fun k hc=>Nat.ne_of_lt (Nat.lt_of_lt_of_le hc (Nat.le_add_right _ _))
  have ne:∀ i j:Nat,i≠j->s.heap.objs.size+i≠s.heap.objs.size+j:=fun i j h e=>h (Nat.add_left_cancel e)
  exact⟨ne 2 4 (by decide),ne 3 4 (by decide),ne 0 4 (by decide),ne 1 4 (by decide),ne 2 3 (by decide),ne 2 0 (by decide),ne 2 1 (by decide),ne 3 0 (by decide),ne 3 1 (by decide),ne 0 1 (by decide),up 4 lta,up 3 lta,up 0 lta,up 1 lta,up 4 ltb,up 3 ltb,up 0 ltb,up 1 ltb⟩
 refine HT.wu (s:={ s with heap:=h1 }) hh D (xs:=its.toArray) (ys:=jts.toArray) (by simp[<- l1,<- l2,hl]) (by simp[<- l1];exact hz) zp ti to a1 a2 (isl.at fun o e=>k1 _ o e) (isl2.at fun o e=>k1 _ o e) fun h' tk acc cn as kp hS hacc hal G=>?_
 have z1:s.heap.objs.size+5=h1.objs.size:=hsz.symm
 have kq:∀ b u,s.heap.get? b=some u->h'.get? b=some u:=fun c o e=>by
  have lt:=Heap.lt_size e
  have up:∀ k:Nat,c≠s.heap.objs.size+k:=fun k=>Nat.ne_of_lt (Nat.lt_of_lt_of_le lt (Nat.le_add_right _ _))
  exact kp c o (up 4) (up 3) (up 0) (up 1) (k1 c o e)
 have lz:(mN vs us).length=vs.length:=by unfold mN;simp[hl]
 have la:as.length=(mN vs us).length:=by rw[lz,hal];simp[<- l1]
 have nd:as.Nodup:=G.rise.imp fun z=>Nat.ne_of_lt z
 have low:∀ a∈as,s.heap.objs.size<=a:=fun a ha=>by
  have:=(G.low a ha).1
  have h2:s.heap.objs.size<=h1.objs.size:=by rw[<- z1];exact Nat.le_add_right _ _
  exact Nat.le_trans (Nat.le_succ_of_le h2) this
 have fresh:∀ a∈as,H a=none:=fun a ha=>I.hok.fresh (low a ha)
 have q1:=ux (mN vs us) as H _ la nd fresh q
 have hbig:s.heap.objs.size<=h1.objs.size:=by rw[<- z1];exact Nat.le_add_right _ _
 have hnot:h1.objs.size∉as:=fun z=>Nat.lt_irrefl _ (G.low _ z).1
 have hr:iF (mN vs us) as H h1.objs.size=none:=by rw[jl _ as H _ hnot];exact I.hok.fresh hbig
 refine⟨.ref h1.objs.size,upd (iF (mN vs us) as H) h1.objs.size (.lst (as.map .ref)),?_,rfl,q1 _ hr⟩
 refine I.Af kq fun c=>?_
 by_cases hc:c=h1.objs.size
 . subst hc;refine .inr ⟨hbig,_,aY,⟨by rw[List.length_map,la,lz];exact hz,as.map Value.ref,cn,?_,?_⟩⟩
   . clear q1 fresh nd G la q hr hnot low hacc hal hS
     induction as with
     |nil=>exact .nil
     |cons a as ih=>exact .cons rfl ih
   . rw[hS,<- hacc]
 . rw[bB hc]
   by_cases hm:c∈as
   . obtain⟨j,hj⟩:=List.mem_iff_getElem?.mp hm;obtain⟨p,e1,e2⟩:=oR (mN vs us) as H nd la j c hj;obtain⟨x,y,e3,e4,e5⟩:=G.holds j c hj;refine .inr ⟨low c hm,_,e2,?_⟩;unfold mN at e1;rw[List.getElem?_zipWith]at e1
     have e3':its[j]?=some x:=by simpa using e3
     have e4':jts[j]?=some y:=by simpa using e4
     have hj1:j<vs.length:=by rw[l1];exact(List.getElem?_eq_some_iff.mp e3').1
     have hj2:j<us.length:=by rw[l2];exact(List.getElem?_eq_some_iff.mp e4').1
     obtain⟨x',f1,rx⟩:=rv.get (List.getElem?_eq_getElem hj1);obtain⟨y',f2,ry⟩:=ru.get (List.getElem?_eq_getElem hj2);rw[e3']at f1;cases f1;rw[e4']at f2;cases f2;rw[List.getElem?_eq_getElem hj1,List.getElem?_eq_getElem hj2]at e1;simp only[Option.some.injEq]at e1;subst e1
     exact⟨⟨by show 2<=sizeLine;decide,.of e5 rfl⟩,[x,y],.cons rx (.cons ry .nil),⟨_,e5,rfl,_,rfl⟩⟩
   . exact .inl (jl _ as H c hm)
theorem sd{x y:Str}{p1 p2 q1 q2:Pos}{e f:Expr}{ta tb:TE}(g1:Gl X x)(m1:X.mg x=none)(v1:bootBuiltins x=some (.type "list"))(g2:Gl X y)(m2:X.mg y=none)(v2:bootBuiltins y=some (.type "zip"))(he:PE X e ta)(hf:PE X f tb)
  (n1:x ≠ "__name__") (d1:(x==("__debug__":Str))=false) (n2:y ≠ "__name__") (d2:(y==("__debug__":Str))=false)
  (w1:starEach [.Call (.Name y q1) [e,f] [] q2] X.env=(false,eval (.Call (.Name y q1) [e,f] [] q2) X.env) ::starEach [] X.env) (w2:starEach [e,f] X.env=(false,eval e X.env) ::starEach [f] X.env) (w3:starEach [f] X.env=(false,eval f X.env) ::starEach [] X.env):
  PE X (.Call (.Name x p1) [.Call (.Name y q1) [e,f] [] q2] [] p2) (tOp (B8 X.K X.A) ta tb):=by
 intro pins s σ H Q I h;refine wpAny_Call_Name_kw (i3 I g1 m1 v1 ?_ n1 d1);refine PyProof.Rows.callWith_type1 ?_ w1;rw[w1];show wpAny _ _ (spliced ((false,eval (.Call (.Name y q1) [e,f] [] q2) X.env) ::backTo p2 (starEach [] X.env))) _ _ s;refine Calls.spliced_cons ?_;refine wpAny_Call_Name_kw (i3 I g2 m2 v2 ?_ n2 d2);refine PyProof.Rows.callWith_type1 ?_ w2 (by rw[w3];rfl);rw[w2,w3];show wpAny _ _ (spliced ((false,eval e X.env) ::(false,eval f X.env) ::backTo q2 (starEach [] X.env))) _ _ s;refine Calls.spliced_cons (thn (he pins s σ H _ I h) fun u1 s1 ⟨x1,H1,I1,r1,z1⟩=>Calls.spliced_cons (thn (hf pins s1 σ H1 _ I1 z1) fun u2 s2 ⟨x2,H2,I2,r2,a,b,vs,us,ex,ey,ha,hb,hl,hh,q⟩=>Calls.spliced_nil ?_));subst ex ey
 obtain rfl:u1=Value.ref a:=r1
 obtain rfl:u2=Value.ref b:=r2
 exact thn (x4 I2 ha hb hl hh q) fun v s3 h3=>Calls.spliced_nil h3
end
end L2
namespace L2.E
open PySem PySem.Spec PyProof.Rows L2
theorem boot_zip:bootBuiltins "zip" = some (.type "zip"):=by decide +kernel
theorem sH{X:Cx}{p1 p2 q1 q2:Pos}{e f:Expr}{ta tb:TE}(g1:Gl X "list")(m1:X.mg "list" = none)(g2:Gl X "zip")(m2:X.mg "zip" = none)(he:QE X e ta)(hf:QE X f tb)
  (w1:starEach [.Call (.Name "zip" q1) [e,f] [] q2] X.env=(false,eval (.Call (.Name "zip" q1) [e,f] [] q2) X.env) ::starEach [] X.env:=by rfl) (w2:starEach [e,f] X.env=(false,eval e X.env) ::starEach [f] X.env:=by rfl) (w3:starEach [f] X.env=(false,eval f X.env) ::starEach [] X.env:=by rfl):
  QE X (.Call (.Name "list" p1) [.Call (.Name "zip" q1) [e,f] [] q2] [] p2) (tOp (B8 X.K X.A) ta tb):=⟨sd g1 m1 L2.E.boot_list g2 m2 boot_zip he.out hf.out (by decide) (by decide) (by decide) (by decide) w1 w2 w3⟩
end L2.E
namespace L2.P
open PySem PySem.Spec PyProof.Rows L2 L2.E
section
variable{K:PySem.W.Frag}{S H:Hp}
theorem tW:∀{xs ys:List PV} {vs us:List V} {S H:Hp} {k:List Addr->Hp->Prop},ay S H->aV K S xs vs->aV K S ys us->(∀ as S' H',aI S H S' H'->aV K S' (List.zipWith (fun a b=>.tup [a,b]) xs ys) (as.map .ref)->k as H')->xJ (mN vs us) H k
 |[],ys,vs,us,S,H,k,sh,rx,ry,h=>by rw[rx.nil_inv];exact h [] S H (aI.refl sh) .nil
 | x ::xs,[],vs,us,S,H,k,sh,rx,ry,h=>by
   obtain⟨v,r,rfl,_,_⟩:=rx.cons_inv;rw[ry.nil_inv];exact h [] S H (aI.refl sh) .nil
 | x ::xs,y ::ys,vs,us,S,H,k,sh,rx,ry,h=>by
   obtain⟨v,r,rfl,hv,hr⟩:=rx.cons_inv;obtain⟨u,t,rfl,hu,ht⟩:=ry.cons_inv;intro a ha;have g:=aI.both (o:=.tup [v,u]) sh ha
   refine tW g.sh (hr.mono g.s) (ht.mono g.s) fun as S' H' w rr=>h (a ::as) S' H' (g.trans w) ?_
   refine .cons (Rep.mono w.s ?_) rr;unfold Rep
   exact⟨a,_,rfl,SqT.new aY,.cons (Rep.mono g.s hv) (.cons (Rep.mono g.s hu) .nil)⟩
theorem Bj{A:Around}(hh:A.handled=none):JR K (B8 K A) xV:=by
 intro S H x y v u rr Q I hx hy e k;unfold xV at e;split at e
 . rename_i xs ys;split at e
   . rename_i hl;cases e;obtain⟨p,vs,rfl,hp,rx⟩:=dE hx;obtain⟨q,us,rfl,hq,ry⟩:=dE hy
     refine⟨p,q,vs,us,rfl,rfl,hp,hq,by rw[rx.length,ry.length];exact hl,hh,tW I rx ry fun as S' H' w r l hl'=>?_⟩
     exact k _ S' _ (w.trans (aI.heap w.sh hl')) ⟨l,_,rfl,w.g.free hl',w.sh.free hl',aY,r⟩
   . cases e
 . cases e
end
end L2.P
namespace L2.P
open PySem
noncomputable def dO(k:List Int):Int:=reduceHash (Builtin.Tuple.tupleHashOf (k.map hashInt))
abbrev ST:=List (Int×List Int)×SetTable
noncomputable def jK{α:Type}(xs:List α)(p:Nat)(x:α):List α:=xs.take p++x ::xs.drop p
noncomputable def j6{α:Type}(xs:List α)(order:List Nat):List α:=order.filterMap (xs[·]?)
noncomputable def mP(st:ST)(k:List Int):Option ST:=
 if st.2.gaveWay=true then none else
 match st.2.probe (fun i=>((st.1[i]?).map (·.1)).getD 0) (dO k) (st.2.probeStart (dO k))with
 | some (.empty j none)=>
   if(st.2.put j).1.tooFull=true then
    (match (st.2.put j).1.relaid ((jK st.1 (st.2.put j).2 (dO k,k)).map (·.1)).toArray (SetTable.grown (st.1.length+1))with
    |some (t2,order)=>if(j6 (jK st.1 (st.2.put j).2 (dO k,k)) order.toList).length=st.1.length+1 /\ t2.fits (st.1.length+1)=true /\ (st.2.put j).1.fits (st.1.length+1)=true /\ SetTable.sizeAbove (SetTable.grown (st.1.length+1))<=4096 then some (j6 (jK st.1 (st.2.put j).2 (dO k,k)) order.toList,t2)else none
    |none=>none)
   else if(st.2.put j).1.fits (st.1.length+1)=true then some (jK st.1 (st.2.put j).2 (dO k,k),(st.2.put j).1)else none
 |some (.candidate _ i _)=>if(st.1[i]?).map (·.2)=some k then some st else none
 |_=>none
noncomputable def jk:ST->List (List Int)->Option ST
 |st,[]=>some st
 |st,k ::ks=>(mP st k).bind fun st=>jk st ks
noncomputable def bX(ks:List (List Int)):Option Nat:=
 match jk ([],.fresh 0 0 true) ks,jk ([],.fresh 0 0 false) ks with
 |some a,some b=>if a.1.length=b.1.length then some a.1.length else none
 |_,_=>none
noncomputable def kj:PV->Option RV
 |.lst xs=>(iL xs).bind fun ks=>if ks.length<1000 then(bX ks).map fun n:Nat=>.sh (.int (n:Int))else none
 |_=>none
theorem qU{α:Type}(xs:List α)(p:Nat)(x:α):(jK xs p x).length=xs.length+1:=by
 unfold jK;rw[List.length_append,List.length_cons,List.length_take,List.length_drop];omega
theorem vw{st st':ST}{k:List Int}(h:mP st k=some st'):st'.1.length<=st.1.length+1:=by
 unfold mP at h;split at h
 . cases h
 . split at h
   . split at h
     . split at h
       . split at h
         . rename_i c;cases h;exact Nat.le_of_eq c.1
         . cases h
       . cases h
     . split at h
       . cases h;exact Nat.le_of_eq (qU _ _ _)
       . cases h
   . split at h
     . cases h;exact Nat.le_succ _
     . cases h
   . cases h
theorem pd:∀{ks:List (List Int)} {st st':ST},jk st ks=some st'->st'.1.length<=st.1.length+ks.length
 |[],_,_,h=>by cases h;exact Nat.le_refl _
 | k ::ks,st,st',h=>by
   rw[jk]at h;obtain⟨s1,h1,h2⟩:=Option.bind_eq_some_iff.mp h;have:=vw h1;have:=pd h2;rw[List.length_cons];omega
theorem tj{ks:List (List Int)}{n:Nat}(h:bX ks=some n):n<=ks.length:=by
 unfold bX at h;split at h
 . rename_i a b e1 e2;split at h
   . cases h;have:=pd e1
     simpa using this
   . cases h
 . cases h
end L2.P
namespace HT
open PySem PyProof.Rows L2.P
theorem eT.key{prog:Program}{w:World}{h:Heap}{ns:List Int}{a:Addr}(x:eT h ns a):IsTupleKey (intKind prog w) h ns a:=by
 obtain⟨o,its,n,h1,h2,h3,h4⟩:=x
 refine⟨o,its,n,h1,h2,h3,?_⟩
 have go:∀{vs:List Value} {ns:List Int},IntsAre vs ns->ItemsAre (intKind prog w) ns vs:=by
  intro vs ns i
  induction i with
  |nil=>exact .nil
  |cons n t _ ih=>exact .cons (intKind_is _ _ _ _) ih
 exact go h4
noncomputable def ElR(h:Heap)(e:Int×Value)(q:Int×List Int):Prop:=e.1=q.1 /\ ∃ a,e.2=.ref a /\ eT h q.2 a
noncomputable abbrev cL(h:Heap)(es:List (Int×Value))(qs:List (Int×List Int)):Prop:=Paired (ElR h) es qs
theorem cL.at{h:Heap}:∀{es:List (Int×Value)} {qs:List (Int×List Int)},cL h es qs->∀ i:Nat,(es[i]?=none /\ qs[i]?=none) \/ ∃ e q,es[i]?=some e /\ qs[i]?=some q /\ ElR h e q
 |_,_,.nil,i=>.inl ⟨by simp,by simp⟩
 |_,_,.cons r t,0=>.inr ⟨_,_,rfl,rfl,r⟩
 |_,_,.cons r t,i+1=>by simpa using cL.at t i
theorem cL.len{h:Heap}{es:List (Int×Value)}{qs:List (Int×List Int)}(r:cL h es qs):es.length=qs.length:=Paired.length r
theorem cL.hash{h:Heap}{es:List (Int×Value)}{qs:List (Int×List Int)}(r:cL h es qs):es.map (·.1)=qs.map (·.1):=by
 induction r with
 |nil=>rfl
 |cons r t ih=>rw[List.map_cons,List.map_cons,r.1,ih]
theorem cL.keep{h h':Heap}{es:List (Int×Value)}{qs:List (Int×List Int)}(r:cL h es qs)(k:∀ b o,o.cls=.type "tuple" -> h.get? b=some o->h'.get? b=some o):cL h' es qs:=by
 induction r with
 |nil=>exact .nil
 | cons r t ih=>
   obtain⟨e,a,e2,o,its,n,h1,h2,h3⟩:=r;exact .cons ⟨e,a,e2,o,its,n,k _ _ h2 h1,h2,h3⟩ ih
theorem cL.take{h:Heap}:∀{es:List (Int×Value)} {qs:List (Int×List Int)} (n:Nat),cL h es qs->cL h (es.take n) (qs.take n) /\ cL h (es.drop n) (qs.drop n)
 |_,_,0,r=>⟨by simpa using Paired.nil,by simpa using r⟩
 |_,_,n+1,.nil=>⟨by simpa using Paired.nil,by simpa using Paired.nil⟩
 |_,_,n+1,.cons r t=>⟨by simpa using Paired.cons r (cL.take n t).1,by simpa using (cL.take n t).2⟩
theorem cL.app{h:Heap}{es es':List (Int×Value)}{qs qs':List (Int×List Int)}(r:cL h es qs)(r':cL h es' qs'):cL h (es++es') (qs++qs'):=by
 induction r with
 |nil=>exact r'
 |cons r t ih=>exact .cons r ih
theorem cL.ins{h:Heap}{es:List (Int×Value)}{qs:List (Int×List Int)}(r:cL h es qs)(p:Nat){e:Int×Value}{q:Int×List Int}(x:ElR h e q):cL h (jK es p e) (jK qs p q):=(r.take p).1.app (.cons x (r.take p).2)
theorem cL.pick{h:Heap}{es:List (Int×Value)}{qs:List (Int×List Int)}(r:cL h es qs):∀ o:List Nat,cL h (j6 es o) (j6 qs o)
 |[]=>.nil
 | i ::o=>by
   unfold j6
   rcases r.at i with⟨e1,e2⟩|⟨e,q,e1,e2,x⟩
   . rw[List.filterMap_cons,List.filterMap_cons,e1,e2];exact r.pick o
   . rw[List.filterMap_cons,List.filterMap_cons,e1,e2];exact .cons x (r.pick o)
theorem qI{α:Type}(xs:List α)(p:Nat)(x:α):(SetTable.insertAt xs.toArray p x).toList=jK xs p x:=by
 unfold SetTable.insertAt jK;simp[List.take_of_length_le]
section
variable{prog:Program}{w:World}{A:Around}{E:Value->Shared->Prop}{s:Shared}{a:Addr}{k:List Int}
theorem rQ{Q:Bool->Shared->Prop}(t:eT s.heap k a)(h:Q false s):wpAny (model prog w) A (ofAClassStatement 8 (.ref a)) Q E s:=by
 have hT:=t.typeIs;obtain⟨o,its,n,h1,h2,h3,h4⟩:=t;unfold ofAClassStatement;refine wpAny_bind (wpAny_typeOf hT ?_);dsimp only;rw[if_pos (by decide)];refine wpAny_bind (wpAny_pure ?_);rw[if_neg (by decide)];refine wpAny_bind (wpAny_seqItems h1 h3 (wpAny_bind ?_));rw[<- Array.forIn_toList];refine wpAny_forIn_list _ (fun rest r s'=>r.1=none /\ s'=s /\ ∃ ns,IntsAre rest ns) _ ?_ ?_ _ _ ⟨rfl,rfl,_,h4⟩
 . rintro x rest r s' ⟨hr,rfl,ns,i⟩
   cases i with
   | cons m t i=>
     refine wpAny_bind (wpAny_pure ?_);rw[if_neg (by decide)];exact wpAny_pure ⟨rfl,rfl,_,i⟩
 . rintro⟨r1,r2⟩ s' ⟨hr,rfl,_⟩
   simp only at hr;subst hr;exact wpAny_pure h
theorem BO{Q:Bool->Shared->Prop}(t:eT s.heap k a)(h:Q false s):∀ ys:List Value,(∀ y∈ys,∃ b m,y=.ref b /\ eT s.heap m b)->wpAny (model prog w) A (searchCouldBeSeen (.ref a) ys) Q E s:=by
 intro ys hy;unfold searchCouldBeSeen;refine wpAny_bind ?_;refine wpAny_forIn_list _ (fun rest r s'=>r.1=none /\ s'=s /\ ∀ y∈rest,∃ b m,y=.ref b /\ eT s.heap m b) _ ?_ ?_ _ _ ⟨rfl,rfl,hy⟩
 . rintro x rest r s' ⟨hr,rfl,hy⟩
   obtain⟨b,m,rfl,tb⟩:=hy x List.mem_cons_self
   have hy':=fun y hy'=>hy y (List.mem_cons_of_mem _ hy')
   dsimp only;split
   . exact wpAny_pure ⟨rfl,rfl,hy'⟩
   . refine wpAny_bind (wpAny_eqIsQuiet_tuple (knd:=intKind prog w) t.key ?_);rw[if_neg (by decide)];refine wpAny_bind (wpAny_eqIsQuiet_tuple (knd:=intKind prog w) tb.key ?_);rw[if_neg (by decide)];refine wpAny_bind (rQ t ?_);rw[if_neg (by decide)];refine wpAny_bind (rQ tb ?_);rw[if_neg (by decide)];exact wpAny_pure ⟨rfl,rfl,hy'⟩
 . rintro⟨r1,r2⟩ s' ⟨hr,rfl,_⟩
   simp only at hr;subst hr;exact wpAny_pure h
theorem wA{Q:Bool->Shared->Prop}(t:eT s.heap k a)(h:Q true s):wpAny (model prog w) A (hashByValue 8 (.ref a)) Q E s:=by
 have hT:=t.typeIs;obtain⟨o,its,n,h1,h2,h3,h4⟩:=t;unfold hashByValue;refine wpAny_bind (wpAny_specialOf hT PySem.F.slot_tuple_hash.lookup ?_);refine wpAny_bind (wpAny_seqItems h1 h3 (wpAny_bind ?_))
 dsimp only[Option.getD]
 rw[<- Array.forIn_toList];refine wpAny_forIn_list _ (fun rest r s'=>r.1=none /\ s'=s /\ ∃ ns,IntsAre rest ns) _ ?_ ?_ _ _ ⟨rfl,rfl,_,h4⟩
 . rintro x rest r s' ⟨hr,rfl,ns,i⟩
   cases i with
   | cons m t i=>
     refine wpAny_bind (wpAny_pure ?_);rw[if_neg (by decide)];exact wpAny_pure ⟨rfl,rfl,_,i⟩
 . rintro⟨r1,r2⟩ s' ⟨hr,rfl,_⟩
   simp only at hr;subst hr;exact wpAny_pure h
theorem hash_eq(k:List Int):tupleKeyHash (intKind prog w) k=dO k:=rfl
theorem qJ{h:Heap}{es:List (Int×Value)}{qs:List (Int×List Int)}(r:cL h es qs):(fun i:Nat=>((es.toArray[i]?).map fun e:Int×Value=>e.1).getD 0)=fun i:Nat=>((qs[i]?).map fun e:Int×List Int=>e.1).getD 0:=by
 funext i
 have e:es.toArray[i]?=es[i]?:=by simp
 rw[e]
 rcases cL.at r i with⟨e1,e2⟩|⟨e,q,e1,e2,x⟩
 . rw[e1,e2];rfl
 . rw[e1,e2];simp[x.1]
theorem oN{S:Addr}{es es':List (Int×Value)}{ep:Nat}{t t':SetTable}{o:Obj}{Q:Unit->Shared->Prop}(ho:s.heap.get? S=some o)(hd:o.data=.set es.toArray ep t)(hz:es'.length<=4096)
  (h:∀ h',Heap.SameBut S s.heap h'->h'.get? S=some { o with data:=.set es'.toArray (ep+1) t' }->Q () { s with heap:=h' }):wpAny (model prog w) A (storeSet S es'.toArray t') Q E s:=by
 refine wpAny_storeSet_of ho hd (h _ (Heap.SameBut.update _ _ _) ?_) (by rw[List.size_toArray,sizeLine_eq];omega);have:=Heap.get?_update_self (Obj.putSet es'.toArray t') ho (by rw[putSet_of es'.toArray t' hd];rfl);rw[putSet_of es'.toArray t' hd]at this;exact this
theorem yL{S:Addr}{es:List (Int×Value)}{ep:Nat}{t:SetTable}{qs:List (Int×List Int)}{st':ST}{o:Obj}{Q:Bool->Shared->Prop}(hu:A.units<cLine)(ho:s.heap.get? S=some o)(hc:o.cls=.type "set")(hd:o.data=.set es.toArray ep t)(fit:t.fits es.length=true)(r:cL s.heap es qs)(ta:eT s.heap k a)(sim:mP (qs,t) k=some st')(hz:es.length<1000)
  (h:∀ b h' tk es' ep',Heap.SameBut S s.heap h'->h'.get? S=some { o with data:=.set es'.toArray ep' st'.2 }->st'.2.fits es'.length=true->cL s.heap es' st'.1->es'.length<=es.length+1->Q b { s with heap:=h',toks:=tk }):wpAny (model prog w) A (setAdd S (.ref a)) Q E s:=by
 unfold setAdd;refine wpAny_holding (wpAny_bind (wpAny_pyHash_tuple (knd:=intKind prog w) hu ta.key ?_));rw[hash_eq]
 have fit':t.fits es.toArray.size=true:=by rw[List.size_toArray];exact fit
 generalize hs1:({ s with toks:=s.toks+(k.length+1) }:Shared)=s1
 have hp1:s1.heap=s.heap:=by rw[<- hs1]
 have ho1:s1.heap.get? S=some o:=by rw[hp1];exact ho
 have ta1:eT s1.heap k a:=by rw[hp1];exact ta
 unfold setAddHashed setAddHashedIn;refine wpAny_holding (wpAny_bind (wpAny_setState_of ho1 hd fit' ?_));dsimp only;rw[show byScan (.ref a) es.toArray=false from rfl,if_neg Bool.false_ne_true];unfold setSearch setSearchFrom;have hl:=cL.len r
 have hlq:qs.length=es.length:=hl.symm
 unfold mP at sim
 dsimp only at sim
 cases gv:t.gaveWay with
 |true=>rw[gv,if_pos rfl]at sim;cases sim
 | false=>
   rw[gv,if_neg Bool.false_ne_true,<- qJ r]at sim;refine wpAny_bind (wpAny_bind (wpAny_setState_of ho1 hd fit' ?_));dsimp only;rw[gv,if_neg Bool.false_ne_true];show wpAny _ _ (match t.probe (fun i=>((es.toArray[i]?).map (·.1)).getD 0) (dO k) (t.probeStart (dO k))with|some met=>_|_=>_) _ _ _
   cases pr:t.probe (fun i=>((es.toArray[i]?).map (·.1)).getD 0) (dO k) (t.probeStart (dO k))with
   |none=>rw[pr]at sim;cases sim
   | some met=>
     rw[pr]at sim
     cases met with
     | empty j d=>
       cases d with
       |some _=>cases sim
       | none=>
         dsimp only at sim ⊢
         refine wpAny_pure ?_;dsimp only;refine wpAny_bind (wpAny_setState_of ho1 hd fit' ?_);dsimp only;rw[hlq]at sim
         have xr:ElR s.heap (dO k,Value.ref a) (dO k,k):=⟨rfl,a,rfl,ta⟩
         generalize hput:t.put j=tp at sim ⊢
         obtain⟨t1,p⟩:=tp
         dsimp only at sim ⊢
         have rN:cL s.heap (jK es p (dO k,Value.ref a)) (jK qs p (dO k,k)):=cL.ins r p xr
         have lN:(jK es p (dO k,Value.ref a)).length=es.length+1:=qU _ _ _
         generalize hN:jK es p (dO k,Value.ref a)=esN at rN lN;generalize hM:jK qs p (dO k,k)=qsN at rN sim
         have eN:SetTable.insertAt es.toArray p (dO k,Value.ref a)=esN.toArray:=by rw[<- hN];exact Array.toList_inj.mp (qI _ _ _)
         have hh:=cL.hash rN
         have go:wpAny (model prog w) A (do
           storeSet S (SetTable.insertAt es.toArray p (dO k,Value.ref a)) t1
           if t1.tooFull=true then do
            setRelay S (SetTable.grown (es.toArray.size+1))
            pure true
           else pure true) Q E s1:=by
          rw[eN];refine wpAny_bind (oN ho1 hd (by omega) fun h1 sb o1=>?_);rw[hp1]at sb
          cases tf:t1.tooFull with
          | false=>
            rw[tf,if_neg Bool.false_ne_true]at sim;rw[if_neg Bool.false_ne_true];split at sim
            . rename_i ft;cases sim;subst hs1;exact wpAny_pure (h true h1 _ esN _ sb o1 (by rw[lN];exact ft) rN (by omega))
            . cases sim
          | true=>
            rw[tf,if_pos rfl]at sim;rw[if_pos rfl];split at sim
            . rename_i t2 order rl;split at sim
              . rename_i hc';obtain⟨c1,c2,c3,c4⟩:=hc';cases sim;refine wpAny_bind ?_;unfold setRelay;refine wpAny_bind (wpAny_setState_of o1 rfl (by rw[List.size_toArray,lN];exact c3) ?_);dsimp only;rw[List.size_toArray,if_neg (by rw[sizeLine_eq];omega)]
                have ea:esN.toArray.map (·.1)=(qsN.map (·.1)).toArray:=by rw[<- hh];simp
                have ep':(order.filterMap fun i=>esN.toArray[i]?)=(j6 esN order.toList).toArray:=by
                 apply Array.toList_inj.mp;rw[Array.toList_filterMap];simp[j6]
                have lp:(j6 esN order.toList).length=es.length+1:=(cL.len (cL.pick rN order.toList)).trans c1
                rw[ea,rl];refine wpAny_bind ?_;show wpAny _ _ (if((order.filterMap fun i=>esN.toArray[i]?).size != esN.toArray.size)=true then _ else pure ((order.filterMap fun i=>esN.toArray[i]?),t2)) _ _ _;rw[ep',if_neg (by simp[lp,lN])];refine wpAny_pure ?_;dsimp only
                refine oN o1 rfl (by omega) fun h2 sb2 o2=>wpAny_pure ?_
                subst hs1;exact h true h2 _ (j6 esN order.toList) _ (sb.trans sb2) o2 (by rw[lp];exact c2) (cL.pick rN order.toList) (by omega)
              . cases sim
            . cases sim
         split
         . exact wpAny_bind (wA ta1 go)
         . exact wpAny_bind (wpAny_pure go)
     | candidate j i next=>
       dsimp only at sim ⊢
       split at sim
       . rename_i hk;cases sim;obtain⟨q,e2,ek⟩:=Option.map_eq_some_iff.mp hk
         rcases cL.at r i with⟨_,e3⟩|⟨e,q',e1,e3,x⟩
         . rw[e2]at e3;cases e3
         . rw[e2]at e3;cases e3;obtain⟨_,b,eb,tb⟩:=x;obtain⟨eh,ev⟩:=e;simp only at eb;subst eb;rw[ek]at tb
           have tb1:eT s1.heap k b:=by rw[hp1];exact tb
           have ei:es.toArray[i]?=some (eh,Value.ref b):=by simpa using e1
           have all:∀ y∈List.map (fun x=>x.snd) (Array.filter (fun x=>x.fst==dO k) es.toArray).toList,∃ b m,y=.ref b /\ eT s1.heap m b:=by
            intro y hy;obtain⟨e,he,rfl⟩:=List.mem_map.mp hy
            have he':e∈es:=by
             rw[Array.toList_filter]at he
             exact(List.mem_filter.mp he).1
            obtain⟨j',hj'⟩:=List.mem_iff_getElem?.mp he'
            rcases cL.at r j' with⟨f1,_⟩|⟨e',q',f1,f2,x⟩
            . rw[hj']at f1;cases f1
            . rw[hj']at f1;cases f1;obtain⟨_,b',eb',tb'⟩:=x
              exact⟨b',_,eb',by rw[hp1];exact tb'⟩
           have jM:Q false s1:=by
            subst hs1;exact h false s.heap _ es ep (Heap.SameBut.refl _ _) (by rw[ho];congr 1;rw[<- hd]) fit r (by omega)
           split
           . refine wpAny_bind (BO ta1 ?_ _ all);rw[if_neg Bool.false_ne_true,ei];dsimp only;refine wpAny_bind (wpAny_holding (wpAny_eqBool_tuple (knd:=intKind prog w) hu tb1.key ta1.key ?_));rw[decide_eq_true rfl];refine wpAny_bind (wpAny_setState_of ho1 hd fit' ?_);rw[if_pos (show(true&&true)=true from rfl)];exact wpAny_pure (wpAny_pure jM)
           . rw[ei];dsimp only;refine wpAny_bind (wpAny_holding (wpAny_eqBool_tuple (knd:=intKind prog w) hu tb1.key ta1.key ?_));rw[decide_eq_true rfl];refine wpAny_bind (wpAny_setState_of ho1 hd fit' ?_);rw[if_pos (show(true&&true)=true from rfl)];exact wpAny_pure (wpAny_pure jM)
       . cases sim
end
section
variable{prog:Program}{w:World}{A:Around}{R:Result->Shared->Prop}
theorem xw{S I l:Addr}{items:List Value}{ks:List (List Int)}(hu:A.units+1<cLine)(hh:A.handled=none)(hl:items.length=ks.length)(hz:ks.length<1000)(hSI:S≠I)(hlI:l≠I){h₀:Heap}{g0:Shared}{fin:ST}
  (hR:∀(h':Heap) (tk:Nat) (es:List (Int×Value)) (ep:Nat) (o:Obj),o.ExactSet->h'.get? S=some { o with data:=.set es.toArray ep fin.2 }->fin.2.fits es.length=true->es.length=fin.1.length->(∀ b o,b≠S->b≠I->h₀.get? b=some o->h'.get? b=some o)->R (.ok (.ret .none)) { g0 with heap:=h',toks:=tk }):
  ∀(n i:Nat) (h:Heap) (tk:Nat) (es:List (Int×Value)) (ep:Nat) (t:SetTable) (qs:List (Int×List Int)) (o:Obj),items.length - i=n->i<=items.length->h.IsListIter I l i->h.IsList l items.toArray->o.ExactSet->h.get? S=some { o with data:=.set es.toArray ep t }->t.fits es.length=true->cL h es qs->es.length<=i->mf h items ks->jk (qs,t) (ks.drop i)=some fin->(∀ b o,b≠S->b≠I->h₀.get? b=some o->h.get? b=some o) ->
    codeAny (model prog w) A (.builtin "set.update.loop" ⟨[.ref S,.ref I],[]⟩) R { g0 with heap:=h,toks:=tk }:=by
 intro n
 induction n with
 | zero=>
   intro i h tk es ep t qs o hn hi hit hil ex hS fit r le tu sim kp
   have e:ks.drop i=[]:=List.drop_eq_nil_of_le (by omega)
   rw[e]at sim;cases sim;refine codeAny_builtin PyProof.Rows.F.entry_set_update_loop ?_;rw[Around.under_plainId PyProof.Rows.F.plain_set_update_loop _];show wpAny _ A.in1 (pyNext (.ref I) >>= _) _ _ _;refine wpAny_bind (wpAny_pyNext_list_end (s:={ g0 with heap:=h,toks:=tk }) (A:=A.in1) hh hit hil (by simp;omega) fun h' he=>?_);exact wpAny_pure (hR h' tk es ep o ex (he _ _ hSI hS) fit (cL.len r) fun b o' h1 h2 e=>he b o' h2 (kp b o' h1 h2 e))
 | succ n ih=>
   intro i h tk es ep t qs o hn hi hit hil ex hS fit r le tu sim kp
   have hi':i<items.length:=by omega
   have hk':i<ks.length:=by omega
   have e:ks.drop i=ks[i] ::ks.drop (i+1):=List.drop_eq_getElem_cons hk'
   rw[e,jk]at sim;obtain⟨st,s1,s2⟩:=Option.bind_eq_some_iff.mp sim;obtain⟨a,ea,ta⟩:=tu.2 i items[i] ks[i] (List.getElem?_eq_getElem hi') (List.getElem?_eq_getElem hk');refine codeAny_builtin PyProof.Rows.F.entry_set_update_loop ?_;rw[Around.under_plainId PyProof.Rows.F.plain_set_update_loop _];show wpAny _ A.in1 (pyNext (.ref I) >>= _) _ _ _;refine wpAny_bind (wpAny_pyNext_list_item (s:={ g0 with heap:=h,toks:=tk }) (A:=A.in1) hit hil (x:=items[i]) (by simp[hi']) fun h1 hit1 sb1=>?_);rw[ea]
   have nI:∀ b o,o.cls=.type "tuple" -> h.get? b=some o->b≠I:=by
    rintro b o hc hb rfl
    obtain⟨oi,g1,g2,_⟩:=hit;rw[hb]at g1;cases g1;rw[hc]at g2;simp at g2
   have k1:∀ b o,o.cls=.type "tuple" -> h.get? b=some o->h1.get? b=some o:=fun b o hc hb=>(sb1.2 b (nI b o hc hb)).trans hb
   have hS1:=(sb1.2 S hSI).trans hS
   have ta1:eT h1 ks[i] a:=by obtain⟨o,its,n,f1,f2,f3⟩:=ta;exact⟨o,its,n,k1 _ _ f2 f1,f2,f3⟩
   show wpAny _ A.in1 (holding [Value.ref a] (setAdd S (.ref a)) >>= _) _ _ _;refine wpAny_bind (wpAny_holding (yL (s:={ g0 with heap:=h1,toks:=tk }) (A:=A.in1) hu hS1 ex.1 rfl fit (cL.keep r k1) ta1 s1 (by omega) fun b h2 tk2 es' ep' sb2 hS2 fit2 r2 le2=>?_))
   have nS:∀ b o,o.cls=.type "tuple" -> h1.get? b=some o->b≠S:=by
    rintro b o' hc hb rfl
    rw[hS1]at hb;cases hb;have:=ex.1;simp only at hc;rw[hc]at this;simp at this
   have k2:∀ b o,o.cls=.type "tuple" -> h1.get? b=some o->h2.get? b=some o:=fun b o hc hb=>(sb2.2 b (nS b o hc hb)).trans hb
   have lS:l≠S:=by
    rintro rfl
    obtain⟨ol,g1,g2,_⟩:=hil;rw[hS]at g1;cases g1;have:=ex.1;simp only at g2;rw[g2]at this;simp at this
   refine wpAny_pure ⟨plainId_quiet PyProof.Rows.F.plain_set_update_loop _,ih (i+1) h2 tk2 es' ep' st.2 st.1 o (by omega) (by omega) ?_ ?_ ex hS2 fit2 (cL.keep r2 k2) (by omega) (tu.keep fun b o hc hb=>k2 b o hc (k1 b o hc hb)) s2 fun b o' h1' h2' e=>(sb2.2 b h1').trans ((sb1.2 b h2').trans (kp b o' h1' h2' e))⟩
   . exact hit1.at fun o e=>(sb2.2 I (Ne.symm hSI)).trans e
   . exact(hil.at fun o e=>(sb1.2 l hlI).trans e).at fun o e=>(sb2.2 l lS).trans e
end
section
variable{prog:Program}{w:World}{A:Around}{E:Value->Shared->Prop}{s:Shared}
noncomputable abbrev qW(led:Bool):Obj:={ cls:=.type "set",dict:=none,data:=.set #[] 0 (.fresh 0 0 led) }
theorem xW{l:Addr}{items:List Value}{ks:List (List Int)}{n:Nat}{Q:Value->Shared->Prop}(hu:A.units+6<cLine)(hh:A.handled=none)(hl:s.heap.IsList l items.toArray)(tu:mf s.heap items ks)(hz:ks.length<1000)(sz:bX ks=some n)
  (h:∀(h':Heap) (tk:Nat) (es:List (Int×Value)) (ep:Nat) (t:SetTable) (o:Obj),o.ExactSet->h'.get? s.heap.objs.size=some { o with data:=.set es.toArray ep t }->t.fits es.length=true->es.length=n->(∀ b o,s.heap.get? b=some o->h'.get? b=some o)->Q (.ref s.heap.objs.size) { s with heap:=h',toks:=tk }):
  wpAny (model prog w) A (call (.type "set") [.ref l]) Q E s:=by
 have sim:∀ led:Bool,∃ fin,jk ([],.fresh 0 0 led) ks=some fin /\ fin.1.length=n:=by
  unfold bX at sz;split at sz
  . rename_i a b e1 e2;split at sz
    . rename_i e3;cases sz;intro led
      cases led with
      |true=>exact⟨a,e1,rfl⟩
      |false=>exact⟨b,e2,e3.symm⟩
    . cases sz
  . cases sz
 obtain⟨c,tl,mro⟩:=PySem.F.called_set.mro;have made:=PySem.F.called_set.made;have sub:=PySem.F.called_set.sub;have f1:=PySem.F.called_set.notType;have f2:=PySem.F.called_set.canCreate;have f3:=PySem.F.typeCall_set_1 (.ref l);refine wpAny_call (codeAny_of_tree (show wpAny _ _ (callAny (.type "set") _) _ _ _ from wpAny_pure ⟨Code.quiet_builtin _ (by decide +kernel),codeAny_builtin PySem.F.entry_type_call ?_⟩));rw[Around.under_plain (weight_type_call_type "set" [.ref l] []) rfl]
 repeat (any_goals (first|assumption|wp_step))
 refine codeAny_mono (code_set_new_1 (.ref l) (E:=E) (Q₁:=fun obj s₁=>∃ led:Bool,obj=.ref s.heap.objs.size /\ s₁={ s with heap:=s.heap.push (qW led) }) fun led=>⟨led,rfl,rfl⟩) fun r s₁ hr=>?_
 cases r with
 |error e=>exact hr
 | ok fl=>
   cases fl with
   | ret obj=>
     obtain⟨led,rfl,rfl⟩:=hr
     have hS:(s.heap.push (qW led)).get? s.heap.objs.size=some (qW led):=Heap.get?_push_size _ rfl
     have hT:Shared.TypeIs { s with heap:=s.heap.push (qW led) } (.ref s.heap.objs.size) "set":=⟨_,hS,rfl⟩
     have g1:=PySem.F.called_set.init.lookup;have g2:=PySem.F.called_set.init.bind (.ref s.heap.objs.size)
     repeat (any_goals (first|assumption|wp_step))
     refine codeAny_mono (codeAny_call_builtin (R:=wants (fun r s₂=>r=.none /\ Q (.ref s.heap.objs.size) s₂) E) PySem.F.called_set.init.plain PySem.F.entry_set_init (check_set_init_1 hT ?_)) fun r₂ s₂ hr₂=>?_
     . obtain⟨fin,sm,sn⟩:=sim led
       have hl1:(s.heap.push (qW led)).IsList l items.toArray:=hl.push _
       obtain⟨⟨oc,od,oda,os⟩,ol,o2,nl,o3⟩:=id hl1;simp only at o2 o3;subst o2 o3;have b1:=PySem.F.sub_list_set;have b2:=PySem.F.sub_list_frozenset
       have b3:(Value.type "list" == Value.type "dict")=false:=by decide
       unfold Builtin.«set.__init__» noKeywords Builtin.Frozenset.updateFrom;generalize hPI:pyIter=PI
       wp_walk
       subst hPI;refine wpAny_pyIter_list hl1 (wpAny_bind (wpAny_runValue ?_))
       have lt:l<s.heap.objs.size:=by obtain⟨_,e,_⟩:=hl;exact Heap.lt_size e
       have zI:(s.heap.push (qW led)).objs.size=s.heap.objs.size+1:=Heap.size_push _ _
       refine xw (A:=A.in1.in1) (l:=l) (items:=items) (ks:=ks) (h₀:=s.heap) (g0:=s) (fin:=fin) (by show A.units+1+1+1<cLine;omega) hh tu.1 hz (by rw[zI];exact Nat.ne_of_lt (Nat.lt_succ_self _)) (by rw[zI];exact Nat.ne_of_lt (Nat.lt_succ_of_lt lt)) (fun h' tk es ep o ex hS' fit le kp=>?_) items.length 0 _ _ [] 0 (.fresh 0 0 led) [] (qW led) (by omega) (Nat.zero_le _) ⟨_,Heap.get?_push_size (s.heap.push (qW led)) (o:={ cls:=.type "list_iterator",data:=.fields #[.ref l,.int 0 0] }) rfl,rfl,rfl⟩ (hl1.push _) ⟨rfl,rfl,rfl⟩ (Heap.get?_push_of_some _ hS) rfl .nil (Nat.zero_le _) (tu.keep fun b o _ e=>Heap.get?_push_of_some _ (Heap.get?_push_of_some _ e)) sm fun b o _ _ e=>Heap.get?_push_of_some _ (Heap.get?_push_of_some _ e)
       show wpAny _ _ _ _ _ _;refine wpAny_pure (show wpAny _ _ (ret Value.none) _ _ _ from wpAny_pure ⟨rfl,h h' tk es ep fin.2 o ex hS' fit (le.trans sn) fun b ob e=>kp b ob ?_ ?_ e⟩)
       . exact Nat.ne_of_lt (Heap.lt_size e)
       . rw[zI];exact Nat.ne_of_lt (Nat.lt_succ_of_lt (Heap.lt_size e))
     . cases r₂ with
       |error e=>exact hr₂
       | ok fl₂=>
         cases fl₂ with
         | ret r=>
           obtain⟨rfl,q⟩:=hr₂
           repeat (any_goals (first|assumption|wp_step))
         |_=>exact hr₂.elim
   |_=>exact hr.elim
end
end HT
namespace L2
open PySem PySem.Spec PyProof.Rows
section
variable{X:Cx}
noncomputable def pE(K:PySem.W.Frag)(A:Around):List V->Hp->VK->Prop:=fun xs H Q=>∃ a vs ks n,xs=[.ref a] /\ SqL K H a vs /\ Ae K H vs ks /\ ks.length<1000 /\ L2.P.bX ks=some n /\ A.handled=none /\ A.units+6<cLine /\ Q (.int (n:Nat)) H
theorem vL{x y:Str}{p1 p2 q1 q2:Pos}{e:Expr}{ta:TE}(g1:Gl X x)(m1:X.mg x=none)(v1:bootBuiltins x=some (.builtin "len"))(g2:Gl X y)(m2:X.mg y=none)(v2:bootBuiltins y=some (.type "set"))(he:PE X e ta)
  (n1:x ≠ "__name__") (d1:(x==("__debug__":Str))=false) (n2:y ≠ "__name__") (d2:(y==("__debug__":Str))=false)
  (w1:starEach [.Call (.Name y q1) [e] [] q2] X.env=(false,eval (.Call (.Name y q1) [e] [] q2) X.env) ::starEach [] X.env) (w2:starEach [e] X.env=(false,eval e X.env) ::starEach [] X.env):
  PE X (.Call (.Name x p1) [.Call (.Name y q1) [e] [] q2] [] p2) (tCB (pE X.K X.A) (eA ta iC)):=by
 intro pins s σ H Q I h;refine wpAny_Call_Name_kw (i3 I g1 m1 v1 ?_ n1 d1);refine PyProof.Rows.callWith_builtin1 ?_ w1 rfl;rw[w1];show wpAny _ _ (spliced ((false,eval (.Call (.Name y q1) [e] [] q2) X.env) ::backTo p2 (starEach [] X.env))) _ _ s;refine Calls.spliced_cons ?_;refine wpAny_Call_Name_kw (i3 I g2 m2 v2 ?_ n2 d2);refine PyProof.Rows.callWith_type1 ?_ w2 rfl;rw[w2];show wpAny _ _ (spliced ((false,eval e X.env) ::backTo q2 (starEach [] X.env))) _ _ s;refine Calls.spliced_cons (thn (he pins s σ H _ I h) fun u1 s1 ⟨x1,H1,I1,r1,z1⟩=>Calls.spliced_nil ?_);obtain⟨a,vs,ks,n,ex,ha,hk,hz,sz,hh,hu,q⟩:=z1
 obtain rfl:x1=.ref a:=by simpa using ex
 obtain rfl:u1=Value.ref a:=r1
 obtain⟨its,rv,pl,hz'⟩:=I1.list ha;have hl:=rv.length
 refine HT.xW (ks:=ks) hu hh pl.isList ⟨by rw[<- hl];exact hk.1,fun j v k e1 e2=>?_⟩ hz sz fun h' tk es ep t o ex' at' fit le kp=>Calls.spliced_nil ?_
 . have hj:j<vs.length:=by rw[hl];exact(List.getElem?_eq_some_iff.mp e1).1
   obtain⟨w',e3,rw'⟩:=rv.get (List.getElem?_eq_getElem hj);rw[e1]at e3;cases e3;obtain⟨b,eb,sq⟩:=hk.2 j _ k (List.getElem?_eq_getElem hj) e2;rw[eb]at rw'
   cases rw'
   exact⟨b,rfl,I1.tupI sq⟩
 . have I2:Inv X pins σ H1 { s1 with heap:=h',toks:=tk }:=I1.Af kp fun b=>.inl rfl
   have hn:n<=1000:=by
    have:∀{ks:List (List Int)} {m:Nat},L2.P.bX ks=some m->m<=ks.length:=L2.P.tj
    have:=this sz;omega
   refine call_len_set at' ⟨ex'.1,ex'.2.1,ex'.2.2⟩ rfl (by rw[List.size_toArray];exact fit) (by rw[List.size_toArray,le];omega) ?_
   refine⟨.int n,H1,I2.tok _,?_,q⟩
   rw[List.size_toArray,le]
   exact⟨_,rfl⟩
end
end L2
namespace L2.E
open PySem PySem.Spec PyProof.Rows L2
theorem boot_set:bootBuiltins "set" = some (.type "set"):=by decide +kernel
theorem vN{X:Cx}{p1 p2 q1 q2:Pos}{e:Expr}{ta:TE}(g1:Gl X "len")(m1:X.mg "len" = none)(g2:Gl X "set")(m2:X.mg "set" = none)(he:QE X e ta)
  (w1:starEach [.Call (.Name "set" q1) [e] [] q2] X.env=(false,eval (.Call (.Name "set" q1) [e] [] q2) X.env) ::starEach [] X.env:=by rfl) (w2:starEach [e] X.env=(false,eval e X.env) ::starEach [] X.env:=by rfl):
  QE X (.Call (.Name "len" p1) [.Call (.Name "set" q1) [e] [] q2] [] p2) (tCB (pE X.K X.A) (eA ta iC)):=⟨vL g1 m1 L2.E.boot_len g2 m2 boot_set he.out (by decide) (by decide) (by decide) (by decide) w1 w2⟩
theorem BL{A:Around}{k:Nat}(hr:fF k A):A.units+6<cLine:=by have:=hr.un;omega
end L2.E
namespace L2.P
open PySem PySem.Spec PyProof.Rows L2 L2.E
section
variable{K:PySem.W.Frag}{S H:Hp}
theorem vc{A:Around}(hh:A.handled=none)(hu:A.units+6<cLine):JU K (pE K A) kj:=by
 intro S H x v rr Q I hx e k
 cases x with
 | lst xs=>
   unfold kj at e;obtain⟨ks,e1,e2⟩:=Option.bind_eq_some_iff.mp e;split at e2
   . rename_i hc;obtain⟨n,e3,e4⟩:=Option.map_eq_some_iff.mp e2;cases e4;obtain⟨p,vs,rfl,hq,r⟩:=dE hx
     have hl:vs.length=ks.length:=by rw[r.length,kZ e1]
     refine⟨p,vs,ks,n,rfl,hq,⟨hl,fun j v k h1 h2=>?_⟩,hc,e3,hh,hu,k _ S H (aI.refl I) (by show Rep K S _ _;unfold Rep;rfl)⟩
     obtain⟨x,h3,h4⟩:=mJ e1 h2;obtain⟨u,h5,h6⟩:=r.get h3;rw[h1]at h5;cases h5;obtain⟨b,rfl,h7,_⟩:=nK h4 h6;rw[xQ]at h7
     exact⟨b,rfl,ay.tup I h7⟩
   . cases e2
 |_=>cases e
end
end L2.P
namespace PG
noncomputable def E1(n:Int):Bool:=(decide (0<=n)&&decide (n<55296))||(decide (57343<n)&&decide (n<=1114111))
noncomputable def cell(ns:List Int)(k:Int):Int:=if ns=[]then 0 else ns.getD (k%(ns.length:Int)).toNat 0
noncomputable def mix(ns:List Int)(k:Int):Int:=
 let a:=(cell ns k+104729*(k+1))%4294967291
 let b:=a*48271%4294967279
 (b/64*69621+b)%4294967231
theorem Cc(ns:List Int)(k:Int):0<=mix ns k /\ mix ns k<4294967231:=by unfold mix;dsimp only;omega
end PG
namespace L2.P
open PySem
theorem rH{i:Nat}{mb:af->OS}{x:PV}{xs:List PV}{ρ ρ':af}(h:mb (ρ.set i (some (.sh x)))=.nx ρ'):fM i mb (x ::xs) ρ=fM i mb xs ρ':=by rw[mW,h];rfl
theorem B5(n:Nat):ixP (n+1) (-1)=some n:=by
 unfold ixP;rw[if_neg (by decide),if_pos (by omega)]
 congr 1
 omega
theorem nN(init:List OV)(x:OV)(r:List OV)(π:List Stp):(OV.ol (init++x ::r)).get (.ix init.length ::π)=x.get π:=by
 show((init++x ::r)[init.length]?).bind _=_
 simp
theorem AF(init:List OV)(x y:OV)(r:List OV)(π:List Stp):(OV.ol (init++x ::r)).put (.ix init.length ::π) y=.ol (init++x.put π y ::r):=by
 have h:(OV.ol (init++x ::r)).at1 (.ix init.length)=some x:=by show(init++x ::r)[init.length]?=_;simp
 have e:(OV.ol (init++x ::r)).put (.ix init.length ::π) y=(match (OV.ol (init++x ::r)).at1 (.ix init.length)with
  |some t'=>(OV.ol (init++x ::r)).xS (.ix init.length) (t'.put π y)
  |none=>OV.ol (init++x ::r)):=rfl
 rw[e,h];show OV.ol ((init++x ::r).set init.length (x.put π y))=_;simp
@[simp] theorem get_nil(t:OV):t.get []=some t:=by cases t<;>rfl
@[simp] theorem g8(t u:OV):t.put [] u=u:=by cases t<;>rfl
theorem qO{ρ:af}{i:Nat}{io:Bool}{init:List OV}{x:OV}(h:ρ[i]?=some (some (.tr io (.ol (init++[x]))))):pIx i aZ (mUn jO (mC (.int 1))) ρ=some [.ix init.length]:=by
 unfold pIx cI;rw[h]
 have e:(mUn jO (mC (.int 1))) ρ=.ok (.sh (.int (-1))):=rfl
 simp[slT,aZ,e,B5]
theorem qV{ρ:af}{i:Nat}{io:Bool}{ts:List OV}{md:af->OD}{x:OV}(h:ρ[i]?=some (some (.tr io (.ol ts))))(hd:md ρ=.ok x)(hl:ts.length<lim):
  dM i aZ md ρ=.nx (ρ.set i (some (.tr io (.ol (ts++[x]))))):=by
 unfold dM tJ aZ;rw[h];simp only[get_nil];rw[hd];simp only[hl,if_true,g8]
theorem jW{ρ:af}{i:Nat}{io:Bool}{ts:List OV}(h:ρ[i]?=some (some (.tr io (.ol ts)))):bP i aZ ρ=.ok (!ts.isEmpty):=by
 unfold bP subAt cI aZ;rw[h];simp[slT]
noncomputable abbrev mQ(i:Nat):MP:=pIx i aZ (mUn jO (mC (.int 1)))
section
variable{ρ:af}{i:Nat}{io:Bool}{init us:List OV}{x:PV}
theorem yV(h:ρ[i]?=some (some (.tr io (.ol (init++[.ol [.sh x,.ol us]]))))):pIx i (mQ i) (mC (.int 0)) ρ=some [.ix init.length,.ix 0]:=by
 have h1:=qO h
 have ht:cI i ρ=some (.ol (init++[.ol [.sh x,.ol us]])):=by unfold cI;rw[h];rfl
 unfold pIx;rw[ht];simp only[mQ,h1,nN init _ [] [],get_nil];rfl
theorem uK(h:ρ[i]?=some (some (.tr io (.ol (init++[.ol [.sh x,.ol us]]))))):pIx i (mQ i) (mC (.int 1)) ρ=some [.ix init.length,.ix 1]:=by
 have h1:=qO h
 have ht:cI i ρ=some (.ol (init++[.ol [.sh x,.ol us]])):=by unfold cI;rw[h];rfl
 unfold pIx;rw[ht];simp only[mQ,h1,nN init _ [] [],get_nil];rfl
theorem sR(h:ρ[i]?=some (some (.tr io (.ol (init++[.ol [.sh x,.ol us]]))))):gF i (pIx i (mQ i) (mC (.int 0))) ρ=.ok (.sh x):=by
 have ht:cI i ρ=some (.ol (init++[.ol [.sh x,.ol us]])):=by unfold cI;rw[h];rfl
 unfold gF subAt;rw[ht];simp only[yV h,nN init _ [] [.ix 0]];rfl
theorem vB(h:ρ[i]?=some (some (.tr io (.ol (init++[.ol [.sh x,.ol us]]))))):lK i (pIx i (mQ i) (mC (.int 1))) ρ=.ok (.sh (.int us.length)):=by
 have ht:cI i ρ=some (.ol (init++[.ol [.sh x,.ol us]])):=by unfold cI;rw[h];rfl
 unfold lK subAt;rw[ht];simp only[uK h,nN init _ [] [.ix 1]];rfl
theorem ko{md:af->OD}{y:OV}(h:ρ[i]?=some (some (.tr io (.ol (init++[.ol [.sh x,.ol us]])))))(hd:md ρ=.ok y)(hl:us.length<lim):
  dM i (pIx i (mQ i) (mC (.int 1))) md ρ=.nx (ρ.set i (some (.tr io (.ol (init++[.ol [.sh x,.ol (us++[y])]]))))):=by
 unfold dM tJ;rw[h]
 have hg:(OV.ol [.sh x,.ol us]).get [.ix 1]=some (.ol us):=rfl
 have hp:∀ u,(OV.ol [.sh x,.ol us]).put [.ix 1] u=.ol [.sh x,u]:=fun u=>rfl
 simp only[uK h,nN init _ [] [.ix 1],hg];rw[hd];simp only[hl,if_true,AF init _ _ [] [.ix 1],hp]
end
theorem wD{ρ:af}{i:Nat}{io:Bool}{ts:List OV}{x:OV}(h:ρ[i]?=some (some (.tr io (.ol (ts++[x]))))):i9 i aZ ρ=.ok (ρ.set i (some (.tr io (.ol ts)))) (slO x):=by
 unfold i9 aZ;rw[h];simp
@[simp] theorem Ao(s:String):(Str.ofString s).cps.all (·<0x110000)=true:=by
  rw[Str.ofString_eq_toList,List.all_toArray,List.all_map];rw[List.all_eq_true];intro c _;have:=c.valid;simp only[Function.comp,decide_eq_true_eq]
  rcases this with h|⟨_,h⟩
  . exact Nat.lt_of_lt_of_le h (by decide)
  . exact h
theorem toNat_inj:∀(xs ys:List Char),xs.map Char.toNat=ys.map Char.toNat->xs=ys
 |[],[],_=>rfl
 |[],_ ::_,h=>by cases h
 |_ ::_,[],h=>by cases h
 | x ::xs,y ::ys,h=>by
   rw[List.map_cons,List.map_cons]at h
   injection h with h1 h2
   have:x=y:=Char.ext (UInt32.toNat_inj.mp h1)
   rw[this,toNat_inj xs ys h2]
theorem pP(a b:String):Str.ofString a=Str.ofString b↔a=b:=by
 constructor
 . intro h;rw[Str.ofString_eq_toList,Str.ofString_eq_toList]at h
   injection h with h
   have h2:a.toList.map Char.toNat=b.toList.map Char.toNat:=by
    have:=congrArg Array.toList h
    simpa using this
   exact String.toList_inj.mp (toNat_inj _ _ h2)
 . intro h;rw[h]
@[simp] theorem za(a b:String):(Str.ofString a==Str.ofString b)=decide (a=b):=by
  by_cases h:a=b
  . subst h;simp
  . have:Str.ofString a≠Str.ofString b:=fun z=>h ((pP a b).mp z)
    simp[h,this]
@[simp] theorem Ec(a b:String):dD (.str (Str.ofString a)) (.str (Str.ofString b))=decide (a=b):=by simp[dD]
@[simp] theorem Fe(a:String)(n:Nat):gM (.str (Str.ofString a)) n=true:=by simp[gM]
end L2.P
namespace PJ
open PySem L2.P
inductive JV where
 |lf (x:PV)|row (vs:List JV)|fld (ns:List (List Int)) (vs:List JV)
noncomputable def mem(n:List Int)(x:PV):PV:=.tup [.tup (n.map .int),x]
mutual
noncomputable def enc:JV->PV
 |.lf x=>x
 |.row vs=>.tup [.str "row",.tup (aH vs)]
 |.fld ns vs=>.tup [.str "fields",.tup (List.zipWith mem ns (aH vs))]
noncomputable def aH:List JV->List PV
 |[]=>[]
 |v ::vs=>enc v ::aH vs
end
mutual
noncomputable def size:JV->Nat
 |.lf _=>1
 |.row vs=>1+aN vs
 |.fld _ vs=>1+aN vs
noncomputable def aN:List JV->Nat
 |[]=>0
 |v ::vs=>size v+aN vs
end
mutual
noncomputable def depth:JV->Nat
 |.lf _=>0
 |.row vs=>1+iW vs
 |.fld _ vs=>1+iW vs
noncomputable def iW:List JV->Nat
 |[]=>0
 |v ::vs=>max (depth v) (iW vs)
end
theorem eI(vs:List JV):aH vs=vs.map enc:=by
 induction vs with
 |nil=>rfl
 |cons v vs ih=>show enc v ::aH vs=_;rw[ih];rfl
theorem bL(vs:List JV):(aH vs).length=vs.length:=by rw[eI];simp
theorem fN(vs ws:List JV):aN (vs++ws)=aN vs+aN ws:=by
 induction vs with
 |nil=>simp[aN]
 |cons v vs ih=>show size v+aN (vs++ws)=size v+aN vs+aN ws;rw[ih];omega
theorem size_pos(v:JV):1<=size v:=by cases v<;>simp[size]
mutual
theorem rB:∀ v:JV,depth v<=size v
 |.lf _=>by simp[depth,size]
 |.row vs=>by have:=kQ vs;simp[depth,size];omega
 |.fld _ vs=>by have:=kQ vs;simp[depth,size];omega
theorem kQ:∀ vs:List JV,iW vs<=aN vs
 |[]=>by simp[iW,aN]
 |v ::vs=>by have:=rB v;have:=kQ vs;simp[iW,aN];omega
end
theorem dc(vs:List JV):vs.length<=aN vs:=by
 induction vs with
 |nil=>simp[aN]
 |cons v vs ih=>have:=size_pos v;simp[aN];omega
theorem g5{vs:List JV}{v:JV}(h:v∈vs):depth v<=iW vs:=by
 induction vs with
 |nil=>cases h
 | cons w vs ih=>
   simp only[iW]
   rcases List.mem_cons.mp h with z|z
   . subst z;omega
   . have:=ih z;omega
noncomputable def named(n:Int):List Int:=if n<6 then([[],[97],[97,98],[126,47],[48],[233]]:List (List Int)).getD n.toNat []else[98+n]
noncomputable def small(n:Int):PV:=
 if n%6<3 then([.non,.bl true,.bl false]:List PV).getD (n%6).toNat .non
 else if n%6=3 then .tup [.str "text",.tup ((([[97],[34,10],[],[233,128512]]:List (List Int)).getD (n/6%4).toNat []).map .int)]
 else if n%6=4 then .tup [.str "number",.int (1+n/6%9),.int (n/6/9%5 - 2)]
 else if n/6%2=0 then .tup [.str "number",.int 0,.int 0]else .tup [.str "number",.int (-10*(n/6) - 3),.int 0]
noncomputable def mY(x:PV):Prop:=x=.non \/ (∃ b,x=.bl b) \/ (∃ n p:Int,x=.tup [.str "number",.int n,.int p] /\ (n%10≠0 \/ (n=0 /\ p=0))) \/ ∃ cs:List Int,x=.tup [.str "text",.tup (cs.map .int)] /\ cs.all PG.E1=true
theorem qp(n:Int):mY (small n):=by
 unfold small
 by_cases h1:n%6<3
 . have hh:n%6=0 \/ n%6=1 \/ n%6=2:=by omega
   simp only[h1,if_true]
   rcases hh with h|h|h<;>rw[h]
   . exact .inl rfl
   . exact .inr (.inl ⟨true,rfl⟩)
   . exact .inr (.inl ⟨false,rfl⟩)
 . by_cases h2:n%6=3
   . simp only[h2];refine .inr (.inr (.inr ⟨_,rfl,?_⟩))
     have hh:n/6%4=0 \/ n/6%4=1 \/ n/6%4=2 \/ n/6%4=3:=by omega
     rcases hh with h|h|h|h<;>rw[h]<;>decide
   . by_cases h3:n%6=4
     . simp only[h3];exact .inr (.inr (.inl ⟨_,_,rfl,.inl (by omega)⟩))
     . simp only[h1,h2,h3,if_false]
       by_cases h4:n/6%2=0
       . rw[if_pos h4];exact .inr (.inr (.inl ⟨_,_,rfl,.inr ⟨rfl,rfl⟩⟩))
       . rw[if_neg h4];exact .inr (.inr (.inl ⟨_,_,rfl,.inl (by omega)⟩))
abbrev Fr:=Bool×List JV
noncomputable def names(k:Nat):List (List Int):=(List.range k).map fun j:Nat=>named (j:Int)
theorem sJ(k:Nat):names (k+1)=names k++[named (k:Int)]:=by simp[names,List.range_succ]
theorem jm(k:Nat):(names k).length=k:=by simp[names]
noncomputable def items(f:Fr):List PV:=if f.1 then List.zipWith mem (names f.2.length) (aH f.2)else aH f.2
noncomputable def kindS(b:Bool):PV:=if b then .str "fields" else .str "row"
noncomputable def gy(f:Fr):OV:=.ol [.sh (kindS f.1),.ol ((items f).map .sh)]
noncomputable def ef(f:Fr):JV:=if f.1 then .fld (names f.2.length) f.2 else .row f.2
theorem wo(f:Fr):enc (ef f)=.tup [kindS f.1,.tup (items f)]:=by
 obtain⟨b,vs⟩:=f
 cases b<;>simp[ef,enc,kindS,items]
theorem sQ(b:Bool)(vs:List JV)(v:JV):items (b,vs++[v])=items (b,vs)++[if b then mem (named (vs.length:Int)) (enc v)else enc v]:=by
 cases b
 . simp[items,eI]
 . simp only[items,if_true,List.length_append,List.length_cons,List.length_nil,sJ,eI,List.map_append,List.map_cons,List.map_nil];rw[List.zipWith_append (by rw[jm];simp)];rfl
theorem uP(f:Fr):(items f).length=f.2.length:=by
 obtain⟨b,vs⟩:=f
 cases b<;>simp[items,bL,jm]
noncomputable def total(fs:List Fr):Nat:=(fs.map fun f=>1+aN f.2).sum
theorem ee(fs:List Fr)(f:Fr):total (fs++[f])=total fs+(1+aN f.2):=by simp[total]
theorem o8(f:Fr):size (ef f)=1+aN f.2:=by
 obtain⟨b,vs⟩:=f
 cases b<;>simp[ef,size]
theorem qZ(b:Bool):eU (kindS b) (.str "row")=some (.sh (.bl (!b))):=by
 cases b<;>simp[kindS,eU]
mutual
noncomputable def Bt:JV->Prop
 |.lf x=>∃ n:Int,0<=n /\ x=small n
 |.row vs=>Bts vs
 |.fld ns vs=>ns=names vs.length /\ Bts vs
noncomputable def Bts:List JV->Prop
 |[]=>True
 |v ::vs=>Bt v /\ Bts vs
end
theorem tD(vs ws:List JV):Bts (vs++ws)↔Bts vs /\ Bts ws:=by
 induction vs with
 |nil=>simp[Bts]
 |cons v vs ih=>show Bt v /\ Bts (vs++ws)↔(Bt v /\ Bts vs) /\ Bts ws;rw[ih];exact and_assoc.symm
theorem rE{vs:List JV}{v:JV}(h:Bts vs)(hv:Bt v):Bts (vs++[v]):=(tD vs [v]).mpr ⟨h,hv,trivial⟩
theorem t4(f:Fr)(h:Bts f.2):Bt (ef f):=by
 obtain⟨b,vs⟩:=f;cases b
 . exact h
 . exact⟨rfl,h⟩
structure n9(k:Nat)(fs:List Fr)(vh:PV):Prop where
 ok:∀ f∈fs,Bts f.2
 tot:total fs<=k
 fin:fs=[]->0<k->∃ v,vh=enc v /\ Bt v /\ size v<=k
theorem j9{α:Type}(l:List α)(h:l≠[]):∃ i x,l=i++[x]:=⟨l.dropLast,l.getLast h,(List.dropLast_concat_getLast h).symm⟩
theorem om(fs:List Fr):fs.length<=total fs:=by
 induction fs with
 |nil=>simp[total]
 | cons f fs ih=>
   have:total (f ::fs)=(1+aN f.2)+total fs:=by simp[total]
   rw[this,List.length_cons];omega
noncomputable def lk:List (List Int)->List JV->List Int->JV
 |n ::ns,v ::vs,k=>if n=k then v else lk ns vs k
 |_,_,_=>.lf .non
noncomputable abbrev cS{α:Type}(j:Nat)(l:List α):List α:=l.drop j++l.take j
mutual
noncomputable def turn:JV->Int->JV
 |.lf x,_=>.lf x
 |.row vs,m=>.row (turns vs (m/3))
 |.fld ns vs,m=>.fld (cS (m%((vs.length:Int)+1)).toNat ns) (cS (m%((vs.length:Int)+1)).toNat (turns vs (m/5)))
noncomputable def turns:List JV->Int->List JV
 |[],_=>[]
 |v ::vs,m=>turn v m ::turns vs m
end
noncomputable def lf7(m:Int):PV:=if m%2=0 then .tup [.str "number",.int 7777,.int 0]else .tup [.str "text",.tup [.int 7777]]
mutual
noncomputable def chg:JV->Int->JV
 |.lf _,m=>.lf (lf7 m)
 |.row vs,m=>if vs.length=0 then .lf (lf7 m)else if m/7%4=0 then .row (vs.eraseIdx (m%(vs.length:Int)).toNat)else .row (dN vs (m%(vs.length:Int)).toNat (m/11))
 | .fld ns vs,m=>if vs.length=0 then .lf (lf7 m)else if m/7%4=0 then .fld (ns.eraseIdx (m%(vs.length:Int)).toNat) (vs.eraseIdx (m%(vs.length:Int)).toNat)
   else if m/7%4=1 then .fld (ns.set (m%(vs.length:Int)).toNat (ns.getD (m%(vs.length:Int)).toNat []++[7777])) vs else .fld ns (dN vs (m%(vs.length:Int)).toNat (m/11))
noncomputable def dN:List JV->Nat->Int->List JV
 |[],_,_=>[]
 |v ::vs,0,m=>chg v m ::vs
 |v ::vs,j+1,m=>v ::dN vs j m
end
mutual
noncomputable def can:JV->JV
 |.lf x=>.lf x
 |.row vs=>.row (iS vs)
 |.fld ns vs=>.fld (eW ns) ((eW ns).map (lk ns (iS vs)))
noncomputable def iS:List JV->List JV
 |[]=>[]
 |v ::vs=>can v ::iS vs
end
mutual
noncomputable def Cl:JV->Prop
 |.lf x=>mY x
 |.row vs=>Cls vs
 |.fld ns vs=>ns.length=vs.length /\ ns.Nodup /\ Cls vs
noncomputable def Cls:List JV->Prop
 |[]=>True
 |v ::vs=>Cl v /\ Cls vs
end
theorem dm(vs:List JV):iS vs=vs.map can:=by
 induction vs with
 |nil=>rfl
 |cons v vs ih=>show can v ::iS vs=_;rw[ih];rfl
theorem lC(vs:List JV)(m:Int):turns vs m=vs.map fun v=>turn v m:=by
 induction vs with
 |nil=>rfl
 |cons v vs ih=>show turn v m ::turns vs m=_;rw[ih];rfl
theorem cN(vs:List JV):Cls vs↔∀ v∈vs,Cl v:=by
 induction vs with
 |nil=>simp[Cls]
 |cons v vs ih=>simp only[Cls,ih,List.mem_cons,forall_eq_or_imp]
theorem b0{vs:List JV}{v:JV}(h:v∈vs):size v<=aN vs:=by
 induction vs with
 |nil=>cases h
 | cons w vs ih=>
   simp only[aN]
   rcases List.mem_cons.mp h with z|z
   . subst z;omega
   . have:=ih z;omega
noncomputable def agr:JV->JV->Bool
 |.lf x,.lf y=>dD x y
 |.row vs,.row ws=>decide (vs.length=ws.length)
 |.fld ns _,.fld ms _=>decide (eW ns=eW ms)
 |_,_=>false
noncomputable def prs:JV->JV->List (JV×JV)
 |.row vs,.row ws=>vs.zip ws
 |.fld ns vs,.fld ms ws=>(ns.zip vs).map fun p=>(p.2,lk ms ws p.1)
 |_,_=>[]
noncomputable def al:Nat->JV->JV->Bool
 |0,_,_=>true
 |n+1,x,y=>agr x y&&(prs x y).all fun p=>al n p.1 p.2
theorem qo{x y:JV}:∀ p∈prs x y,size p.1<size x:=by
 intro p hp
 cases x with
 |lf _=>cases y<;>simp[prs]at hp
 | row vs=>
   cases y with
   | row ws=>
     have:p.1∈vs:=List.of_mem_zip (by simpa [prs]using hp) |>.1
     have:=b0 this;simp only[size];omega
   |_=>simp[prs]at hp
 | fld ns vs=>
   cases y with
   | fld ms ws=>
     obtain⟨q,hq,rfl⟩:=List.mem_map.mp (show p∈(ns.zip vs).map _ from hp);have:=b0 (List.of_mem_zip (show(q.1,q.2)∈ns.zip vs from hq)).2;simp only[size];omega
   |_=>simp[prs]at hp
theorem uE:∀(n m:Nat) (x y:JV),size x<=n->size x<=m->al n x y=al m x y:=by
 intro n
 induction n with
 |zero=>intro m x y h;have:=size_pos x;omega
 | succ n ih=>
   intro m x y h1 h2
   obtain⟨m,rfl⟩:∃ k,m=k+1:=⟨m - 1,by have:=size_pos x;omega⟩
   rw[al,al]
   congr 1
   rw[Bool.eq_iff_iff,List.all_eq_true,List.all_eq_true]
   constructor<;>intro h p hp<;>have hs:=qo p hp
   . rw[<- ih m p.1 p.2 (by omega) (by omega)];exact h p hp
   . rw[ih m p.1 p.2 (by omega) (by omega)];exact h p hp
theorem nR:∀{ns:List (List Int)} {vs:List JV} {j:Nat} {n:List Int} {v:JV},ns.Nodup->ns[j]?=some n->vs[j]?=some v->lk ns vs n=v
 |[],_,_,_,_,_,h,_=>by simp at h
 |_ ::_,[],_,_,_,_,_,h=>by simp at h
 |a ::ns,b ::vs,0,n,v,_,h1,h2=>by simp at h1 h2;subst h1 h2;simp[lk]
 | a ::ns,b ::vs,j+1,n,v,nd,h1,h2=>by
   rw[List.nodup_cons]at nd
   have h1':ns[j]?=some n:=by simpa using h1
   have:a≠n:=fun z=>nd.1 (by rw[z];exact List.mem_of_getElem? h1')
   rw[lk,if_neg this];exact nR nd.2 h1' (by simpa using h2)
theorem sW(f:JV->JV):∀{ns:List (List Int)} {vs:List JV} {n:List Int},ns.length=vs.length->n∈ns->lk ns (vs.map f) n=f (lk ns vs n)
 |[],_,_,_,h=>by cases h
 |a ::ns,[],_,h,_=>by simp at h
 | a ::ns,v ::vs,n,hl,h=>by
   rw[List.map_cons,lk,lk];split
   . rfl
   . rename_i hn;exact sW f (by simpa using hl) ((List.mem_cons.mp h).resolve_left fun z=>hn z.symm)
theorem Dj{ns:List (List Int)}{vs:List JV}{n:List Int}(hl:ns.length=vs.length)(nd:ns.Nodup)(h:n∈ns):∃(j:Nat) (v:JV),ns[j]?=some n /\ vs[j]?=some v /\ lk ns vs n=v:=by
 obtain⟨j,hj⟩:=List.mem_iff_getElem?.mp h
 have hlt:j<vs.length:=by rw[<- hl];exact(List.getElem?_eq_some_iff.mp hj).1
 exact⟨j,vs[j],hj,List.getElem?_eq_getElem hlt,nR nd hj (List.getElem?_eq_getElem hlt)⟩
theorem tP{ns:List (List Int)}{vs:List JV}{n:List Int}(hl:ns.length=vs.length)(h:n∈ns):lk ns vs n∈vs:=by
 induction ns generalizing vs with
 |nil=>cases h
 | cons a ns ih=>
   cases vs with
   |nil=>simp at hl
   | cons v vs=>
     rw[lk];split
     . exact List.mem_cons_self
     . rename_i hn;exact List.mem_cons_of_mem _ (ih (by simpa using hl) ((List.mem_cons.mp h).resolve_left fun z=>hn z.symm))
theorem nc:∀{ns:List (List Int)} {vs:List JV} {p:List Int×JV},ns.Nodup->p∈ns.zip vs->p.1∈ns /\ lk ns vs p.1=p.2:=by
 intro ns vs p nd h;obtain⟨j,hj⟩:=List.mem_iff_getElem?.mp h;rw[List.getElem?_zip_eq_some]at hj
 exact⟨List.mem_of_getElem? hj.1,nR nd hj.1 hj.2⟩
theorem mH{ns:List (List Int)}{vs:List JV}{n:List Int}(hl:ns.length=vs.length)(nd:ns.Nodup)(h:n∈ns):(n,lk ns vs n)∈ns.zip vs:=by
 obtain⟨j,v,h1,h2,h3⟩:=Dj hl nd h;rw[h3];exact List.mem_of_getElem? (i:=j) (List.getElem?_zip_eq_some.mpr ⟨h1,h2⟩)
theorem uG{x y:PV}(hx:mY x)(hy:mY y):dD x y=true↔x=y:=by
 rcases hx with rfl|⟨b,rfl⟩|⟨a,p,rfl,_⟩|⟨cs,rfl,_⟩<;>rcases hy with rfl|⟨b',rfl⟩|⟨a',p',rfl,_⟩|⟨cs',rfl,_⟩<;>simp[dD,fK,nA]
 exact(List.map_inj_right fun a b h=>PV.int.inj h).symm
theorem sf{ns ms:List (List Int)}{vs ws:List JV}(nd:ns.Nodup)(hl:ns.length=vs.length){P:JV->JV->Prop}:(∀ p∈(ns.zip vs).map (fun p=>(p.2,lk ms ws p.1)),P p.1 p.2)↔∀ n∈ns,P (lk ns vs n) (lk ms ws n):=by
 constructor
 . intro h n hn;exact h _ (List.mem_map.mpr ⟨_,mH hl nd hn,rfl⟩)
 . intro h p hp;obtain⟨q,hq,rfl⟩:=List.mem_map.mp hp;obtain⟨h1,h2⟩:=nc nd hq;have:=h q.1 h1;rw[h2]at this;exact this
theorem AR:∀(n:Nat) (x y:JV),size x<=n->Cl x->Cl y->(al n x y=true↔can x=can y):=by
 intro n
 induction n with
 |zero=>intro x y h;have:=size_pos x;omega
 | succ n ih=>
   intro x y hs cx cy;rw[al,Bool.and_eq_true,List.all_eq_true]
   cases x with
   | lf a=>
     cases y with
     |lf b=>simp only[agr,prs,can,JV.lf.injEq];rw[uG cx cy];simp
     |_=>simp[agr,can]
   | row vs=>
     cases y with
     | row ws=>
       simp only[agr,prs,can,JV.row.injEq,decide_eq_true_eq];simp only[size]at hs;have cv:=(cN vs).mp cx;have cw:=(cN ws).mp cy;constructor
       . rintro⟨hl,h⟩
         rw[dm,dm]
         refine List.ext_getElem (by simpa using hl) fun i h1 h2=>?_
         have h1':i<vs.length:=by simpa using h1
         have h2':i<ws.length:=by simpa using h2
         have hm:(vs[i],ws[i])∈vs.zip ws:=List.mem_of_getElem? (i:=i) (List.getElem?_zip_eq_some.mpr ⟨List.getElem?_eq_getElem h1',List.getElem?_eq_getElem h2'⟩)
         have:=b0 (List.getElem_mem h1')
         simpa using (ih vs[i] ws[i] (by omega) (cv _ (List.getElem_mem h1')) (cw _ (List.getElem_mem h2'))).mp (h _ hm)
       . intro h;rw[dm,dm]at h
         have hl:vs.length=ws.length:=by simpa using congrArg List.length h
         refine⟨hl,fun p hp=>?_⟩
         obtain⟨i,hi⟩:=List.mem_iff_getElem?.mp hp;obtain⟨e1,e2⟩:=List.getElem?_zip_eq_some.mp hi;have m1:=List.mem_of_getElem? e1;have m2:=List.mem_of_getElem? e2;have:=b0 m1
         refine(ih p.1 p.2 (by omega) (cv _ m1) (cw _ m2)).mpr ?_
         have:=congrArg (fun l=>l[i]?) h
         simpa [e1,e2]using this
     |_=>simp[agr,can]
   | fld ns vs=>
     cases y with
     | fld ms ws=>
       obtain⟨l1,n1,c1⟩:=cx;obtain⟨l2,n2,c2⟩:=cy;simp only[agr,prs,can,JV.fld.injEq,decide_eq_true_eq];simp only[size]at hs;have cv:=(cN vs).mp c1;have cw:=(cN ws).mp c2
       refine and_congr_right fun he=>?_
       have pm:=(jd n1 n2).mp he;rw[sf (P:=fun a b=>al n a b=true) n1 l1,<- he,dm,dm]
       have e:∀ k∈ns,(al n (lk ns vs k) (lk ms ws k)=true↔lk ns (vs.map can) k=lk ms (ws.map can) k):=fun k hk=>by
        have hk':=pm.mem_iff.mp hk
        rw[sW can l1 hk,sW can l2 hk'];have m1:=tP l1 hk;have m2:=tP l2 hk';have:=b0 m1;exact ih _ _ (by omega) (cv _ m1) (cw _ m2)
       constructor
       . intro h
         exact List.map_congr_left fun k hk=>(e k ((bE ns).mem_iff.mp hk)).mp (h k ((bE ns).mem_iff.mp hk))
       . intro h k hk
         refine(e k hk).mpr ?_
         have hk':=(bE ns).mem_iff.mpr hk
         exact List.map_inj_left.mp h k hk'
     |_=>simp[agr,can]
theorem b6{α:Type}(j:Nat)(l:List α):(cS j l).Perm l:=(List.perm_append_comm).trans (List.Perm.of_eq (List.take_append_drop j l))
theorem Bz{ns:List (List Int)}{vs:List JV}{n:List Int}(j:Nat)(hl:ns.length=vs.length)(nd:ns.Nodup)(h:n∈ns):lk (cS j ns) (cS j vs) n=lk ns vs n:=by
 have nd':(cS j ns).Nodup:=(b6 j ns).nodup_iff.mpr nd
 have hl':(cS j ns).length=(cS j vs).length:=by rw[(b6 j ns).length_eq,(b6 j vs).length_eq,hl]
 have hm:(n,lk ns vs n)∈(cS j ns).zip (cS j vs):=by
  rw[List.zip_append (by simp[hl])];have:=mH hl nd h;rw[<- List.take_append_drop j (ns.zip vs),List.zip_eq_zipWith,List.drop_zipWith,List.take_zipWith,<- List.zip_eq_zipWith,<- List.zip_eq_zipWith]at this
  rcases List.mem_append.mp this with z|z
  . exact List.mem_append_right _ z
  . exact List.mem_append_left _ z
 exact(nc nd' hm).2
mutual
theorem oD:∀(v:JV) (m:Int),size (turn v m)=size v
 |.lf _,_=>rfl
 |.row vs,m=>by rw[turn,size,size,iU vs]
 | .fld ns vs,m=>by
   rw[turn,size,size];unfold cS;rw[fN,Nat.add_comm (aN _),<- fN,List.take_append_drop,iU vs]
theorem iU:∀(vs:List JV) (m:Int),aN (turns vs m)=aN vs
 |[],_=>rfl
 |v ::vs,m=>by rw[turns,aN,aN,oD v,iU vs]
end
theorem lh(vs:List JV)(m:Int):(turns vs m).length=vs.length:=by rw[lC];simp
mutual
theorem tX:∀(v:JV) (m:Int),Cl v->Cl (turn v m)
 |.lf _,_,h=>h
 |.row vs,m,h=>lu vs _ h
 | .fld ns vs,m,h=>by
   obtain⟨l,n,c⟩:=h
   refine⟨by rw[(b6 _ ns).length_eq,(b6 _ _).length_eq,lh,l],(b6 _ ns).nodup_iff.mpr n,(cN _).mpr fun v hv=>?_⟩
   exact(cN _).mp (lu vs _ c) v ((b6 _ _).mem_iff.mp hv)
theorem lu:∀(vs:List JV) (m:Int),Cls vs->Cls (turns vs m)
 |[],_,_=>trivial
 |v ::vs,m,h=>⟨tX v m h.1,lu vs m h.2⟩
end
mutual
theorem qE:∀(v:JV) (m:Int),Cl v->can (turn v m)=can v
 |.lf _,_,_=>rfl
 |.row vs,m,h=>by rw[turn,can,can,jY vs _ h]
 | .fld ns vs,m,h=>by
   obtain⟨l,n,c⟩:=h;rw[turn,can,can];have e:=jY vs (m/5) c
   have es:eW (cS (m%((vs.length:Int)+1)).toNat ns)=eW ns:=(jd ((b6 _ ns).nodup_iff.mpr n) n).mpr (b6 _ ns)
   rw[es]
   congr 1
   refine List.map_congr_left fun k hk=>?_
   have hk':=(bE ns).mem_iff.mp hk
   have ec:iS (cS (m%((vs.length:Int)+1)).toNat (turns vs (m/5)))=cS (m%((vs.length:Int)+1)).toNat (iS vs):=by
    rw[dm,List.map_append,List.map_drop,List.map_take,<- dm,e]
   rw[ec];exact Bz _ (by rw[dm];simpa using l) n hk'
theorem jY:∀(vs:List JV) (m:Int),Cls vs->iS (turns vs m)=iS vs
 |[],_,_=>rfl
 |v ::vs,m,h=>by rw[turns,iS,iS,qE v m h.1,jY vs m h.2]
end
theorem rq(n:Int)(hn:0<=n):small n≠.tup [.str "number",.int 7777,.int 0] /\ small n≠.tup [.str "text",.tup [.int 7777]]:=by
 unfold small
 by_cases h1:n%6<3
 . have hh:n%6=0 \/ n%6=1 \/ n%6=2:=by omega
   rw[if_pos h1]
   rcases hh with h|h|h<;>rw[h]<;>simp
 . rw[if_neg h1]
   by_cases h2:n%6=3
   . have hh:n/6%4=0 \/ n/6%4=1 \/ n/6%4=2 \/ n/6%4=3:=by omega
     rw[if_pos h2]
     rcases hh with h|h|h|h<;>rw[h]<;>simp
   . rw[if_neg h2]
     by_cases h3:n%6=4
     . rw[if_pos h3];simp;omega
     . rw[if_neg h3]
       by_cases h4:n/6%2=0
       . rw[if_pos h4];simp
       . rw[if_neg h4];simp;omega
theorem uM(n m:Int)(hn:0<=n):small n≠lf7 m:=by
 unfold lf7;split
 . exact(rq n hn).1
 . exact(rq n hn).2
theorem rZ(m:Int):mY (lf7 m):=by
 unfold lf7;split
 . exact .inr (.inr (.inl ⟨7777,0,rfl,.inl (by decide)⟩))
 . exact .inr (.inr (.inr ⟨[7777],rfl,by decide⟩))
theorem vZ(k:Nat)(h:k<=20):(names k).Nodup:=by
 have:∀ k:Fin 21,(names k.val).Nodup:=by decide +kernel
 exact this ⟨k,by omega⟩
theorem tZ(k:Nat)(h:k<=20):∀ n∈names k,∀ a,n≠a++[7777]:=by
 have:∀ k:Fin 21,∀ n∈names k.val,n.getLast?≠some 7777:=by decide +kernel
 intro n hn a e;exact this ⟨k,by omega⟩ n hn (by rw[e];simp)
mutual
theorem oQ:∀ v:JV,Bt v->size v<=20->Cl v
 |.lf x,h,_=>by obtain⟨n,_,rfl⟩:=h;exact qp n
 |.row vs,h,hs=>m7 vs h (by simp[size]at hs;omega)
 | .fld ns vs,h,hs=>by
   obtain⟨rfl,h⟩:=h;simp[size]at hs;have:=dc vs
   exact⟨jm _,vZ _ (by omega),m7 vs h (by omega)⟩
theorem m7:∀ vs:List JV,Bts vs->aN vs<=20->Cls vs
 |[],_,_=>trivial
 |v ::vs,h,hs=>by simp[aN]at hs;exact⟨oQ v h.1 (by omega),m7 vs h.2 (by omega)⟩
end
theorem oV:∀(vs:List JV) (j:Nat) (m:Int),(dN vs j m).length=vs.length
 |[],_,_=>by simp[dN]
 |v ::vs,0,m=>by simp[dN]
 |v ::vs,j+1,m=>by simp[dN,oV vs j m]
theorem mod_lt{m:Int}{n:Nat}(h:n≠0):(m%(n:Int)).toNat<n:=by
 have h1:=Int.emod_nonneg m (b:=(n:Int)) (by omega);have h2:=Int.emod_lt_of_pos m (b:=(n:Int)) (by omega);omega
theorem Ax{ns:List (List Int)}(nd:ns.Nodup)(j:Nat)(x:List Int)(hx:x∉ns):(ns.set j x).Nodup:=by
 induction ns generalizing j with
 |nil=>simp
 | cons a ns ih=>
   rw[List.nodup_cons]at nd
   cases j with
   |zero=>exact List.nodup_cons.mpr ⟨fun z=>hx (List.mem_cons_of_mem _ z),nd.2⟩
   | succ j=>
     refine List.nodup_cons.mpr ⟨fun z=>?_,ih nd.2 j fun z=>hx (List.mem_cons_of_mem _ z)⟩
     rcases List.mem_or_eq_of_mem_set z with z|z
     . exact nd.1 z
     . exact hx (by rw[<- z];exact List.mem_cons_self)
mutual
theorem sg:∀(v:JV) (m:Int),Bt v->size v<=20->Cl (chg v m)
 |.lf x,m,_,_=>rZ m
 | .row vs,m,h,hs=>by
   simp[size]at hs;have c:=m7 vs h (by omega);rw[chg];split
   . exact rZ m
   . split
     . exact(cN _).mpr fun v hv=>(cN _).mp c v (List.mem_of_mem_eraseIdx hv)
     . exact qk vs _ _ h (by omega)
 | .fld ns vs,m,h,hs=>by
   simp[size]at hs;have hl:=dc vs;obtain⟨l1,n1,c⟩:=oQ (.fld ns vs) h (by simp[size];omega);rw[chg];split
   . exact rZ m
   . rename_i hz;have hj:=mod_lt (m:=m) hz;split
     . refine⟨?_,n1.eraseIdx _,(cN _).mpr fun v hv=>(cN _).mp c v (List.mem_of_mem_eraseIdx hv)⟩
       rw[List.length_eraseIdx_of_lt (by omega),List.length_eraseIdx_of_lt hj,l1]
     . split
       . refine⟨by simpa using l1,Ax n1 _ _ fun z=>?_,c⟩
         obtain⟨rfl,_⟩:=h;exact tZ vs.length (by omega) _ z _ rfl
       . exact⟨by rw[oV];exact l1,n1,qk vs _ _ h.2 (by omega)⟩
theorem qk:∀(vs:List JV) (j:Nat) (m:Int),Bts vs->aN vs<=20->Cls (dN vs j m)
 |[],_,_,_,_=>by rw[dN];trivial
 | v ::vs,0,m,h,hs=>by
   simp[aN]at hs;rw[dN]
   exact⟨sg v m h.1 (by omega),m7 vs h.2 (by omega)⟩
 | v ::vs,j+1,m,h,hs=>by
   simp[aN]at hs;rw[dN]
   exact⟨oQ v h.1 (by omega),qk vs j m h.2 (by omega)⟩
end
mutual
theorem xT:∀(v:JV) (m:Int),Bt v->size v<=20->can (chg v m)≠can v
 | .lf x,m,h,_=>by
   obtain⟨n,hn,rfl⟩:=h;rw[chg,can,can];intro e;exact uM n m hn (JV.lf.inj e).symm
 | .row vs,m,h,hs=>by
   simp[size]at hs;rw[chg];split
   . simp[can]
   . rename_i hz;have hj:=mod_lt (m:=m) hz;split
     . rw[can,can,dm,dm];intro e;have:=congrArg List.length (JV.row.inj e);rw[List.length_map,List.length_map,List.length_eraseIdx_of_lt hj]at this;omega
     . rw[can,can];intro e;obtain⟨u,w,e1,e2,e3⟩:=ng vs _ (m/11) h (by omega) hj;rw[JV.row.inj e,e2]at e1;exact e3 (Option.some.inj e1).symm
 | .fld ns vs,m,h,hs=>by
   simp[size]at hs;have hl:=dc vs;obtain⟨l1,n1,c⟩:=oQ (.fld ns vs) h (by simp[size];omega);have cc:=sg (.fld ns vs) m h (by simp[size];omega)
   rw[chg]at cc ⊢
   split
   . simp[can]
   . rename_i hz;rw[if_neg hz]at cc;have hj:=mod_lt (m:=m) hz;split
     . rw[can,can];intro e;have:=congrArg List.length (JV.fld.inj e).1;rw[(bE _).length_eq,(bE _).length_eq,List.length_eraseIdx_of_lt (by omega)]at this;omega
     . rename_i h0;rw[if_neg h0]at cc;split
       . rename_i h1;rw[if_pos h1]at cc;rw[can,can];intro e;have p:=(jd cc.2.1 n1).mp (JV.fld.inj e).1
         have:ns.getD (m%(vs.length:Int)).toNat []++[7777]∈ns:=p.mem_iff.mp (List.mem_of_getElem? (i:=(m%(vs.length:Int)).toNat) (by rw[List.getElem?_set_self (by omega)]))
         obtain⟨rfl,_⟩:=h;exact tZ vs.length (by omega) _ this _ rfl
       . rw[can,can];intro e;obtain⟨u,w,e1,e2,e3⟩:=ng vs _ (m/11) h.2 (by omega) hj
         have hjn:(m%(vs.length:Int)).toNat<ns.length:=by omega
         have hk:ns[(m%(vs.length:Int)).toNat]∈eW ns:=(bE ns).mem_iff.mpr (List.getElem_mem hjn)
         have:=List.map_inj_left.mp (JV.fld.inj e).2 _ hk;rw[nR n1 (List.getElem?_eq_getElem hjn) e1,nR n1 (List.getElem?_eq_getElem hjn) e2]at this;exact e3 this
theorem ng:∀(vs:List JV) (j:Nat) (m:Int),Bts vs->aN vs<=20->j<vs.length->∃ u w,(iS (dN vs j m))[j]?=some u /\ (iS vs)[j]?=some w /\ u≠w
 |[],_,_,_,_,h=>by simp at h
 | v ::vs,0,m,h,hs,_=>by
   simp[aN]at hs
   exact⟨can (chg v m),can v,by simp[dN,iS],by simp[iS],xT v m h.1 (by omega)⟩
 | v ::vs,j+1,m,h,hs,hj=>by
   simp[aN]at hs;obtain⟨u,w,e1,e2,e3⟩:=ng vs j m h.2 (by omega) (by simpa using hj)
   exact⟨u,w,by simpa [dN,iS]using e1,by simpa [iS]using e2,e3⟩
end
end PJ
namespace L2.plainglass_k22_clean_and_alike
open PySem L2.P PG
noncomputable def nu:af -> OS:=
    (bf (bW (kT (ao 0))
    (b4 (mOp jw (ao 0) (mOp cF (ao 1) (mUn kF (ao 0)))))
    bU)
    (b4 (mC (.int 0))))
noncomputable def dU:List PV->OE:=fnP 2 2 nu
noncomputable def lT:af -> OS:=
    (b4 (mOp cF (mOp gE (mOp vG (mOp hU (ao 2) (mC (.int 64))) (mC (.int 69621))) (ao 2)) (mC (.int 4294967231))))
noncomputable def lU:af -> OS:=
    (bf (cU 2 (mOp cF (mOp vG (ao 2) (mC (.int 48271))) (mC (.int 4294967279))))
    lT)
noncomputable def oF:af -> OS:=
    (bf (cU 2 (mOp cF (mOp gE (aW dU (ah (ao 0) (ah (ao 1) az))) (mOp vG (mC (.int 104729)) (mOp gE (ao 1) (mC (.int 1))))) (mC (.int 4294967291))))
    lU)
noncomputable def bM:List PV->OE:=fnP 2 3 oF
noncomputable def iX:af -> OS:=
    (bf (bW (aR (mOp gLt (ao 0) (mC (.int 6))))
    (b4 (mOp jw (gi (ah (bb az) (ah (bb (ah (mC (.int 97)) az)) (ah (bb (ah (mC (.int 97)) (ah (mC (.int 98)) az))) (ah (bb (ah (mC (.int 126)) (ah (mC (.int 47)) az))) (ah (bb (ah (mC (.int 48)) az)) (ah (bb (ah (mC (.int 233)) az)) az))))))) (ao 0)))
    bU)
    (b4 (bb (ah (mOp gE (mC (.int 98)) (ao 0)) az))))
noncomputable def bQ:List PV->OE:=fnP 1 1 iX
noncomputable def cC:af -> OS:=
    (bW (dA (bP 0 aZ) (aR (mOp eU (gF 0 (pIx 0 (pIx 0 aZ (mUn jO (mC (.int 1)))) (mC (.int 0)))) (mC (.str "row")))))
    (dM 0 (pIx 0 (pIx 0 aZ (mUn jO (mC (.int 1)))) (mC (.int 1))) (mD (ao 1)))
    (bW (bP 0 aZ)
    (dM 0 (pIx 0 (pIx 0 aZ (mUn jO (mC (.int 1)))) (mC (.int 1))) (mD (bb (ah (aW bQ (ah (lK 0 (pIx 0 (pIx 0 aZ (mUn jO (mC (.int 1)))) (mC (.int 1)))) az)) (ah (ao 1) az)))))
    bU))
noncomputable def aU:List Sl->OI:=fnI 2 2 cC
noncomputable def g6:af -> OS:=
    (gX 2)
noncomputable def fP:af -> OS:=
    (bf (dR (cj aU [.t 0 aZ,.e (ao 2)]))
    g6)
noncomputable def fO:af -> OS:=
    (bf (cU 2 (bb (ah (gF 1 (pIx 1 aZ (mC (.int 0)))) (ah (mUn jP (gF 1 (pIx 1 aZ (mC (.int 1))))) az))))
    fP)
noncomputable def gg:af -> OS:=
    (bf (fL 1 (i9 0 aZ))
    fO)
noncomputable def b8:List Sl->OI:=fnI 1 3 gg
noncomputable def bH:af -> OS:=
    (b4 (mOp jw (gi (ah (bb (ah (mC (.str "number")) (ah (mC (.int 0)) (ah (mC (.int 0)) az)))) (ah (bb (ah (mC (.str "number")) (ah (mOp zc (mOp vG (mUn jO (mC (.int 10))) (ao 2)) (mC (.int 3))) (ah (mC (.int 0)) az)))) az))) (mOp cF (ao 2) (mC (.int 2)))))
noncomputable def bG:af -> OS:=
    (bf (bW (aR (mOp eU (ao 1) (mC (.int 4))))
    (b4 (bb (ah (mC (.str "number")) (ah (mOp gE (mC (.int 1)) (mOp cF (ao 2) (mC (.int 9)))) (ah (mOp zc (mOp cF (mOp hU (ao 2) (mC (.int 9))) (mC (.int 5))) (mC (.int 2))) az)))))
    bU)
    bH)
noncomputable def bJ:af -> OS:=
    (bf (bW (aR (mOp eU (ao 1) (mC (.int 3))))
    (b4 (bb (ah (mC (.str "text")) (ah (mOp jw (gi (ah (bb (ah (mC (.int 97)) az)) (ah (bb (ah (mC (.int 34)) (ah (mC (.int 10)) az))) (ah (bb az) (ah (bb (ah (mC (.int 233)) (ah (mC (.int 128512)) az))) az))))) (mOp cF (ao 2) (mC (.int 4)))) az))))
    bU)
    bG)
noncomputable def bF:af -> OS:=
    (bf (bW (aR (mOp gLt (ao 1) (mC (.int 3))))
    (b4 (mOp jw (gi (ah (mC .non) (ah (mC (.bl true)) (ah (mC (.bl false)) az)))) (ao 1)))
    bU)
    bJ)
noncomputable def bI:af -> OS:=
    (bf (cU 2 (mOp hU (ao 0) (mC (.int 6))))
    bF)
noncomputable def bT:af -> OS:=
    (bf (cU 1 (mOp cF (ao 0) (mC (.int 6))))
    bI)
noncomputable def aG:List PV->OE:=fnP 1 3 bT
noncomputable def cH:af -> OS:=
    (bf (cU 6 (aW bM (ah (ao 0) (ah (mOp gE (ao 1) (ao 5)) az))))
    (bW (dA (bP 3 aZ) (aR (mOp gEq (mOp cF (ao 6) (mC (.int 5))) (mC (.int 1)))))
    (fL 4 (cj b8 [.t 3 aZ]))
    (bW (iB (bP 3 aZ) (aR (mOp gEq (ao 5) (mC (.int 0)))))
    (bW (iB (aR (mOp gGt (mOp cF (ao 6) (mC (.int 5))) (mC (.int 2)))) (dA (aR (mOp gEq (ao 5) (mC (.int 0)))) (aR (mOp gGt (mOp cF (ao 6) (mC (.int 9))) (mC (.int 0))))))
    (dM 3 aZ (mDl (mDc (mD (mOp jw (gi (ah (mC (.str "row")) (ah (mC (.str "fields")) az))) (mOp cF (mOp hU (ao 6) (mC (.int 5))) (mC (.int 2))))) (mDc (mD (gi az)) mDn))))
    (bf (cU 4 (aW aG (ah (mOp hU (ao 6) (mC (.int 7))) az)))
    (dR (cj aU [.t 3 aZ,.e (ao 4)]))))
    bU)))
noncomputable def dJ:af -> OT:=
    (bP 3 aZ)
noncomputable def gu:af -> OS:=
    (fL 4 (cj b8 [.t 3 aZ]))
noncomputable def gq:af -> OS:=
    (gX 4)
noncomputable def jA:af -> OS:=
    (bf (bR dJ
    gu fuel)
    gq)
noncomputable def jD:af -> OS:=
    (bf (kB 5 (ao 2)
    cH)
    jA)
noncomputable def jz:af -> OS:=
    (bf (cU 4 (mC .non))
    jD)
noncomputable def i8:af -> OS:=
    (bf (jb 3 (mD (gi az)))
    jz)
noncomputable def cR:List PV->OE:=fnP 3 7 i8
noncomputable def dX:af -> OS:=
    (bf (bW (dA (kT (mIs "tuple" (ao 0))) (dA (aR (mOp gEq (mUn kF (ao 0)) (mC (.int 2)))) (aR (mOp gIn (mOp bc (ao 0) (mC (.int 0))) (bb (ah (mC (.str "row")) (ah (mC (.str "fields")) az)))))))
    (b4 (mOp bc (ao 0) (mC (.int 0))))
    bU)
    (b4 (mC (.str ""))))
noncomputable def bO:List PV->OE:=fnP 1 1 dX
noncomputable def dq (rec:List PV -> OE):af -> OE:=
    (aW rec (ah (ao 1) (ah (mOp hU (ao 0) (mC (.int 3))) az)))
noncomputable def dk (rec:List PV -> OE):af -> OE:=
    (bb (ah (mOp bc (ao 1) (mC (.int 0))) (ah (aW rec (ah (mOp bc (ao 1) (mC (.int 1))) (ah (mOp hU (ao 0) (mC (.int 5))) az))) az)))
noncomputable def iK (rec:List PV -> OE):af -> OS:=
    (b4 (bb (ah (mC (.str "fields")) (ah (mUn jP (dC (ao 4) [1] (dk rec))) az))))
noncomputable def i7 (rec:List PV -> OE):af -> OS:=
    (bf (cU 4 (mOp bV (dj (mOp bc (ao 0) (mC (.int 1))) (ez (ao 3)) (mC .non)) (dj (mOp bc (ao 0) (mC (.int 1))) (mC .non) (ez (ao 3)))))
    (iK rec))
noncomputable def i6 (rec:List PV -> OE):af -> OS:=
    (bf (cU 3 (mOp cF (ao 1) (mOp gE (mUn kF (mOp bc (ao 0) (mC (.int 1)))) (mC (.int 1)))))
    (i7 rec))
noncomputable def gd (rec:List PV -> OE):af -> OS:=
    (bf (bW (aR (mOp eU (ao 2) (mC (.str "row"))))
    (b4 (bb (ah (mC (.str "row")) (ah (mUn jP (dC (mOp bc (ao 0) (mC (.int 1))) [1] (dq rec))) az))))
    bU)
    (i6 rec))
noncomputable def eC (rec:List PV -> OE):af -> OS:=
    (bf (bW (aR (mOp eU (ao 2) (mC (.str ""))))
    (gX 0)
    bU)
    (gd rec))
noncomputable def g4 (rec:List PV -> OE):af -> OS:=
    (bf (cU 2 (aW bO (ah (ao 0) az)))
    (eC rec))
noncomputable def bw:Nat->List PV->OE
 |0=>Az
 |k+1=>fnP 2 5 (g4 (bw k))
noncomputable def cT:List PV->OE:=bw 70
noncomputable def ig (rec:List PV -> OE):af -> OS:=
    (b4 (bb (ah (ao 2) (ah (mOp bV (mOp bV (dj (mOp bc (ao 0) (mC (.int 1))) (mC .non) (ez (ao 3))) (bb (ah (bb (ah (mOp bc (ao 4) (mC (.int 0))) (ah (aW rec (ah (mOp bc (ao 4) (mC (.int 1))) (ah (mOp hU (ao 1) (mC (.int 11))) az))) az))) az))) (dj (mOp bc (ao 0) (mC (.int 1))) (ez (mOp gE (ao 3) (mC (.int 1)))) (mC .non))) az))))
noncomputable def iw (rec:List PV -> OE):af -> OS:=
    (bf (bW (aR (mOp gEq (mOp cF (mOp hU (ao 1) (mC (.int 7))) (mC (.int 4))) (mC (.int 1))))
    (b4 (bb (ah (ao 2) (ah (mOp bV (mOp bV (dj (mOp bc (ao 0) (mC (.int 1))) (mC .non) (ez (ao 3))) (bb (ah (bb (ah (mOp bV (mOp bc (ao 4) (mC (.int 0))) (bb (ah (mC (.int 7777)) az))) (ah (mOp bc (ao 4) (mC (.int 1))) az))) az))) (dj (mOp bc (ao 0) (mC (.int 1))) (ez (mOp gE (ao 3) (mC (.int 1)))) (mC .non))) az))))
    bU)
    (ig rec))
noncomputable def fI (rec:List PV -> OE):af -> OS:=
    (bf (bW (aR (mOp eU (ao 2) (mC (.str "row"))))
    (b4 (bb (ah (ao 2) (ah (mOp bV (mOp bV (dj (mOp bc (ao 0) (mC (.int 1))) (mC .non) (ez (ao 3))) (bb (ah (aW rec (ah (ao 4) (ah (mOp hU (ao 1) (mC (.int 11))) az))) az))) (dj (mOp bc (ao 0) (mC (.int 1))) (ez (mOp gE (ao 3) (mC (.int 1)))) (mC .non))) az))))
    bU)
    (iw rec))
noncomputable def dQ (rec:List PV -> OE):af -> OS:=
    (bf (bW (aR (mOp gEq (mOp cF (mOp hU (ao 1) (mC (.int 7))) (mC (.int 4))) (mC (.int 0))))
    (b4 (bb (ah (ao 2) (ah (mOp bV (dj (mOp bc (ao 0) (mC (.int 1))) (mC .non) (ez (ao 3))) (dj (mOp bc (ao 0) (mC (.int 1))) (ez (mOp gE (ao 3) (mC (.int 1)))) (mC .non))) az))))
    bU)
    (fI rec))
noncomputable def hZ (rec:List PV -> OE):af -> OS:=
    (bf (cU 4 (mOp bc (mOp bc (ao 0) (mC (.int 1))) (ao 3)))
    (dQ rec))
noncomputable def ic (rec:List PV -> OE):af -> OS:=
    (bf (cU 3 (mOp cF (ao 1) (mUn kF (mOp bc (ao 0) (mC (.int 1))))))
    (hZ rec))
noncomputable def cq (rec:List PV -> OE):af -> OS:=
    (bf (bW (iB (aR (mOp eU (ao 2) (mC (.str "")))) (uA (kT (mOp bc (ao 0) (mC (.int 1))))))
    (b4 (mOp jw (gi (ah (bb (ah (mC (.str "number")) (ah (mC (.int 7777)) (ah (mC (.int 0)) az)))) (ah (bb (ah (mC (.str "text")) (ah (bb (ah (mC (.int 7777)) az)) az))) az))) (mOp cF (ao 1) (mC (.int 2)))))
    bU)
    (ic rec))
noncomputable def gB (rec:List PV -> OE):af -> OS:=
    (bf (cU 2 (aW bO (ah (ao 0) az)))
    (cq rec))
noncomputable def du:Nat->List PV->OE
 |0=>Az
 |k+1=>fnP 2 5 (gB (du k))
noncomputable def cG:List PV->OE:=du 70
noncomputable def lJ:af -> OS:=
    (b4 (mOp bc (ao 0) (mC (.int 0))))
noncomputable def iY:af -> OS:=
    (bf (bW (aR (mOp sC (ao 0) (mC (.bl false))))
    (b4 (mC (.str "false")))
    bU)
    lJ)
noncomputable def gk:af -> OS:=
    (bf (bW (aR (mOp sC (ao 0) (mC (.bl true))))
    (b4 (mC (.str "true")))
    bU)
    iY)
noncomputable def gP:af -> OS:=
    (bf (bW (aR (mOp yr (ao 0) (mC .non)))
    (b4 (mC (.str "null")))
    bU)
    gk)
noncomputable def bz:List PV->OE:=fnP 1 1 gP
noncomputable def kW:af -> OE:=
    (mOp bc (ao 0) (mC (.int 0)))
noncomputable def lD:af -> OE:=
    (mOp bc (ao 0) (mC (.int 0)))
noncomputable def ox:af -> OS:=
    (b4 (mOp eU (ao 0) (ao 1)))
noncomputable def kK:af -> OS:=
    (bf (bW (aR (mOp eU (ao 2) (mC (.str "fields"))))
    (b4 (mOp eU (mUn jJ (dC (mOp bc (ao 0) (mC (.int 1))) [] kW)) (mUn jJ (dC (mOp bc (ao 1) (mC (.int 1))) [] lD))))
    bU)
    ox)
noncomputable def gT:af -> OS:=
    (bf (bW (aR (mOp eU (ao 2) (mC (.str "row"))))
    (b4 (mOp gEq (mUn kF (mOp bc (ao 0) (mC (.int 1)))) (mUn kF (mOp bc (ao 1) (mC (.int 1))))))
    bU)
    kK)
noncomputable def jt:af -> OS:=
    (bf (bW (aR (mOp sj (ao 2) (aW bz (ah (ao 1) az))))
    (b4 (mC (.bl false)))
    bU)
    gT)
noncomputable def pz:af -> OS:=
    (bf (cU 2 (aW bz (ah (ao 0) az)))
    jt)
noncomputable def fQ:List PV->OE:=fnP 2 3 pz
noncomputable def cQ:af -> OE:=
    (mOp bc (ao 0) (mC (.int 1)))
noncomputable def gJ:af -> OS:=
    (b4 (gi az))
noncomputable def e9:af -> OS:=
    (bf (bW (aR (mOp eU (ao 1) (mC (.str "fields"))))
    (b4 (dC (mOp bc (ao 0) (mC (.int 1))) [] cQ))
    bU)
    gJ)
noncomputable def dw:af -> OS:=
    (bf (bW (aR (mOp eU (ao 1) (mC (.str "row"))))
    (b4 (mUn ke (mOp bc (ao 0) (mC (.int 1)))))
    bU)
    e9)
noncomputable def eR:af -> OS:=
    (bf (cU 1 (aW bz (ah (ao 0) az)))
    dw)
noncomputable def aM:List PV->OE:=fnP 1 2 eR
noncomputable def cm:af -> OE:=
    (bb (ah (mOp bc (ao 1) (mC (.int 1))) (ah (pb 0 aZ (mOp bc (ao 1) (mC (.int 0)))) az)))
noncomputable def iy:af -> OS:=
    (b4 (dC (mOp bc (ao 0) (mC (.int 1))) [2] cm))
noncomputable def ik:af -> OS:=
    (bf (jb 2 (mG (mOp bc (ao 1) (mC (.int 1)))))
    iy)
noncomputable def dP:af -> OS:=
    (bf (bW (aR (mOp sj (aW bz (ah (ao 0) az)) (mC (.str "fields"))))
    (b4 (mOp xV (aW aM (ah (ao 0) az)) (aW aM (ah (ao 1) az))))
    bU)
    ik)
noncomputable def bY:List PV->OE:=fnP 2 3 dP
noncomputable def el:af -> OT:=
    (bP 2 aZ)
noncomputable def dv:af -> OS:=
    (bf (fL 3 (i9 2 aZ))
    (bf (bW (uA (kT (aW fQ (ah (mOp bc (ao 3) (mC (.int 0))) (ah (mOp bc (ao 3) (mC (.int 1))) az)))))
    (b4 (mC (.bl false)))
    bU)
    (kI 2 aZ (aW bY (ah (mOp bc (ao 3) (mC (.int 0))) (ah (mOp bc (ao 3) (mC (.int 1))) az))))))
noncomputable def oO:af -> OS:=
    (b4 (mC (.bl true)))
noncomputable def oI:af -> OS:=
    (bf (bR el
    dv fuel)
    oO)
noncomputable def pM:af -> OS:=
    (bf (jb 2 (mD (gi (ah (bb (ah (ao 0) (ah (ao 1) az))) az))))
    oI)
noncomputable def fq:List PV->OE:=fnP 2 4 pM
noncomputable def dW:af -> OE:=
    (mOp bc (ao 0) (mC (.int 0)))
noncomputable def cP:af -> OS:=
    (bf (bW (aR (mOp sj (aW bz (ah (ao 0) az)) (mC (.str "fields"))))
    (b4 (mC (.bl true)))
    bU)
    (b4 (mOp gEq (mUn kj (dC (mOp bc (ao 0) (mC (.int 1))) [] dW)) (mUn kF (mOp bc (ao 0) (mC (.int 1)))))))
noncomputable def bA:List PV->OE:=fnP 1 1 cP
noncomputable def cu:af -> OT:=
    (aR (mOp gLt (ao 2) (mUn kF (ao 1))))
noncomputable def cp:af -> OS:=
    (bf (kn 1 (aW aM (ah (mOp jw (ao 1) (ao 2)) az)))
    (u9 2 gE (mC (.int 1))))
noncomputable def iq:af -> OS:=
    (gX 1)
noncomputable def ip:af -> OS:=
    (bf (bR cu
    cp fuel)
    iq)
noncomputable def iz:af -> OS:=
    (bf (cU 2 (mC (.int 0)))
    ip)
noncomputable def gC:af -> OS:=
    (bf (cU 1 (gi (ah (ao 0) az)))
    iz)
noncomputable def bZ:List PV->OE:=fnP 1 3 gC
noncomputable def cW:af -> OE:=
    (aW bA (ah (ao 0) az))
noncomputable def jV:af -> OS:=
    (b4 (mUn Cd (m6 (aW bZ (ah (ao 0) az)) [] cW)))
noncomputable def cK:List PV->OE:=fnP 1 1 jV
noncomputable def jv:af -> OS:=
    (bf (cU 8 (bb (ah (ao 1) (ah (mC .non) az))))
    (bf (cU 5 (x8 (aR (mOp gEq (mOp cF (ao 7) (mC (.int 2))) (mC (.int 0)))) (bb (ah (mC (.str "row")) (ah (mOp bV (ao 8) (bb (ah (ao 5) az))) az))) (bb (ah (mC (.str "fields")) (ah (bb (ah (bb (ah (bb az) (ah (ao 5) az))) (ah (bb (ah (bb (ah (mC (.int 1)) az)) (ah (ao 1) az))) az))) az)))))
    (cU 6 (x8 (aR (mOp gEq (mOp cF (ao 7) (mC (.int 2))) (mC (.int 0)))) (bb (ah (mC (.str "row")) (ah (mOp bV (ao 8) (bb (ah (ao 6) az))) az))) (bb (ah (mC (.str "fields")) (ah (bb (ah (bb (ah (bb az) (ah (ao 6) az))) (ah (bb (ah (bb (ah (mC (.int 1)) az)) (ah (ao 1) az))) az))) az)))))))
noncomputable def pN:af -> OS:=
    (b4 (wM (mOp sC (aW cK (ah (ao 5) az)) (mC (.bl false))) (mOp sC (aW cK (ah (ao 6) az)) (mC (.bl true)))))
noncomputable def uy:af -> OS:=
    (bf (kB 7 (mOp cF (aW bM (ah (ao 0) (ah (mC (.int 53)) az))) (mC (.int 3)))
    jv)
    pN)
noncomputable def uh:af -> OS:=
    (bf (cU 6 (bb (ah (mC (.str "fields")) (ah (bb (ah (bb (ah (ao 4) (ah (ao 1) az))) (ah (bb (ah (bb (ah (mC (.int 97)) (ah (mC (.int 7777)) az))) (ah (mC .non) az))) (ah (bb (ah (mOp bV (ao 4) (bb (ah (mC (.int 1)) az))) (ah (ao 2) az))) az)))) az))))
    uy)
noncomputable def tU:af -> OS:=
    (bf (cU 5 (bb (ah (mC (.str "fields")) (ah (bb (ah (bb (ah (ao 4) (ah (ao 1) az))) (ah (bb (ah (bb (ah (mC (.int 97)) (ah (mC (.int 7777)) az))) (ah (mC .non) az))) (ah (bb (ah (ao 4) (ah (ao 2) az))) az)))) az))))
    uh)
noncomputable def uj:af -> OS:=
    (bf (cU 4 (aW bQ (ah (mOp cF (aW bM (ah (ao 0) (ah (mC (.int 52)) az))) (mC (.int 8))) az)))
    tU)
noncomputable def ur:af -> OS:=
    (bf (bW (iB (aR (mOp gm (aW fq (ah (ao 1) (ah (ao 3) az))) (mC (.bl false)))) (aR (mOp gm (aW fq (ah (ao 3) (ah (ao 2) az))) (mC (.bl false)))))
    (b4 (mC (.bl false)))
    bU)
    uj)
noncomputable def uD:af -> OS:=
    (bf (bW (iB (aR (mOp gm (aW fq (ah (ao 1) (ah (ao 2) az))) (mC (.bl true)))) (iB (aR (mOp gm (aW fq (ah (ao 2) (ah (ao 1) az))) (mC (.bl true)))) (aR (mOp gm (aW cK (ah (ao 1) az)) (mC (.bl true))))))
    (b4 (mC (.bl false)))
    bU)
    ur)
noncomputable def uv:af -> OS:=
    (bf (cU 3 (aW cG (ah (ao 1) (ah (aW bM (ah (ao 0) (ah (mC (.int 51)) az))) az))))
    uD)
noncomputable def uo:af -> OS:=
    (bf (cU 2 (aW cT (ah (ao 1) (ah (aW bM (ah (ao 0) (ah (mC (.int 50)) az))) az))))
    uv)
noncomputable def vV:af -> OS:=
    (bf (cU 1 (aW cR (ah (ao 0) (ah (mC (.int 0)) (ah (mOp gE (mC (.int 1)) (mOp cF (aW bM (ah (ao 0) (ah (mC (.int 62)) az))) (mC (.int 12)))) az)))))
    uo)
noncomputable def qL:List PV->OE:=fnP 1 9 vV
theorem g9(ns:List Int)(k:Int):dU [.lst (ns.map .int),.int k]=.ok (.sh (.int (PG.cell ns k))):=by
 unfold dU nu PG.cell
 cases ns with
 |nil=>simp
 | cons n r=>
   have hp:(0:Int)<(r.length:Int)+1:=by omega
   have hm:0<=k%((r.length:Int)+1):=Int.emod_nonneg _ (by omega)
   have hm2:k%((r.length:Int)+1)<(r.length:Int)+1:=Int.emod_lt_of_pos _ hp
   have hi:(k%((r.length:Int)+1)).toNat<(n ::r).length:=by rw[List.length_cons];omega
   have ha:atP (PV.int n ::r.map .int) (k%((r.length:Int)+1))=some (.int ((n ::r).getD (k%((r.length:Int)+1)).toNat 0)):=by
    rw[sG _ _ hm]
    have:(PV.int n ::r.map .int)=(n ::r).map .int:=rfl
    rw[this,List.getElem?_map,List.getElem?_eq_getElem hi,List.getD_eq_getElem?_getD,List.getElem?_eq_getElem hi];rfl
   simp[hp,ha]
theorem bS(ns:List Int)(k:Int):bM [.lst (ns.map .int),.int k]=.ok (.sh (.int (PG.mix ns k))):=by
 unfold PG.mix;simp[lT,lU,oF,bM,g9]
noncomputable abbrev nmP(n:List Int):PV:=.tup (n.map .int)
noncomputable def kdl:PV->String
 |.non=>"null"
 |.bl true=>"true"
 |.bl false=>"false"
 |.tup [_,_,_]=>"number"
 |_=>"text"
noncomputable def kd:PJ.JV->String
 |.lf x=>kdl x
 |.row _=>"row"
 |.fld _ _=>"fields"
noncomputable def bD:PJ.JV->List PJ.JV
 |.lf _=>[]
 |.row vs=>vs
 |.fld _ vs=>vs
theorem kH(k:String)(xs:List PV):bz [.tup (.str (Str.ofString k) ::xs)]=.ok (.sh (.str (Str.ofString k))):=by
 simp[bz,gP,gk,iY,lJ,jU,lZ]
theorem fc(x:PV)(h:PJ.mY x):bz [x]=.ok (.sh (.str (Str.ofString (kdl x)))) /\ kdl x ≠ "row" /\ kdl x ≠ "fields":=by
 rcases h with rfl|⟨b,rfl⟩|⟨n,p,rfl,_⟩|⟨cs,rfl,_⟩
 . exact⟨by simp[bz,gP,jU,kdl],by decide,by decide⟩
 . cases b
   . exact⟨by simp[bz,gP,gk,iY,jU,lZ,kdl],by decide,by decide⟩
   . exact⟨by simp[bz,gP,gk,jU,lZ,kdl],by decide,by decide⟩
 . exact⟨kH "number" _,by simp[kdl],by simp[kdl]⟩
 . exact⟨kH "text" _,by simp[kdl],by simp[kdl]⟩
noncomputable def Wl:PJ.JV->Prop
 |.lf x=>PJ.mY x
 |.row _=>True
 |.fld ns vs=>ns.length=vs.length
theorem zB{v:PJ.JV}(h:PJ.Cl v):Wl v:=by
 cases v with
 |lf x=>exact h
 |row vs=>trivial
 |fld ns vs=>exact h.1
theorem p4(v:PJ.JV)(h:Wl v):bz [PJ.enc v]=.ok (.sh (.str (Str.ofString (kd v)))):=by
 cases v with
 |lf x=>rw[PJ.enc];exact(fc x h).1
 |row vs=>rw[PJ.enc];exact kH "row" _
 |fld ns vs=>rw[PJ.enc];exact kH "fields" _
theorem nk(v:PJ.JV)(h:PJ.Cl v):bz [PJ.enc v]=.ok (.sh (.str (Str.ofString (kd v)))):=p4 v (zB h)
theorem eX(a b:String):eU (.str (Str.ofString a)) (.str (Str.ofString b))=some (.sh (.bl (decide (a=b)))):=by
 simp[eU]
theorem mE(a b:String):sj (.str (Str.ofString a)) (.str (Str.ofString b))=some (.sh (.bl (!decide (a=b)))):=by
 simp[sj]
theorem ll:∀(ns:List (List Int)) (es:List PV),List.zipWith PJ.mem ns es=g7 (ns.zip es)
 |[],_=>by simp[g7]
 |_ ::_,[]=>by simp[g7]
 | n ::ns,e ::es=>by
   have:=ll ns es
   simp only[List.zipWith_cons_cons,List.zip_cons_cons,g7,List.map_cons]at this ⊢
   rw[this];rfl
theorem jo{me:af->OE}{ρ:af}{g:List Int->PV->PV}:∀(ns:List (List Int)) (es:List PV),(∀ n e,(n,e)∈ns.zip es->me (ρ++[some (.sh (PJ.mem n e))])=.ok (.sh (g n e)))->bC me ρ (List.zipWith PJ.mem ns es)=.ok (List.zipWith g ns es)
 |[],_,_=>rfl
 |_ ::_,[],_=>rfl
 | n ::ns,e ::es,h=>by
   have h1:=h n e (by simp)
   have h2:=jo ns es fun n e hz=>h n e (by simp[hz])
   simp[bC,h1,h2]
theorem BF(ns:List (List Int))(es:List PV)(h:ns.length=es.length):List.zipWith (fun n (_:PV)=>nmP n) ns es=ns.map nmP:=by
 induction ns generalizing es with
 |nil=>simp
 | cons n ns ih=>
   cases es with
   |nil=>simp at h
   |cons e es=>simp[ih es (by simpa using h)]
theorem CB(ns:List (List Int))(es:List PV)(h:ns.length=es.length):List.zipWith (fun (_:List Int) e=>e) ns es=es:=by
 induction ns generalizing es with
 |nil=>cases es with|nil=>rfl|cons _ _=>simp at h
 | cons n ns ih=>
   cases es with
   |nil=>simp at h
   |cons e es=>simp[ih es (by simpa using h)]
theorem nL:∀ ns:List (List Int),iL (ns.map nmP)=some ns
 |[]=>rfl
 | n ::ns=>by
   rw[List.map_cons,iL,nL ns]
   have:oe (nmP n)=some n:=jR n
   rw[this];rfl
theorem AK(ns:List (List Int))(d:Nat):ir (ns.map nmP) (d+1)=true:=by
 induction ns with
 |nil=>simp[ir]
 |cons n ns ih=>simp[ir,gM,nh,ih]
theorem xu:∀ a b:List (List Int),fK (a.map nmP) (b.map nmP)=decide (a=b)
 |[],[]=>by simp[fK]
 |[],_ ::_=>by simp[fK]
 |_ ::_,[]=>by simp[fK]
 | x ::a,y ::b=>by
   rw[List.map_cons,List.map_cons,fK,xu a b];simp only[dD,nA]
   by_cases h1:x=y<;>by_cases h2:a=b<;>simp[h1,h2]
theorem yD(a b:List (List Int)):eU (.lst ((eW a).map nmP)) (.lst ((eW b).map nmP))=some (.sh (.bl (decide (eW a=eW b)))):=by
 simp[eU,gM,AK,dD,xu]
theorem bj{n:Nat}(h:n<=1000):n<=lim:=Nat.le_of_lt (sL (by omega))
theorem df(ns:List (List Int))(vs:List PJ.JV):PJ.enc (.fld ns vs)=.tup [.str "fields",.tup (List.zipWith PJ.mem ns (PJ.aH vs))]:=by rw[PJ.enc]
theorem fk(vs:List PJ.JV):PJ.enc (.row vs)=.tup [.str "row",.tup (PJ.aH vs)]:=by rw[PJ.enc]
theorem mO{ns:List (List Int)}{vs:List PJ.JV}(h:ns.length=vs.length):(List.zipWith PJ.mem ns (PJ.aH vs)).length=vs.length:=by simp[PJ.bL,h]
theorem rR(v:PJ.JV)(h:Wl v)(hs:PJ.size v<=900):aM [PJ.enc v]=.ok (.fr (PJ.aH (bD v))):=by
 have hk:=p4 v h
 cases v with
 | lf x=>
   have hx:=fc x h
   rw[PJ.enc]at hk ⊢
   simp[aM,eR,dw,e9,gJ,hk,kd,eX,hx.2.1,hx.2.2,bD,PJ.aH]
 | row vs=>
   rw[fk]at hk ⊢
   simp[aM,eR,dw,hk,kd,eX,bD,ke]
 | fld ns vs=>
   rw[df]at hk ⊢
   have hl:=PJ.dc vs;simp only[PJ.size]at hs
   have he:=jo (me:=cQ) (ρ:=[]) (g:=fun _ e=>e) ns (PJ.aH vs) fun n e _=>by simp[cQ,PJ.mem]
   rw[CB ns _ (by rw[PJ.bL];exact h)]at he
   have hlim:(PJ.aH vs).length<=lim:=bj (by rw[PJ.bL];omega)
   have hc:(dC (mOp bc (ao 0) (mC (.int 1))) [] cQ) [some (.sh (.tup [.str "fields",.tup (List.zipWith PJ.mem ns (PJ.aH vs))])),some (.sh (.str "fields"))]=.ok (.fr (PJ.aH vs)):=by
    show noX (bC cQ [] (List.zipWith PJ.mem ns (PJ.aH vs)))=_;rw[he];exact if_pos hlim
   simp -implicitDefEqProofs [aM,eR,dw,e9,hk,kd,eX,bD,hc]
theorem uu(v:PJ.JV)(h:PJ.Cl v)(hs:PJ.size v<=900):aM [PJ.enc v]=.ok (.fr (PJ.aH (bD v))):=rR v (zB h) hs
theorem CZ{x y:PV}(hx:PJ.mY x)(hy:PJ.mY y):eU x y=some (.sh (.bl (dD x y))):=by
 rcases hx with rfl|⟨b,rfl⟩|⟨a,p,rfl,_⟩|⟨cs,rfl,_⟩<;>rcases hy with rfl|⟨b',rfl⟩|⟨a',p',rfl,_⟩|⟨cs',rfl,_⟩<;>simp[eU,gM,ir,nh]
theorem Dl{x y:PV}(hx:PJ.mY x)(hy:PJ.mY y)(h:kdl x≠kdl y):dD x y=false:=by
 cases e:dD x y with
 |false=>rfl
 |true=>exact absurd (congrArg kdl ((PJ.uG hx hy).mp e)) h
theorem jF(i:Nat)(me:af->OE)(hme:∀ n e,me [some (.sh (PJ.mem n e))]=.ok (.sh (nmP n)))(ns:List (List Int))(vs:List PJ.JV)(hl:ns.length=vs.length)(hs:vs.length<=900)(ρ:af)(hρ:ρ[i]?=some (some (.sh (PJ.enc (.fld ns vs))))):(dC (mOp bc (ao i) (mC (.int 1))) [] me) ρ=.ok (.fr (ns.map nmP)):=by
 have he:=jo (me:=me) (ρ:=[]) (g:=fun n _=>nmP n) ns (PJ.aH vs) fun n e _=>hme n e
 rw[BF ns _ (by rw[PJ.bL];exact hl)]at he
 have hlim:(ns.map nmP).length<=lim:=bj (by rw[List.length_map];omega)
 have h1:(mOp bc (ao i) (mC (.int 1))) ρ=.ok (.sh (.tup (List.zipWith PJ.mem ns (PJ.aH vs)))):=by
  rw[df]at hρ;simp[hρ]
 unfold dC;rw[h1];show noX (bC me [] (List.zipWith PJ.mem ns (PJ.aH vs)))=_;rw[he];exact if_pos hlim
theorem um(ns:List (List Int))(nd:ns.Nodup)(h:ns.length<64):jJ (.lst (ns.map nmP))=some (.fr ((eW ns).map nmP)):=by
 show(iL (ns.map nmP)).bind _=_
 rw[nL];exact if_pos ⟨nd,h⟩
theorem t8{g:PV->Option RV}{m:af->OE}{ρ:af}{r x:RV}(h:m ρ=.ok r)(e:g r.pv=some x):mUn g m ρ=.ok x:=by
 unfold mUn;rw[h];show oE (g r.pv)=_;rw[e];rfl
theorem mS{g:PV->PV->Option RV}{a b:af->OE}{ρ:af}{r t x:RV}(h1:a ρ=.ok r)(h2:b ρ=.ok t)(e:g r.pv t.pv=some x):mOp g a b ρ=.ok x:=by
 unfold mOp;rw[h1];show OE.bind (b ρ) _=_;rw[h2];show oE (g r.pv t.pv)=_;rw[e];rfl
theorem qF(x y:PJ.JV)(hx:PJ.Cl x):fQ [PJ.enc x,PJ.enc y]=fin (jt [some (.sh (PJ.enc x)),some (.sh (PJ.enc y)),some (.sh (.str (Str.ofString (kd x))))]):=by
 have h1:=nk x hx;show fin (pz [some (.sh (PJ.enc x)),some (.sh (PJ.enc y)),none])=_;unfold pz;rw[bx (ρ':=[some (.sh (PJ.enc x)),some (.sh (PJ.enc y)),some (.sh (.str (Str.ofString (kd x))))]) (by simp[h1])]
theorem mK(x y:PJ.JV)(hx:PJ.Cl x)(hy:PJ.Cl y)(h:kd x≠kd y):fQ [PJ.enc x,PJ.enc y]=.ok (.sh (.bl false)):=by
 have h2:=nk y hy;rw[qF x y hx];simp[jt,h2,mE,h]
theorem wZ(x y:PJ.JV)(hx:PJ.Cl x)(hy:PJ.Cl y)(h:kd x=kd y):fQ [PJ.enc x,PJ.enc y]=fin (gT [some (.sh (PJ.enc x)),some (.sh (PJ.enc y)),some (.sh (.str (Str.ofString (kd x))))]):=by
 have h2:=nk y hy;rw[qF x y hx];unfold jt;rw[sk (by simp[h2,mE,h])]
theorem ku(x y:PJ.JV)(hx:PJ.Cl x)(hy:PJ.Cl y)(sx:PJ.size x<=60)(sy:PJ.size y<=60):fQ [PJ.enc x,PJ.enc y]=.ok (.sh (.bl (PJ.agr x y))):=by
 cases x with
 | lf a=>
   have ka:=fc a hx
   cases y with
   | lf b=>
     by_cases h:kdl a=kdl b
     . rw[wZ _ _ hx hy h];have e:=CZ hx hy;rw[PJ.enc,PJ.enc];simp[gT,kK,ox,kd,eX,ka.2.1,ka.2.2,e,PJ.agr]
     . rw[mK _ _ hx hy h];simp[PJ.agr,Dl hx hy h]
   |row ws=>rw[mK _ _ hx hy ka.2.1];rfl
   |fld ms ws=>rw[mK _ _ hx hy ka.2.2];rfl
 | row vs=>
   cases y with
   |lf b=>rw[mK _ _ hx hy (fun z=>(fc b hy).2.1 z.symm)];rfl
   | row ws=>
     rw[wZ _ _ hx hy rfl,fk,fk]
     have e:((vs.length:Int)=(ws.length:Int))↔vs.length=ws.length:=by omega
     simp[gT,kd,eX,PJ.bL,PJ.agr,e]
   |fld ms ws=>rw[mK _ _ hx hy (by simp[kd])];rfl
 | fld ns vs=>
   cases y with
   |lf b=>rw[mK _ _ hx hy (fun z=>(fc b hy).2.2 z.symm)];rfl
   |row ws=>rw[mK _ _ hx hy (by simp[kd])];rfl
   | fld ms ws=>
     rw[wZ _ _ hx hy rfl];simp only[PJ.size]at sx sy;have l1:=PJ.dc vs;have l2:=PJ.dc ws;obtain⟨a1,a2,a3⟩:=hx;obtain⟨b1,b2,b3⟩:=hy;have c1:=jF 0 kW (fun n e=>by simp[kW,PJ.mem]) ns vs a1 (by omega) [some (.sh (PJ.enc (.fld ns vs))),some (.sh (PJ.enc (.fld ms ws))),some (.sh (.str (Str.ofString (kd (.fld ns vs)))))] rfl;have c2:=jF 1 lD (fun n e=>by simp[lD,PJ.mem]) ms ws b1 (by omega) [some (.sh (PJ.enc (.fld ns vs))),some (.sh (PJ.enc (.fld ms ws))),some (.sh (.str (Str.ofString (kd (.fld ns vs)))))] rfl;have s1:=um ns a2 (by omega);have s2:=um ms b2 (by omega);have e:=yD ns ms;unfold gT;rw[sk (by simp[kd,eX])];unfold kK;rw[gf,oh (by simp[kd,eX])];have h3:=mS (g:=eU) (t8 (g:=jJ) c1 s1) (t8 (g:=jJ) c2 s2) e;unfold b4;rw[h3];rfl
theorem v3(q:List Int):oe (nmP q)=some q:=jR q
theorem yP{d:DT}{q:List Int}(h:q∉d.map (·.1)):(d.any fun p=>decide (p.1=q))=false:=by
 rw[List.any_eq_false];intro p hp;simp only[decide_eq_true_eq]
 exact fun z=>h (List.mem_map.mpr ⟨p,hp,z⟩)
theorem Cn{d:DT}{q:List Int}(h:q∉d.map (·.1))(u:PV):nC d q u=d++[(q,u)]:=by
 unfold nC;rw[yP h];rfl
theorem uL:∀(ps d:DT),((d++ps).map (·.1)).Nodup->ps.foldl (fun d p=>nC d p.1 p.2) d=d++ps
 |[],d,_=>by simp
 | p ::ps,d,h=>by
   have hp:p.1∉d.map (·.1):=by
    intro z;rw[List.map_append,List.map_cons,List.nodup_append]at h;exact h.2.2 _ z _ List.mem_cons_self rfl
   rw[List.foldl_cons,Cn hp,uL ps _ (by simpa using h)];simp
theorem lQ:∀ ps:DT,j0 (g7 ps)=some ps
 |[]=>rfl
 | p ::ps=>by
   have:g7 (p ::ps)=.tup [nmP p.1,p.2] ::g7 ps:=rfl
   rw[this,j0,v3,lQ ps];rfl
theorem ub:∀(ns:List (List Int)) (es:List PV),ns.length=es.length->(ns.zip es).map (·.1)=ns
 |[],_,_=>rfl
 |_ ::_,[],h=>by simp at h
 |n ::ns,e ::es,h=>by simp[ub ns es (by simpa using h)]
theorem uF:∀{ns:List (List Int)} {vs:List PJ.JV} {k:List Int},ns.length=vs.length->k∈ns->ij (ns.zip (PJ.aH vs)) k=some (PJ.enc (PJ.lk ns vs k))
 |[],_,_,_,h=>by cases h
 |_ ::_,[],_,h,_=>by simp at h
 | n ::ns,v ::vs,k,hl,h=>by
   rw[PJ.aH,List.zip_cons_cons,PJ.lk]
   by_cases e:n=k
   . simp[ij,e]
   . have hk:k∈ns:=(List.mem_cons.mp h).resolve_left fun z=>e z.symm
     have:=uF (vs:=vs) (by simpa using hl) hk
     unfold ij at this ⊢
     rw[List.find?_cons,if_neg e]
     simpa [e]using this
noncomputable abbrev eP(p:PJ.JV×PJ.JV):PV:=.tup [PJ.enc p.1,PJ.enc p.2]
theorem xm:∀(vs ws:List PJ.JV),List.zipWith (fun a b=>PV.tup [a,b]) (PJ.aH vs) (PJ.aH ws)=(vs.zip ws).map eP
 |[],_=>by simp[PJ.aH]
 |_ ::_,[]=>by simp[PJ.aH]
 |v ::vs,w ::ws=>by simp[PJ.aH,xm vs ws]
theorem vD(d:DT)(n:List Int)(e u:PV)(h:ij d n=some u):cm [some (.tr false (.dt d)),some (.sh (PJ.mem n e))]=.ok (.sh (.tup [e,u])):=by
 have h1:(pb 0 aZ (mOp bc (ao 1) (mC (.int 0)))) [some (.tr false (.dt d)),some (.sh (PJ.mem n e))]=.ok (.sh u):=by
  have h2:(mOp bc (ao 1) (mC (.int 0))) [some (.tr false (.dt d)),some (.sh (PJ.mem n e))]=.ok (.sh (nmP n)):=by simp[PJ.mem]
  have h3:subAt 0 aZ [some (.tr false (.dt d)),some (.sh (PJ.mem n e))]=some (.dt d):=rfl
  unfold pb;rw[h3,h2];simp only[OE.bind,RV.pv,v3,h]
 have h0:(mOp bc (ao 1) (mC (.int 1))) [some (.tr false (.dt d)),some (.sh (PJ.mem n e))]=.ok (.sh e):=by simp[PJ.mem]
 have h3:(ah (mOp bc (ao 1) (mC (.int 1))) (ah (pb 0 aZ (mOp bc (ao 1) (mC (.int 0)))) az)) [some (.tr false (.dt d)),some (.sh (PJ.mem n e))]=.ok [e,u]:=by
  simp only[ya,h0,h1,Bl];rfl
 simp only[cm,Bn,h3,OA.bind];exact if_pos (bj (by show 2<=1000;omega))
theorem oM(x y:PJ.JV)(hx:PJ.Cl x)(hy:PJ.Cl y)(sx:PJ.size x<=60)(sy:PJ.size y<=60)(hk:kd x ≠ "fields")(hl:(bD x).length=(bD y).length):bY [PJ.enc x,PJ.enc y]=.ok (.fr (((bD x).zip (bD y)).map eP)):=by
 have h1:=nk x hx;have h2:=uu x hx (by omega);have h3:=uu y hy (by omega)
 have h4:xV (.lst (PJ.aH (bD x))) (.lst (PJ.aH (bD y)))=some (.fr (((bD x).zip (bD y)).map eP)):=by
  show(if _ then _ else _)=_
  rw[if_pos (by rw[PJ.bL,PJ.bL];exact hl),xm]
 have h5:=mS (g:=xV) (a:=aW aM (ah (ao 0) az)) (b:=aW aM (ah (ao 1) az)) (ρ:=[some (.sh (PJ.enc x)),some (.sh (PJ.enc y)),none]) (r:=.fr (PJ.aH (bD x))) (t:=.fr (PJ.aH (bD y))) (by simp[h2]) (by simp[h3]) h4;show fin (dP [some (.sh (PJ.enc x)),some (.sh (PJ.enc y)),none])=_;unfold dP;rw[gf,oh (by simp[h1,mE,hk])];unfold b4;rw[h5];rfl
theorem y8(x y:PJ.JV)(hx:PJ.Cl x)(hy:PJ.Cl y)(sx:PJ.size x<=60)(sy:PJ.size y<=60)(ag:PJ.agr x y=true):bY [PJ.enc x,PJ.enc y]=.ok (.fr ((PJ.prs x y).map eP)):=by
 cases x with
 | lf a=>
   cases y with
   |lf b=>exact oM _ _ hx hy sx sy (fc a hx).2.2 rfl
   |_=>simp[PJ.agr]at ag
 | row vs=>
   cases y with
   |row ws=>exact oM _ _ hx hy sx sy (by simp[kd]) (show vs.length=ws.length by simpa [PJ.agr]using ag)
   |_=>simp[PJ.agr]at ag
 | fld ns vs=>
   cases y with
   | fld ms ws=>
     have h1:=nk _ hx;obtain⟨a1,a2,a3⟩:=hx;obtain⟨b1,b2,b3⟩:=hy;simp only[PJ.size]at sx sy;have l1:=PJ.dc vs;have l2:=PJ.dc ws;have pm:=(jd a2 b2).mp (by simpa [PJ.agr]using ag)
     have lz:ms.length=(PJ.aH ws).length:=by rw[PJ.bL];exact b1
     have hd:zP (ms.zip (PJ.aH ws))=ms.zip (PJ.aH ws):=by
      have:=uL (ms.zip (PJ.aH ws)) [] (by rw[List.nil_append,ub _ _ lz];exact b2);rw[List.nil_append]at this;exact this
     have hset:jb 2 (mG (mOp bc (ao 1) (mC (.int 1)))) [some (.sh (PJ.enc (.fld ns vs))),some (.sh (PJ.enc (.fld ms ws))),none]=.nx [some (.sh (PJ.enc (.fld ns vs))),some (.sh (PJ.enc (.fld ms ws))),some (.tr false (.dt (ms.zip (PJ.aH ws))))]:=by
      have h2:(mOp bc (ao 1) (mC (.int 1))) [some (.sh (PJ.enc (.fld ns vs))),some (.sh (PJ.enc (.fld ms ws))),none]=.ok (.sh (.tup (g7 (ms.zip (PJ.aH ws))))):=by
       rw[df ms ws,ll];simp
      have h3:(g7 (ms.zip (PJ.aH ws))).length<=lim:=bj (by rw[<- ll,mO b1];omega)
      unfold jb mG;rw[h2];simp only[RV.pv,lQ,h3,if_true,hd];rfl
     have hc:(dC (mOp bc (ao 0) (mC (.int 1))) [2] cm) [some (.sh (PJ.enc (.fld ns vs))),some (.sh (PJ.enc (.fld ms ws))),some (.tr false (.dt (ms.zip (PJ.aH ws))))]=.ok (.fr ((PJ.prs (.fld ns vs) (.fld ms ws)).map eP)):=by
      have h2:(mOp bc (ao 0) (mC (.int 1))) [some (.sh (PJ.enc (.fld ns vs))),some (.sh (PJ.enc (.fld ms ws))),some (.tr false (.dt (ms.zip (PJ.aH ws))))]=.ok (.sh (.tup (List.zipWith PJ.mem ns (PJ.aH vs)))):=by
       rw[df ns vs];simp
      have he:=jo (me:=cm) (ρ:=[some (.tr false (.dt (ms.zip (PJ.aH ws))))]) (g:=fun n e=>.tup [e,PJ.enc (PJ.lk ms ws n)]) ns (PJ.aH vs) fun n e hz=>by
       exact vD _ n e _ (uF b1 (pm.mem_iff.mp (List.of_mem_zip hz).1))
      have hq:List.zipWith (fun n e=>PV.tup [e,PJ.enc (PJ.lk ms ws n)]) ns (PJ.aH vs)=(PJ.prs (.fld ns vs) (.fld ms ws)).map eP:=by
       show _=((ns.zip vs).map _).map eP;clear he h2 hset a1 a2 a3 l1 sx ag pm h1
       induction ns generalizing vs with
       |nil=>simp
       | cons n ns ih=>
         cases vs with
         |nil=>simp[PJ.aH]
         |cons v vs=>simp only[PJ.aH,List.zipWith_cons_cons,List.zip_cons_cons,List.map_cons];rw[ih vs]
      unfold dC;rw[h2];show noX (bC cm [some (.tr false (.dt (ms.zip (PJ.aH ws))))] (List.zipWith PJ.mem ns (PJ.aH vs)))=_;rw[he,hq];exact if_pos (bj (by rw[List.length_map];show((ns.zip vs).map _).length<=_;rw[List.length_map,List.length_zip];omega))
     show fin (dP [some (.sh (PJ.enc (.fld ns vs))),some (.sh (PJ.enc (.fld ms ws))),none])=_;unfold dP;rw[sk (by simp[h1,mE,kd])];unfold ik;rw[bx hset];unfold iy b4;rw[hc];rfl
   |_=>simp[PJ.agr]at ag
theorem Ck{x y:PJ.JV}(c1:PJ.Cl x)(c2:PJ.Cl y)(ag:PJ.agr x y=true):∀ p∈PJ.prs x y,PJ.Cl p.1 /\ PJ.Cl p.2 /\ PJ.size p.2<PJ.size y:=by
 intro p hp
 cases x with
 |lf _=>cases y<;>simp[PJ.prs]at hp
 | row vs=>
   cases y with
   | row ws=>
     have hz:=List.of_mem_zip (show(p.1,p.2)∈vs.zip ws from hp);have:=PJ.b0 hz.2
     exact⟨(PJ.cN _).mp c1 _ hz.1,(PJ.cN _).mp c2 _ hz.2,by simp only[PJ.size];omega⟩
   |_=>simp[PJ.prs]at hp
 | fld ns vs=>
   cases y with
   | fld ms ws=>
     obtain⟨q,hq,rfl⟩:=List.mem_map.mp (show p∈(ns.zip vs).map _ from hp);have hz:=List.of_mem_zip (show(q.1,q.2)∈ns.zip vs from hq);have pm:=(jd c1.2.1 c2.2.1).mp (by simpa [PJ.agr]using ag);have hm:=PJ.tP c2.1 (pm.mem_iff.mp hz.1);have:=PJ.b0 hm
     exact⟨(PJ.cN _).mp c1.2.2 _ hz.2,(PJ.cN _).mp c2.2.2 _ hm,by simp only[PJ.size];omega⟩
   |_=>simp[PJ.prs]at hp
theorem ue:∀(vs ws:List PJ.JV),((vs.zip ws).map fun p=>PJ.size p.1).sum<=PJ.aN vs
 |[],_=>by simp
 |_ ::_,[]=>by simp
 |v ::vs,w ::ws=>by have:=ue vs ws;simp[PJ.aN];omega
theorem qq:∀(ns:List (List Int)) (vs:List PJ.JV),((ns.zip vs).map fun p=>PJ.size p.2).sum<=PJ.aN vs
 |[],_=>by simp
 |_ ::_,[]=>by simp
 |n ::ns,v ::vs=>by have:=qq ns vs;simp[PJ.aN];omega
theorem uJ(x y:PJ.JV):((PJ.prs x y).map fun p=>PJ.size p.1).sum<PJ.size x:=by
 have h0:=PJ.size_pos x
 cases x with
 |lf _=>cases y<;>simp[PJ.prs]<;>omega
 | row vs=>
   cases y with
   |row ws=>have:=ue vs ws;simp only[PJ.prs,PJ.size];omega
   |_=>simp[PJ.prs];omega
 | fld ns vs=>
   cases y with
   | fld ms ws=>
     have:=qq ns vs;simp only[PJ.prs,PJ.size,List.map_map]
     show(List.map (fun p=>PJ.size p.2) (ns.zip vs)).sum<_
     omega
   |_=>simp[PJ.prs];omega
theorem qc:∀ l:List (PJ.JV×PJ.JV),l.length<=(l.map fun p=>PJ.size p.1).sum
 |[]=>by simp
 |p ::l=>by have:=PJ.size_pos p.1;have:=qc l;simp;omega
theorem x6(x y:PJ.JV):(PJ.prs x y).length<=PJ.size x:=by
 have h1:=uJ x y;have h2:=qc (PJ.prs x y);omega
noncomputable abbrev stk(P:List (PJ.JV×PJ.JV)):OV:=.ol (P.map fun p=>.sh (eP p))
noncomputable abbrev aE(x y:PV)(P:List (PJ.JV×PJ.JV))(q:Option Sl):af:=[some (.sh x),some (.sh y),some (.tr false (stk P)),q]
theorem pw(x y:PV)(P:List (PJ.JV×PJ.JV))(q:Option Sl):el (aE x y P q)=.ok (!P.isEmpty):=by
 unfold el;rw[wq (ts:=P.map fun p=>.sh (eP p)) (uO rfl)]
 cases P<;>rfl
theorem Ab(x y:PV)(P:List (PJ.JV×PJ.JV))(p:PJ.JV×PJ.JV)(q:Option Sl):fL 3 (i9 2 aZ) (aE x y (P++[p]) q)=.nx (aE x y P (some (.sh (eP p)))):=by
 unfold fL;rw[yy (ts:=P.map fun p=>.sh (eP p)) (x:=.sh (eP p)) (io:=false) (by simp[stk])];rfl
theorem Dm(x y:PV)(P:List (PJ.JV×PJ.JV))(p:PJ.JV×PJ.JV)(q:Option Sl)(h1:PJ.Cl p.1)(h2:PJ.Cl p.2)(s1:PJ.size p.1<=60)(s2:PJ.size p.2<=60)(h:PJ.agr p.1 p.2=false):∃ ρ,dv (aE x y (P++[p]) q)=.rt ρ (.sh (.bl false)):=by
 have e:=ku p.1 p.2 h1 h2 s1 s2;rw[h]at e
 refine⟨aE x y P (some (.sh (eP p))),?_⟩
 unfold dv;rw[bx (Ab x y P p q)];simp[e]
theorem Bc(x y:PV)(P:List (PJ.JV×PJ.JV))(p:PJ.JV×PJ.JV)(q:Option Sl)(h1:PJ.Cl p.1)(h2:PJ.Cl p.2)(s1:PJ.size p.1<=60)(s2:PJ.size p.2<=60)(h:PJ.agr p.1 p.2=true)(hl:P.length+(PJ.prs p.1 p.2).length<=900):dv (aE x y (P++[p]) q)=.nx (aE x y (P++PJ.prs p.1 p.2) (some (.sh (eP p)))):=by
 have e:=ku p.1 p.2 h1 h2 s1 s2;rw[h]at e;have e2:=y8 p.1 p.2 h1 h2 s1 s2 h;unfold dv;rw[bx (Ab x y P p q),sk (by simp[e])]
 have hm:aW bY (ah (mOp bc (ao 3) (mC (.int 0))) (ah (mOp bc (ao 3) (mC (.int 1))) az)) (aE x y P (some (.sh (eP p))))=.ok (.fr ((PJ.prs p.1 p.2).map eP)):=by simp[e2]
 have hlim:P.length+(PJ.prs p.1 p.2).length<=lim:=bj (by omega)
 rw[w6 (ρ:=aE x y P (some (.sh (eP p)))) (i:=2) (io:=false) (ts:=P.map fun p=>.sh (eP p)) rfl (.inl hm) (by simpa using hlim)];simp[stk]
theorem vW{α:Type}(f:α->Bool)(l:List α)(a:α):(l++[a]).all f=(l.all f&&f a):=by simp
theorem AV(x y:PV):∀(T F:Nat) (P:List (PJ.JV×PJ.JV)) (q:Option Sl),(P.map fun p=>PJ.size p.1).sum<=T->T<F->T<=900->(∀ p∈P,PJ.Cl p.1 /\ PJ.Cl p.2 /\ PJ.size p.1<=60 /\ PJ.size p.2<=60) ->
  (∃ ρ,(P.all fun p=>PJ.al (PJ.size p.1) p.1 p.2)=false /\ bR el dv F (aE x y P q)=.rt ρ (.sh (.bl false))) \/ (∃ q',(P.all fun p=>PJ.al (PJ.size p.1) p.1 p.2)=true /\ bR el dv F (aE x y P q)=.nx (aE x y [] q')):=by
 intro T
 induction T with
 | zero=>
   intro F P q hs hF _ hP
   obtain⟨F,rfl⟩:∃ G,F=G+1:=⟨F - 1,by omega⟩
   cases P with
   |nil=>exact .inr ⟨q,rfl,by unfold bR;rw[pw];rfl⟩
   |cons p P=>have:=PJ.size_pos p.1;simp at hs;omega
 | succ T ih=>
   intro F P q hs hF hT hP
   obtain⟨F,rfl⟩:∃ G,F=G+1:=⟨F - 1,by omega⟩
   by_cases hn:P=[]
   . subst hn;exact .inr ⟨q,rfl,by unfold bR;rw[pw];rfl⟩
   . obtain⟨P,p,rfl⟩:=PJ.j9 P hn;obtain⟨c1,c2,z1,z2⟩:=hP p (by simp)
     have ht:el (aE x y (P++[p]) q)=.ok true:=by rw[pw];simp
     have hpos:=PJ.size_pos p.1
     have e1:PJ.al (PJ.size p.1) p.1 p.2=(PJ.agr p.1 p.2&&(PJ.prs p.1 p.2).all fun r=>PJ.al (PJ.size r.1) r.1 r.2):=by
      obtain⟨k,hk⟩:∃ k,PJ.size p.1=k+1:=⟨PJ.size p.1 - 1,by omega⟩
      rw[hk,PJ.al]
      congr 1
      rw[Bool.eq_iff_iff,List.all_eq_true,List.all_eq_true]
      constructor<;>intro h r hr<;>have hz:=PJ.qo r hr
      . rw[PJ.uE _ k _ _ (Nat.le_refl _) (by omega)];exact h r hr
      . rw[PJ.uE k (PJ.size r.1) _ _ (by omega) (Nat.le_refl _)];exact h r hr
     rw[vW,e1];rw[List.map_append,List.sum_append]at hs;simp only[List.map_cons,List.map_nil,List.sum_cons,List.sum_nil,Nat.add_zero]at hs;have hPl:=qc P
     cases ha:PJ.agr p.1 p.2 with
     | false=>
       obtain⟨ρ,hb⟩:=Dm x y P p q c1 c2 z1 z2 ha;refine .inl ⟨ρ,by simp,?_⟩;unfold bR;rw[ht];simp only[OT.bp,if_true,hb];rfl
     | true=>
       have hsm:=uJ p.1 p.2;have hpl:=x6 p.1 p.2;have hb:=Bc x y P p q c1 c2 z1 z2 ha (by omega)
       have hw:bR el dv (F+1) (aE x y (P++[p]) q)=bR el dv F (aE x y (P++PJ.prs p.1 p.2) (some (.sh (eP p)))):=by
        rw[bR,ht];simp only[OT.bp,if_true,hb,pA]
       rw[hw]
       have hQ:∀ r∈P++PJ.prs p.1 p.2,PJ.Cl r.1 /\ PJ.Cl r.2 /\ PJ.size r.1<=60 /\ PJ.size r.2<=60:=fun r hr=>by
        rcases List.mem_append.mp hr with z|z
        . exact hP r (by simp[z])
        . have h1:=PJ.qo r z;obtain⟨g1,g2,g3⟩:=Ck c1 c2 ha r z
          exact⟨g1,g2,by omega,by omega⟩
       have:=ih F (P++PJ.prs p.1 p.2) (some (.sh (eP p))) (by rw[List.map_append,List.sum_append];omega) (by omega) (by omega) hQ;rw[List.all_append]at this
       simpa using this
theorem gY(x y:PJ.JV)(c1:PJ.Cl x)(c2:PJ.Cl y)(s1:PJ.size x<=60)(s2:PJ.size y<=60):fq [PJ.enc x,PJ.enc y]=.ok (.sh (.bl (PJ.al (PJ.size x) x y))):=by
 have hs:jb 2 (mD (gi (ah (bb (ah (ao 0) (ah (ao 1) az))) az))) [some (.sh (PJ.enc x)),some (.sh (PJ.enc y)),none,none]=.nx (aE (PJ.enc x) (PJ.enc y) [(x,y)] none):=by
  simp[jb,mD,stk]
 have h:=AV (PJ.enc x) (PJ.enc y) 60 fuel [(x,y)] none (by simpa using s1) (by decide) (by omega) (by simp[c1,c2,s1,s2]);show fin (pM [some (.sh (PJ.enc x)),some (.sh (PJ.enc y)),none,none])=_;unfold pM;rw[bx hs];unfold oI
 rcases h with⟨ρ,h1,h2⟩|⟨q',h1,h2⟩
 . rw[CL h2]
   have:PJ.al (PJ.size x) x y=false:=by simpa using h1
   rw[this];rfl
 . rw[bx h2]
   have:PJ.al (PJ.size x) x y=true:=by simpa using h1
   rw[this];simp[oO]
theorem xv(xs:List PV)(j:Nat)(h:j<=xs.length):p8 xs none (some (j:Int))=xs.take j:=by
 unfold p8 vt;simp only[List.drop_zero,Nat.sub_zero,Int.toNat_natCast];rw[if_neg (by omega),Nat.min_eq_left h]
theorem qt(xs:List PV)(j:Nat)(h:j<=xs.length):p8 xs (some (j:Int)) none=xs.drop j:=by
 unfold p8 vt;simp only[Int.toNat_natCast];rw[if_neg (by omega),Nat.min_eq_left h,List.take_of_length_le (by rw[List.length_drop];omega)]
theorem Ar(v:PJ.JV)(h:PJ.Cl v):bO [PJ.enc v]=.ok (.sh (.str (Str.ofString (match v with|.lf _=>"" | .row _=>"row" | .fld _ _=>"fields")))):=by
 cases v with
 | lf x=>
   rw[PJ.enc]
   rcases h with rfl|⟨b,rfl⟩|⟨a,p,rfl,_⟩|⟨cs,rfl,_⟩
   . simp[bO,dX,mIs,isP]
   . simp[bO,dX,mIs,isP]
   . simp[bO,dX,mIs,isP]
   . simp[bO,dX,gIn,rC,eQ,mIs,isP]
 |row vs=>rw[fk];simp[bO,dX,gIn,rC,eQ,mIs,isP]
 |fld ns vs=>rw[df];simp[bO,dX,gIn,rC,eQ,mIs,isP]
theorem m3{me:af->OE}{ρ:af}{g:PJ.JV->PJ.JV}:∀ vs:List PJ.JV,(∀ v∈vs,me (ρ++[some (.sh (PJ.enc v))])=.ok (.sh (PJ.enc (g v))))->bC me ρ (PJ.aH vs)=.ok (PJ.aH (vs.map g))
 |[],_=>rfl
 | v ::vs,h=>by
   have h1:=h v (by simp)
   have h2:=m3 vs fun w hw=>h w (by simp[hw])
   simp[PJ.aH,bC,h1,h2]
theorem D4{v:PV}{vs:List PJ.JV}(h:v∈PJ.aH vs):∃ w∈vs,v=PJ.enc w:=by
 rw[PJ.eI]at h;obtain⟨w,hw,e⟩:=List.mem_map.mp h
 exact⟨w,hw,e.symm⟩
theorem gL(vs ws:List PJ.JV):PJ.aH (vs++ws)=PJ.aH vs++PJ.aH ws:=by simp[PJ.eI]
theorem zh(j:Nat)(ns:List (List Int))(vs:List PJ.JV)(h:ns.length=vs.length):(List.zipWith PJ.mem ns (PJ.aH vs)).drop j++(List.zipWith PJ.mem ns (PJ.aH vs)).take j=List.zipWith PJ.mem (PJ.cS j ns) (PJ.aH (PJ.cS j vs)):=by
 rw[List.drop_zipWith,List.take_zipWith,gL,PJ.eI,PJ.eI,PJ.eI,List.map_drop,List.map_take,List.zipWith_append (by simp[h])]
theorem B1{A:PV->PV}:∀(ns:List (List Int)) (vs:List PJ.JV) (g:PJ.JV->PJ.JV),(∀ v,A (PJ.enc v)=PJ.enc (g v))->List.zipWith (fun n e=>PJ.mem n (A e)) ns (PJ.aH vs)=List.zipWith PJ.mem ns (PJ.aH (vs.map g))
 |[],_,_,_=>by simp
 |_ ::_,[],_,_=>by simp[PJ.aH]
 |n ::ns,v ::vs,g,h=>by simp[PJ.aH,h,B1 ns vs g h]
theorem mT{me:af->OE}{ρ:af}{g:PJ.JV->PJ.JV}:∀(ns:List (List Int)) (vs:List PJ.JV),(∀ n,∀ v∈vs,me (ρ++[some (.sh (PJ.mem n (PJ.enc v)))])=.ok (.sh (PJ.mem n (PJ.enc (g v)))))->bC me ρ (List.zipWith PJ.mem ns (PJ.aH vs))=.ok (List.zipWith PJ.mem ns (PJ.aH (vs.map g)))
 |[],_,_=>by simp[bC]
 |_ ::_,[],_=>by simp[PJ.aH,bC]
 | n ::ns,v ::vs,h=>by
   have h1:=h n v (by simp)
   have h2:=mT ns vs fun n w hw=>h n w (by simp[hw])
   simp[PJ.aH,bC,h1,h2]
noncomputable abbrev tE(x:PV)(m:Int)(a b c:Option Sl):af:=[some (.sh x),some (.sh (.int m)),a,b,c]
theorem Aw:∀(k:Nat) (v:PJ.JV) (m:Int),PJ.depth v<k->PJ.size v<=60->PJ.Cl v->bw k [PJ.enc v,.int m]=.ok (.sh (PJ.enc (PJ.turn v m))):=by
 intro k
 induction k with
 |zero=>intro v m h;omega
 | succ k ih=>
   intro v m hd hs cl;have hk:=Ar v cl
   have l2:2<=lim:=bj (by omega)
   show fin (g4 (bw k) (tE (PJ.enc v) m none none none))=_;unfold g4
   cases v with
   | lf x=>
     rw[bx (ρ':=tE (PJ.enc (.lf x)) m (some (.sh (.str (Str.ofString "")))) none none) (by simp[hk])];simp[eC,eX,PJ.turn]
   | row vs=>
     rw[bx (ρ':=tE (PJ.enc (.row vs)) m (some (.sh (.str (Str.ofString "row")))) none none) (by simp[hk])];simp only[PJ.depth]at hd;simp only[PJ.size]at hs;have hl:=PJ.dc vs
     have he:=m3 (me:=dq (bw k)) (ρ:=[some (.sh (.int m))]) (g:=fun v=>PJ.turn v (m/3)) vs fun v hv=>by
      have h1:=PJ.g5 hv;have h2:=PJ.b0 hv;have:=ih v (m/3) (by omega) (by omega) ((PJ.cN _).mp cl v hv);simp[dq,this]
     rw[<- PJ.lC]at he
     have hlim:(PJ.aH (PJ.turns vs (m/3))).length<=lim:=bj (by rw[PJ.bL,PJ.lh];omega)
     have hc:(dC (mOp bc (ao 0) (mC (.int 1))) [1] (dq (bw k))) (tE (PJ.enc (.row vs)) m (some (.sh (.str (Str.ofString "row")))) none none)=.ok (.fr (PJ.aH (PJ.turns vs (m/3)))):=by
      have h2:(mOp bc (ao 0) (mC (.int 1))) (tE (PJ.enc (.row vs)) m (some (.sh (.str (Str.ofString "row")))) none none)=.ok (.sh (.tup (PJ.aH vs))):=by rw[fk];simp
      unfold dC;rw[h2];show noX (bC (dq (bw k)) [some (.sh (.int m))] (PJ.aH vs))=_;rw[he];exact if_pos hlim
     unfold eC;rw[sk (by simp[eX])];unfold gd;rw[gf,oh (by simp[eX])];rw[show PJ.turn (.row vs) m=.row (PJ.turns vs (m/3)) from by rw[PJ.turn],fk (PJ.turns vs (m/3))];simp -implicitDefEqProofs [hc,jP,l2]
   | fld ns vs=>
     rw[bx (ρ':=tE (PJ.enc (.fld ns vs)) m (some (.sh (.str (Str.ofString "fields")))) none none) (by simp[hk])];obtain⟨c1,c2,c3⟩:=cl;simp only[PJ.depth]at hd;simp only[PJ.size]at hs;have hl:=PJ.dc vs;have hzl:=mO c1
     have hm0:0<=m%((vs.length:Int)+1):=Int.emod_nonneg _ (by omega)
     have hm1:m%((vs.length:Int)+1)<(vs.length:Int)+1:=Int.emod_lt_of_pos _ (by omega)
     obtain⟨j,hj⟩:∃ j:Nat,m%((vs.length:Int)+1)=j:=⟨(m%((vs.length:Int)+1)).toNat,by omega⟩
     have hjl:j<=vs.length:=by omega
     have ev:PJ.turn (.fld ns vs) m=.fld (PJ.cS j ns) (PJ.cS j (PJ.turns vs (m/5))):=by rw[PJ.turn,hj,Int.toNat_natCast]
     have hrot:PJ.cS j (PJ.turns vs (m/5))=(PJ.cS j vs).map fun v=>PJ.turn v (m/5):=by rw[PJ.lC,List.map_append,List.map_drop,List.map_take]
     have he:=mT (me:=dk (bw k)) (ρ:=[some (.sh (.int m))]) (g:=fun v=>PJ.turn v (m/5)) (PJ.cS j ns) (PJ.cS j vs) fun n v hv=>by
      have hv':=(PJ.b6 j vs).mem_iff.mp hv
      have h1:=PJ.g5 hv';have h2:=PJ.b0 hv';have:=ih v (m/5) (by omega) (by omega) ((PJ.cN _).mp c3 v hv');simp[dk,PJ.mem,this,l2]
     rw[<- hrot]at he;unfold eC;rw[sk (by simp[eX])];unfold gd;rw[sk (by simp[eX])];unfold i6
     have hpos:(0:Int)<(vs.length:Int)+1:=by omega
     rw[bx (ρ':=tE (PJ.enc (.fld ns vs)) m (some (.sh (.str (Str.ofString "fields")))) (some (.sh (.int (j:Nat)))) none) (by
      have h1:(mOp cF (ao 1) (mOp gE (mUn kF (mOp bc (ao 0) (mC (.int 1)))) (mC (.int 1)))) (tE (PJ.enc (.fld ns vs)) m (some (.sh (.str (Str.ofString "fields")))) none none)=.ok (.sh (.int (j:Nat))):=by
       rw[<- hj]
       rw[<- hzl]at hpos ⊢
       rw[df];simp -implicitDefEqProofs [hpos,-List.length_zipWith]
      unfold cU;rw[h1]
      rfl)]
     unfold i7
     have hcat:(mOp bV (dj (mOp bc (ao 0) (mC (.int 1))) (ez (ao 3)) (mC .non)) (dj (mOp bc (ao 0) (mC (.int 1))) (mC .non) (ez (ao 3)))) (tE (PJ.enc (.fld ns vs)) m (some (.sh (.str (Str.ofString "fields")))) (some (.sh (.int (j:Nat)))) none)=.ok (.sh (.tup (List.zipWith PJ.mem (PJ.cS j ns) (PJ.aH (PJ.cS j vs))))):=by
      have q1:=qt (List.zipWith PJ.mem ns (PJ.aH vs)) j (by omega);have q2:=xv (List.zipWith PJ.mem ns (PJ.aH vs)) j (by omega);rw[<- zh j ns vs c1,df]
      have l3:((List.zipWith PJ.mem ns (PJ.aH vs)).drop j).length+((List.zipWith PJ.mem ns (PJ.aH vs)).take j).length<=lim:=bj (by rw[List.length_drop,List.length_take];omega)
      refine mS (r:=.sh (.tup ((List.zipWith PJ.mem ns (PJ.aH vs)).drop j))) (t:=.sh (.tup ((List.zipWith PJ.mem ns (PJ.aH vs)).take j))) ?_ ?_ ?_
      . simp -implicitDefEqProofs [dj,wa,q1]
      . simp -implicitDefEqProofs [dj,wa,q2]
      . exact if_pos l3
     rw[bx (ρ':=tE (PJ.enc (.fld ns vs)) m (some (.sh (.str (Str.ofString "fields")))) (some (.sh (.int (j:Nat)))) (some (.sh (.tup (List.zipWith PJ.mem (PJ.cS j ns) (PJ.aH (PJ.cS j vs))))))) (by unfold cU;rw[hcat];rfl)]
     have hc:(dC (ao 4) [1] (dk (bw k))) (tE (PJ.enc (.fld ns vs)) m (some (.sh (.str (Str.ofString "fields")))) (some (.sh (.int (j:Nat)))) (some (.sh (.tup (List.zipWith PJ.mem (PJ.cS j ns) (PJ.aH (PJ.cS j vs)))))))=.ok (.fr (List.zipWith PJ.mem (PJ.cS j ns) (PJ.aH (PJ.cS j (PJ.turns vs (m/5)))))):=by
      show noX (bC (dk (bw k)) [some (.sh (.int m))] (List.zipWith PJ.mem (PJ.cS j ns) (PJ.aH (PJ.cS j vs))))=_;rw[he];refine if_pos (bj ?_);rw[List.length_zipWith,PJ.bL,(PJ.b6 j ns).length_eq];omega
     rw[ev,df (PJ.cS j ns)];simp -implicitDefEqProofs [iK,hc,jP,l2]
theorem Bd(pre:List PV)(w:PV)(post:List PV):p8 (pre++w ::post) none (some ((pre.length:Nat):Int))=pre:=by
 rw[xv _ _ (by simp),List.take_left]
theorem Cq(pre:List PV)(w:PV)(post:List PV):p8 (pre++w ::post) (some (((pre.length:Nat):Int)+1)) none=post:=by
 have h:=qt (pre++w ::post) (pre.length+1) (by simp);rw[show(((pre.length:Nat):Int)+1)=((pre.length+1:Nat):Int) by omega,h,show pre++w ::post=(pre++[w])++post by simp,show pre.length+1=(pre++[w]).length by simp,List.drop_left]
noncomputable abbrev kP(K:String)(xs:List PV):PV:=.tup [.str (Str.ofString K),.tup xs]
noncomputable abbrev cE(K:String)(pre:List PV)(w:PV)(post:List PV)(m:Int):af:=tE (kP K (pre++w ::post)) m (some (.sh (.str (Str.ofString K)))) (some (.sh (.int (pre.length:Nat)))) (some (.sh w))
theorem DC(K:String)(pre:List PV)(w:PV)(post:List PV)(m:Int):(dj (mOp bc (ao 0) (mC (.int 1))) (mC .non) (ez (ao 3))) (cE K pre w post m)=.ok (.sh (.tup pre)):=by
 have h:=Bd pre w post;simp -implicitDefEqProofs [dj,wa,h]
theorem C4(K:String)(pre:List PV)(w:PV)(post:List PV)(m:Int):(dj (mOp bc (ao 0) (mC (.int 1))) (ez (mOp gE (ao 3) (mC (.int 1)))) (mC .non)) (cE K pre w post m)=.ok (.sh (.tup post)):=by
 have h:=Cq pre w post;simp -implicitDefEqProofs [dj,wa,h]
theorem uN(a b:List PV)(h:a.length+b.length<=900):bV (.tup a) (.tup b)=some (.sh (.tup (a++b))):=if_pos (bj (by omega))
theorem zE(K:String)(pre:List PV)(w:PV)(post:List PV)(m:Int)(h:pre.length+post.length<=800):(mOp bV (dj (mOp bc (ao 0) (mC (.int 1))) (mC .non) (ez (ao 3))) (dj (mOp bc (ao 0) (mC (.int 1))) (ez (mOp gE (ao 3) (mC (.int 1)))) (mC .non))) (cE K pre w post m)=.ok (.sh (.tup (pre++post))):=
 mS (DC K pre w post m) (C4 K pre w post m) (uN _ _ (by omega))
theorem sY(K:String)(pre:List PV)(w:PV)(post:List PV)(m:Int)(h:pre.length+post.length<=800)(M:af->OE)(u:PV)(hM:M (cE K pre w post m)=.ok (.sh u)):(mOp bV (mOp bV (dj (mOp bc (ao 0) (mC (.int 1))) (mC .non) (ez (ao 3))) (bb (ah M az))) (dj (mOp bc (ao 0) (mC (.int 1))) (ez (mOp gE (ao 3) (mC (.int 1)))) (mC .non))) (cE K pre w post m)=.ok (.sh (.tup (pre++u ::post))):=by
 have h1:(bb (ah M az)) (cE K pre w post m)=.ok (.sh (.tup [u])):=by simp[hM]
 have h2:=mS (g:=bV) (DC K pre w post m) h1 (uN pre [u] (by simp;omega));have h3:=mS (g:=bV) h2 (C4 K pre w post m) (uN (pre++[u]) post (by simp;omega));rw[h3];simp
theorem rk(K:String)(pre:List PV)(w:PV)(post:List PV)(m:Int)(M:af->OE)(ys:List PV)(hM:M (cE K pre w post m)=.ok (.sh (.tup ys))):(b4 (bb (ah (ao 2) (ah M az)))) (cE K pre w post m)=.rt (cE K pre w post m) (.sh (kP K ys)):=by
 have l2:2<=lim:=bj (by omega)
 simp[hM,l2]
theorem sN(x:PV)(m:Int)(a:Option Sl):(b4 (mOp jw (gi (ah (bb (ah (mC (.str "number")) (ah (mC (.int 7777)) (ah (mC (.int 0)) az)))) (ah (bb (ah (mC (.str "text")) (ah (bb (ah (mC (.int 7777)) az)) az))) az))) (mOp cF (ao 1) (mC (.int 2))))) (tE x m a none none)=.rt (tE x m a none none) (.sh (PJ.lf7 m)):=by
 have hh:m%2=0 \/ m%2=1:=by omega
 unfold PJ.lf7
 rcases hh with h|h<;>simp[h]
theorem AB(K:String)(xs:List PV)(m:Int)(h:(0:Int)<(xs.length:Nat)):(mOp cF (ao 1) (mUn kF (mOp bc (ao 0) (mC (.int 1))))) (tE (kP K xs) m (some (.sh (.str (Str.ofString K)))) none none)=.ok (.sh (.int (m%(xs.length:Nat)))):=by
 have hx:xs≠[]:=by intro z;subst z;simp at h
 simp[hx]
theorem Ag(K:String)(hK:K ≠ "")(rec:List PV->OE)(pre:List PV)(w:PV)(post:List PV)(m:Int)(hm:m%(((pre++w ::post).length:Nat):Int)=(pre.length:Nat)):cq rec (tE (kP K (pre++w ::post)) m (some (.sh (.str (Str.ofString K)))) none none)=dQ rec (cE K pre w post m):=by
 have hpos:(0:Int)<(((pre++w ::post).length:Nat):Int):=by simp;omega
 unfold cq
 rw[sk (by
  have h0:(pre++w ::post).isEmpty=false:=by cases pre<;>rfl
  simp[eX,hK,h0])]
 unfold ic;have h3:=AB K (pre++w ::post) m hpos;rw[hm]at h3;rw[bx (ρ':=tE (kP K (pre++w ::post)) m (some (.sh (.str (Str.ofString K)))) (some (.sh (.int (pre.length:Nat)))) none) (by unfold cU;rw[h3];rfl)];unfold hZ
 have h4:(mOp bc (mOp bc (ao 0) (mC (.int 1))) (ao 3)) (tE (kP K (pre++w ::post)) m (some (.sh (.str (Str.ofString K)))) (some (.sh (.int (pre.length:Nat)))) none)=.ok (.sh w):=by
  have ha:atP (pre++w ::post) (pre.length:Int)=some w:=by
   rw[sG _ _ (by omega),Int.toNat_natCast];simp
  simp[ha]
 rw[bx (ρ':=cE K pre w post m) (by unfold cU;rw[h4];rfl)]
theorem oB(pv:List PJ.JV)(v:PJ.JV)(qv:List PJ.JV)(m:Int):PJ.dN (pv++v ::qv) pv.length m=pv++PJ.chg v m ::qv:=by
 induction pv with
 |nil=>simp[PJ.dN]
 |cons a pv ih=>simp[PJ.dN,ih]
theorem lB{α:Type}(pv:List α)(v:α)(qv:List α):(pv++v ::qv).eraseIdx pv.length=pv++qv:=by
 induction pv with
 |nil=>rfl
 |cons a pv ih=>simp[ih]
theorem yK{α:Type}(pv:List α)(v u:α)(qv:List α):(pv++v ::qv).set pv.length u=pv++u ::qv:=by
 induction pv with
 |nil=>rfl
 |cons a pv ih=>simp[ih]
theorem nO{α:Type}(l:List α)(j:Nat)(h:j<l.length):∃ a x b,l=a++x ::b /\ a.length=j:=⟨l.take j,l[j],l.drop (j+1),by rw[<- List.drop_eq_getElem_cons h,List.take_append_drop],by rw[List.length_take];omega⟩
theorem sV(pn:List (List Int))(n:List Int)(qn:List (List Int))(pv:List PJ.JV)(v:PJ.JV)(qv:List PJ.JV)(h:pn.length=pv.length):List.zipWith PJ.mem (pn++n ::qn) (PJ.aH (pv++v ::qv))=List.zipWith PJ.mem pn (PJ.aH pv)++PJ.mem n (PJ.enc v) ::List.zipWith PJ.mem qn (PJ.aH qv):=by
 rw[gL,List.zipWith_append (by rw[PJ.bL];exact h),PJ.aH,List.zipWith_cons_cons]
theorem BS(pn qn:List (List Int))(pv qv:List PJ.JV)(h:pn.length=pv.length):List.zipWith PJ.mem (pn++qn) (PJ.aH (pv++qv))=List.zipWith PJ.mem pn (PJ.aH pv)++List.zipWith PJ.mem qn (PJ.aH qv):=by
 rw[gL,List.zipWith_append (by rw[PJ.bL];exact h)]
theorem lV(k:Nat)(h:k<=20):∀ n∈PJ.names k,n.length<=2:=by
 have:∀ k:Fin 21,∀ n∈PJ.names k.val,n.length<=2:=by decide +kernel
 exact this ⟨k,by omega⟩
theorem uI{vs:List PJ.JV}(h:PJ.Bts vs):∀ v∈vs,PJ.Bt v:=by
 induction vs with
 |nil=>intro v hv;cases hv
 | cons w vs ih=>
   intro v hv
   rcases List.mem_cons.mp hv with z|z
   . subst z;exact h.1
   . exact ih h.2 v z
theorem C0:∀(k:Nat) (v:PJ.JV) (m:Int),PJ.depth v<k->PJ.size v<=20->PJ.Bt v->du k [PJ.enc v,.int m]=.ok (.sh (PJ.enc (PJ.chg v m))):=by
 intro k
 induction k with
 |zero=>intro v m h;omega
 | succ k ih=>
   intro v m hd hs bt;have cl:=PJ.oQ v bt hs;have hk:=Ar v cl;show fin (gB (du k) (tE (PJ.enc v) m none none none))=_;unfold gB
   cases v with
   | lf x=>
     rw[bx (ρ':=tE (PJ.enc (.lf x)) m (some (.sh (.str (Str.ofString "")))) none none) (by simp[hk])];unfold cq;rw[gf,oh (by simp[eX]),sN];rw[PJ.chg,PJ.enc];rfl
   | row vs=>
     rw[bx (ρ':=tE (PJ.enc (.row vs)) m (some (.sh (.str (Str.ofString "row")))) none none) (by simp[hk])];simp only[PJ.depth]at hd;simp only[PJ.size]at hs;have hl:=PJ.dc vs
     by_cases hz:vs.length=0
     . have hv:vs=[]:=List.length_eq_zero_iff.mp hz
       subst hv;unfold cq;rw[gf,oh (by rw[fk];simp[eX,PJ.aH]),sN,PJ.chg,if_pos (show([]:List PJ.JV).length=0 from rfl),PJ.enc];rfl
     . have hj:=PJ.mod_lt (m:=m) hz;obtain⟨pv,v,qv,rfl,hp⟩:=nO vs _ hj
       have hmm:m%(((pv++v ::qv).length:Nat):Int)=(pv.length:Nat):=by
        have:=Int.emod_nonneg m (b:=(((pv++v ::qv).length:Nat):Int)) (by omega);omega
       have hb:(PJ.aH pv).length+(PJ.aH qv).length<=800:=by rw[PJ.bL,PJ.bL];simp at hl;omega
       have e0:PJ.enc (.row (pv++v ::qv))=kP "row" (PJ.aH pv++PJ.enc v ::PJ.aH qv):=by rw[fk,gL,PJ.aH]
       have hlen:(PJ.aH pv++PJ.enc v ::PJ.aH qv).length=(pv++v ::qv).length:=by simp[PJ.bL]
       rw[e0,Ag "row" (by decide) _ _ _ _ _ (by rw[hlen,PJ.bL];exact hmm)];rw[PJ.chg,if_neg hz,hmm,Int.toNat_natCast,lB,oB];unfold dQ
       by_cases h0:m/7%4=0
       . rw[gf,oh (by simp[h0]),rk _ _ _ _ _ _ _ (zE "row" _ _ _ m hb),if_pos h0,fk,gL];rfl
       . rw[sk (by simp[h0]),if_neg h0];unfold fI;have hv:=PJ.g5 (vs:=pv++v ::qv) (v:=v) (by simp);have hv2:=PJ.b0 (vs:=pv++v ::qv) (v:=v) (by simp);have hr:=ih v (m/11) (by omega) (by omega) (uI bt v (by simp));rw[gf,oh (by simp[eX]),rk _ _ _ _ _ _ _ (sY "row" _ _ _ m hb _ (PJ.enc (PJ.chg v (m/11))) (by simp[hr])),fk,gL,PJ.aH];rfl
   | fld ns vs=>
     rw[bx (ρ':=tE (PJ.enc (.fld ns vs)) m (some (.sh (.str (Str.ofString "fields")))) none none) (by simp[hk])];obtain⟨c1,c2,c3⟩:=cl;simp only[PJ.depth]at hd;simp only[PJ.size]at hs;have hl:=PJ.dc vs
     by_cases hz:vs.length=0
     . have hv:vs=[]:=List.length_eq_zero_iff.mp hz
       subst hv;unfold cq;rw[gf,oh (by rw[df];simp[eX,PJ.aH]),sN,PJ.chg,if_pos (show([]:List PJ.JV).length=0 from rfl),PJ.enc];rfl
     . have hj:=PJ.mod_lt (m:=m) hz;obtain⟨pv,v,qv,rfl,hp⟩:=nO vs _ hj;obtain⟨pn,n,qn,rfl,hpn⟩:=nO ns pv.length (by rw[c1];simp)
       have hmm:m%(((pv++v ::qv).length:Nat):Int)=(pv.length:Nat):=by
        have:=Int.emod_nonneg m (b:=(((pv++v ::qv).length:Nat):Int)) (by omega);omega
       have hq:qn.length=qv.length:=by simp at c1;omega
       have e0:PJ.enc (.fld (pn++n ::qn) (pv++v ::qv))=kP "fields" (List.zipWith PJ.mem pn (PJ.aH pv)++PJ.mem n (PJ.enc v) ::List.zipWith PJ.mem qn (PJ.aH qv)):=by rw[df,sV _ _ _ _ _ _ hpn]
       have lp:=mO hpn;have lq:=mO hq
       have hb:(List.zipWith PJ.mem pn (PJ.aH pv)).length+(List.zipWith PJ.mem qn (PJ.aH qv)).length<=800:=by rw[lp,lq];simp at hl;omega
       have hlen:(List.zipWith PJ.mem pn (PJ.aH pv)++PJ.mem n (PJ.enc v) ::List.zipWith PJ.mem qn (PJ.aH qv)).length=(pv++v ::qv).length:=by rw[List.length_append,List.length_cons,lp,lq];simp
       rw[e0,Ag "fields" (by decide) _ _ _ _ _ (by rw[hlen,lp];exact hmm)];rw[PJ.chg,if_neg hz,hmm,Int.toNat_natCast,lB,oB];unfold dQ
       by_cases h0:m/7%4=0
       . rw[gf,oh (by simp[h0]),rk _ _ _ _ _ _ _ (zE "fields" _ _ _ m hb),if_pos h0];rw[<- hpn,lB,df,BS _ _ _ _ hpn];rfl
       . rw[sk (by simp[h0]),if_neg h0];unfold fI;rw[sk (by simp[eX])];unfold iw
         by_cases h1:m/7%4=1
         . have hn:n.length<=2:=lV (pv++v ::qv).length (by omega) n (by rw[<- bt.1];simp)
           have hc:bV (nmP n) (.tup [.int 7777])=some (.sh (nmP (n++[7777]))):=by
            rw[uN _ _ (by simp;omega)];simp
           have l2:2<=lim:=bj (by omega)
           have hg:(pn++n ::qn).getD pv.length []=n:=by rw[<- hpn];simp
           rw[gf,oh (by simp[h1]),rk _ _ _ _ _ _ _ (sY "fields" _ _ _ m hb _ (PJ.mem (n++[7777]) (PJ.enc v)) (by simp[PJ.mem,hc,l2])),if_pos h1,hg,<- hpn,yK,df,sV _ _ _ _ _ _ hpn];rfl
         . rw[sk (by simp[h1]),if_neg h1];have hv:=PJ.g5 (vs:=pv++v ::qv) (v:=v) (by simp);have hv2:=PJ.b0 (vs:=pv++v ::qv) (v:=v) (by simp);have hr:=ih v (m/11) (by omega) (by omega) (uI bt.2 v (by simp))
           have l2:2<=lim:=bj (by omega)
           unfold ig;rw[rk _ _ _ _ _ _ _ (sY "fields" _ _ _ m hb _ (PJ.mem n (PJ.enc (PJ.chg v (m/11)))) (by simp[PJ.mem,hr,l2])),df,sV _ _ _ _ _ _ hpn];rfl
mutual
noncomputable def Alw(Q:PJ.JV->Prop):PJ.JV->Prop
 |.lf x=>Q (.lf x)
 |.row vs=>Q (.row vs) /\ qg Q vs
 |.fld ns vs=>Q (.fld ns vs) /\ qg Q vs
noncomputable def qg(Q:PJ.JV->Prop):List PJ.JV->Prop
 |[]=>True
 |v ::vs=>Alw Q v /\ qg Q vs
end
theorem kA(Q:PJ.JV->Prop)(vs:List PJ.JV):qg Q vs↔∀ v∈vs,Alw Q v:=by
 induction vs with
 |nil=>simp[qg]
 |cons v vs ih=>simp only[qg,ih,List.mem_cons,forall_eq_or_imp]
theorem qd{Q:PJ.JV->Prop}{v:PJ.JV}(h:Alw Q v):Q v:=by
 cases v with
 |lf x=>exact h
 |row vs=>exact h.1
 |fld ns vs=>exact h.1
theorem pT{Q:PJ.JV->Prop}{v:PJ.JV}(h:Alw Q v):∀ c∈bD v,Alw Q c:=by
 cases v with
 |lf x=>intro c hc;cases hc
 |row vs=>exact(kA Q vs).mp h.2
 |fld ns vs=>exact(kA Q vs).mp h.2
mutual
theorem nj{Q R:PJ.JV->Prop}(m:∀ v,Q v->R v):∀ v:PJ.JV,Alw Q v->Alw R v
 |.lf x,h=>m _ h
 |.row vs,h=>⟨m _ h.1,lE m vs h.2⟩
 |.fld ns vs,h=>⟨m _ h.1,lE m vs h.2⟩
theorem lE{Q R:PJ.JV->Prop}(m:∀ v,Q v->R v):∀ vs:List PJ.JV,qg Q vs->qg R vs
 |[],_=>trivial
 |v ::vs,h=>⟨nj m v h.1,lE m vs h.2⟩
end
theorem vX{v c:PJ.JV}(h:c∈bD v):PJ.size c<PJ.size v:=by
 cases v with
 |lf x=>cases h
 |row vs=>have:=PJ.b0 (vs:=vs) h;simp only[PJ.size];omega
 |fld ns vs=>have:=PJ.b0 (vs:=vs) h;simp only[PJ.size];omega
theorem vz(v:PJ.JV):PJ.aN (bD v)+1<=PJ.size v:=by
 cases v with
 |lf x=>exact Nat.le_refl _
 |row vs=>show PJ.aN vs+1<=1+PJ.aN vs;omega
 |fld ns vs=>show PJ.aN vs+1<=1+PJ.aN vs;omega
theorem ph(vs:List PJ.JV):(vs.map PJ.size).sum=PJ.aN vs:=by
 induction vs with
 |nil=>rfl
 |cons v vs ih=>simp[PJ.aN,ih]
theorem v5(vs:List PJ.JV):vs.length<=(vs.map PJ.size).sum:=by rw[ph];exact PJ.dc vs
noncomputable def fB:PJ.JV->Option Bool
 |.fld ns _=>(bX ns).map fun n=>decide (n=ns.length)
 |_=>some true
theorem AY(v:PJ.JV)(h:Wl v)(hs:PJ.size v<=900)(b:Bool)(ho:fB v=some b):bA [PJ.enc v]=.ok (.sh (.bl b)):=by
 have hk:=p4 v h
 cases v with
 | lf x=>
   cases ho;have hx:=fc x h;simp[bA,cP,hk,kd,mE,hx.2.2]
 | row vs=>
   cases ho;simp[bA,cP,hk,kd,mE]
 | fld ns vs=>
   obtain⟨n,h1,h2⟩:=Option.map_eq_some_iff.mp ho;simp only[PJ.size]at hs;have hl:=PJ.dc vs
   have hll:ns.length=vs.length:=h
   have hc:=jF 0 dW (fun n e=>by simp[dW,PJ.mem]) ns vs h (by omega) [some (.sh (PJ.enc (.fld ns vs)))] rfl
   have hg:kj (.lst (ns.map nmP))=some (.sh (.int (n:Int))):=by
    show(iL (ns.map nmP)).bind _=_
    rw[nL]
    show(if _ then _ else _)=_
    rw[if_pos (by omega),h1];rfl
   have h3:=t8 (g:=kj) hc hg
   have h4:(mUn kF (mOp bc (ao 0) (mC (.int 1)))) [some (.sh (PJ.enc (.fld ns vs)))]=.ok (.sh (.int (ns.length:Int))):=by
    rw[df];have:=mO (ns:=ns) (vs:=vs) h;rw[hll,<- this];simp -implicitDefEqProofs [-List.length_zipWith]
   have h5:=mS (g:=gEq) h3 h4 (x:=.sh (.bl b)) (by
    show gEq (.int _) (.int _)=_;rw[<- h2]
    have:((n:Int)=(ns.length:Int))↔n=ns.length:=by omega
    simp[this])
   show fin (cP [some (.sh (PJ.enc (.fld ns vs)))])=_;unfold cP;rw[sk (by simp[hk,mE,kd])];unfold b4;rw[h5];rfl
noncomputable abbrev vE(x:PV)(F:List PJ.JV)(i:Nat):af:=[some (.sh x),some (.ow (F.map PJ.enc)),some (.sh (.int (i:Nat)))]
theorem sO(x:PV)(F:List PJ.JV)(i:Nat):cu (vE x F i)=.ok (decide (i<F.length)):=by
 have:((i:Int)<(F.length:Int))↔i<F.length:=by omega
 simp[cu,this]
theorem BC(x:PV)(F:List PJ.JV)(i:Nat)(w:PJ.JV)(hw:F[i]?=some w)(h:Wl w)(hs:PJ.size w<=900)(hl:F.length+(bD w).length<=1000):cp (vE x F i)=.nx (vE x (F++bD w) (i+1)):=by
 have e:=rR w h hs
 have ha:atP (F.map PJ.enc) (i:Int)=some (PJ.enc w):=by
  rw[sG _ _ (by omega),Int.toNat_natCast];simp[hw]
 have hlim:F.length+(bD w).length<=lim:=bj hl
 have hc:(aW aM (ah (mOp jw (ao 1) (ao 2)) az)) (vE x F i)=.ok (.fr (PJ.aH (bD w))):=by simp[ha,e]
 unfold cp
 rw[bx (ρ':=vE x (F++bD w) i) (by
  unfold kn;simp only[List.getElem?_cons_succ,List.getElem?_cons_zero,hc,nT];rw[if_pos (by rw[List.length_map,PJ.bL];exact hlim)]
  simp[PJ.eI])]
 simp[u9]
theorem Bg(x:PV):∀(T N:Nat) (F:List PJ.JV) (i:Nat),((F.drop i).map PJ.size).sum<=T->T<N->i<=F.length->i+T<=300->(∀ w∈F,Alw Wl w)->(∀ j,j<i->∀ w,F[j]?=some w->∀ c∈bD w,c∈F) ->
  ∃ F',bR cu cp N (vE x F i)=.nx (vE x F' F'.length) /\ (∀ w∈F,w∈F') /\ (∀ w∈F',∀ c∈bD w,c∈F') /\ (∀ P:PJ.JV->Prop,(∀ w,P w->∀ c∈bD w,P c)->(∀ w∈F,P w)->∀ w∈F',P w) /\ F'.length<=300:=by
 intro T
 induction T with
 | zero=>
   intro N F i hs hN hi hb hF hc
   obtain⟨N,rfl⟩:∃ G,N=G+1:=⟨N - 1,by omega⟩
   have hd:F.drop i=[]:=by
    cases e:F.drop i with
    |nil=>rfl
    |cons w l=>rw[e]at hs;have:=PJ.size_pos w;simp at hs;omega
   have hil:i=F.length:=by have:=congrArg List.length hd;simp at this;omega
   subst hil
   refine⟨F,?_,fun w hw=>hw,fun w hw c hk=>?_,fun P _ h=>h,by omega⟩
   . unfold bR;rw[sO];simp[OT.bp]
   . obtain⟨j,hj⟩:=List.mem_iff_getElem?.mp hw;exact hc j (List.getElem?_eq_some_iff.mp hj).1 w hj c hk
 | succ T ih=>
   intro N F i hs hN hi hb hF hc
   obtain⟨N,rfl⟩:∃ G,N=G+1:=⟨N - 1,by omega⟩
   by_cases hlt:i<F.length
   . have hw:F[i]?=some F[i]:=List.getElem?_eq_getElem hlt
     have hm:=List.mem_of_getElem? hw;generalize F[i]=w at hw hm
     have hdr:F.drop i=w ::F.drop (i+1):=by
      rw[List.drop_eq_getElem_cons hlt];rw[List.getElem?_eq_getElem hlt]at hw;rw[Option.some.inj hw]
     rw[hdr,List.map_cons,List.sum_cons]at hs;have aw:=hF w hm;have hkz:=vz w;have hkl:=PJ.dc (bD w)
     have hdl:(F.drop (i+1)).length<=((F.drop (i+1)).map PJ.size).sum:=v5 _
     have hFl:F.length=i+1+(F.drop (i+1)).length:=by rw[List.length_drop];omega
     have hb2:=BC x F i w hw (qd aw) (by omega) (by omega)
     have hw2:bR cu cp (N+1) (vE x F i)=bR cu cp N (vE x (F++bD w) (i+1)):=by
      rw[bR,sO];simp only[OT.bp,decide_eq_true hlt,if_true,hb2,pA]
     have hdd:(F++bD w).drop (i+1)=F.drop (i+1)++bD w:=by rw[List.drop_append_of_le_length (by omega)]
     obtain⟨F',e1,e2,e3,e4,e5⟩:=ih N (F++bD w) (i+1) (by rw[hdd,List.map_append,List.sum_append,ph (bD w)];omega) (by omega) (by rw[List.length_append];omega) (by omega)
      (fun u hu=>by
        rcases List.mem_append.mp hu with z|z
        . exact hF u z
        . exact pT aw u z)
      (fun j hj u hu c hk=>by
        by_cases hji:j<i
        . rw[List.getElem?_append_left (by omega)]at hu;exact List.mem_append_left _ (hc j hji u hu c hk)
        . have:j=i:=by omega
          subst this;rw[List.getElem?_append_left hlt,hw]at hu;cases hu
          exact List.mem_append_right _ hk)
     exact⟨F',by rw[hw2];exact e1,fun u hu=>e2 u (List.mem_append_left _ hu),e3,fun P hP h=>e4 P hP fun u hu=>by
      rcases List.mem_append.mp hu with z|z
      . exact h u z
      . exact hP w (h w hm) u z,e5⟩
   . have hil:i=F.length:=by omega
     subst hil
     refine⟨F,?_,fun w hw=>hw,fun w hw c hk=>?_,fun P _ h=>h,by omega⟩
     . unfold bR;rw[sO];simp[OT.bp]
     . obtain⟨j,hj⟩:=List.mem_iff_getElem?.mp hw;exact hc j (List.getElem?_eq_some_iff.mp hj).1 w hj c hk
theorem yu(v:PJ.JV)(h:Alw Wl v)(hs:PJ.size v<=200):∃ F:List PJ.JV,bZ [PJ.enc v]=.ok (.fr (F.map PJ.enc)) /\ v∈F /\ (∀ w∈F,∀ c∈bD w,c∈F) /\ (∀ P:PJ.JV->Prop,(∀ w,P w->∀ c∈bD w,P c)->P v->∀ w∈F,P w) /\ F.length<=300:=by
 obtain⟨F,e1,e2,e3,e4,e5⟩:=Bg (PJ.enc v) 200 fuel [v] 0 (by simpa using hs) (by decide) (by simp) (by omega) (by simpa using h) (fun j hj=>by omega)
 refine⟨F,?_,e2 v (by simp),e3,fun P hP hv=>e4 P hP (by simpa using hv),e5⟩
 show fin (gC [some (.sh (PJ.enc v)),none,none])=_;unfold gC;rw[bx (ρ':=[some (.sh (PJ.enc v)),some (.ow [PJ.enc v]),none]) (by simp)];unfold iz;rw[bx (ρ':=vE (PJ.enc v) [v] 0) (by simp)];unfold ip;rw[bx e1];simp[iq]
theorem lR(bs:List Bool):gn (bs.map .bl)=some bs:=by
 induction bs with
 |nil=>rfl
 |cons b bs ih=>simp[gn,ih]
theorem oW(v:PJ.JV)(h:Alw (fun w=>Wl w /\ (fB w).isSome=true) v)(hs:PJ.size v<=200):∃ F:List PJ.JV,v∈F /\ (∀ w∈F,∀ c∈bD w,c∈F) /\ (∀ P:PJ.JV->Prop,(∀ w,P w->∀ c∈bD w,P c)->P v->∀ w∈F,P w) /\ cK [PJ.enc v]=.ok (.sh (.bl (F.all fun w=>(fB w).getD true))):=by
 obtain⟨F,e1,e2,e3,e4,e5⟩:=yu v (nj (fun w hw=>hw.1) v h) hs
 refine⟨F,e2,e3,e4,?_⟩
 have hF:=e4 (fun w=>Alw (fun w=>Wl w /\ (fB w).isSome=true) w /\ PJ.size w<=200) (fun w hw c hc=>⟨pT hw.1 c hc,by
  have:=vX hc;have:=hw.2
  omega⟩) ⟨h,hs⟩
 have he:∀ G:List PJ.JV,(∀ w∈G,w∈F)->bC cW [] (G.map PJ.enc)=.ok ((G.map fun w=>(fB w).getD true).map .bl):=by
  intro G
  induction G with
  |nil=>intro _;rfl
  | cons w G ih=>
    intro hG;have hw:=hF w (hG w (by simp));have h0:=qd hw.1;obtain⟨b,hb⟩:=Option.isSome_iff_exists.mp h0.2;have h1:=AY w h0.1 (by have:=hw.2;omega) b hb
    have h2:=ih fun u hu=>hG u (by simp[hu])
    have hm:cW ([]++[some (.sh (PJ.enc w))])=.ok (.sh (.bl b)):=by simp[cW,h1]
    rw[List.map_cons,List.map_cons,List.map_cons,bC,hm,hb];show OA.cD (bC cW [] (G.map PJ.enc)) _=_;rw[h2];rfl
 have hc:(m6 (aW bZ (ah (ao 0) az)) [] cW) [some (.sh (PJ.enc v))]=.ok (.fr ((F.map fun w=>(fB w).getD true).map .bl)):=by
  unfold m6;rw[show(aW bZ (ah (ao 0) az)) [some (.sh (PJ.enc v))]=.ok (.fr (F.map PJ.enc)) by simp[e1]];show noX (bC cW [] (F.map PJ.enc))=_;rw[he F fun w hw=>hw];exact if_pos (bj (by simp;omega))
 have ha:=t8 (g:=Cd) hc (x:=.sh (.bl (F.all fun w=>(fB w).getD true))) (by
  show(gn ((F.map fun w=>(fB w).getD true).map .bl)).map _=_
  rw[lR]
  simp)
 show fin (jV [some (.sh (PJ.enc v))])=_;unfold jV b4;rw[ha];rfl
noncomputable abbrev Gq(w:PJ.JV):Prop:=Wl w /\ fB w=some true
theorem By(k j:Nat)(hk:k<=12)(hj:j<=k):bX (PJ.cS j (PJ.names k))=some k:=by
 have h:∀ k:Fin 13,∀ j:Fin 13,j.val<=k.val->bX (PJ.cS j.val (PJ.names k.val))=some k.val:=by decide +kernel
 exact h ⟨k,by omega⟩ ⟨j,by omega⟩ hj
mutual
theorem lF:∀(v:PJ.JV) (m:Int),PJ.Bt v->PJ.size v<=12->Alw Gq (PJ.turn v m)
 |.lf x,m,h,_=>by obtain⟨n,_,rfl⟩:=h;exact⟨PJ.qp n,rfl⟩
 | .row vs,m,h,hs=>by
   simp only[PJ.size]at hs
   exact⟨⟨trivial,rfl⟩,j2 vs _ h (by omega)⟩
 | .fld ns vs,m,h,hs=>by
   simp only[PJ.size]at hs;obtain⟨rfl,h⟩:=h;have hl:=PJ.dc vs;have hn:=PJ.jm vs.length
   have hm0:0<=m%((vs.length:Int)+1):=Int.emod_nonneg _ (by omega)
   have hm1:m%((vs.length:Int)+1)<(vs.length:Int)+1:=Int.emod_lt_of_pos _ (by omega)
   rw[PJ.turn]
   refine⟨⟨?_,?_⟩,(kA _ _).mpr fun w hw=>(kA _ _).mp (j2 vs (m/5) h (by omega)) w ((PJ.b6 _ _).mem_iff.mp hw)⟩
   . show(PJ.cS _ _).length=(PJ.cS _ _).length
     rw[(PJ.b6 _ _).length_eq,(PJ.b6 _ _).length_eq,PJ.lh,hn]
   . show(bX _).map _=_
     rw[By _ _ (by omega) (by omega)];show some (decide (vs.length=(PJ.cS _ (PJ.names vs.length)).length))=_;rw[(PJ.b6 _ _).length_eq,hn];simp
theorem j2:∀(vs:List PJ.JV) (m:Int),PJ.Bts vs->PJ.aN vs<=12->qg Gq (PJ.turns vs m)
 |[],_,_,_=>trivial
 | v ::vs,m,h,hs=>by
   simp only[PJ.aN]at hs
   exact⟨lF v m h.1 (by omega),j2 vs m h.2 (by omega)⟩
end
mutual
theorem oj:∀ v:PJ.JV,PJ.turn v 0=v
 |.lf x=>rfl
 |.row vs=>by rw[PJ.turn,show(0:Int)/3=0 from rfl,jZ vs]
 | .fld ns vs=>by
   rw[PJ.turn,show(0:Int)/5=0 from rfl,jZ vs,Int.zero_emod];simp[PJ.cS]
theorem jZ:∀ vs:List PJ.JV,PJ.turns vs 0=vs
 |[]=>rfl
 |v ::vs=>by rw[PJ.turns,oj v,jZ vs]
end
theorem xq(v:PJ.JV)(h:PJ.Bt v)(hs:PJ.size v<=12):Alw Gq v:=by
 have:=lF v 0 h hs
 rwa [oj]at this
theorem my{v:PJ.JV}(h:Alw Gq v):Alw (fun w=>Wl w /\ (fB w).isSome=true) v:=nj (fun w hw=>⟨hw.1,by rw[hw.2];rfl⟩) v h
theorem pe(v:PJ.JV)(h:Alw Gq v)(hs:PJ.size v<=200):cK [PJ.enc v]=.ok (.sh (.bl true)):=by
 obtain⟨F,_,_,h3,h4⟩:=oW v (my h) hs;rw[h4]
 have:(F.all fun w=>(fB w).getD true)=true:=by
  rw[List.all_eq_true];intro w hw;have:=qd (h3 (Alw Gq) (fun w hw c hc=>pT hw c hc) h w hw);rw[this.2];rfl
 rw[this]
theorem xh(v:PJ.JV)(h:Alw (fun w=>Wl w /\ (fB w).isSome=true) v)(hs:PJ.size v<=200)(hb:∀ F:List PJ.JV,v∈F->(∀ w∈F,∀ c∈bD w,c∈F)->∃ w∈F,fB w=some false):cK [PJ.enc v]=.ok (.sh (.bl false)):=by
 obtain⟨F,h1,h2,_,h4⟩:=oW v h hs;rw[h4]
 have:(F.all fun w=>(fB w).getD true)=false:=by
  obtain⟨w,hw,e⟩:=hb F h1 h2;rw[List.all_eq_false]
  exact⟨w,hw,by rw[e];simp⟩
 rw[this]
noncomputable def uk(b:Bool)(n:List Int):List Int:=if b then n++[1]else n
noncomputable def base(b:Bool)(n:List Int)(v t:PJ.JV):PJ.JV:=.fld [n,[97,7777],uk b n] [v,.lf .non,t]
noncomputable def wrap(v:PJ.JV)(k:Nat)(x:PJ.JV):PJ.JV:=if k%2=0 then .row [v,.lf .non,x]else .fld [[],[1]] [x,v]
noncomputable def dz(v:PJ.JV):Nat->PJ.JV->PJ.JV
 |0,x=>x
 |k+1,x=>wrap v k (dz v k x)
theorem tH(i:Nat)(h:i<8):bX [PJ.named (i:Int),[97,7777],PJ.named (i:Int)]=some 2 /\ bX [PJ.named (i:Int),[97,7777],PJ.named (i:Int)++[1]]=some 3:=by
 have:∀ i:Fin 8,bX [PJ.named (i.val:Int),[97,7777],PJ.named (i.val:Int)]=some 2 /\ bX [PJ.named (i.val:Int),[97,7777],PJ.named (i.val:Int)++[1]]=some 3:=by decide +kernel
 exact this ⟨i,h⟩
theorem kL(i:Nat)(h:i<8)(b:Bool)(v t:PJ.JV):fB (base b (PJ.named (i:Int)) v t)=some b:=by
 have:=tH i h;cases b
 . show(bX [PJ.named (i:Int),[97,7777],PJ.named (i:Int)]).map _=_
   rw[this.1];rfl
 . show(bX [PJ.named (i:Int),[97,7777],PJ.named (i:Int)++[1]]).map _=_
   rw[this.2];rfl
theorem nJ{Q:PJ.JV->Prop}(hQ:∀ x,Q (.row x))(hF:∀ x y,Q (.fld [[],[1]] [x,y]))(hn:Q (.lf .non))(v:PJ.JV)(hv:Alw Q v):∀(k:Nat) (x:PJ.JV),Alw Q x->Alw Q (dz v k x)
 |0,_,h=>h
 | k+1,x,h=>by
   have ih:=nJ hQ hF hn v hv k x h;unfold dz wrap;split
   . exact⟨hQ _,hv,hn,ih,trivial⟩
   . exact⟨hF _ _,ih,hv,trivial⟩
theorem m5(v:PJ.JV):∀(k:Nat) (x:PJ.JV),PJ.size (dz v k x)<=PJ.size x+k*(PJ.size v+2)
 |0,x=>by simp[dz]
 | k+1,x=>by
   have:=m5 v k x;unfold dz wrap
   split<;>simp only[PJ.size,PJ.aN]<;>rw[Nat.succ_mul]<;>omega
theorem nr(v:PJ.JV)(F:List PJ.JV)(hc:∀ w∈F,∀ c∈bD w,c∈F):∀(k:Nat) (x:PJ.JV),dz v k x∈F->x∈F
 |0,_,h=>h
 | k+1,x,h=>by
   unfold dz wrap at h;split at h
   . exact nr v F hc k x (hc _ h _ (by simp[bD]))
   . exact nr v F hc k x (hc _ h _ (by simp[bD]))
@[simp] theorem E0(i j:Int):eU (.int i) (.int j)=some (.sh (.bl (decide (i=j)))):=by
  have:(i==j)=decide (i=j):=by by_cases h:i=j<;>simp[h]
  simp[eU,gM,dD,this]
theorem tV(n:Nat):bQ [.int n]=.ok (.sh (.tup ((PJ.named n).map .int))):=by
 by_cases h:n<6
 . have hh:n=0 \/ n=1 \/ n=2 \/ n=3 \/ n=4 \/ n=5:=by omega
   rcases hh with h|h|h|h|h|h<;>subst h<;>simp[iX,bQ,PJ.named]
 . have h':¬ (n:Int)<6:=by omega
   simp[iX,bQ,PJ.named,h']
theorem yw(n:Int):aG [.int n]=.ok (.sh (PJ.small n)):=by
 unfold PJ.small
 by_cases h1:n%6<3
 . have hh:n%6=0 \/ n%6=1 \/ n%6=2:=by omega
   rcases hh with h|h|h<;>simp[bH,bG,bJ,bF,bI,bT,aG,h]
 . by_cases h2:n%6=3
   . have hh:n/6%4=0 \/ n/6%4=1 \/ n/6%4=2 \/ n/6%4=3:=by omega
     rcases hh with h|h|h|h<;>simp[bH,bG,bJ,bF,bI,bT,aG,h2,h]
   . by_cases h3:n%6=4
     . simp[bH,bG,bJ,bF,bI,bT,aG,h3]
     . by_cases h4:n/6%2=0
       . simp[bH,bG,bJ,bF,bI,bT,aG,h1,h2,h3,h4]
       . have h5:n/6%2=1:=by omega
         simp[bH,bG,bJ,bF,bI,bT,aG,h1,h2,h3,h5]
noncomputable def tF(fs:List PJ.Fr):OV:=.ol (fs.map PJ.gy)
theorem t5(fs:List PJ.Fr)(f:PJ.Fr):tF (fs++[f])=.ol (fs.map PJ.gy++[.ol [.sh (PJ.kindS f.1),.ol ((PJ.items f).map .sh)]]):=by simp[tF,PJ.gy]
theorem g8(x:PV):aU [.tr true (tF []),.sh x]=.ok .non [some (tF []),none]:=by
 have ht:=jW (ρ:=[some (.tr true (tF [])),some (.sh x)]) (i:=0) (io:=true) (ts:=[]) rfl;simp[aU,cC,fnI,iJ,lW,kJ,ht]
theorem qP(fs:List PJ.Fr)(b:Bool)(vs:List PJ.JV)(v:PJ.JV)(hl:vs.length<1000):aU [.tr true (tF (fs++[(b,vs)])),.sh (PJ.enc v)]=.ok .non [some (tF (fs++[(b,vs++[v])])),none]:=by
 rw[t5,t5,PJ.sQ];have hil:=PJ.uP (b,vs)
 have hlt:((PJ.items (b,vs)).map OV.sh).length<lim:=by simp[hil];exact sL (by omega)
 let ρ:af:=[some (.tr true (.ol (fs.map PJ.gy++[.ol [.sh (PJ.kindS b),.ol ((PJ.items (b,vs)).map .sh)]]))),some (.sh (PJ.enc v))]
 have hρ:ρ[0]?=some (some (.tr true (.ol (fs.map PJ.gy++[.ol [.sh (PJ.kindS b),.ol ((PJ.items (b,vs)).map .sh)]])))):=rfl
 have ht:=jW hρ;have h0:=sR hρ
 have hne:(fs.map PJ.gy++[OV.ol [.sh (PJ.kindS b),.ol ((PJ.items (b,vs)).map .sh)]]).isEmpty=false:=by simp
 rw[hne]at ht
 cases b with
 | false=>
   have ha:=ko hρ (md:=mD (ao 1)) (y:=.sh (PJ.enc v)) (by simp[ρ,mD]) hlt
   have hc:(dA (bP 0 aZ) (aR (mOp eU (gF 0 (pIx 0 (pIx 0 aZ (mUn jO (mC (.int 1)))) (mC (.int 0)))) (mC (.str "row"))))) ρ=.ok true:=by
    simp only[dA,ht,OT.cB,aR,mOp,h0,OE.bind,OE.cB,mC,RV.pv,PJ.qZ];rfl
   have hm:cC ρ=.nx (ρ.set 0 (some (.tr true (.ol (fs.map PJ.gy++[.ol [.sh (PJ.kindS false),.ol ((PJ.items (false,vs)).map .sh++[.sh (PJ.enc v)])]]))))):=by
    unfold cC bW;rw[hc];exact ha
   show lW 2 (cC ρ)=_;rw[hm];simp[lW,ρ,kJ]
 | true=>
   have hlen:=vB hρ
   have hmd:(mD (bb (ah (aW bQ (ah (lK 0 (pIx 0 (pIx 0 aZ (mUn jO (mC (.int 1)))) (mC (.int 1)))) az)) (ah (ao 1) az)))) ρ=.ok (.sh (PJ.mem (PJ.named (vs.length:Int)) (PJ.enc v))):=by
    have e1:(ah (lK 0 (pIx 0 (pIx 0 aZ (mUn jO (mC (.int 1)))) (mC (.int 1)))) az) ρ=.ok [.int vs.length]:=by
     simp only[ah,hlen,OE.cD,kC,az,OA.cD,List.length_map,hil]
    have e2:(aW bQ (ah (lK 0 (pIx 0 (pIx 0 aZ (mUn jO (mC (.int 1)))) (mC (.int 1)))) az)) ρ=.ok (.sh (.tup ((PJ.named vs.length).map .int))):=by
     unfold aW;rw[e1];exact tV vs.length
    have e3:(ao 1) ρ=.ok (.sh (PJ.enc v)):=rfl
    simp only[mD,bb,ah,e2,e3,OE.cD,kC,az,OA.cD,OA.bind];rfl
   have ha:=ko hρ hmd hlt
   have hc:(dA (bP 0 aZ) (aR (mOp eU (gF 0 (pIx 0 (pIx 0 aZ (mUn jO (mC (.int 1)))) (mC (.int 0)))) (mC (.str "row"))))) ρ=.ok false:=by
    simp only[dA,ht,OT.cB,aR,mOp,h0,OE.bind,OE.cB,mC,RV.pv,PJ.qZ];rfl
   have hm:cC ρ=.nx (ρ.set 0 (some (.tr true (.ol (fs.map PJ.gy++[.ol [.sh (PJ.kindS true),.ol ((PJ.items (true,vs)).map .sh++[.sh (PJ.mem (PJ.named (vs.length:Int)) (PJ.enc v))])]]))))):=by
    unfold cC bW;rw[hc];simp only[OT.bp,ht,Bool.not_false,if_true,Bool.false_eq_true,if_false];exact ha
   show lW 2 (cC ρ)=_;rw[hm];simp[lW,ρ,kJ]
noncomputable def Eh:List PJ.Fr->List PJ.Fr
 | fs=>match fs.getLast? with
   |none=>[]
   | some f=>match fs.dropLast.getLast? with
     |none=>[]
     |some g=>fs.dropLast.dropLast++[(g.1,g.2++[PJ.ef f])]
theorem CF(ρ:af)(i:Nat)(x:PV)(xs:List PV)(h:ρ[i]?=some (some (.tr false (.ol [.sh x,.ol (xs.map .sh)])))):gF i (pIx i aZ (mC (.int 0))) ρ=.ok (.sh x) /\ gF i (pIx i aZ (mC (.int 1))) ρ=.ok (.al xs):=by
 have ht:cI i ρ=some (.ol [.sh x,.ol (xs.map .sh)]):=by unfold cI;rw[h];rfl
 have h0:pIx i aZ (mC (.int 0)) ρ=some [.ix 0]:=by unfold pIx;rw[ht];rfl
 have h1:pIx i aZ (mC (.int 1)) ρ=some [.ix 1]:=by unfold pIx;rw[ht];rfl
 constructor
 . unfold gF subAt;rw[ht,h0];rfl
 . unfold gF subAt;rw[ht,h1]
   have hg:(OV.ol [.sh x,.ol (xs.map .sh)]).get [.ix 1]=some (.ol (xs.map .sh)):=rfl
   simp only[hg,u5]
theorem nH(fs:List PJ.Fr)(f:PJ.Fr)(A B:Option Sl):gg [some (.tr true (tF (fs++[f]))),A,B]=fP [some (.tr true (tF fs)),some (.tr false (PJ.gy f)),some (.sh (PJ.enc (PJ.ef f)))]:=by
 have hp:=wD (ρ:=[some (.tr true (tF (fs++[f]))),A,B]) (i:=0) (io:=true) (ts:=fs.map PJ.gy) (x:=PJ.gy f) (by simp[tF])
 have hs:fL 1 (i9 0 aZ) [some (.tr true (tF (fs++[f]))),A,B]=.nx [some (.tr true (tF fs)),some (.tr false (PJ.gy f)),B]:=by
  unfold fL;rw[hp];rfl
 obtain⟨p0,p1⟩:=CF [some (.tr true (tF fs)),some (.tr false (PJ.gy f)),B] 1 (PJ.kindS f.1) (PJ.items f) rfl;unfold gg;show OS.andThen (fL 1 (i9 0 aZ) _) fO=_;rw[hs];show fO _=_;unfold fO;rw[PJ.wo];simp[p0,p1,jP]
theorem wX(f:PJ.Fr):b8 [.tr true (tF [f])]=.ok (PJ.enc (PJ.ef f)) [some (tF [])]:=by
 show lW 1 (gg [some (.tr true (tF ([]++[f]))),none,none])=_;rw[nH]
 have hc:dR (cj aU [.t 0 aZ,.e (ao 2)]) [some (.tr true (tF [])),some (.tr false (PJ.gy f)),some (.sh (PJ.enc (PJ.ef f)))]=.nx [some (.tr true (tF [])),some (.tr false (PJ.gy f)),some (.sh (PJ.enc (PJ.ef f)))]:=by
  simp[dR,cj,jh,n8,aZ,g8,cb,eK]
 unfold fP;show lW 1 (OS.andThen (dR (cj aU [.t 0 aZ,.e (ao 2)]) _) _)=_;rw[hc];simp[g6,lW,kJ]
theorem vR(fs:List PJ.Fr)(b:Bool)(vs:List PJ.JV)(f:PJ.Fr)(hl:vs.length<1000):b8 [.tr true (tF (fs++[(b,vs)]++[f]))]=.ok (PJ.enc (PJ.ef f)) [some (tF (fs++[(b,vs++[PJ.ef f])]))]:=by
 show lW 1 (gg [some (.tr true (tF ((fs++[(b,vs)])++[f]))),none,none])=_;rw[nH]
 have hc:dR (cj aU [.t 0 aZ,.e (ao 2)]) [some (.tr true (tF (fs++[(b,vs)]))),some (.tr false (PJ.gy f)),some (.sh (PJ.enc (PJ.ef f)))]=.nx [some (.tr true (tF (fs++[(b,vs++[PJ.ef f])]))),some (.tr false (PJ.gy f)),some (.sh (PJ.enc (PJ.ef f)))]:=by
  simp[dR,cj,jh,n8,aZ,qP fs b vs (PJ.ef f) hl,cb,eK]
 unfold fP;show lW 1 (OS.andThen (dR (cj aU [.t 0 aZ,.e (ao 2)]) _) _)=_;rw[hc];simp[g6,lW,kJ]
noncomputable abbrev cst(s:PV)(b m:Int)(fs:List PJ.Fr)(vh:PV)(K N:Option Sl):af:=[some (.sh s),some (.sh (.int b)),some (.sh (.int m)),some (.tr false (tF fs)),some (.sh vh),K,N]
theorem kr(s:PV)(b m:Int)(fs:List PJ.Fr)(vh:PV)(K N:Option Sl):bP 3 aZ (cst s b m fs vh K N)=.ok (!fs.isEmpty):=by
 have:=jW (ρ:=cst s b m fs vh K N) (i:=3) (io:=false) (ts:=fs.map PJ.gy) rfl;rw[this]
 cases fs<;>rfl
theorem oY(s:PV)(b m:Int)(fs:List PJ.Fr)(vh:PV)(K N:Option Sl)(hne:fs≠[])(k:Nat)(hk:k<900)(I:PJ.n9 k fs vh):
  ∃ fs' vh',fL 4 (cj b8 [.t 3 aZ]) (cst s b m fs vh K N)=.nx (cst s b m fs' vh' K N) /\ PJ.n9 k fs' vh' /\ fs'.length<fs.length:=by
 obtain⟨gs,f,rfl⟩:=PJ.j9 fs hne
 have hf:PJ.Bts f.2:=I.ok f (by simp)
 have ht:=I.tot;rw[PJ.ee]at ht
 by_cases hg:gs=[]
 . subst hg
   refine⟨[],PJ.enc (PJ.ef f),?_,⟨fun g hg=>(by cases hg),by simp[PJ.total],fun _ _=>⟨_,rfl,PJ.t4 f hf,?_⟩⟩,by simp⟩
   . have:=wX f;simp[fL,cj,jh,n8,aZ,this,cb,eK,nio]
   . rw[PJ.o8];omega
 . obtain⟨hs,⟨b',vs⟩,rfl⟩:=PJ.j9 gs hg;rw[PJ.ee]at ht
   dsimp only at ht
   have hl:=PJ.dc vs
   refine⟨hs++[(b',vs++[PJ.ef f])],PJ.enc (PJ.ef f),?_,⟨fun g hg=>?_,?_,fun z=>?_⟩,by simp⟩
   . have:=vR hs b' vs f (by omega);simp at this;simp[fL,cj,jh,n8,aZ,this,cb,eK,nio]
   . rcases List.mem_append.mp hg with z|z
     . exact I.ok g (by simp[z])
     . have z':g=(b',vs++[PJ.ef f]):=by simpa using z
       subst z';exact PJ.rE (I.ok (b',vs) (by simp)) (PJ.t4 f hf)
   . rw[PJ.ee];dsimp only;rw[PJ.fN];simp only[PJ.aN,PJ.o8];omega
   . simp at z
theorem se(ns:List Int)(b m:Int)(fs:List PJ.Fr)(vh:PV)(N:Option Sl)(k:Nat)(hk:k<900)(I:PJ.n9 k fs vh):
  ∃ fs' vh' N',cH (cst (.lst (ns.map .int)) b m fs vh (some (.sh (.int k))) N)=.nx (cst (.lst (ns.map .int)) b m fs' vh' (some (.sh (.int k))) N') /\ PJ.n9 (k+1) fs' vh':=by
 have h1:∀(X:Option Sl),cU 6 (aW bM (ah (ao 0) (ah (mOp gE (ao 1) (ao 5)) az))) (cst (.lst (ns.map .int)) b m fs vh (some (.sh (.int k))) X)=.nx (cst (.lst (ns.map .int)) b m fs vh (some (.sh (.int k))) (some (.sh (.int (PG.mix ns (b+k)))))):=fun X=>by simp[cst,bS]
 have hn:=Cc ns (b+k);generalize PG.mix ns (b+k)=n at h1 hn;have ht:=kr (.lst (ns.map .int)) b m fs vh (some (.sh (.int k))) (some (.sh (.int n)))
 have hstart:∀ X,cH (cst (.lst (ns.map .int)) b m fs vh (some (.sh (.int k))) X)=(bW (dA (bP 3 aZ) (aR (mOp gEq (mOp cF (ao 6) (mC (.int 5))) (mC (.int 1)))))
  (fL 4 (cj b8 [.t 3 aZ]))
  (bW (iB (bP 3 aZ) (aR (mOp gEq (ao 5) (mC (.int 0)))))
  (bW (iB (aR (mOp gGt (mOp cF (ao 6) (mC (.int 5))) (mC (.int 2)))) (dA (aR (mOp gEq (ao 5) (mC (.int 0)))) (aR (mOp gGt (mOp cF (ao 6) (mC (.int 9))) (mC (.int 0))))))
  (dM 3 aZ (mDl (mDc (mD (mOp jw (gi (ah (mC (.str "row")) (ah (mC (.str "fields")) az))) (mOp cF (mOp hU (ao 6) (mC (.int 5))) (mC (.int 2))))) (mDc (mD (gi az)) mDn))))
  (bf (cU 4 (aW aG (ah (mOp hU (ao 6) (mC (.int 7))) az)))
  (dR (cj aU [.t 3 aZ,.e (ao 4)]))))
  bU)) (cst (.lst (ns.map .int)) b m fs vh (some (.sh (.int k))) (some (.sh (.int n)))):=fun X=>by
   unfold cH;show OS.andThen (cU 6 _ _) _=_;rw[h1 X];rfl
 rw[hstart]
 have hsame:PJ.n9 k fs vh->0<k->PJ.n9 (k+1) fs vh:=fun I hk0=>⟨I.ok,by have:=I.tot;omega,fun z _=>by obtain⟨v,e1,e2,e3⟩:=I.fin z hk0;exact⟨v,e1,e2,by omega⟩⟩
 by_cases hA:fs≠[] /\ n%5=1
 . obtain⟨hne,h5⟩:=hA
   have hie:fs.isEmpty=false:=by cases fs with|nil=>exact absurd rfl hne|cons _ _=>rfl
   rw[hie]at ht;obtain⟨fs',vh',e,I',_⟩:=oY (.lst (ns.map .int)) b m fs vh (some (.sh (.int k))) (some (.sh (.int n))) hne k hk I
   refine⟨fs',vh',some (.sh (.int n)),?_,⟨I'.ok,by have:=I'.tot;omega,fun z hk1=>?_⟩⟩
   . rw[<- e];simp[bW,dA,ht,h5]
   . have hk0:0 < k:=by
      have:=I.tot;obtain⟨gs,f,rfl⟩:=PJ.j9 fs hne;rw[PJ.ee]at this;omega
     obtain⟨v,e1,e2,e3⟩:=I'.fin z hk0
     exact⟨v,e1,e2,by omega⟩
 . by_cases hB:fs≠[] \/ k=0
   . have hcA:(dA (bP 3 aZ) (aR (mOp gEq (mOp cF (ao 6) (mC (.int 5))) (mC (.int 1))))) (cst (.lst (ns.map .int)) b m fs vh (some (.sh (.int k))) (some (.sh (.int n)))) = .ok false:=by
      cases hf:fs.isEmpty with
      |true=>rw[hf]at ht;simp[dA,ht]
      | false=>
        rw[hf]at ht
        have h5:n%5≠1:=fun z=>hA ⟨(by intro w;rw[w]at hf;cases hf),z⟩
        simp[dA,ht,h5]
     have hcB:(iB (bP 3 aZ) (aR (mOp gEq (ao 5) (mC (.int 0))))) (cst (.lst (ns.map .int)) b m fs vh (some (.sh (.int k))) (some (.sh (.int n))))=.ok true:=by
      cases hf:fs.isEmpty with
      |false=>rw[hf]at ht;simp[iB,ht]
      | true=>
        rw[hf]at ht
        have hk0:k=0:=by
         rcases hB with z|z
         . rw[List.isEmpty_iff]at hf;exact absurd hf z
         . exact z
        unfold iB;rw[ht];simp[hk0]
     by_cases hP:n%5>2 \/ (k=0 /\ n%9>0)
     . have hcP:(iB (aR (mOp gGt (mOp cF (ao 6) (mC (.int 5))) (mC (.int 2)))) (dA (aR (mOp gEq (ao 5) (mC (.int 0)))) (aR (mOp gGt (mOp cF (ao 6) (mC (.int 9))) (mC (.int 0)))))) (cst (.lst (ns.map .int)) b m fs vh (some (.sh (.int k))) (some (.sh (.int n)))) = .ok true:=by
        by_cases h2:2<n%5
        . simp[h2]
        . rcases hP with z|⟨z1,z2⟩
          . exact absurd z h2
          . have z2':0<n%9:=z2
            simp[h2,z1,z2']
       have hmd:(mDl (mDc (mD (mOp jw (gi (ah (mC (.str "row")) (ah (mC (.str "fields")) az))) (mOp cF (mOp hU (ao 6) (mC (.int 5))) (mC (.int 2))))) (mDc (mD (gi az)) mDn))) (cst (.lst (ns.map .int)) b m fs vh (some (.sh (.int k))) (some (.sh (.int n))))=.ok (PJ.gy (decide (n/5%2=1),[])):=by
        have hz:n/5%2=0 \/ n/5%2=1:=by omega
        rcases hz with hz|hz<;>simp[mDl,mDc,mD,mDn,hz,PJ.gy,PJ.kindS,PJ.items,PJ.aH]
       have ha:=qV (ρ:=cst (.lst (ns.map .int)) b m fs vh (some (.sh (.int k))) (some (.sh (.int n)))) (i:=3) (io:=false) (ts:=fs.map PJ.gy) rfl hmd (by
        have:=I.tot;have hfl:=PJ.om fs;simp
        exact sL (by omega))
       refine⟨fs++[(decide (n/5%2=1),[])],vh,some (.sh (.int n)),?_,⟨fun g hg=>?_,?_,fun z=>by simp at z⟩⟩
       . simp only[bW,hcA,OT.bp,hcB,hcP,if_true,Bool.false_eq_true,if_false,ha];simp[cst,tF]
       . rcases List.mem_append.mp hg with z|z
         . exact I.ok g z
         . have z':g=(decide (n/5%2=1),[]):=by simpa using z
           subst z';exact trivial
       . rw[PJ.ee];have:=I.tot;simp[PJ.aN];omega
     . have hcP:(iB (aR (mOp gGt (mOp cF (ao 6) (mC (.int 5))) (mC (.int 2)))) (dA (aR (mOp gEq (ao 5) (mC (.int 0)))) (aR (mOp gGt (mOp cF (ao 6) (mC (.int 9))) (mC (.int 0)))))) (cst (.lst (ns.map .int)) b m fs vh (some (.sh (.int k))) (some (.sh (.int n)))) = .ok false:=by
        have h2:¬ 2<n%5:=fun z=>hP (.inl z)
        by_cases hk0:k=0
        . have h9:¬ 0<n%9:=fun z=>hP (.inr ⟨hk0,z⟩)
          simp[h2,hk0,h9]
        . simp[h2,hk0]
       have hsv:=yw (n/7)
       have hs4:cU 4 (aW aG (ah (mOp hU (ao 6) (mC (.int 7))) az)) (cst (.lst (ns.map .int)) b m fs vh (some (.sh (.int k))) (some (.sh (.int n))))=.nx (cst (.lst (ns.map .int)) b m fs (PJ.small (n/7)) (some (.sh (.int k))) (some (.sh (.int n)))):=by simp[cst,hsv]
       have hred:∀ o,dR (cj aU [.t 3 aZ,.e (ao 4)]) (cst (.lst (ns.map .int)) b m fs (PJ.small (n/7)) (some (.sh (.int k))) (some (.sh (.int n))))=o->(bW (dA (bP 3 aZ) (aR (mOp gEq (mOp cF (ao 6) (mC (.int 5))) (mC (.int 1))))) (fL 4 (cj b8 [.t 3 aZ])) (bW (iB (bP 3 aZ) (aR (mOp gEq (ao 5) (mC (.int 0))))) (bW (iB (aR (mOp gGt (mOp cF (ao 6) (mC (.int 5))) (mC (.int 2)))) (dA (aR (mOp gEq (ao 5) (mC (.int 0)))) (aR (mOp gGt (mOp cF (ao 6) (mC (.int 9))) (mC (.int 0)))))) (dM 3 aZ (mDl (mDc (mD (mOp jw (gi (ah (mC (.str "row")) (ah (mC (.str "fields")) az))) (mOp cF (mOp hU (ao 6) (mC (.int 5))) (mC (.int 2))))) (mDc (mD (gi az)) mDn)))) (bf (cU 4 (aW aG (ah (mOp hU (ao 6) (mC (.int 7))) az))) (dR (cj aU [.t 3 aZ,.e (ao 4)])))) bU)) (cst (.lst (ns.map .int)) b m fs vh (some (.sh (.int k))) (some (.sh (.int n))))=o:=fun o ho=>(by simp only[bW,hcA,OT.bp,hcB,hcP,if_true,Bool.false_eq_true,if_false,bf,hs4,OS.andThen];exact ho)
       by_cases hf:fs=[]
       . subst hf
         refine⟨[],PJ.small (n/7),some (.sh (.int n)),hred _ ?_,⟨fun g hg=>(by cases hg),by simp[PJ.total],fun _ _=>⟨.lf (PJ.small (n/7)),rfl,⟨_,Int.ediv_nonneg hn.1 (by omega),rfl⟩,by simp[PJ.size]⟩⟩⟩
         simp[dR,cj,jh,n8,aZ,g8,cb,eK]
       . obtain⟨gs,⟨b',vs⟩,rfl⟩:=PJ.j9 fs hf
         have ht':=I.tot
         rw[PJ.ee]at ht'
         dsimp only at ht'
         have hl:=PJ.dc vs;have hps:=qP gs b' vs (.lf (PJ.small (n/7))) (by omega)
         refine⟨gs++[(b',vs++[.lf (PJ.small (n/7))])],PJ.small (n/7),some (.sh (.int n)),hred _ ?_,⟨fun g hg=>?_,?_,fun z=>by simp at z⟩⟩
         . have e1:PJ.enc (.lf (PJ.small (n/7)))=PJ.small (n/7):=by simp[PJ.enc]
           rw[e1]at hps;simp[dR,cj,jh,n8,aZ,hps,cb,eK]
         . rcases List.mem_append.mp hg with z|z
           . exact I.ok g (by simp[z])
           . have z':g=(b',vs++[.lf (PJ.small (n/7))]):=by simpa using z
             subst z';exact PJ.rE (I.ok (b',vs) (by simp)) ⟨_,Int.ediv_nonneg hn.1 (by omega),rfl⟩
         . rw[PJ.ee];dsimp only;rw[PJ.fN];simp only[PJ.aN,PJ.size];omega
   . have hf:fs = []:=by
      by_cases z:fs=[]
      . exact z
      . exact absurd (.inl z) hB
     have hk0:k≠0:=fun z=>hB (.inr z)
     refine⟨fs,vh,some (.sh (.int n)),?_,hsame I (by omega)⟩
     have hie:fs.isEmpty=true:=by rw[hf];rfl
     rw[hie]at ht;simp[bW,dA,iB,ht,hk0]
theorem sZ(ns:List Int)(b m:Int)(j:Nat):∀(k:Nat) (fs:List PJ.Fr) (vh:PV) (K N:Option Sl),k+j<900->PJ.n9 k fs vh ->
  ∃ fs' vh' K' N',fM 5 cH ((List.range' k j).map fun i:Nat=>PV.int (i:Int)) (cst (.lst (ns.map .int)) b m fs vh K N)=.nx (cst (.lst (ns.map .int)) b m fs' vh' K' N') /\ PJ.n9 (k+j) fs' vh':=by
 induction j with
 |zero=>intro k fs vh K N _ I;exact⟨fs,vh,K,N,rfl,I⟩
 | succ j ih=>
   intro k fs vh K N hk I;obtain⟨fs1,vh1,N1,e1,I1⟩:=se ns b m fs vh N k (by omega) I;obtain⟨fs2,vh2,K2,N2,e2,I2⟩:=ih (k+1) fs1 vh1 (some (.sh (.int k))) N1 (by omega) I1
   refine⟨fs2,vh2,K2,N2,?_,by rw[show k+(j+1)=k+1+j by omega];exact I2⟩
   rw[List.range'_succ,List.map_cons,rH (ρ':=cst (.lst (ns.map .int)) b m fs1 vh1 (some (.sh (.int k))) N1) e1];exact e2
theorem qB(s:PV)(b m:Int)(k:Nat)(hk:k<900)(j:Nat):∀(fs:List PJ.Fr) (vh:PV) (K N:Option Sl) (F:Nat),fs.length<=j->j<F->PJ.n9 k fs vh ->
  ∃ vh',bR dJ gu F (cst s b m fs vh K N)=.nx (cst s b m [] vh' K N) /\ PJ.n9 k [] vh':=by
 induction j with
 | zero=>
   intro fs vh K N F hl hF I
   obtain⟨F,rfl⟩:∃ G,F=G+1:=⟨F - 1,by omega⟩
   have hf:fs=[]:=by cases fs with|nil=>rfl|cons _ _=>simp at hl
   subst hf
   refine⟨vh,?_,I⟩
   have ht:=kr s b m [] vh K N;unfold bR dJ;rw[ht];rfl
 | succ j ih=>
   intro fs vh K N F hl hF I
   obtain⟨F,rfl⟩:∃ G,F=G+1:=⟨F - 1,by omega⟩
   by_cases hf:fs=[]
   . subst hf
     refine⟨vh,?_,I⟩
     have ht:=kr s b m [] vh K N;unfold bR dJ;rw[ht];rfl
   . obtain⟨fs1,vh1,e1,I1,hlt⟩:=oY s b m fs vh K N hf k hk I;obtain⟨vh2,e2,I2⟩:=ih fs1 vh1 K N F (by omega) (by omega) I1
     refine⟨vh2,?_,I2⟩
     have ht:=kr s b m fs vh K N
     have hie:fs.isEmpty=false:=by cases fs with|nil=>exact absurd rfl hf|cons _ _=>rfl
     rw[hie]at ht;unfold bR
     have hc:dJ (cst s b m fs vh K N)=.ok true:=ht
     have hb:gu (cst s b m fs vh K N)=.nx (cst s b m fs1 vh1 K N):=e1
     rw[hc];simp only[OT.bp,if_true,hb,pA];exact e2
theorem yS(ns:List Int)(b:Int)(m:Nat)(h0:0<m)(hm:m<100):∃ v,cR [.lst (ns.map .int),.int b,.int m]=.ok (.sh (PJ.enc v)) /\ PJ.Bt v /\ PJ.size v<=m:=by
 obtain⟨fs,vh,K,N,e1,I1⟩:=sZ ns b m m 0 [] .non none none (by omega) ⟨fun f hf=>(by cases hf),by simp[PJ.total],fun _ z=>absurd z (by omega)⟩;rw[Nat.zero_add]at I1;have hl:=PJ.om fs;have ht:=I1.tot;obtain⟨vh',e2,I2⟩:=qB (.lst (ns.map .int)) b m m (by omega) 100 fs vh K N fuel (by omega) (by decide) I1;obtain⟨v,rfl,hv,hs⟩:=I2.fin rfl h0
 refine⟨v,?_,hv,hs⟩
 have hr:de m=(List.range' 0 m).map fun i:Nat=>PV.int (i:Int):=by unfold de;rw[List.range_eq_range']
 rw[<- hr]at e1
 have hb:-4611686018427387904<=(m:Int) /\ (m:Int)<4611686018427387904:=by omega
 have e3:i8 [some (.sh (.lst (ns.map .int))),some (.sh (.int b)),some (.sh (.int m)),none,none,none,none]=.rt (cst (.lst (ns.map .int)) b m [] (PJ.enc v) K N) (.sh (PJ.enc v)):=by
  have hs:jb 3 (mD (gi az)) [some (.sh (.lst (ns.map .int))),some (.sh (.int b)),some (.sh (.int m)),none,none,none,none]=.nx [some (.sh (.lst (ns.map .int))),some (.sh (.int b)),some (.sh (.int m)),some (.tr false (tF [])),none,none,none]:=by simp[jb,mD,tF]
  have hs4:cU 4 (mC .non) [some (.sh (.lst (ns.map .int))),some (.sh (.int b)),some (.sh (.int m)),some (.tr false (tF [])),none,none,none]=.nx (cst (.lst (ns.map .int)) b m [] .non none none):=by simp
  have hfor:kB 5 (ao 2) cH (cst (.lst (ns.map .int)) b m [] .non none none)=fM 5 cH (de m) (cst (.lst (ns.map .int)) b m [] .non none none):=by
   simp -implicitDefEqProofs [kB,hb]
  have hret:gq (cst (.lst (ns.map .int)) b m [] (PJ.enc v) K N)=.rt (cst (.lst (ns.map .int)) b m [] (PJ.enc v) K N) (.sh (PJ.enc v)):=by simp[gq]
  simp -implicitDefEqProofs only[i8,jz,jD,jA,gf,hs,si,hs4,hfor,e1,e2,hret]
 simp -implicitDefEqProofs [cR,e3]
theorem yY{ρ:af}{i:Nat}{me:af->OE}{P:af->OS}{j:Int}(h1:me ρ=.ok (.sh (.int j)))(hi:-4611686018427387904<=j /\ j<4611686018427387904):kB i me P ρ=fM i P (de j.toNat) ρ:=by
 simp -implicitDefEqProofs [kB,h1,hi]
theorem qK(b:Bool)(n:List Int)(v t:PJ.JV):PJ.enc (base b n v t)=.tup [.str "fields",.tup [.tup [nmP n,PJ.enc v],.tup [.tup [.int 97,.int 7777],.non],.tup [nmP (uk b n),PJ.enc t]]]:=by
 simp[base,PJ.enc,PJ.aH,PJ.mem]
noncomputable abbrev LE(s:PV)(v t c n tw on:PV)(k a:Option Sl):af:=[some (.sh s),some (.sh v),some (.sh t),some (.sh c),some (.sh n),some (.sh tw),some (.sh on),k,a]
theorem o5(v x:PJ.JV):PJ.enc (.row [v,.lf .non,x])=.tup [.str "row",.tup [PJ.enc v,.non,PJ.enc x]]:=by simp[PJ.enc,PJ.aH]
theorem oU(v x:PJ.JV):PJ.enc (.fld [[],[1]] [x,v])=.tup [.str "fields",.tup [.tup [.tup [],PJ.enc x],.tup [.tup [.int 1],PJ.enc v]]]:=by simp[PJ.enc,PJ.aH,PJ.mem]
theorem AG(s t c n:PV)(v x y:PJ.JV)(k:Nat)(a:Option Sl):∃ a',jv (LE s (PJ.enc v) t c n (PJ.enc x) (PJ.enc y) (some (.sh (.int (k:Nat)))) a)=.nx (LE s (PJ.enc v) t c n (PJ.enc (wrap v k x)) (PJ.enc (wrap v k y)) (some (.sh (.int (k:Nat)))) a'):=by
 refine⟨some (.sh (.tup [PJ.enc v,.non])),?_⟩
 have l3:3<=lim:=bj (by omega)
 have l2:2<=lim:=bj (by omega)
 have l1:1<=lim:=bj (by omega)
 have hc:∀ z:PV,bV (.tup [PJ.enc v,.non]) (.tup [z])=some (.sh (.tup [PJ.enc v,.non,z])):=fun z=>uN _ _ (by simp)
 unfold jv;rw[bx (ρ':=LE s (PJ.enc v) t c n (PJ.enc x) (PJ.enc y) (some (.sh (.int (k:Nat)))) (some (.sh (.tup [PJ.enc v,.non])))) (by simp[l2])];unfold wrap
 by_cases h:k%2=0
 . have h':(k:Int)%2=0:=by omega
   rw[if_pos h,if_pos h,o5,o5];rw[bx (ρ':=LE s (PJ.enc v) t c n (.tup [.str "row",.tup [PJ.enc v,.non,PJ.enc x]]) (PJ.enc y) (some (.sh (.int (k:Nat)))) (some (.sh (.tup [PJ.enc v,.non])))) (by simp[h',hc,l2,l1])];simp[h',hc,l2,l1]
 . have h':¬ (k:Int)%2=0:=by omega
   rw[if_neg h,if_neg h,oU,oU];rw[bx (ρ':=LE s (PJ.enc v) t c n (.tup [.str "fields",.tup [.tup [.tup [],PJ.enc x],.tup [.tup [.int 1],PJ.enc v]]]) (PJ.enc y) (some (.sh (.int (k:Nat)))) (some (.sh (.tup [PJ.enc v,.non])))) (by simp[h',l2,l1])];simp[h',l2,l1]
theorem w8(s t c n:PV)(v x y:PJ.JV):∀(j i:Nat) (k a:Option Sl),∃ k' a',fM 7 jv ((List.range' i j).map fun i:Nat=>PV.int (i:Int)) (LE s (PJ.enc v) t c n (PJ.enc (dz v i x)) (PJ.enc (dz v i y)) k a)=.nx (LE s (PJ.enc v) t c n (PJ.enc (dz v (i+j) x)) (PJ.enc (dz v (i+j) y)) k' a')
 |0,i,k,a=>⟨k,a,rfl⟩
 | j+1,i,k,a=>by
   obtain⟨a',h⟩:=AG s t c n v (dz v i x) (dz v i y) i a;obtain⟨k2,a2,h2⟩:=w8 s t c n v x y j (i+1) (some (.sh (.int (i:Nat)))) a'
   refine⟨k2,a2,?_⟩
   rw[List.range'_succ,List.map_cons,rH (ρ':=LE s (PJ.enc v) t c n (PJ.enc (dz v (i+1) x)) (PJ.enc (dz v (i+1) y)) (some (.sh (.int (i:Nat)))) a') h];rw[h2,show i+1+j=i+(j+1) by omega]
theorem mw(x y:PJ.JV)(cx:PJ.Cl x)(cy:PJ.Cl y)(sx:PJ.size x<=60)(sy:PJ.size y<=60)(b:Bool)(h:b=true↔PJ.can x=PJ.can y):fq [PJ.enc x,PJ.enc y]=.ok (.sh (.bl b)):=by
 rw[gY x y cx cy sx sy];have:=PJ.AR (PJ.size x) x y (Nat.le_refl _) cx cy
 congr 3
 rw[Bool.eq_iff_iff,this,h]
mutual
theorem qC:∀(v:PJ.JV) (m:Int),PJ.size (PJ.chg v m)<=PJ.size v
 |.lf x,m=>by simp[PJ.chg,PJ.size]
 | .row vs,m=>by
   rw[PJ.chg];have h1:=kN vs (m%(vs.length:Int)).toNat (m/11);have h2:=jc vs (m%(vs.length:Int)).toNat;split
   . simp[PJ.size]
   . split<;>simp only[PJ.size]<;>omega
 | .fld ns vs,m=>by
   rw[PJ.chg];have h1:=kN vs (m%(vs.length:Int)).toNat (m/11);have h2:=jc vs (m%(vs.length:Int)).toNat;split
   . simp[PJ.size]
   . split
     . simp only[PJ.size];omega
     . split<;>simp only[PJ.size]<;>omega
theorem kN:∀(vs:List PJ.JV) (j:Nat) (m:Int),PJ.aN (PJ.dN vs j m)<=PJ.aN vs
 |[],_,_=>by simp[PJ.dN]
 |v ::vs,0,m=>by have:=qC v m;simp only[PJ.dN,PJ.aN];omega
 |v ::vs,j+1,m=>by have:=kN vs j m;simp only[PJ.dN,PJ.aN];omega
theorem jc:∀(vs:List PJ.JV) (j:Nat),PJ.aN (vs.eraseIdx j)<=PJ.aN vs
 |[],_=>by simp
 |v ::vs,0=>by simp[PJ.aN]
 |v ::vs,j+1=>by have:=jc vs j;simp only[List.eraseIdx_cons_succ,PJ.aN];omega
end
theorem yJ(s:PV)(v:PJ.JV)(t:PJ.JV)(c n:PV)(j i:Nat)(hi:i<8)(gv:Alw Gq v)(gt:Alw Gq t)(sv:PJ.size v<=12)(st:PJ.size t<=12)(hj:j<=2)(k a:Option Sl):fin (pN (LE s (PJ.enc v) (PJ.enc t) c n (PJ.enc (dz v j (base false (PJ.named (i:Int)) v t))) (PJ.enc (dz v j (base true (PJ.named (i:Int)) v t))) k a))=.ok (.sh (.bl true)):=by
 have z:∀ b,PJ.size (dz v j (base b (PJ.named (i:Int)) v t))<=200:=fun b=>by
  have h1:=m5 v j (base b (PJ.named (i:Int)) v t)
  have h2:PJ.size (base b (PJ.named (i:Int)) v t)<=26:=by simp only[base,PJ.size,PJ.aN];omega
  have h3:j*(PJ.size v+2)<=2*14:=Nat.mul_le_mul hj (by omega)
  omega
 have e11:bX [[],[1]]=some 2:=by decide +kernel
 have ow:∀ x y,fB (.fld [[],[1]] [x,y])=some true:=fun x y=>by
  show Option.map (fun n=>decide (n=([[],[1]]:List (List Int)).length)) (bX [[],[1]])=_;rw[e11];rfl
 have ob:(fB (base false (PJ.named (i:Int)) v t)).isSome=true:=by rw[kL i hi];rfl
 have hln:Wl (.lf .non):=.inl rfl
 have no:=xh (dz v j (base false (PJ.named (i:Int)) v t)) (nJ (fun x=>⟨trivial,rfl⟩) (fun x y=>⟨rfl,by rw[ow];rfl⟩) ⟨hln,rfl⟩ v (my gv) j _ ⟨⟨rfl,ob⟩,my gv,⟨hln,rfl⟩,my gt,trivial⟩) (z false) fun F h1 h2=>⟨_,nr v F h2 j _ h1,kL i hi false v t⟩
 have yes:=pe (dz v j (base true (PJ.named (i:Int)) v t)) (nJ (fun x=>⟨trivial,rfl⟩) (fun x y=>⟨rfl,ow x y⟩) ⟨hln,rfl⟩ v gv j _ ⟨⟨rfl,kL i hi true v t⟩,gv,⟨hln,rfl⟩,gt,trivial⟩) (z true);simp[pN,no,yes,lZ]
theorem wG(ns:List Int)(_:ns.length<=63):qL [.lst (ns.map .int)]=.ok (.sh (.bl true)):=by
 obtain⟨n12,hn12⟩:∃ n:Nat,PG.mix ns 62%12=n:=⟨(PG.mix ns 62%12).toNat,by omega⟩
 obtain⟨v,hcl,bt,hs⟩:=yS ns 0 (1+n12) (by omega) (by omega)
 have hs12:PJ.size v<=12:=by omega
 have hcl2:cR [.lst (ns.map .int),.int 0,.int (1+PG.mix ns 62%12)]=.ok (.sh (PJ.enc v)):=by
  rw[hn12,show(1:Int)+(n12:Int)=((1+n12:Nat):Int) by omega];exact hcl
 have hd:=PJ.rB v;have cl:=PJ.oQ v bt (by omega);have gv:=xq v bt hs12;generalize hm50:PG.mix ns 50=m50;generalize hm51:PG.mix ns 51=m51
 have ht:cT [PJ.enc v,.int m50]=.ok (.sh (PJ.enc (PJ.turn v m50))):=Aw 70 v m50 (by omega) (by omega) cl
 have hc:cG [PJ.enc v,.int m51]=.ok (.sh (PJ.enc (PJ.chg v m51))):=C0 70 v m51 (by omega) (by omega) bt
 have gt:=lF v m50 bt hs12;have st:=PJ.oD v m50;have sc:=qC v m51;have clt:=PJ.tX v m50 cl;have clc:=PJ.sg v m51 bt (by omega);have ect:=PJ.qE v m50 cl;have ecc:=PJ.xT v m51 bt (by omega);have a1:=mw v (PJ.turn v m50) cl clt (by omega) (by omega) true (by simp[ect]);have a2:=mw (PJ.turn v m50) v clt cl (by omega) (by omega) true (by simp[ect]);have a3:=mw v (PJ.chg v m51) cl clc (by omega) (by omega) false (by simp;exact fun z=>ecc z.symm);have a4:=mw (PJ.chg v m51) (PJ.turn v m50) clc clt (by omega) (by omega) false (by simp[ect];exact ecc);have k1:=pe v gv (by omega);have x62:=bS ns 62;have x50:=bS ns 50;have x51:=bS ns 51;have x52:=bS ns 52;have x53:=bS ns 53
 obtain⟨i,hi⟩:∃ n:Nat,PG.mix ns 52%8=n:=⟨(PG.mix ns 52%8).toNat,by omega⟩
 obtain⟨j,hj⟩:∃ n:Nat,PG.mix ns 53%3=n:=⟨(PG.mix ns 53%3).toNat,by omega⟩
 have hi8:i<8:=by omega
 have hj2:j<=2:=by omega
 have hnm:=tV i
 have l3:3<=lim:=bj (by omega)
 have l2:2<=lim:=bj (by omega)
 have l1:1<=lim:=bj (by omega)
 generalize hS:PV.lst (ns.map .int)=S at *;show fin (vV [some (.sh S),none,none,none,none,none,none,none,none])=_;unfold vV;rw[bx (ρ':=[some (.sh S),some (.sh (PJ.enc v)),none,none,none,none,none,none,none]) (by simp[x62,hcl2])];unfold uo;rw[bx (ρ':=[some (.sh S),some (.sh (PJ.enc v)),some (.sh (PJ.enc (PJ.turn v m50))),none,none,none,none,none,none]) (by simp[x50,hm50,ht])];unfold uv;rw[bx (ρ':=[some (.sh S),some (.sh (PJ.enc v)),some (.sh (PJ.enc (PJ.turn v m50))),some (.sh (PJ.enc (PJ.chg v m51))),none,none,none,none,none]) (by simp[x51,hm51,hc])];unfold uD;rw[sk (by simp[a1,a2,k1,lZ])];unfold ur;rw[sk (by simp[a3,a4,lZ])];unfold uj;rw[bx (ρ':=[some (.sh S),some (.sh (PJ.enc v)),some (.sh (PJ.enc (PJ.turn v m50))),some (.sh (PJ.enc (PJ.chg v m51))),some (.sh (nmP (PJ.named (i:Int)))),none,none,none,none]) (by simp[x52,hi,hnm])];unfold tU
 have hln:(PJ.named (i:Int)).length<=2:=lV 8 (by omega) _ (List.mem_map.mpr ⟨i,List.mem_range.mpr hi8,rfl⟩)
 have hcat:bV (nmP (PJ.named (i:Int))) (.tup [.int 1])=some (.sh (nmP (PJ.named (i:Int)++[1]))):=by
  rw[uN _ _ (by simp;omega)];simp
 rw[bx (ρ':=[some (.sh S),some (.sh (PJ.enc v)),some (.sh (PJ.enc (PJ.turn v m50))),some (.sh (PJ.enc (PJ.chg v m51))),some (.sh (nmP (PJ.named (i:Int)))),some (.sh (PJ.enc (base false (PJ.named (i:Int)) v (PJ.turn v m50)))),none,none,none]) (by rw[qK];simp[uk,l3,l2,l1])];unfold uh;rw[bx (ρ':=LE S (PJ.enc v) (PJ.enc (PJ.turn v m50)) (PJ.enc (PJ.chg v m51)) (nmP (PJ.named (i:Int))) (PJ.enc (base false (PJ.named (i:Int)) v (PJ.turn v m50))) (PJ.enc (base true (PJ.named (i:Int)) v (PJ.turn v m50))) none none) (by rw[qK true];simp[uk,hcat,l3,l2,l1])];unfold uy;obtain⟨k',a',hw⟩:=w8 S (PJ.enc (PJ.turn v m50)) (PJ.enc (PJ.chg v m51)) (nmP (PJ.named (i:Int))) v (base false (PJ.named (i:Int)) v (PJ.turn v m50)) (base true (PJ.named (i:Int)) v (PJ.turn v m50)) j 0 none none;rw[Nat.zero_add]at hw
 have hr:de j=(List.range' 0 j).map fun i:Nat=>PV.int (i:Int):=by unfold de;rw[List.range_eq_range']
 rw[<- hr]at hw
 have hf:kB 7 (mOp cF (aW bM (ah (ao 0) (ah (mC (.int 53)) az))) (mC (.int 3))) jv (LE S (PJ.enc v) (PJ.enc (PJ.turn v m50)) (PJ.enc (PJ.chg v m51)) (nmP (PJ.named (i:Int))) (PJ.enc (base false (PJ.named (i:Int)) v (PJ.turn v m50))) (PJ.enc (base true (PJ.named (i:Int)) v (PJ.turn v m50))) none none)=fM 7 jv (de j) (LE S (PJ.enc v) (PJ.enc (PJ.turn v m50)) (PJ.enc (PJ.chg v m51)) (nmP (PJ.named (i:Int))) (PJ.enc (base false (PJ.named (i:Int)) v (PJ.turn v m50))) (PJ.enc (base true (PJ.named (i:Int)) v (PJ.turn v m50))) none none):=by
  have h1:(mOp cF (aW bM (ah (ao 0) (ah (mC (.int 53)) az))) (mC (.int 3))) (LE S (PJ.enc v) (PJ.enc (PJ.turn v m50)) (PJ.enc (PJ.chg v m51)) (nmP (PJ.named (i:Int))) (PJ.enc (base false (PJ.named (i:Int)) v (PJ.turn v m50))) (PJ.enc (base true (PJ.named (i:Int)) v (PJ.turn v m50))) none none)=.ok (.sh (.int (j:Nat))):=by simp[x53,hj]
  have hb:-4611686018427387904<=((j:Nat):Int) /\ ((j:Nat):Int)<4611686018427387904:=by omega
  rw[yY h1 hb,Int.toNat_natCast]
 simp only[dz]at hw;rw[bx (hf.trans hw)];exact yJ S v (PJ.turn v m50) _ _ j i hi8 gv gt hs12 (by omega) hj2 k' a'
end L2.plainglass_k22_clean_and_alike
namespace L2.plainglass_k22_clean_and_alike
open PySem PySem.Spec PyProof.Rows L2.E L2.P PG
def top(i:Nat):Stmt:=PySem.Challenge.pw_plainglass_k22_clean_and_alike.main.body.getD i (.Pass ⟨0,0,0,0⟩)
abbrev kY:Stmt:=top 1
abbrev jI:List Str:=["thing"]
theorem su:bu ["thing"] jI (aD kY):=hX
abbrev gb:Stmt:=top 2
abbrev fH:List Str:=["thing"]
theorem il:bu ["thing","kind"] fH (aD gb):=hX
abbrev gA:Stmt:=top 3
abbrev fT:List Str:=["thing"]
theorem eJ:bu ["thing","found","at"] fT (aD gA):=hX
abbrev j3:Stmt:=top 4
abbrev ja:List Str:=["thing"]
theorem rF:bu ["thing"] ja (aD j3):=hX
abbrev fe:Stmt:=top 5
abbrev eG:List Str:=["thing"]
theorem km:bu ["thing"] eG (aD fe):=hX
abbrev qh:Stmt:=top 6
abbrev nB:List Str:=["one","other"]
theorem m4:bu ["one","other","pending","pair"] nB (aD qh):=hX
abbrev pX:Stmt:=top 7
abbrev mX:List Str:=["one","other"]
theorem qy:bu ["one","other","kind"] mX (aD pX):=hX
abbrev gz:Stmt:=top 8
abbrev fW:List Str:=["one","other"]
theorem jf:bu ["one","other","others"] fW (aD gz):=hX
abbrev jG:Stmt:=top 10
abbrev i4:List Str:=["_law_script","_law_k"]
theorem rO:bu ["_law_script","_law_k"] i4 (aD jG):=hX
abbrev kR:Stmt:=top 11
abbrev j4:List Str:=["_law_script","_law_k"]
theorem jT:bu ["_law_script","_law_k","_law_number"] j4 (aD kR):=hX
abbrev iR:Stmt:=top 14
abbrev hV:List Str:=["_law_many_here"]
theorem pB:bu ["_law_many_here"] hV (aD iR):=hX
abbrev eM:Stmt:=top 15
abbrev dY:List Str:=["_law_number"]
theorem dS:bu ["_law_number","_law_kind_here","_law_rest"] dY (aD eM):=hX
abbrev gV:Stmt:=top 16
abbrev gw:List Str:=["_law_frames","_law_value_here"]
theorem og:bu ["_law_frames","_law_value_here"] gw (aD gV):=hX
abbrev jH:Stmt:=top 17
abbrev ji:List Str:=["_law_frames"]
theorem iQ:bu ["_law_frames","_law_frame","_law_value_here"] ji (aD jH):=hX
abbrev iO:Stmt:=top 18
abbrev hJ:List Str:=["_law_script","_law_base","_law_many_here"]
theorem cA:bu ["_law_script","_law_base","_law_many_here","_law_frames","_law_value_here","_law_k","_law_number"] hJ (aD iO):=hX
abbrev jL:Stmt:=top 19
abbrev iV:List Str:=["_law_thing"]
theorem qw:bu ["_law_thing"] iV (aD jL):=hX
abbrev gZ:Stmt:=top 21
abbrev jy:List Str:=["_law_thing","_law_number"]
theorem fu:bu ["_law_thing","_law_number","_law_kind_here","_law_at","_law_pairs"] jy (aD gZ):=hX
abbrev gr:Stmt:=top 22
abbrev je:List Str:=["_law_thing","_law_number"]
theorem eL:bu ["_law_thing","_law_number","_law_kind_here","_law_at","_law_part"] je (aD gr):=hX
abbrev rM:Stmt:=top 23
abbrev tR:List Str:=["_law_script"]
theorem fY:bu ["_law_script","_law_one","_law_turned_here","_law_changed_here","_law_name","_law_twice","_law_once","_law_k","_law_ahead"] tR (aD rM):=hX
set_option genInjectivity false in
set_option genSizeOf false in
structure Adr where
 bz:Addr
 d_kind_of:FuncData
 aM:Addr
 d_inner_values:FuncData
 bZ:Addr
 d_every_value:FuncData
 cK:Addr
 d_is_clean:FuncData
 bA:Addr
 d_has_names_once:FuncData
 fq:Addr
 d_alike:FuncData
 fQ:Addr
 d_agree:FuncData
 bY:Addr
 d_inner_pairs:FuncData
 dU:Addr
 d_law_cell:FuncData
 bM:Addr
 d_law_mix:FuncData
 bQ:Addr
 d_law_named:FuncData
 aG:Addr
 d_law_small_value:FuncData
 aU:Addr
 d_law_put_in:FuncData
 b8:Addr
 d_law_shut:FuncData
 cR:Addr
 d_law_clean:FuncData
 bO:Addr
 d_law_kind:FuncData
 cT:Addr
 d_law_turned:FuncData
 cG:Addr
 d_law_changed:FuncData
 qL:Addr
 d_law:FuncData
structure Txt(K:PySem.W.Frag)(mg:Str->Option Value)(t:Adr):Prop where
 e_kind_of:Ent K mg "kind_of" kY t.bz t.d_kind_of jI
 e_inner_values:Ent K mg "inner_values" gb t.aM t.d_inner_values fH
 e_every_value:Ent K mg "every_value" gA t.bZ t.d_every_value fT
 e_is_clean:Ent K mg "is_clean" j3 t.cK t.d_is_clean ja
 e_has_names_once:Ent K mg "has_names_once" fe t.bA t.d_has_names_once eG
 gY:Ent K mg "alike" qh t.fq t.d_alike nB
 ku:Ent K mg "agree" pX t.fQ t.d_agree mX
 e_inner_pairs:Ent K mg "inner_pairs" gz t.bY t.d_inner_pairs fW
 g9:Ent K mg "_law_cell" jG t.dU t.d_law_cell i4
 bS:Ent K mg "_law_mix" kR t.bM t.d_law_mix j4
 e_law_named:Ent K mg "_law_named" iR t.bQ t.d_law_named hV
 e_law_small_value:Ent K mg "_law_small_value" eM t.aG t.d_law_small_value dY
 e_law_put_in:Ent K mg "_law_put_in" gV t.aU t.d_law_put_in gw
 e_law_shut:Ent K mg "_law_shut" jH t.b8 t.d_law_shut ji
 e_law_clean:Ent K mg "_law_clean" iO t.cR t.d_law_clean hJ
 e_law_kind:Ent K mg "_law_kind" jL t.bO t.d_law_kind iV
 e_law_turned:Ent K mg "_law_turned" gZ t.cT t.d_law_turned jy
 e_law_changed:Ent K mg "_law_changed" gr t.cG t.d_law_changed je
 wG:Ent K mg "law" rM t.qL t.d_law tR
 n_list:mg "list" = none
 n_len:mg "len" = none
 n_all:mg "all" = none
 n_set:mg "set" = none
 n_sorted:mg "sorted" = none
 n_dict:mg "dict" = none
 n_zip:mg "zip" = none
 n_tuple:mg "tuple" = none
 n_range:mg "range" = none
 n_isinstance:mg "isinstance" = none
noncomputable def dG(t:Adr)(c:String):Option Addr:=none
section
variable{P:Program}{w:World}{K:PySem.W.Frag}{mg:Str->Option Value}{base:Heap}{t:Adr}
theorem qT(T:Txt K mg t):cO P w K mg base (CXE P w) 1 t.dU t.d_law_cell i4 (spP K (dG t) dU):=
 iH T.g9.F rO fun _ _ _ _ _ _ hr=>⟨_,(ax (cg (dH (qv 0) (fun _=>rfl)) (aA (aT (qi b9 (qv 0) (aK b5 (qv 1) (pZ T.n_len (qv 0)))))) bg)
   (aA (aT aj))),
  (aF (cf (kG ai) (ba (au iP ai (au b7 ai (dB iE ai)))) bh)
    (ba ak))⟩
theorem eY(T:Txt K mg t):cO P w K mg base (CXE P w) 2 t.bM t.d_law_mix j4 (spP K (dG t) bM):=
 iH T.bS.F jT fun _ _ _ _ _ _ hr=>⟨_,(ax (qz 2 jT.nd (aK b5 (aK fJ (qx (qT T) T.g9 hr aJ (aa (qv 0) (aa (qv 1) aq))) (aK pC aj (aK fJ (qv 1) aj))) aj))
   (ax (qz 2 jT.nd (aK b5 (aK pC (qv 2) aj) aj))
   (aA (aT (aK b5 (aK fJ (aK pC (aK eS (qv 2) aj) aj) (qv 2)) aj))))),
  (aF (bN (au b7 (au fC (aL (ae ai (ae ai av))) (au p5 ak (au fC ai ak))) ak))
    (aF (bN (au b7 (au p5 ai ak) ak))
    (ba (au b7 (au fC (au p5 (au eH ai ak) ak) ai) ak))))⟩
theorem kh(T:Txt K mg t):cO P w K mg base (CXE P w) 1 t.bQ t.d_law_named hV (spP K (dG t) bQ):=
 iH T.e_law_named.F pB fun _ _ _ _ _ _ hr=>⟨_,(ax (cg (dh wd (qv 0) aj) (aA (aT (qi b9 (fE (aa (aC aq) (aa (aC (aa aj aq)) (aa (aC (aa aj (aa aj aq))) (aa (aC (aa aj (aa aj aq))) (aa (aC (aa aj aq)) (aa (aC (aa aj aq)) aq))))))) (qv 0)))) bg)
   (aA (aT (aC (aa (aK fJ aj (qv 0)) aq))))),
  (aF (cf (aO (au wL ai ak)) (ba (au iP (fZ (ae (aB av) (ae (aB (ae ak av)) (ae (aB (ae ak (ae ak av))) (ae (aB (ae ak (ae ak av))) (ae (aB (ae ak av)) (ae (aB (ae ak av)) av))))))) ai)) bh)
    (ba (aB (ae (au fC ak ai) av))))⟩
theorem jB(T:Txt K mg t):cO P w K mg base (CXE P w) 2 t.aU t.d_law_put_in gw (spI K (dG t) aU):=
 zO T.e_law_put_in.F og fun _ _ _ _ _ _ hr=>⟨_,(aA (cg (kb (nG (dH (qv 0) (fun _=>rfl)) (mj (dh eZ (qi b9 (qi b9 (qv 0) (rD mU aj)) aj) br)))) (aA (qap ju (qi b9 (qi b9 (qv 0) (rD mU aj)) aj) (qv 1))) (aA (cg (dH (qv 0) (fun _=>rfl)) (aA (qap ju (qi b9 (qi b9 (qv 0) (rD mU aj)) aj) (aC (aa (qx (kh T) T.e_law_named hr aJ (aa (pZ T.n_len (qi b9 (qi b9 (qv 0) (rD mU aj)) aj)) aq)) (aa (qv 1) aq))))) bg)))),
  (cf (nQ (fS cJ) (aO (au (e7 hr.units) (pO (nX (nX cJ (qN mM ak)) ak)) bq))) (jQ (nX (nX cJ (qN mM ak)) ak) (vg ai)) (cf (fS cJ) (jQ (nX (nX cJ (qN mM ak)) ak) (vg (aB (ae (aL (ae (yo (nX (nX cJ (qN mM ak)) ak)) av)) (ae ai av))))) bh))⟩
theorem lL(T:Txt K mg t):cO P w K mg base (CXE P w) 3 t.b8 t.d_law_shut ji (spI K (dG t) b8):=
 zO T.e_law_shut.F iQ fun _ _ _ _ _ _ hr=>⟨_,(ax (qz 1 iQ.nd (wR PySem.F.plainAttrs_list PySem.F.slot_list_pop PySem.F.type_list_pop vS (qv 0)))
   (ax (qz 2 iQ.nd (aC (aa (qi b9 (qv 1) aj) (aa (gR gD rfl T.n_tuple L2.E.boot_tuple (aa (qi b9 (qv 1) aj) aq)) aq))))
   (ax (mm (qx (jB T) T.e_law_put_in hr aJ (aa (qv 0) (aa (qv 2) aq))))
   (aA (aT (qv 2)))))),
  (aF (mv (ud cJ))
    (aF (bN (aB (ae (pO (nX cJ ak)) (ae (dB sM (pO (nX cJ ak))) av))))
    (aF (rW (j5 rfl (gK (uc cJ) (gK (zV (W:=fun _ _ _ _=>False) ai) mq))))
    jn)))⟩
theorem jN(T:Txt K mg t):cO P w K mg base (CXE P w) 1 t.aG t.d_law_small_value dY (spP K (dG t) aG):=
 iH T.e_law_small_value.F dS fun _ _ _ _ _ _ hr=>⟨_,(ax (qz 1 dS.nd (aK b5 (qv 0) aj))
   (ax (qz 2 dS.nd (aK eS (qv 0) aj))
   (ax (cg (dh wd (qv 1) aj) (aA (aT (qi b9 (fE (aa kX (aa fz (aa fz aq)))) (qv 1)))) bg)
   (ax (cg (dh eZ (qv 1) aj) (aA (aT (aC (aa br (aa (qi b9 (fE (aa (aC (aa aj aq)) (aa (aC (aa aj (aa aj aq))) (aa (aC aq) (aa (aC (aa aj (aa aj aq))) aq))))) (aK b5 (qv 2) aj)) aq))))) bg)
   (ax (cg (dh eZ (qv 1) aj) (aA (aT (aC (aa br (aa (aK fJ aj (aK b5 (qv 2) aj)) (aa (aK xy (aK b5 (aK eS (qv 2) aj) aj) aj) aq)))))) bg)
   (aA (aT (qi b9 (fE (aa (aC (aa br (aa aj (aa aj aq)))) (aa (aC (aa br (aa (aK xy (aK pC (rD mU aj) (qv 2)) aj) (aa aj aq)))) aq))) (aK b5 (qv 2) aj))))))))),
  (aF (bN (au b7 ai ak))
    (aF (bN (au eH ai ak))
    (aF (cf (aO (au wL ai ak)) (ba (au iP (fZ (ae lj (ae fA (ae fA av)))) ai)) bh)
    (aF (cf (aO (au (e7 hr.units) ai ak)) (ba (aB (ae bq (ae (au iP (fZ (ae (aB (ae ak av)) (ae (aB (ae ak (ae ak av))) (ae (aB av) (ae (aB (ae ak (ae ak av))) av))))) (au b7 ai ak)) av)))) bh)
    (aF (cf (aO (au (e7 hr.units) ai ak)) (ba (aB (ae bq (ae (au fC ak (au b7 ai ak)) (ae (au vU (au b7 (au eH ai ak) ak) ak) av))))) bh)
    (ba (au iP (fZ (ae (aB (ae bq (ae ak (ae ak av)))) (ae (aB (ae bq (ae (au vU (au p5 (qN mM ak) ai) ak) (ae ak av)))) av))) (au b7 ai ak))))))))⟩
theorem qf(T:Txt K mg t):cO P w K mg base (CXE P w) 4 t.cR t.d_law_clean hJ (spP K (dG t) cR):=
 iH T.e_law_clean.F cA fun _ _ _ _ _ _ hr=>⟨_,(ax (qz 3 cA.nd (fE aq))
   (ax (qz 4 cA.nd kX)
   (ax (xR j8 rfl (oy rfl T.n_range (aa (qv 2) aq)) (uq (i:=5) cA.nd rfl (by first|exact Or.inl rfl|exact Or.inr rfl)) (ax (qz 6 cA.nd (qx (eY T) T.bS hr aJ (aa (qv 0) (aa (aK fJ (qv 1) (qv 5)) aq))))
   (aA (cg (kb (nG (dH (qv 3) (fun _=>rfl)) (mj (dh jE (aK b5 (qv 6) aj) aj)))) (aA (qz 4 cA.nd (qx (lL T) T.e_law_shut hr aJ (aa (qv 3) aq)))) (aA (cg (kb (oK (dH (qv 3) (fun _=>rfl)) (mV (dh jE (qv 5) aj)))) (aA (cg (kb (oK (dh zL (aK b5 (qv 6) aj) aj) (mV (kb (nG (dh jE (qv 5) aj) (mj (dh zL (aK b5 (qv 6) aj) aj))))))) (aA (qap ju (qv 3) (fE (aa (qi b9 (fE (aa br (aa br aq))) (aK b5 (aK eS (qv 6) aj) aj)) (aa (fE aq) aq))))) (ax (qz 4 cA.nd (qx (jN T) T.e_law_small_value hr aJ (aa (aK eS (qv 6) aj) aq)))
   (aA (mm (qx (jB T) T.e_law_put_in hr aJ (aa (qv 3) (aa (qv 4) aq)))))))) bg))))))
   (ax (mI j8 (dH (qv 3) (fun _=>rfl)) (aA (qz 4 cA.nd (qx (lL T) T.e_law_shut hr aJ (aa (qv 3) aq)))))
   (aA (aT (qv 4))))))),
  (aF (pq (vg (fZ av)))
    (aF (bN lj)
    (aF (ug ai (aF (bN (aL (ae ai (ae (au fC ai ai) av))))
    (cf (nQ (fS cJ) (aO (au jC (au b7 ai ak) ak))) (mv (j5 rfl (gK (uc cJ) mq))) (cf (oA (fS cJ) (aO (au jC ai ak))) (cf (oA (aO (au An (au b7 ai ak) ak)) (nQ (aO (au jC ai ak)) (aO (au An (au b7 ai ak) ak)))) (jQ cJ (A5 (rJ (vg (au iP (fZ (ae bq (ae bq av))) (au b7 (au eH ai ak) ak))) (rJ (vg (fZ av)) yd)))) (aF (bN (aL (ae (au eH ai ak) av)))
    (rW (j5 rfl (gK (uc cJ) (gK (zV (W:=fun _ _ _ _=>False) ai) mq)))))) bh))))
    (aF (nz (fS cJ) (mv (j5 rfl (gK (uc cJ) mq))))
    jn))))⟩
theorem lI(T:Txt K mg t):cO P w K mg base (CXE P w) 1 t.bO t.d_law_kind iV (spP K (dG t) bO):=
 iH T.e_law_kind.F qw fun _ _ _ _ _ _ hr=>⟨_,(ax (cg (kb (nG (dH (jj vY rfl T.n_isinstance L2.E.boot_isinstance (aa (qv 0) (aa (yj (v:=.ty _) rfl T.n_tuple L2.E.boot_tuple rfl) aq))) (fun _=>rfl)) (nG (dh jE (pZ T.n_len (qv 0)) aj) (mj (tY Cr (qi aQ (qv 0) aj) (aC (aa br (aa br aq))) rfl))))) (aA (aT (qi aQ (qv 0) aj))) bg)
   (aA (aT br))),
  (aF (cf (nQ (kG (Cm ai)) (nQ (aO (au jC (dB iE ai) ak)) (aO (au (Dc hr.units) (au aP ai ak) (aB (ae bq (ae bq av))))))) (ba (au aP ai ak)) bh)
    (ba bq))⟩
theorem iT(T:Txt K mg t):∀ n,cO P w K mg base (CXE P w) (1+n) t.cT t.d_law_turned ["_law_thing","_law_number"] (spP K (dG t) (bw n))
 |0=>xj
 | n+1=>have ih:=iT T n
   iH T.e_law_turned.F fu fun _ _ _ _ _ _ hr=>⟨_,(ax (qz 2 fu.nd (fU ((lI T).mono (by show _<=1+n;omega)) hr rfl T.e_law_kind.m T.e_law_kind.F.kp T.e_law_kind.b .nil aJ (aa (qv 0) aq)))
    (ax (cg (dh eZ (qv 2) br) (aA (aT (qv 0))) bg)
    (ax (cg (dh eZ (qv 2) br) (aA (aT (aC (aa br (aa (gR gD rfl T.n_tuple L2.E.boot_tuple (aa (gp (M:=["_law_number"]) (ι:=[1]) (x:="_law_part") ⟨rfl,rfl,rfl,rfl,rfl,rfl,rfl,rfl,rfl,rfl,rfl,by decide +kernel⟩ rfl (jX (qi aQ (qv 0) aj)) fun _ _ _ _=>(fU ih hr rfl T.e_law_turned.m T.e_law_turned.F.kp T.e_law_turned.b .nil sF (aa (qv 1) (aa (aK eS (qv 0) aj) aq)))) aq)) aq))))) bg)
    (ax (qz 3 fu.nd (aK b5 (qv 1) (aK fJ (pZ T.n_len (qi aQ (qv 0) aj)) aj)))
    (ax (qz 4 fu.nd (aK cX (dI fo (qi aQ (qv 0) aj) (fj (qv 3)) fm) (dI fo (qi aQ (qv 0) aj) fm (fj (qv 3)))))
    (aA (aT (aC (aa br (aa (gR gD rfl T.n_tuple L2.E.boot_tuple (aa (gp (M:=["_law_number"]) (ι:=[1]) (x:="_law_pair") ⟨rfl,rfl,rfl,rfl,rfl,rfl,rfl,rfl,rfl,rfl,rfl,by decide +kernel⟩ rfl (jX (qv 4)) fun _ _ _ _=>(aC (aa (qi aQ (qv 1) aj) (aa (fU ih hr rfl T.e_law_turned.m T.e_law_turned.F.kp T.e_law_turned.b .nil sF (aa (qi aQ (qv 1) aj) (aa (aK eS (qv 0) aj) aq))) aq)))) aq)) aq)))))))))),
   (aF (bN (aL (ae ai av)))
     (aF (cf (aO (au (e7 hr.units) ai bq)) jn bh)
     (aF (cf (aO (au (e7 hr.units) ai bq)) (ba (aB (ae bq (ae (dB sM (gc (by decide) (au aP ai ak) (aL (ae ai (ae (au eH ai ak) av))))) av)))) bh)
     (aF (bN (au b7 ai (au fC (dB iE (au aP ai ak)) ak)))
     (aF (bN (au cY (fg (au aP ai ak) (fi ai) fh) (fg (au aP ai ak) fh (fi ai))))
     (ba (aB (ae bq (ae (dB sM (gc (by decide) ai (aB (ae (au aP ai ak) (ae (aL (ae (au aP ai ak) (ae (au eH ai ak) av))) av))))) av)))))))))⟩
theorem nY(T:Txt K mg t):cO P w K mg base (CXE P w) 72 t.cT t.d_law_turned ["_law_thing","_law_number"] (spP K (dG t) cT):=(iT T 70).mono (by decide)
theorem iA(T:Txt K mg t):∀ n,cO P w K mg base (CXE P w) (1+n) t.cG t.d_law_changed ["_law_thing","_law_number"] (spP K (dG t) (du n))
 |0=>xj
 | n+1=>have ih:=iA T n
   iH T.e_law_changed.F eL fun _ _ _ _ _ _ hr=>⟨_,(ax (qz 2 eL.nd (fU ((lI T).mono (by show _<=1+n;omega)) hr rfl T.e_law_kind.m T.e_law_kind.F.kp T.e_law_kind.b .nil aJ (aa (qv 0) aq)))
    (ax (cg (kb (oK (dh eZ (qv 2) br) (mV (wc (dH (qi aQ (qv 0) aj) (fun _=>rfl)))))) (aA (aT (qi b9 (fE (aa (aC (aa br (aa aj (aa aj aq)))) (aa (aC (aa br (aa (aC (aa aj aq)) aq))) aq))) (aK b5 (qv 1) aj)))) bg)
    (ax (qz 3 eL.nd (aK b5 (qv 1) (pZ T.n_len (qi aQ (qv 0) aj))))
    (ax (qz 4 eL.nd (qi aQ (qi aQ (qv 0) aj) (qv 3)))
    (ax (cg (dh jE (aK b5 (aK eS (qv 1) aj) aj) aj) (aA (aT (aC (aa (qv 2) (aa (aK cX (dI fo (qi aQ (qv 0) aj) fm (fj (qv 3))) (dI fo (qi aQ (qv 0) aj) (fj (aK fJ (qv 3) aj)) fm)) aq))))) bg)
    (ax (cg (dh eZ (qv 2) br) (aA (aT (aC (aa (qv 2) (aa (aK cX (aK cX (dI fo (qi aQ (qv 0) aj) fm (fj (qv 3))) (aC (aa (fU ih hr rfl T.e_law_changed.m T.e_law_changed.F.kp T.e_law_changed.b .nil aJ (aa (qv 4) (aa (aK eS (qv 1) aj) aq))) aq))) (dI fo (qi aQ (qv 0) aj) (fj (aK fJ (qv 3) aj)) fm)) aq))))) bg)
    (ax (cg (dh jE (aK b5 (aK eS (qv 1) aj) aj) aj) (aA (aT (aC (aa (qv 2) (aa (aK cX (aK cX (dI fo (qi aQ (qv 0) aj) fm (fj (qv 3))) (aC (aa (aC (aa (aK cX (qi aQ (qv 4) aj) (aC (aa aj aq))) (aa (qi aQ (qv 4) aj) aq))) aq))) (dI fo (qi aQ (qv 0) aj) (fj (aK fJ (qv 3) aj)) fm)) aq))))) bg)
    (aA (aT (aC (aa (qv 2) (aa (aK cX (aK cX (dI fo (qi aQ (qv 0) aj) fm (fj (qv 3))) (aC (aa (aC (aa (qi aQ (qv 4) aj) (aa (fU ih hr rfl T.e_law_changed.m T.e_law_changed.F.kp T.e_law_changed.b .nil aJ (aa (qi aQ (qv 4) aj) (aa (aK eS (qv 1) aj) aq))) aq))) aq))) (dI fo (qi aQ (qv 0) aj) (fj (aK fJ (qv 3) aj)) fm)) aq)))))))))))),
   (aF (bN (aL (ae ai av)))
     (aF (cf (oA (aO (au (e7 hr.units) ai bq)) (wO (kG (au aP ai ak)))) (ba (au iP (fZ (ae (aB (ae bq (ae ak (ae ak av)))) (ae (aB (ae bq (ae (aB (ae ak av)) av))) av))) (au b7 ai ak))) bh)
     (aF (bN (au b7 ai (dB iE (au aP ai ak))))
     (aF (bN (au aP (au aP ai ak) ai))
     (aF (cf (aO (au jC (au b7 (au eH ai ak) ak) ak)) (ba (aB (ae ai (ae (au cY (fg (au aP ai ak) fh (fi ai)) (fg (au aP ai ak) (fi (au fC ai ak)) fh)) av)))) bh)
     (aF (cf (aO (au (e7 hr.units) ai bq)) (ba (aB (ae ai (ae (au cY (au cY (fg (au aP ai ak) fh (fi ai)) (aB (ae (aL (ae ai (ae (au eH ai ak) av))) av))) (fg (au aP ai ak) (fi (au fC ai ak)) fh)) av)))) bh)
     (aF (cf (aO (au jC (au b7 (au eH ai ak) ak) ak)) (ba (aB (ae ai (ae (au cY (au cY (fg (au aP ai ak) fh (fi ai)) (aB (ae (aB (ae (au cY (au aP ai ak) (aB (ae ak av))) (ae (au aP ai ak) av))) av))) (fg (au aP ai ak) (fi (au fC ai ak)) fh)) av)))) bh)
     (ba (aB (ae ai (ae (au cY (au cY (fg (au aP ai ak) fh (fi ai)) (aB (ae (aB (ae (au aP ai ak) (ae (aL (ae (au aP ai ak) (ae (au eH ai ak) av))) av))) av))) (fg (au aP ai ak) (fi (au fC ai ak)) fh)) av)))))))))))⟩
theorem nM(T:Txt K mg t):cO P w K mg base (CXE P w) 72 t.cG t.d_law_changed ["_law_thing","_law_number"] (spP K (dG t) cG):=(iA T 70).mono (by decide)
theorem fX(T:Txt K mg t):cO P w K mg base (CXE P w) 1 t.bz t.d_kind_of jI (spP K (dG t) bz):=
 iH T.e_kind_of.F su fun _ _ _ _ _ _ hr=>⟨_,(ax (cg (dh AU (qv 0) kX) (aA (aT br)) bg)
   (ax (cg (dh pk (qv 0) fz) (aA (aT br)) bg)
   (ax (cg (dh pk (qv 0) fz) (aA (aT br)) bg)
   (aA (aT (qi aQ (qv 0) aj)))))),
  (aF (cf (aO (au BJ ai lj)) (ba bq) bh)
    (aF (cf (aO (au pH ai fA)) (ba bq) bh)
    (aF (cf (aO (au pH ai fA)) (ba bq) bh)
    (ba (au aP ai ak)))))⟩
theorem v7(T:Txt K mg t):cO P w K mg base (CXE P w) 2 t.fQ t.d_agree mX (spP K (dG t) fQ):=
 iH T.ku.F qy fun _ _ _ _ _ _ hr=>⟨_,(ax (qz 2 qy.nd (qx (fX T) T.e_kind_of hr aJ (aa (qv 0) aq)))
   (ax (cg (dh r8 (qv 2) (qx (fX T) T.e_kind_of hr aJ (aa (qv 1) aq))) (aA (aT fz)) bg)
   (ax (cg (dh eZ (qv 2) br) (aA (aT (jq jE (pZ T.n_len (qi aQ (qv 0) aj)) (pZ T.n_len (qi aQ (qv 1) aj)) (jS _)))) bg)
   (ax (cg (dh eZ (qv 2) br) (aA (aT (jq eZ (jj nW rfl T.n_sorted boot_sorted (aa (gp (M:=[]) (ι:=[]) (x:="pair") ⟨rfl,rfl,rfl,rfl,rfl,rfl,rfl,rfl,rfl,rfl,rfl,by decide +kernel⟩ rfl (jX (qi aQ (qv 0) aj)) fun _ _ _ _=>(qi aQ (qv 0) aj)) aq)) (jj nW rfl T.n_sorted boot_sorted (aa (gp (M:=[]) (ι:=[]) (x:="pair") ⟨rfl,rfl,rfl,rfl,rfl,rfl,rfl,rfl,rfl,rfl,rfl,by decide +kernel⟩ rfl (jX (qi aQ (qv 1) aj)) fun _ _ _ _=>(qi aQ (qv 0) aj)) aq)) (jS _)))) bg)
   (aA (aT (jq eZ (qv 0) (qv 1) (jS _)))))))),
  (aF (bN (aL (ae ai av)))
    (aF (cf (aO (au (tq hr.units) ai (aL (ae ai av)))) (ba fA) bh)
    (aF (cf (aO (au (e7 hr.units) ai bq)) (ba (au jC (dB iE (au aP ai ak)) (dB iE (au aP ai ak)))) bh)
    (aF (cf (aO (au (e7 hr.units) ai bq)) (ba (au (e7 hr.units) (dB (rj (sX hr)) (gc (by decide) (au aP ai ak) (au aP ai ak))) (dB (rj (sX hr)) (gc (by decide) (au aP ai ak) (au aP ai ak))))) bh)
    (ba (au (e7 hr.units) ai ai))))))⟩
theorem fG(T:Txt K mg t):cO P w K mg base (CXE P w) 2 t.aM t.d_inner_values fH (spP K (dG t) aM):=
 iH T.e_inner_values.F il fun _ _ _ _ _ _ hr=>⟨_,(ax (qz 1 il.nd (qx (fX T) T.e_kind_of hr aJ (aa (qv 0) aq)))
   (ax (cg (dh eZ (qv 1) br) (aA (aT (gR p6 rfl T.n_list L2.E.boot_list (aa (qi aQ (qv 0) aj) aq)))) bg)
   (ax (cg (dh eZ (qv 1) br) (aA (aT (gp (M:=[]) (ι:=[]) (x:="pair") ⟨rfl,rfl,rfl,rfl,rfl,rfl,rfl,rfl,rfl,rfl,rfl,by decide +kernel⟩ rfl (jX (qi aQ (qv 0) aj)) fun _ _ _ _=>(qi aQ (qv 0) aj)))) bg)
   (aA (aT (fE aq)))))),
  (aF (bN (aL (ae ai av)))
    (aF (cf (aO (au (e7 hr.units) ai bq)) (ba (dB sU (au aP ai ak))) bh)
    (aF (cf (aO (au (e7 hr.units) ai bq)) (ba (gc (by decide) (au aP ai ak) (au aP ai ak))) bh)
    (ba (fZ av)))))⟩
theorem nF(T:Txt K mg t):cO P w K mg base (CXE P w) 3 t.bY t.d_inner_pairs fW (spP K (dG t) bY):=
 iH T.e_inner_pairs.F jf fun _ _ _ _ _ _ hr=>⟨_,(ax (cg (dh r8 (qx (fX T) T.e_kind_of hr aJ (aa (qv 0) aq)) br) (aA (aT (sH rfl T.n_list rfl T.n_zip (qx (fG T) T.e_inner_values hr aJ (aa (qv 0) aq)) (qx (fG T) T.e_inner_values hr aJ (aa (qv 1) aq))))) bg)
   (ax (qz 2 jf.nd (gR sA rfl T.n_dict L2.E.boot_dict (aa (qi aQ (qv 1) aj) aq)))
   (aA (aT (gp (M:=["others"]) (ι:=[2]) (x:="pair") ⟨rfl,rfl,rfl,rfl,rfl,rfl,rfl,rfl,rfl,rfl,rfl,by decide +kernel⟩ rfl (jX (qi aQ (qv 0) aj)) fun _ _ _ _=>(aC (aa (qi aQ (qv 1) aj) (aa (wC (C8 hr) (qv 0) (qi aQ (qv 1) aj) (fun _ _=>rfl)) aq)))))))),
  (aF (cf (aO (au (tq hr.units) (aL (ae ai av)) bq)) (ba (au (Bj hr.hd) (aL (ae ai av)) (aL (ae ai av)))) bh)
    (aF (pq (yC hr.hd (sX hr) (au aP ai ak)))
    (ba (gc (by decide) (au aP ai ak) (aB (ae (au aP ai ak) (ae (yf cJ (au aP ai ak)) av)))))))⟩
theorem kv(T:Txt K mg t):cO P w K mg base (CXE P w) 4 t.fq t.d_alike nB (spP K (dG t) fq):=
 iH T.gY.F m4 fun _ _ _ _ _ _ hr=>⟨_,(ax (qz 2 m4.nd (fE (aa (aC (aa (qv 0) (aa (qv 1) aq))) aq)))
   (ax (mI j8 (dH (qv 2) (fun _=>rfl)) (ax (qz 3 m4.nd (wR PySem.F.plainAttrs_list PySem.F.slot_list_pop PySem.F.type_list_pop vS (qv 2)))
   (ax (cg (wc (dH (qx (v7 T) T.ku hr aJ (aa (qi aQ (qv 3) aj) (aa (qi aQ (qv 3) aj) aq))) (fun _=>rfl))) (aA (aT fz)) bg)
   (aA (qex tK (qv 2) (qx (nF T) T.e_inner_pairs hr aJ (aa (qi aQ (qv 3) aj) (aa (qi aQ (qv 3) aj) aq))))))))
   (aA (aT fz)))),
  (aF (pq (vg (fZ (ae (aB (ae ai (ae ai av))) av))))
    (aF (nz (fS cJ) (aF (mv (ud cJ))
    (aF (cf (wO (kG (aL (ae (au aP ai ak) (ae (au aP ai ak) av))))) (ba fA) bh)
    (sI cJ (aL (ae (au aP ai ak) (ae (au aP ai ak) av)))))))
    (ba fA)))⟩
theorem kx(T:Txt K mg t):cO P w K mg base (CXE P w) 2 t.bA t.d_has_names_once eG (spP K (dG t) bA):=
 iH T.e_has_names_once.F km fun _ _ _ _ _ _ hr=>⟨_,(ax (cg (dh r8 (qx (fX T) T.e_kind_of hr aJ (aa (qv 0) aq)) br) (aA (aT fz)) bg)
   (aA (aT (jq jE (vN rfl T.n_len rfl T.n_set (gp (M:=[]) (ι:=[]) (x:="pair") ⟨rfl,rfl,rfl,rfl,rfl,rfl,rfl,rfl,rfl,rfl,rfl,by decide +kernel⟩ rfl (jX (qi aQ (qv 0) aj)) fun _ _ _ _=>(qi aQ (qv 0) aj))) (pZ T.n_len (qi aQ (qv 0) aj)) (jS _))))),
  (aF (cf (aO (au (tq hr.units) (aL (ae ai av)) bq)) (ba fA) bh)
    (ba (au jC (dB (vc hr.hd (BL hr)) (gc (by decide) (au aP ai ak) (au aP ai ak))) (dB iE (au aP ai ak)))))⟩
theorem nU(T:Txt K mg t):cO P w K mg base (CXE P w) 3 t.bZ t.d_every_value fT (spP K (dG t) bZ):=
 iH T.e_every_value.F eJ fun _ _ _ _ _ _ hr=>⟨_,(ax (qz 1 eJ.nd (fE (aa (qv 0) aq)))
   (ax (qz 2 eJ.nd aj)
   (ax (mI j8 (dh wd (qv 2) (pZ T.n_len (qv 1))) (ax (qex uY (qv 1) (qx (fG T) T.e_inner_values hr aJ (aa (qi b9 (qv 1) (qv 2)) aq)))
   (aA (CC (i:=2) eJ.nd rfl (Or.inl rfl) aj Bb))))
   (aA (aT (qv 1)))))),
  (aF (bN (fZ (ae ai av)))
    (aF (bN ak)
    (aF (nz (aO (au wL ai (dB iE ai))) (aF (vC (aL (ae (au iP ai ai) av)))
    (tM ak)))
    jn)))⟩
theorem iZ(T:Txt K mg t):cO P w K mg base (CXE P w) 4 t.cK t.d_is_clean ja (spP K (dG t) cK):=
 iH T.e_is_clean.F rF fun _ _ _ _ _ _ hr=>⟨_,(aA (aT (jj vq rfl T.n_all L2.E.boot_all (aa (gp (M:=[]) (ι:=[]) (x:="within") ⟨rfl,rfl,rfl,rfl,rfl,rfl,rfl,rfl,rfl,rfl,rfl,by decide +kernel⟩ rfl (yH (qx (nU T) T.e_every_value hr aJ (aa (qv 0) aq))) fun _ _ _ _=>(qx (kx T) T.e_has_names_once hr sF (aa (qv 0) aq))) aq)))),
  (ba (dB (Bf hr.hd) (xk (by decide) (aL (ae ai av)) (aL (ae ai av)))))⟩
theorem CA(T:Txt K mg t):cO P w K mg base (CXE P w) 73 t.qL t.d_law tR (spP K (dG t) qL):=
 iH T.wG.F fY fun _ _ _ _ _ _ hr=>⟨_,(ax (qz 1 fY.nd (qx (qf T) T.e_law_clean hr aJ (aa (qv 0) (aa aj (aa (aK fJ aj (aK b5 (qx (eY T) T.bS hr aJ (aa (qv 0) (aa aj aq))) aj)) aq)))))
   (ax (qz 2 fY.nd (qx (nY T) T.e_law_turned hr aJ (aa (qv 1) (aa (qx (eY T) T.bS hr aJ (aa (qv 0) (aa aj aq))) aq))))
   (ax (qz 3 fY.nd (qx (nM T) T.e_law_changed hr aJ (aa (qv 1) (aa (qx (eY T) T.bS hr aJ (aa (qv 0) (aa aj aq))) aq))))
   (ax (cg (kb (oK (dh gQ (qx (kv T) T.gY hr aJ (aa (qv 1) (aa (qv 2) aq))) fz) (oK (dh gQ (qx (kv T) T.gY hr aJ (aa (qv 2) (aa (qv 1) aq))) fz) (mV (dh gQ (qx (iZ T) T.e_is_clean hr aJ (aa (qv 1) aq)) fz))))) (aA (aT fz)) bg)
   (ax (cg (kb (oK (dh gQ (qx (kv T) T.gY hr aJ (aa (qv 1) (aa (qv 3) aq))) fz) (mV (dh gQ (qx (kv T) T.gY hr aJ (aa (qv 3) (aa (qv 2) aq))) fz)))) (aA (aT fz)) bg)
   (ax (qz 4 fY.nd (qx (kh T) T.e_law_named hr aJ (aa (aK b5 (qx (eY T) T.bS hr aJ (aa (qv 0) (aa aj aq))) aj) aq)))
   (ax (qz 5 fY.nd (aC (aa br (aa (aC (aa (aC (aa (qv 4) (aa (qv 1) aq))) (aa (aC (aa (aC (aa aj (aa aj aq))) (aa kX aq))) (aa (aC (aa (qv 4) (aa (qv 2) aq))) aq)))) aq))))
   (ax (qz 6 fY.nd (aC (aa br (aa (aC (aa (aC (aa (qv 4) (aa (qv 1) aq))) (aa (aC (aa (aC (aa aj (aa aj aq))) (aa kX aq))) (aa (aC (aa (aK cX (qv 4) (aC (aa aj aq))) (aa (qv 2) aq))) aq)))) aq))))
   (ax (xR j8 rfl (oy rfl T.n_range (aa (aK b5 (qx (eY T) T.bS hr aJ (aa (qv 0) (aa aj aq))) aj) aq)) (uq (i:=7) fY.nd rfl (by first|exact Or.inl rfl|exact Or.inr rfl)) (ax (qz 8 fY.nd (aC (aa (qv 1) (aa kX aq))))
   (ax (qz 5 fY.nd (rp (by exact(dh jE (aK b5 (qv 7) aj) aj)) (aC (aa br (aa (aK cX (qv 8) (aC (aa (qv 5) aq))) aq))) (aC (aa br (aa (aC (aa (aC (aa (aC aq) (aa (qv 5) aq))) (aa (aC (aa (aC (aa aj aq)) (aa (qv 1) aq))) aq))) aq)))))
   (aA (qz 6 fY.nd (rp (by exact(dh jE (aK b5 (qv 7) aj) aj)) (aC (aa br (aa (aK cX (qv 8) (aC (aa (qv 6) aq))) aq))) (aC (aa br (aa (aC (aa (aC (aa (aC aq) (aa (qv 6) aq))) (aa (aC (aa (aC (aa aj aq)) (aa (qv 1) aq))) aq))) aq)))))))))
   (aA (aT (Cz (jq pk (qx (iZ T) T.e_is_clean hr aJ (aa (qv 5) aq)) fz (jS _)) (Bk (jq pk (qx (iZ T) T.e_is_clean hr aJ (aa (qv 6) aq)) fz (jS _))))))))))))))),
  (aF (bN (aL (ae ai (ae ak (ae (au fC ak (au b7 (aL (ae ai (ae ak av))) ak)) av)))))
    (aF (bN (aL (ae ai (ae (aL (ae ai (ae ak av))) av))))
    (aF (bN (aL (ae ai (ae (aL (ae ai (ae ak av))) av))))
    (aF (cf (oA (aO (au gH (aL (ae ai (ae ai av))) fA)) (oA (aO (au gH (aL (ae ai (ae ai av))) fA)) (aO (au gH (aL (ae ai av)) fA)))) (ba fA) bh)
    (aF (cf (oA (aO (au gH (aL (ae ai (ae ai av))) fA)) (aO (au gH (aL (ae ai (ae ai av))) fA))) (ba fA) bh)
    (aF (bN (aL (ae (au b7 (aL (ae ai (ae ak av))) ak) av)))
    (aF (bN (aB (ae bq (ae (aB (ae (aB (ae ai (ae ai av))) (ae (aB (ae (aB (ae ak (ae ak av))) (ae lj av))) (ae (aB (ae ai (ae ai av))) av)))) av))))
    (aF (bN (aB (ae bq (ae (aB (ae (aB (ae ai (ae ai av))) (ae (aB (ae (aB (ae ak (ae ak av))) (ae lj av))) (ae (aB (ae (au cY ai (aB (ae ak av))) (ae ai av))) av)))) av))))
    (aF (ug (au b7 (aL (ae ai (ae ak av))) ak) (aF (bN (aB (ae ai (ae lj av))))
    (aF (bN (zD (aO (au jC (au b7 ai ak) ak)) (aB (ae bq (ae (au cY ai (aB (ae ai av))) av))) (aB (ae bq (ae (aB (ae (aB (ae (aB av) (ae ai av))) (ae (aB (ae (aB (ae ak av)) (ae ai av))) av))) av)))))
    (bN (zD (aO (au jC (au b7 ai ak) ak)) (aB (ae bq (ae (au cY ai (aB (ae ai av))) av))) (aB (ae bq (ae (aB (ae (aB (ae (aB av) (ae ai av))) (ae (aB (ae (aB (ae ak av)) (ae ai av))) av))) av))))))))
    (ba (Ba (au pH (aL (ae ai av)) fA) (au pH (aL (ae ai av)) fA))))))))))))⟩
end
open PySem.W in
theorem all_mk{l:PySem.W.OpenLaw}{w:World}{K:PySem.W.Frag}{h:Heap}{mg:Str->Option Value}{fa:Addr}(X:K.In h)(G:h.Ns mainGlobals mg)(hfa:mg "law" = some (.ref fa))
  (h0:Fd K "kind_of" kY f0 d0)
  (h1:Fd K "inner_values" gb f1 d1)
  (h2:Fd K "every_value" gA f2 d2)
  (h3:Fd K "is_clean" j3 f3 d3)
  (h4:Fd K "has_names_once" fe f4 d4)
  (h5:Fd K "alike" qh f5 d5)
  (h6:Fd K "agree" pX f6 d6)
  (h7:Fd K "inner_pairs" gz f7 d7)
  (h8:Fd K "_law_cell" jG f8 d8)
  (h9:Fd K "_law_mix" kR f9 d9)
  (h10:Fd K "_law_named" iR f10 d10)
  (h11:Fd K "_law_small_value" eM f11 d11)
  (h12:Fd K "_law_put_in" gV f12 d12)
  (h13:Fd K "_law_shut" jH f13 d13)
  (h14:Fd K "_law_clean" iO f14 d14)
  (h15:Fd K "_law_kind" jL f15 d15)
  (h16:Fd K "_law_turned" gZ f16 d16)
  (h17:Fd K "_law_changed" gr f17 d17)
  (a18:nsIn K mainGlobals "law" = some (some (.ref f18))) (l18:K.lookup f18=some ⟨oc18,od18,.func (fnOf "law" "law" (eE rM) (cV rM) (aD rM) .none kV18 dc18 pm18 an18 cd18 ct18),sl18⟩) (c18:codeIn K cd18 "law" = true) (k18:keepIn K (.ref f18)=true)
  (z0:nsIn K mainGlobals "list" = some none)
  (z1:nsIn K mainGlobals "len" = some none)
  (z2:nsIn K mainGlobals "all" = some none)
  (z3:nsIn K mainGlobals "set" = some none)
  (z4:nsIn K mainGlobals "sorted" = some none)
  (z5:nsIn K mainGlobals "dict" = some none)
  (z6:nsIn K mainGlobals "zip" = some none)
  (z7:nsIn K mainGlobals "tuple" = some none)
  (z8:nsIn K mainGlobals "range" = some none)
  (z9:nsIn K mainGlobals "isinstance" = some none):
  ∃ fd:FuncData,(∀(s:Shared) (v:Value),BindsTo s fd ⟨[v],[]⟩ [("_law_script",v)]) /\ ∀ base:Heap,K.In base->base.Ns mainGlobals mg->cO l.prog w K mg base (CXE l.prog w) 73 fa fd ["_law_script"] (qe K):=by
 have e:=hfa.symm.trans (PySem.W.mg_of X G a18);cases e
 have T:Txt K mg ⟨f0,d0,f1,d1,f2,d2,f3,d3,f4,d4,f5,d5,f6,d6,f7,d7,f8,d8,f9,d9,f10,d10,f11,d11,f12,d12,f13,d13,f14,d14,f15,d15,f16,d16,f17,d17,f18,_⟩:=⟨h0.e1 X G,
  h1.e1 X G,
  h2.e1 X G,
  h3.e1 X G,
  h4.e1 X G,
  h5.e2 X G,
  h6.e2 X G,
  h7.e2 X G,
  h8.e2 X G,
  h9.e2 X G,
  h10.e1 X G,
  h11.e1 X G,
  h12.e2 X G,
  h13.e1 X G,
  h14.e3 X G,
  h15.e1 X G,
  h16.e2 X G,
  h17.e2 X G,
  (eO a18 l18 c18 k18).e1 X G,
  PySem.W.mg_none_of X G z0,
  PySem.W.mg_none_of X G z1,
  PySem.W.mg_none_of X G z2,
  PySem.W.mg_none_of X G z3,
  PySem.W.mg_none_of X G z4,
  PySem.W.mg_none_of X G z5,
  PySem.W.mg_none_of X G z6,
  PySem.W.mg_none_of X G z7,
  PySem.W.mg_none_of X G z8,
  PySem.W.mg_none_of X G z9⟩
 exact⟨_,fun s v=>.of_eq rfl,fun base _ _=>(CA T).imp (yQ fun ns h=>wG ns h)⟩
theorem walk{l:PySem.W.OpenLaw}{q:Program}{loose:List Str}{XP:(Str->Option Value)->Heap->Prop}{YP:World->Heap->Prop}{d:DefRec}{K:Params->PySem.W.Frag}(hn:l.most=some 63)(hdf:d.params.defaults=[])
  (hY:∀(w:World) (h:Heap),YP w h->(K w.params).In h)
  (F:∀(w:World) (mg:Str->Option Value) (fa:Addr) (h:Heap),(K w.params).In h->h.Ns mainGlobals mg->mg d.name=some (.ref fa) ->
    ∃ fd:FuncData,(∀(s:Shared) (u:Value),BindsTo s fd ⟨[u],[]⟩ [("_law_script",u)]) /\ ∀ base:Heap,(K w.params).In base->base.Ns mainGlobals mg->cO l.prog w (K w.params) mg base (CXE l.prog w) 73 fa fd ["_law_script"] (qe (K w.params))):
  PySem.W.WalkO q loose XP YP l.row.toRowW d [] (fun f vs=>PySem.call f vs):=
 L2.y6 (n:=63) (k:=73) (x:="_law_script") (CX:=fun w=>CXE l.prog w) (sp:=fun w=>qe (K w.params)) hn (by decide) hdf ⟨rfl,by decide,by decide⟩ hY F (fun _ _ a ns hl _ hS=>⟨a,ns,rfl,hS,hl,fun _=>rfl⟩) fun _ _ _ _ _ z=>let ⟨_,_,_,_,_,_,_,_,_,_,f⟩:=z;f
end L2.plainglass_k22_clean_and_alike
open PySem PySem.W PyProof.Rows
namespace PySem.W.Fast
def tw14609067935704790513:=0
def tw5792488165259403097:=0
def tw3753778866334437701:=0
def tw14913821012707685458:=0
def tw8638938048814049292:=0
def tw701517736800424743:=0
def tw11623350935083780795:=0
def tw4338301852765946821:=0
def tw3326616602627553713:=0
def tw18233505378478783752:=0
def tw1172670345210164732:=0
def tw2607232308113885062:=0
def tw9480089673657152085:=0
def tw9966747774062271154:=0
def tw2449669117304712110:=0
def tw4310552005566124824:=0
def tw12032610146504301988:=0
def tw5138276874518621880:=0
def tw3599333972986273814:=0
def tw1432447867238386784:=0
def tw8871700757823824863:=0
def tw13921351872994053485:=0
def tw7034779542999286069:=0
def tw11392695141095512800:=0
def tw2509023604268813314:=0
def tw3142849617515412860:=0
def tw12242550058670214196:=0
def tw8461493141710806436:=0
def tw11853040638960724606:=0
def tw14356924205396630338:=0
def tw10688584219319716768:=0
def tw16131030355621459489:=0
def tw15181645320985747933:=0
def tw5188152112705758355:=0
def tw3615477794440076425:=0
def tw1534522448162040050:=0
def tw14201104532049928119:=0
def tw18231660874300720949:=0
def tw15279498725408525942:=0
def tw5756431228601544316:=0
def tw14777473147436313420:=0
def tw5306705223432889380:=0
def tw17728033155172063535:=0
def tw9657604371804471715:=0
def tw4678212998259025981:=0
def tw13707054377587934524:=0
def tw17766891179391199193:=0
def tw12291691877253525828:=0
def tw9479020603994840069:=0
def tw17249263387752707775:=0
def tw16735344102362744353:=0
end PySem.W.Fast
set_option maxRecDepth 100000 in
set_option maxHeartbeats 0 in
theorem PySem.Challenge.cw_plainglass_k22_clean_and_alike_holds : PySem.Challenge.rw_plainglass_k22_clean_and_alike.Holds := by
 w_on;o_law;k_head;(case hw=>w_witness2)
 k_fill
 refine L2.plainglass_k22_clean_and_alike.walk (l:=PySem.Challenge.rw_plainglass_k22_clean_and_alike) rfl rfl (fun w h Y=>PySem.W.kIn_of Y) ?F
 case F=>
  intro w mg fa h KX G hmg
  refine' L2.plainglass_k22_clean_and_alike.all_mk KX G hmg (L2.E.eO ?a0 ?l0 ?c0 ?k0) (L2.E.eO ?a1 ?l1 ?c1 ?k1) (L2.E.eO ?a2 ?l2 ?c2 ?k2) (L2.E.eO ?a3 ?l3 ?c3 ?k3) (L2.E.eO ?a4 ?l4 ?c4 ?k4) (L2.E.eO ?a5 ?l5 ?c5 ?k5) (L2.E.eO ?a6 ?l6 ?c6 ?k6) (L2.E.eO ?a7 ?l7 ?c7 ?k7) (L2.E.eO ?a8 ?l8 ?c8 ?k8) (L2.E.eO ?a9 ?l9 ?c9 ?k9) (L2.E.eO ?a10 ?l10 ?c10 ?k10) (L2.E.eO ?a11 ?l11 ?c11 ?k11) (L2.E.eO ?a12 ?l12 ?c12 ?k12) (L2.E.eO ?a13 ?l13 ?c13 ?k13) (L2.E.eO ?a14 ?l14 ?c14 ?k14) (L2.E.eO ?a15 ?l15 ?c15 ?k15) (L2.E.eO ?a16 ?l16 ?c16 ?k16) (L2.E.eO ?a17 ?l17 ?c17 ?k17) ?a18 ?l18 ?c18 ?k18 ?z0 ?z1 ?z2 ?z3 ?z4 ?z5 ?z6 ?z7 ?z8 ?z9
  (case a0|l0|c0|k0|a1|l1|c1|k1|a2|l2|c2|k2|a3|l3|c3|k3|a4|l4|c4|k4|a5|l5|c5|k5|a6|l6|c6|k6|a7|l7|c7|k7|a8|l8|c8|k8|a9|l9|c9|k9|a10|l10|c10|k10|a11|l11|c11|k11|a12|l12|c12|k12|a13|l13|c13|k13|a14|l14|c14|k14|a15|l15|c15|k15|a16|l16|c16|k16|a17|l17|c17|k17|a18|l18|c18|k18|z0|z1|z2|z3|z4|z5|z6|z7|z8|z9=>k_is)
