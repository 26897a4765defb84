import PyProof.Rows.All
import Wide.All
import OpenK.AllK
import Wide.FinOn
import Lean
import PyProof.EqAt
import PyProof.EqKinds
import PyProof.TupleCall
import PySem.Challenge.RW_plainglass_k51_sizes_kept
set_option Elab.async false
set_option linter.all false
set_option compiler.extract_closed false
set_option maxRecDepth 100000
namespace L2
open PySem PySem.Spec PyProof.Rows
abbrev Key:=Sum Int Str
noncomputable def nL:Key->Value->Bool
 |.inl k,v=>Value.isInt k v
 |.inr x,v=>Value.isStrOf x v
noncomputable def Dk(w:World):Key->Int
 |.inl k=>hashInt k
 |.inr x=>hashStr w x
theorem bV:∀{k:Key} {v:Value},nL k v=true->(∃ i t,k=Sum.inl i /\ v=Value.int i t) \/ (∃ x t,k=Sum.inr x /\ v=Value.str x t)
 | .inl i,v,h=>by
   obtain⟨t,e⟩:=Value.isInt_shape (k:=i) (v:=v) h;exact .inl ⟨i,t,rfl,e⟩
 | .inr x,v,h=>by
   obtain⟨t,e⟩:=Value.isStrOf_shape (x:=x) (v:=v) h;exact .inr ⟨x,t,rfl,e⟩
theorem ue(i:Int)(t:Tok):nL (.inl i) (.int i t)=true:=by simp[nL,Value.isInt]
theorem ud(x:Str)(t:Tok):nL (.inr x) (.str x t)=true:=by simp[nL,Value.isStrOf]
theorem AS(a b:Int):decide ((Sum.inl a:Key)=Sum.inl b)=(a==b):=by
 by_cases e:a=b
 . subst e;simp
 . have h:¬ (Sum.inl a:Key)=Sum.inl b:=fun q=>e (Sum.inl.inj q)
   rw[decide_eq_false h]
   exact(beq_eq_false_iff_ne.mpr e).symm
theorem Ak(a b:Str):decide ((Sum.inr a:Key)=Sum.inr b)=decide (a=b):=by
 by_cases e:a=b
 . subst e;simp
 . have h:¬ (Sum.inr a:Key)=Sum.inr b:=fun q=>e (Sum.inr.inj q)
   rw[decide_eq_false h,decide_eq_false e]
theorem zQ(a:Int)(b:Str):decide ((Sum.inl a:Key)=Sum.inr b)=false:=decide_eq_false (fun q=>nomatch q)
theorem Ad(a:Str)(b:Int):decide ((Sum.inr a:Key)=Sum.inl b)=false:=decide_eq_false (fun q=>nomatch q)
noncomputable def cG(prog:Program)(w:World):PySem.KeyKind prog w Key where
 is:=nL
 hash:=Dk w
 inj:=fun v a b ha hb=>by
  rcases bV ha with⟨i,t,rfl,rfl⟩|⟨x,t,rfl,rfl⟩
  . rcases bV hb with⟨j,u,rfl,e⟩|⟨y,u,rfl,e⟩
    . injection e with e1 _;rw[e1]
    . exact nomatch e
  . rcases bV hb with⟨j,u,rfl,e⟩|⟨y,u,rfl,e⟩
    . exact nomatch e
    . injection e with e1 _;rw[e1]
 byValue:=fun k v h=>by
  rcases bV h with⟨i,t,rfl,rfl⟩|⟨x,t,rfl,rfl⟩<;>rfl
 pyHash:=fun hv h=>by
  rcases bV hv with⟨i,t,rfl,rfl⟩|⟨x,t,rfl,rfl⟩
  . exact wpAny_pyHash_int h
  . exact wpAny_pyHash_str h
 eqBool:=fun hu hv h=>by
  rcases bV hu with⟨i,t,rfl,rfl⟩|⟨x,t,rfl,rfl⟩
  . rcases bV hv with⟨j,u,rfl,rfl⟩|⟨y,u,rfl,rfl⟩
    . rw[AS]at h;exact wpAny_eqBool_int h
    . rw[zQ]at h;exact SeqAt.EqAt.int_str i t y u _ _ _ _ h
  . rcases bV hv with⟨j,u,rfl,rfl⟩|⟨y,u,rfl,rfl⟩
    . rw[Ad]at h;exact SeqAt.EqAt.str_int x t j u _ _ _ _ h
    . rw[Ak]at h;exact wpAny_eqBool_str h
 «strs»:=fun k x t v h=>by
  rcases bV h with⟨i,u,rfl,e⟩|⟨y,u,rfl,e⟩
  . exact nomatch e
  . injection e with e1 _
    subst e1
    cases v<;>rfl
theorem pR(prog:Program)(w:World)(i:Int)(t:Tok):(cG prog w).is (.inl i) (.int i t)=true:=ue i t
theorem qd(prog:Program)(w:World)(x:Str)(t:Tok):(cG prog w).is (.inr x) (.str x t)=true:=ud x t
inductive V where
 |non|bl (b:Bool)|int (i:Int)|str (x:Str)|byt (b:Array UInt8)|flt (b:UInt64)|ref (a:Addr)|ty (n:String)
 deriving DecidableEq
noncomputable def RelV:V->Value->Prop
 |.non,u=>u=Value.none
 |.bl b,u=>u=Value.bool b
 |.int i,u=>∃ t,u=Value.int i t
 |.str x,u=>∃ t,u=Value.str x t
 |.byt b,u=>∃ t,u=Value.bytes b t
 |.flt b,u=>∃ t,u=Value.float b t
 |.ref a,u=>u=Value.ref a
 |.ty n,u=>u=Value.type n
abbrev Vals:List V->List Value->Prop:=Paired RelV
theorem Vals.length{xs:List V}{us:List Value}(r:Vals xs us):xs.length=us.length:=Paired.length r
theorem Vals.get:∀{xs:List V} {us:List Value} {i:Nat} {x:V},Vals xs us->xs[i]?=some x->∃ u,us[i]?=some u /\ RelV x u
 |_,_,_,_,.nil,e=>by simp at e
 |_,_,0,_,.cons r _,e=>by simp at e;subst e;exact⟨_,rfl,r⟩
 | _,_,i+1,x,.cons _ t,e=>by
   obtain⟨u,h1,h2⟩:=Vals.get (i:=i) (x:=x) t (by simpa using e)
   exact⟨u,by simpa using h1,h2⟩
theorem Vals.append:∀{xs ys:List V} {us ws:List Value},Vals xs us->Vals ys ws->Vals (xs++ys) (us++ws)
 |_,_,_,_,.nil,s=>s
 |_,_,_,_,.cons r t,s=>.cons r (Vals.append t s)
theorem Vals.take:∀{xs:List V} {us:List Value} (n:Nat),Vals xs us->Vals (xs.take n) (us.take n)
 |_,_,0,_=>.nil
 |_,_,_+1,.nil=>.nil
 |_,_,n+1,.cons r t=>.cons r (Vals.take n t)
theorem Vals.drop:∀{xs:List V} {us:List Value} (n:Nat),Vals xs us->Vals (xs.drop n) (us.drop n)
 |_,_,0,r=>r
 |_,_,_+1,.nil=>.nil
 |_,_,n+1,.cons _ t=>Vals.drop n t
noncomputable def bb:Option V->Option Value->Prop
 |some v,some u=>RelV v u
 |none,none=>True
 |_,_=>False
noncomputable def KV{κ:Type}:List (κ×V)->List (κ×Value)->Prop:=Paired fun (p:κ×V) (q:κ×Value)=>p.1=q.1 /\ RelV p.2 q.2
noncomputable def kV:Key->V
 |.inl i=>.int i
 |.inr x=>.str x
inductive HO where
  |lst (xs:List V)
  |tup (xs:List V)
  |dK (kvs:List (Key×V))|dT (kvs:List (List Key×Addr×V))
  |set (S:Int->Bool) (n:Nat)
  |ins (C dx:Addr) (fs:List (Str×V))
  |own (x:Addr)
  |xd (fs:List (Str×V))
  |met (f x:Addr)
  |rng (lo hi:Int)
  |frz (o:Obj) (u:HO)
  |tbl (ps:Array Value)
  |ext (φ:Heap->Prop)
abbrev Hp:=Addr->Option HO
noncomputable def upd(H:Hp)(a:Addr)(o:HO):Hp:=fun b=>if b=a then some o else H b
theorem az{H:Hp}{a:Addr}{o:HO}:upd H a o a=some o:=by unfold upd;rw[if_pos rfl]
theorem aA{H:Hp}{a b:Addr}{o:HO}(h:b≠a):upd H a o b=H b:=by unfold upd;rw[if_neg h]
theorem aY{H:Hp}{a b:Addr}{o:HO}(h:H a=some o)(h':H b=none):a≠b:=by
 intro e;subst e;rw[h]at h';cases h'
noncomputable def NoD(h:Heap)(a:Addr):Prop:=∀ o,h.get? a=some o->o.dict=none
theorem NoD.keep{h h':Heap}{a:Addr}{o:Obj}(n:NoD h a)(e:h.get? a=some o)(e':h'.get? a=some o):NoD h' a:=fun u z=>by rw[e']at z;cases z;exact n o e
theorem NoD.of{h:Heap}{a:Addr}{o:Obj}(e:h.get? a=some o)(d:o.dict=none):NoD h a:=fun u z=>by rw[e]at z;cases z;exact d
theorem NoD.new(h:Heap)(xs:Array Value):NoD (h.push { cls:=.type "tuple",data:=.seq xs }) h.objs.size:=.of (Heap.get?_push_size _ rfl) rfl
section
variable(P:Program)(w:World)
noncomputable def b0(H:Hp)(h:Heap)(a:Addr):HO->Prop
 |.lst xs=>xs.length<=sizeLine /\ ∃(its:List Value) (n:Nat),Vals xs its /\ h.get? a=some { cls:=.type "list",data:=.seq its.toArray n }
 |.tup xs=>(xs.length<=sizeLine /\ NoD h a) /\ ∃ its:List Value,Vals xs its /\ IsTup h a its.toArray
 |.dK kvs=>kvs.length<=sizeLine /\ (a==sysModules)=false /\ ∃ vs,KV kvs vs /\ h.DictOf (cG P w) a vs
 | .dT kvs=>kvs.length <= sizeLine /\ (a == sysModules) = false /\ ∃ xs:List (List Key × Addr × Value),
    Paired (fun (p:List Key×Addr×V) (q:List Key×Addr×Value)=>p.1=q.1 /\ p.2.1=q.2.1 /\ RelV p.2.2 q.2.2) kvs xs /\
    ∃ o es ep,h.get? a=some o /\ o.ExactDict /\ o.data=.dict es ep /\ es.toList=xs.map (entryOfKey (tupleKind (cG P w))) /\ (xs.map (·.1)).Nodup
 |.set S n=>h.SetOf (intKind P w) a S n
 | .ins C dx fs=>H dx = some (.own a) /\ fs.length <= 1000 /\ dx ≠ a /\ h.get? a = some (PySem.W.instObj C dx) /\
    ∃ mA,h.Ns1 dx mA /\ (∀ f,bb (fs.lookup f) (mA f)) /\ PySem.Within mA (fs.map (·.1))
 |.own _=>∃ o,h.get? a=some o
 |.xd fs=>∃ mA,h.Ns1 a mA /\ ∀ f,bb (fs.lookup f) (mA f)
 |.rng lo hi=>∃ t u v,h.get? a=some { cls:=.type "range",data:=.fields #[.int lo t,.int hi u,.int 1 v] }
 |.frz o u=>h.get? a=some o /\ b0 H h a u
 |.tbl ps=>h.get? a=some { cls:=.none,data:=.fields ps }
 |.met f x=>h.get? a=some (PySem.W.methodObj (.ref f) (.ref x))
 |.ext φ=>φ h /\ (∃ o,h.get? a=some o) /\ ∀ h1 h2:Heap,φ h1->(∀ o,h1.get? a=some o->h2.get? a=some o)->φ h2
noncomputable def HOk(H:Hp)(h:Heap):Prop:=∀ a o,H a=some o->b0 P w H h a o
end
section
variable{P:Program}{w:World}{H H':Hp}{h h':Heap}{a:Addr}{o:HO}
theorem b0.lt(x:b0 P w H h a o):a<h.objs.size:=by
 cases o with
 |lst xs=>obtain⟨_,_,_,_,e⟩:=x;exact Heap.lt_size e
 |tup xs=>obtain⟨_,_,_,p⟩:=x;exact p.lt
 |dK kvs=>obtain⟨_,_,_,_,o,_,_,e,_⟩:=x;exact Heap.lt_size e
 |dT kvs=>obtain⟨_,_,_,_,o,_,_,e,_⟩:=x;exact Heap.lt_size e
 |set S n=>obtain⟨o,_,_,_,e,_⟩:=x;exact Heap.lt_size e
 |ins C dx fs=>obtain⟨_,_,_,e,_⟩:=x;exact Heap.lt_size e
 |own y=>obtain⟨_,e⟩:=x;exact Heap.lt_size e
 |xd fs=>obtain⟨_,⟨_,_,_,e,_⟩,_⟩:=x;exact Heap.lt_size e
 |rng lo hi=>obtain⟨_,_,_,e⟩:=x;exact Heap.lt_size e
 |frz ob u=>obtain⟨e,_⟩:=x;exact Heap.lt_size e
 |tbl ps=>exact Heap.lt_size (show h.get? a=some _ from x)
 |met f y=>exact Heap.lt_size (show h.get? a=some _ from x)
 |ext φ=>obtain⟨_,⟨_,e⟩,_⟩:=x;exact Heap.lt_size e
theorem b0.ll(x:b0 P w H h a o)(k:∀ b u,(b=a \/ H b=some (.own a))->h.get? b=some u->h'.get? b=some u)
  (ho:∀ b,H b=some (.own a)->H' b=some (.own a)) (ht:∀ b xs,H b=some (.tup xs)->H' b=some (.tup xs)):b0 P w H' h' a o:=by
 induction o with
 |lst xs=>obtain⟨z,its,n,r,e⟩:=x;exact⟨z,its,n,r,k _ _ (.inl rfl) e⟩
 |tup xs=>obtain⟨z,its,r,ob,e,c⟩:=x;exact⟨⟨z.1,z.2.keep e (k _ _ (.inl rfl) e)⟩,its,r,ob,k _ _ (.inl rfl) e,c⟩
 |dK kvs=>obtain⟨z,y,vs,r,ob,es,ep,e,c⟩:=x;exact⟨z,y,vs,r,ob,es,ep,k _ _ (.inl rfl) e,c⟩
 | dT kvs=>
   obtain⟨z,y,xs,r,ob,es,ep,e,c⟩:=x
   exact⟨z,y,xs,r,ob,es,ep,k _ _ (.inl rfl) e,c⟩
 |set S n=>obtain⟨ob,es,ep,t,e,c⟩:=x;exact⟨ob,es,ep,t,k _ _ (.inl rfl) e,c⟩
 | ins C dx fs=>
   obtain⟨d,z,ne,e,mA,⟨od,es,ep,e2,c⟩,r⟩:=x
   exact⟨ho _ d,z,ne,k _ _ (.inl rfl) e,mA,⟨od,es,ep,k _ _ (.inr d) e2,c⟩,r⟩
 |own y=>obtain⟨ob,e⟩:=x;exact⟨ob,k _ _ (.inl rfl) e⟩
 |xd fs=>obtain⟨mA,⟨od,es,ep,e,c⟩,r⟩:=x;exact⟨mA,⟨od,es,ep,k _ _ (.inl rfl) e,c⟩,r⟩
 |rng lo hi=>obtain⟨t,u,v,e⟩:=x;exact⟨t,u,v,k _ _ (.inl rfl) e⟩
 |frz ob u ih=>obtain⟨e,q⟩:=x;exact⟨k _ _ (.inl rfl) e,ih q⟩
 | tbl ps=>
   have e:h.get? a=some { cls:=.none,data:=.fields ps }:=x
   show h'.get? a=some { cls:=.none,data:=.fields ps };exact k a _ (.inl rfl) e
 | met f y=>
   have e:h.get? a=some (PySem.W.methodObj (.ref f) (.ref y)):=x
   show h'.get? a=some (PySem.W.methodObj (.ref f) (.ref y));exact k a _ (.inl rfl) e
 |ext φ=>obtain⟨p,⟨o,e⟩,st⟩:=x;exact⟨st _ _ p fun o q=>k _ _ (.inl rfl) q,⟨o,k _ _ (.inl rfl) e⟩,st⟩
theorem HOk.lt(x:HOk P w H h)(e:H a=some o):a<h.objs.size:=(x a o e).lt
theorem HOk.fresh(x:HOk P w H h)(e:h.objs.size<=a):H a=none:=by
 cases q:H a with
 |none=>rfl
 |some u=>exact absurd (Nat.lt_of_lt_of_le (x.lt q) e) (Nat.lt_irrefl _)
theorem HOk.kept(x:HOk P w H h)(k:∀ b u,h.get? b=some u->h'.get? b=some u):HOk P w H h':=fun a o e=>
 (x a o e).ll (fun b u _ q=>k b u q) (fun _ q=>q) fun _ _ q=>q
theorem HOk.laid(x:HOk P w H h)(k:∀ b u,h.get? b=some u->h'.get? b=some u)(hp:h.objs.size<=a)(new:b0 P w (upd H a o) h' a o):HOk P w (upd H a o) h':=fun b u e=>by
 have hn:=x.fresh hp
 by_cases hb:b=a
 . subst hb;rw[az]at e;cases e;exact new
 . rw[aA hb]at e
   exact(x b u e).ll (fun c v _ q=>k c v q) (fun c q=>by rw[aA (aY q hn)];exact q) fun c xs q=>by rw[aA (aY q hn)];exact q
end
noncomputable def Rd(H:Hp)(a:Addr)(u:HO):Prop:=H a=some u \/ ∃ o,H a=some (.frz o u)
theorem Rd.ok{P:Program}{w:World}{H:Hp}{h:Heap}{a:Addr}{u:HO}(r:Rd H a u)(x:HOk P w H h):b0 P w H h a u:=by
 rcases r with r|⟨o,r⟩
 . exact x a u r
 . obtain⟨_,q⟩:=x a _ r;exact q
noncomputable def Mut:Option HO->Prop
 |some (.lst _)=>True
 |some (.dK _)=>True
 |some (.dT _)=>True
 |some (.set _ _)=>True
 |some (.ins _ _ _)=>True
 |some (.ext _)=>True
 |_=>False
section
variable{P:Program}{w:World}{H:Hp}{h h':Heap}{x e:Addr}{o':HO}
theorem HOk.write(ok:HOk P w H h)(mu:Mut (H x))(he:e=x \/ H e=some (.own x))(k:∀ b u,b≠e->h.get? b=some u->h'.get? b=some u)(heo:∃ u,h'.get? e=some u)
  (new:b0 P w (upd H x o') h' x o'):HOk P w (upd H x o') h':=fun b u q=>by
 have nown:∀ c y,H c=some (.own y)->c≠x:=fun c y r z=>by subst z;rw[r]at mu;exact mu
 have ntup:∀ c xs,H c=some (.tup xs)->c≠x:=fun c xs r z=>by subst z;rw[r]at mu;exact mu
 by_cases hb:b=x
 . subst hb;rw[az]at q;cases q;exact new
 . rw[aA hb]at q
   by_cases hbe:b=e
   . have q':H b = some (.own x):=by
      rcases he with z|z
      . exact absurd (hbe.trans z) hb
      . rw[hbe];exact z
     rw[q]at q';cases q';obtain⟨v,hv⟩:=heo
     exact⟨v,by rw[hbe];exact hv⟩
   . refine(ok b u q).ll (fun c v hc r=>k c v ?_ r) (fun c r=>by rw[aA (nown c b r)];exact r) fun c xs r=>by rw[aA (ntup c xs r)];exact r
     rcases hc with rfl|hc
     . exact hbe
     . rintro rfl
       rcases he with z|z
       . exact nown c b hc z
       . rw[hc]at z;cases z;exact hb rfl
end
structure Un(fs ex:List Addr)(H H':Hp)(h h':Heap):Prop where
 keep:∀ b o,h.get? b=some o->H b=none->b∉fs->b∉ex->h'.get? b=some o
 slot:∀ b o,h.get? b=some o->H b=none->b∈fs->b∉ex->∃ sl,h'.get? b=some { o with slots:=sl }
 free:∀ b o,h.get? b=some o->H b=none->b∉ex->H' b=none
 there:∀ b o,h.get? b=some o->b∉ex->∃ o',h'.get? b=some o'
 tups:∀ b xs,H b=some (.tup xs)->H' b=some (.tup xs)
 frzs:∀ b o u,H b=some (.frz o u)->H' b=some (.frz o u)
 tbls:∀ b ps,H b=some (.tbl ps)->∃ more,H' b=some (.tbl (ps++more))
section
variable{fs fs' ex ex':List Addr}{H H1 H2:Hp}{h h1 h2 h':Heap}{a x e:Addr}{o:HO}
theorem Un.any(u:Un fs ex H H1 h h1){b:Addr}{ob:Obj}(q:h.get? b=some ob)(n:H b=none)(hx:b∉ex):∃ sl,h1.get? b=some { ob with slots:=sl }:=by
 by_cases hb:b∈fs
 . exact u.slot b ob q n hb hx
 . exact⟨ob.slots,u.keep b ob q n hb hx⟩
theorem Un.kept(k:∀ b u,h.get? b=some u->h'.get? b=some u):Un fs ex H H h h':=
 ⟨fun b ob q _ _ _=>k b ob q,fun b ob q _ _ _=>⟨ob.slots,k b ob q⟩,fun _ _ _ n _=>n,fun b ob q _=>⟨ob,k b ob q⟩,fun _ _ q=>q,fun _ _ _ q=>q,fun _ ps q=>⟨#[],by rw[q];simp⟩⟩
theorem Un.refl:Un fs ex H H h h:=Un.kept fun _ _ q=>q
theorem Un.laid(k:∀ b u,h.get? b=some u->h'.get? b=some u)(hp:h.objs.size<=a)(hn:H a=none):Un fs ex H (upd H a o) h h' where
 keep:=fun b u q _ _ _=>k b u q
 slot:=fun b u q _ _ _=>⟨u.slots,k b u q⟩
 free:=fun b u q n _=>by rw[aA (Nat.ne_of_lt (Nat.lt_of_lt_of_le (Heap.lt_size q) hp))];exact n
 there:=fun b u q _=>⟨u,k b u q⟩
 tups:=fun b xs q=>by rw[aA (aY q hn)];exact q
 frzs:=fun b u xs q=>by rw[aA (aY q hn)];exact q
 tbls:=fun b ps q=>⟨#[],by rw[aA (aY q hn),q];simp⟩
theorem Un.write(mu:Mut (H x))(he:e=x \/ H e=some (.own x))(k:∀ b u,b≠e->h.get? b=some u->h'.get? b=some u)(heo:∃ u,h'.get? e=some u):Un fs ex H (upd H x o) h h':=by
 have hx:∀ b,H b=none->b≠x:=fun b n z=>by subst z;rw[n]at mu;exact mu
 have hb:∀ b,H b=none->b≠e:=fun b n z=>by
  subst z
  rcases he with r|r
  . exact hx b n r
  . rw[n]at r;cases r
 have hm:∀ b u,H b=some u->¬ Mut (some u)->b≠x:=fun b u q nm z=>by subst z;rw[q]at mu;exact nm mu
 refine⟨fun b u q n _ _=>k b u (hb b n) q,fun b u q n _ _=>⟨u.slots,k b u (hb b n) q⟩,fun b u q n _=>by rw[aA (hx b n)];exact n,fun b u q _=>?_,
  fun b xs q=>by rw[aA (hm b _ q fun z=>z)];exact q,fun b u xs q=>by rw[aA (hm b _ q fun z=>z)];exact q,fun b ps q=>⟨#[],by rw[aA (hm b _ q fun z=>z),q];simp⟩⟩
 by_cases hbe:b=e
 . subst hbe;exact heo
 . exact⟨u,k b u hbe q⟩
end
noncomputable def trk(h:Heap)(H:Hp):List Addr:=(List.range h.objs.size).filter fun a=>(H a).isSome
noncomputable def oG(h:Heap)(H:Hp):Heap:=PySem.W.hideAll h (trk h H)
theorem uH(h:Heap)(H:Hp):(oG h H).objs.size=h.objs.size:=PySem.W.hideAll_size _ _
theorem uR{h:Heap}{H:Hp}{b:Addr}{o:Obj}(e:h.get? b=some o)(n:H b=none):(oG h H).get? b=some o:=
 PySem.W.hideAll_get _ e fun hm=>by
  have q:(H b).isSome=true:=(List.mem_filter.mp hm).2
  rw[n]at q;simp at q
theorem yH{h:Heap}{H:Hp}{b:Addr}{o:Obj}(e:(oG h H).get? b=some o):h.get? b=some o /\ H b=none:=by
 have e':h.get? b=some o:=PySem.W.of_hideAll (trk h H) e
 refine⟨e',?_⟩
 cases q:H b with
 |none=>rfl
 | some x=>
   have hm:b∈trk h H:=List.mem_filter.mpr ⟨List.mem_range.mpr (Heap.lt_size e'),by simp[q]⟩
   have z:(oG h H).get? b=none:=PySem.W.hideAll_none (trk h H) hm
   rw[z]at e;cases e
noncomputable def x9(g h:Heap)(L:Addr):List (Addr×Obj):=(List.range h.objs.size).filterMap fun a=>if a=L \/ (g.get? a).isSome=true then none else(h.get? a).map fun o=>(a,o)
noncomputable def rest(g h:Heap)(L d:Addr):List (Addr×Obj):=(x9 g h L).filter fun p=>decide (p.1≠d)
structure Mod(K:PySem.W.Frag)(mg:Str->Option Value)(base:Heap):Prop where
 kin:K.In base
 glob:base.Ns mainGlobals mg
 blt:∃ mb,base.Ns builtinsNs mb /\ ∀ x:Str,x ≠ "__name__" -> mb x=bootBuiltins x
 nolimit:base.NoLimit
structure Cx where
 prog:Program
 w:World
 K:PySem.W.Frag
 mg:Str->Option Value
 base:Heap
 A:Around
 N:List Str
 s₀:Shared
 H₀:Hp
 env:Env
 outer:List Env
 stack:List Env
 ex:List Addr
 fn:Str->Bool
 calm:Bool
 pn:List (Addr×Obj)
 xe:Value->Shared->Prop
noncomputable def frs(l:List Env):List Addr:=l.filterMap (·.frame)
noncomputable abbrev Cx.fs(X:Cx):List Addr:=frs X.outer
noncomputable def Vis(sc:Scope)(x:Str):Prop:=sc.names.lookup x=some .local \/ sc.names.lookup x=some .cell \/ sc.names.lookup x=some .free
noncomputable def Loc(sc:Scope)(x:Str):Prop:=sc.names.lookup x=some .local \/ sc.names.lookup x=some .cell
noncomputable def Look(env:Env)(h:Heap)(m:Str->Option Value)(x:Str)(u:Value):Prop:=
 (env.kindOf x=some .local /\ m x=some u) \/ ((env.kindOf x=some .cell \/ env.kindOf x=some .free) /\ ∃ c,env.cells.lookup x=some c /\ h.IsCell c (some u))
structure Cx.Ok(X:Cx):Prop where
 mod:Mod X.K X.mg X.base
 kind:X.env.scope.kind=.function
 glob:X.env.globals=mainGlobals
 blt:X.env.builtins=builtinsNs
 above:X.s₀.heap.objs.size<=X.env.locals
 inj:∀ x y c,X.env.cells.lookup x=some c->X.env.cells.lookup y=some c->x=y
 has:∀ x,(X.env.kindOf x=some .cell \/ X.env.kindOf x=some .free)->∃ c,X.env.cells.lookup x=some c
 cab:∀ x c,X.fn x=true->X.env.cells.lookup x=some c->X.s₀.heap.objs.size<=c
 hd:X.calm=true->X.A.handled=none
 frames:X.A.frames=some X.stack
 stk:X.stack=X.outer \/ (X.stack=X.env ::X.outer /\ X.env.frame=some X.env.locals)
 exf:∀ b∈X.ex,b≠X.env.locals /\ ∀ x c,X.env.cells.lookup x=some c->c≠b
 bs:∀ b o,X.base.get? b=some o->X.s₀.heap.get? b=some o /\ X.H₀ b=none
 bsz:X.base.objs.size<=X.s₀.heap.objs.size
 noex:∀ b o,X.base.get? b=some o->b∉X.ex
 exfs:∀ b∈X.ex,b∉X.fs
 kA:X.s₀.heap.FunFrames X.base X.outer
 frf:∀ b∈X.fs,X.H₀ b=none
structure Inv(X:Cx)(pins:List (Addr×Obj))(σ:List (Option V))(H:Hp)(s:Shared):Prop where
 ok:X.Ok
 os:s.os=X.s₀.os
 bare:AllBare s.gens
 base:Un X.fs X.ex X.H₀ H X.s₀.heap s.heap
 loc:∃ m,s.heap.Ns X.env.locals m /\ ∀(i:Nat) (x:Str) (v:V),X.N[i]?=some x->σ[i]?=some (some v)->Vis X.env.scope x->∃ u,RelV v u /\ Look X.env s.heap m x u
 cell:∀ x c,X.env.cells.lookup x=some c->∃ v,s.heap.IsCell c v
 free:H X.env.locals=none
 freeC:∀ x c,X.env.cells.lookup x=some c->H c=none
 pin:∀ p∈X.pn++pins,s.heap.get? p.1=some p.2 /\ H p.1=none /\ p.1≠X.env.locals /\ p.1∉X.fs /\ ∀ v,p.2.data≠.cell v
 hok:HOk X.prog X.w H s.heap
 len:σ.length=X.N.length
section
variable{X:Cx}{pins:List (Addr×Obj)}{σ:List (Option V)}{H H':Hp}{s:Shared}{h':Heap}
theorem Cx.Ok.D4(ok:X.Ok){b:Addr}{o:Obj}(e:X.base.get? b=some o):b∉X.fs:=fun hb=>by
 have:=(ok.kA.mem hb).1;rw[e]at this;cases this
theorem Inv.bs(I:Inv X pins σ H s):∀ b o,X.base.get? b=some o->s.heap.get? b=some o /\ H b=none:=fun b o e=>
 ⟨I.base.keep b o (I.ok.bs b o e).1 (I.ok.bs b o e).2 (I.ok.D4 e) (I.ok.noex b o e),I.base.free b o (I.ok.bs b o e).1 (I.ok.bs b o e).2 (I.ok.noex b o e)⟩
theorem Inv.bk(I:Inv X pins σ H s):∀ b o,X.base.get? b=some o->s.heap.get? b=some o:=fun b o e=>(I.bs b o e).1
theorem Inv.mod(I:Inv X pins σ H s):Mod X.K X.mg X.base:=I.ok.mod
theorem Inv.kIn(I:Inv X pins σ H s):X.K.In s.heap:=I.ok.mod.kin.keeps I.bk
theorem Inv.nolimit(I:Inv X pins σ H s):s.heap.NoLimit:=I.ok.mod.nolimit.keeps I.bk
theorem Inv.lt(I:Inv X pins σ H s):X.env.locals<s.heap.objs.size:=let ⟨_,hn,_⟩:=I.loc;hn.lt
theorem Inv.sz(I:Inv X pins σ H s):X.s₀.heap.objs.size<=s.heap.objs.size:=Nat.le_trans I.ok.above (Nat.le_of_lt I.lt)
theorem Inv.Eg(I:Inv X pins σ H s){a:Addr}(h:s.heap.objs.size<=a):a∉X.fs:=fun hb=>by
 obtain⟨_,o,ho,_⟩:=I.ok.kA.mem hb;exact absurd (Nat.lt_of_lt_of_le (Heap.lt_size ho) (Nat.le_trans I.sz h)) (Nat.lt_irrefl _)
theorem Inv.cne(I:Inv X pins σ H s):∀ x c,X.env.cells.lookup x=some c->c≠X.env.locals:=fun x c e z=>by
 obtain⟨v,o,ho,hd⟩:=I.cell x c e;obtain⟨m,⟨o',es,ep,ho',hd',_⟩,_⟩:=I.loc;rw[z,ho']at ho;cases ho;rw[hd']at hd;cases hd
theorem Inv.kA(I:Inv X pins σ H s):s.heap.FunFrames X.base X.outer:=by
 have all:∀(l:List Env),(∀ b∈frs l,b∈X.fs)->X.s₀.heap.FunFrames X.base l->s.heap.FunFrames X.base l:=by
  intro l
  induction l with
  |nil=>intro _ _;trivial
  | cons env r ih=>
    intro hs hl;obtain⟨hk,⟨L,o,hf,hn,ho,hd⟩,hr⟩:=hl
    have hL:L∈X.fs:=hs L (by unfold frs;rw[List.filterMap_cons,hf];exact List.mem_cons_self)
    obtain⟨sl,e⟩:=I.base.slot L o ho (I.ok.frf L hL) hL fun z=>I.ok.exfs L z hL
    exact⟨hk,⟨L,_,hf,hn,e,hd⟩,ih (fun b hb=>hs b (by unfold frs;rw[List.filterMap_cons,hf];exact List.mem_cons_of_mem _ hb)) hr⟩
 exact all X.outer (fun _ hb=>hb) I.ok.kA
theorem Inv.stack(I:Inv X pins σ H s):s.heap.FunFrames X.base X.stack:=by
 rcases I.ok.stk with e|⟨e,hf⟩
 . rw[e];exact I.kA
 . rw[e];obtain⟨m,hn,_⟩:=I.loc;refine .cons (by rw[I.ok.kind];decide) hf hn ?_ I.kA;exact Heap.get?_none_of_le (Nat.le_trans I.ok.bsz I.ok.above)
theorem Inv.sj(I:Inv X pins σ H s):∀ b∈frs X.stack,b∈X.env.locals ::X.fs:=fun b hb=>by
 rcases I.ok.stk with e|⟨e,hf⟩
 . rw[e]at hb;exact List.mem_cons_of_mem _ hb
 . rw[e]at hb;unfold frs at hb;rw[List.filterMap_cons,hf]at hb;exact hb
theorem Inv.pj(I:Inv X pins σ H s):∀ b∈frs X.stack,H b=none:=fun b hb=>by
 rcases List.mem_cons.mp (I.sj b hb)with e|hb
 . rw[e];exact I.free
 . obtain⟨_,o,ho,_⟩:=I.ok.kA.mem hb
   exact I.base.free b o ho (I.ok.frf b hb) fun z=>I.ok.exfs b z hb
theorem Inv.step{g':Array GenState}{t':Nat}{d':Drawn}{ch:List Addr}(I:Inv X pins σ H s)
  (hch:∀ b∈ch,(b∈X.ex \/ X.s₀.heap.objs.size<=b) /\ b≠X.env.locals /\ (∀ x c,X.env.cells.lookup x=some c->c≠b) /\ ∀ p∈X.pn++pins,p.1≠b)
  (keep:∀ b o,b≠X.env.locals->b∉X.fs->b∉ch->s.heap.get? b=some o->H b=none->h'.get? b=some o)
  (slot:∀ b o,b≠X.env.locals->b∈X.fs->b∉ch->s.heap.get? b=some o->H b=none->∃ sl,h'.get? b=some { o with slots:=sl }) (free:∀ b o,b∉ch->s.heap.get? b=some o->H b=none->H' b=none)
  (there:∀ b o,b∉ch->s.heap.get? b=some o->∃ o',h'.get? b=some o')
  (tups:∀ b xs,H b=some (.tup xs)->H' b=some (.tup xs)) (frzs:∀ b o u,H b=some (.frz o u)->H' b=some (.frz o u)) (tbls:∀ b ps,H b=some (.tbl ps)->∃ more,H' b=some (.tbl (ps++more)))
  (ns:∀ m,s.heap.Ns X.env.locals m->h'.Ns X.env.locals m) (hok:HOk X.prog X.w H' h') (hg:AllBare g'):
  Inv X pins σ H' { s with heap:=h',gens:=g',drawn:=d',toks:=t' }:=by
 have neL:∀ b o,X.s₀.heap.get? b=some o->b≠X.env.locals:=fun b o e=>Nat.ne_of_lt (Nat.lt_of_lt_of_le (Heap.lt_size e) I.ok.above)
 have neC:∀ b o,X.s₀.heap.get? b=some o->b∉X.ex->b∉ch:=fun b o e hx hb=>by
  rcases(hch b hb).1 with z|z
  . exact hx z
  . exact absurd (Nat.lt_of_lt_of_le (Heap.lt_size e) z) (Nat.lt_irrefl _)
 have cellK:∀ x c,X.env.cells.lookup x=some c->∀ v,s.heap.IsCell c v->h'.IsCell c v:=fun x c e v ⟨o,ho,hd⟩=>by
  have nch:c∉ch:=fun z=>(hch c z).2.2.1 x c e rfl
  by_cases hc:c∈X.fs
  . obtain⟨sl,q⟩:=slot c o (I.cne x c e) hc nch ho (I.freeC x c e)
    exact⟨_,q,hd⟩
  . exact⟨o,keep c o (I.cne x c e) hc nch ho (I.freeC x c e),hd⟩
 refine⟨I.ok,I.os,hg,⟨fun b o e n hb hx=>?_,fun b o e n hb hx=>?_,fun b o e n hx=>?_,fun b o e hx=>?_,fun b xs e=>tups b xs (I.base.tups b xs e),fun b o xs e=>frzs b o xs (I.base.frzs b o xs e),fun b ps e=>?_⟩,?_,fun x c e=>?_,?_,fun x c e=>?_,fun p hp=>?_,hok,I.len⟩
 . exact keep b o (neL b o e) hb (neC b o e hx) (I.base.keep b o e n hb hx) (I.base.free b o e n hx)
 . obtain⟨sl,e1⟩:=I.base.slot b o e n hb hx;obtain⟨sl',e2⟩:=slot b _ (neL b o e) hb (neC b o e hx) e1 (I.base.free b o e n hx)
   exact⟨sl',e2⟩
 . obtain⟨o',e1⟩:=I.base.there b o e hx;exact free b o' (neC b o e hx) e1 (I.base.free b o e n hx)
 . obtain⟨o',e1⟩:=I.base.there b o e hx;exact there b o' (neC b o e hx) e1
 . obtain⟨m1,e1⟩:=I.base.tbls b ps e;obtain⟨m2,e2⟩:=tbls b _ e1
   exact⟨m1++m2,by rw[e2,Array.append_assoc]⟩
 . obtain⟨m,hn,hl⟩:=I.loc
   refine⟨m,ns m hn,fun i x v e1 e2 e3=>?_⟩
   obtain⟨u,r,l⟩:=hl i x v e1 e2 e3
   refine⟨u,r,?_⟩
   rcases l with l|⟨k,c,e,z⟩
   . exact .inl l
   . exact .inr ⟨k,c,e,cellK x c e _ z⟩
 . obtain⟨v,z⟩:=I.cell x c e
   exact⟨v,cellK x c e v z⟩
 . obtain⟨m,⟨o,_,_,ho,_⟩,_⟩:=I.loc;exact free _ o (fun z=>(hch _ z).2.1 rfl) ho I.free
 . obtain⟨v,o,ho,hd⟩:=I.cell x c e;exact free c o (fun z=>(hch c z).2.2.1 x c e rfl) ho (I.freeC x c e)
 . obtain⟨e,n,ne,nf,d⟩:=I.pin p hp
   have nch:p.1∉ch:=fun z=>(hch p.1 z).2.2.2 p hp rfl
   exact⟨keep p.1 p.2 ne nf nch e n,free p.1 p.2 nch e n,ne,nf,d⟩
theorem Inv.un{t':Nat}(I:Inv X pins σ H s)(u:Un X.fs [] H H' s.heap h')(hok:HOk X.prog X.w H' h'):Inv X pins σ H' { s with heap:=h',toks:=t' }:=by
 obtain⟨m,⟨o,es,ep,ho,r⟩,_⟩:=id I.loc;obtain⟨sl,hL⟩:=u.any ho I.free (by simp)
 exact I.step (g':=s.gens) (d':=s.drawn) (ch:=[]) (fun _ z=>nomatch z) (fun b o _ hb _ e n=>u.keep b o e n hb (by simp)) (fun b o _ hb _ e n=>u.slot b o e n hb (by simp)) (fun b o _ e n=>u.free b o e n (by simp)) (fun b o _ e=>u.there b o e (by simp)) u.tups u.frzs u.tbls (fun m' hm=>by
  obtain⟨o',es',ep',ho',r'⟩:=hm;rw[ho]at ho';cases ho'
  exact⟨_,es',ep',hL,r'⟩) hok I.bare
theorem Inv.call{g':Array GenState}{t':Nat}{d':Drawn}{ch:List Addr}(I:Inv X pins σ H s)(u:Un (frs X.stack) ch H H' s.heap h')(hok:HOk X.prog X.w H' h')(hg:AllBare g')
  (hch:∀ b∈ch,(b∈X.ex \/ X.s₀.heap.objs.size<=b) /\ b≠X.env.locals /\ (∀ x c,X.env.cells.lookup x=some c->c≠b) /\ ∀ p∈X.pn++pins,p.1≠b):
  Inv X pins σ H' { s with heap:=h',gens:=g',drawn:=d',toks:=t' }:=by
 obtain⟨m,⟨o,es,ep,ho,r⟩,_⟩:=id I.loc
 obtain⟨sl,hL⟩:=u.any ho I.free fun z=>(hch _ z).2.1 rfl
 exact I.step (ch:=ch) hch (fun b o hL hb hc e n=>u.keep b o e n (fun z=>(List.mem_cons.mp (I.sj b z)).elim hL hb) hc) (fun b o _ _ hc e n=>u.any e n hc) (fun b o hc e n=>u.free b o e n hc) (fun b o hc e=>u.there b o e hc) u.tups u.frzs u.tbls (fun m' hm=>by
  obtain⟨o',es',ep',ho',r'⟩:=hm;rw[ho]at ho';cases ho'
  exact⟨_,es',ep',hL,r'⟩) hok hg
theorem Inv.turned{t':Nat}{it:Addr}(I:Inv X pins σ H s)(k:∀ b o,b≠it->s.heap.get? b=some o->h'.get? b=some o)(hn:H it=none)(hL:it≠X.env.locals)
  (h1:it∈X.ex \/ X.s₀.heap.objs.size<=it) (h2:∀ x c,X.env.cells.lookup x=some c->c≠it) (h3:∀ p∈X.pn++pins,p.1≠it):Inv X pins σ H { s with heap:=h',toks:=t' }:=by
 have nit:∀ b u,H b=some u->b≠it:=fun b u e z=>by rw[z,hn]at e;cases e
 refine I.step (g':=s.gens) (d':=s.drawn) (ch:=[it]) (fun b hb=>?_) (fun b o _ _ hc e _=>k b o (fun z=>hc (by simp[z])) e) (fun b o _ _ hc e _=>⟨o.slots,k b o (fun z=>hc (by simp[z])) e⟩) (fun _ _ _ _ n=>n)
  (fun b o hc e=>⟨o,k b o (fun z=>hc (by simp[z])) e⟩) (fun _ _ e=>e) (fun _ _ _ e=>e) (fun b ps e=>⟨#[],by rw[e];simp⟩) (fun m hm=>?_) (fun b u e=>?_) I.bare
 . have e:b=it:=by simpa using hb
   subst e
   exact⟨h1,hL,h2,h3⟩
 . obtain⟨o,es,ep,ho,r⟩:=hm
   exact⟨o,es,ep,k _ o (Ne.symm hL) ho,r⟩
 . refine(I.hok b u e).ll (fun c v hc q=>k c v ?_ q) (fun _ q=>q) fun _ _ q=>q
   rcases hc with z|z
   . rw[z];exact nit b u e
   . exact nit c _ z
theorem Inv.tok(I:Inv X pins σ H s)(t:Nat):Inv X pins σ H { s with toks:=t }:=I.un (h':=s.heap) (t':=t) Un.refl I.hok
theorem Inv.kept{t':Nat}(I:Inv X pins σ H s)(k:∀ b u,s.heap.get? b=some u->h'.get? b=some u):Inv X pins σ H { s with heap:=h',toks:=t' }:=I.un (Un.kept k) (I.hok.kept k)
theorem Inv.laid{a:Addr}{o:HO}{t':Nat}(I:Inv X pins σ H s)(k:∀ b u,s.heap.get? b=some u->h'.get? b=some u)(hp:s.heap.objs.size<=a)(new:b0 X.prog X.w (upd H a o) h' a o):
  Inv X pins σ (upd H a o) { s with heap:=h',toks:=t' }:=I.un (Un.laid k hp (I.hok.fresh hp)) (I.hok.laid k hp new)
theorem Inv.write{x e:Addr}{o:HO}{t':Nat}(I:Inv X pins σ H s)(mu:Mut (H x))(he:e=x \/ H e=some (.own x))(k:∀ b u,b≠e->s.heap.get? b=some u->h'.get? b=some u)(heo:∃ u,h'.get? e=some u)
  (new:b0 X.prog X.w (upd H x o) h' x o):Inv X pins σ (upd H x o) { s with heap:=h',toks:=t' }:=I.un (Un.write mu he k heo) (I.hok.write mu he k heo new)
theorem Inv.tB{pins':List (Addr×Obj)}(I:Inv X pins σ H s)(h:∀ p∈pins',s.heap.get? p.1=some p.2 /\ H p.1=none /\ p.1≠X.env.locals /\ p.1∉X.fs /\ ∀ v,p.2.data≠.cell v):Inv X pins' σ H s:=
 ⟨I.ok,I.os,I.bare,I.base,I.loc,I.cell,I.free,I.freeC,fun p hp=>(List.mem_append.mp hp).elim (fun z=>I.pin p (List.mem_append_left _ z)) (h p),I.hok,I.len⟩
theorem lQ{N:List Str}(hN:N.Nodup){i j:Nat}{x:Str}(a:N[i]?=some x)(b:N[j]?=some x):i=j:=by
 obtain⟨h1,e1⟩:=List.getElem?_eq_some_iff.mp a;obtain⟨h2,e2⟩:=List.getElem?_eq_some_iff.mp b
 exact(List.getElem_inj hN).mp (e1.trans e2.symm)
theorem ug{M:Model}{A:Around}{E:Value->Shared->Prop}{i:Nat}{x:Str}{v:V}{u:Value}{Q:Unit->Shared->Prop}(I:Inv X pins σ H s)(hN:X.N.Nodup)(hi:X.N[i]?=some x)(hx:Loc X.env.scope x)(r:RelV v u)
  (h:∀ s',Inv X pins (σ.set i (some v)) H s'->(∃ a,Heap.SameBut a s.heap s'.heap /\ (a=X.env.locals \/ X.env.cells.lookup x=some a))->Q () s') (hf:X.fn x=true \/ X.env.scope.names.lookup x=some .local:=by first|exact .inl rfl|exact .inr rfl|assumption):wpAny M A (storeName X.env x u) Q E s:=by
 obtain⟨m,hn,hl⟩:=id I.loc
 have hcls:(X.env.scope.kind == .class||(X.env.scope.kind == .module&&X.env.locals != X.env.globals))=false:=by rw[I.ok.kind];rfl
 have hiσ:i<σ.length:=by rw[I.len];exact(List.getElem?_eq_some_iff.mp hi).1
 have cne:=I.cne
 have tracked:∀{a:Addr} {h':Heap},(∃ o,s.heap.get? a=some o /\ H a=none)->Heap.SameBut a s.heap h'->HOk X.prog X.w H h':=fun {a h'} ha hs b ob e=>by
  obtain⟨_,_,hfree⟩:=ha
  refine(I.hok b ob e).ll (fun c w' hc q=>(hs.2 c ?_).trans q) (fun _ q=>q) fun _ _ q=>q
  rintro rfl
  rcases hc with rfl|hc
  . rw[hfree]at e;cases e
  . rw[hfree]at hc;cases hc
 rcases hx with hk|hk
 . refine wpAny_storeName_local hk hn (fun h' hn' hs=>?_) hcls;obtain⟨oL,_,_,hoL,_⟩:=id hn;refine h _ ⟨I.ok,I.os,I.bare,⟨fun b o e n hb hx=>?_,fun b o e n hb hx=>?_,I.base.free,fun b o e hx=>?_,I.base.tups,I.base.frzs,I.base.tbls⟩,⟨_,hn',fun j y v' e1 e2 e3=>?_⟩,fun y c e=>?_,I.free,I.freeC,fun p hp=>?_,tracked ⟨oL,hoL,I.free⟩ hs,by simpa using I.len⟩ ⟨_,hs,.inl rfl⟩
   . exact(hs.2 b (Nat.ne_of_lt (Nat.lt_of_lt_of_le (Heap.lt_size e) I.ok.above))).trans (I.base.keep b o e n hb hx)
   . obtain⟨sl,e1⟩:=I.base.slot b o e n hb hx
     exact⟨sl,(hs.2 b (Nat.ne_of_lt (Nat.lt_of_lt_of_le (Heap.lt_size e) I.ok.above))).trans e1⟩
   . obtain⟨o',e1⟩:=I.base.there b o e hx
     exact⟨o',(hs.2 b (Nat.ne_of_lt (Nat.lt_of_lt_of_le (Heap.lt_size e) I.ok.above))).trans e1⟩
   . by_cases hj:j=i
     . subst hj;rw[hi]at e1;cases e1;rw[List.getElem?_set_self hiσ]at e2;cases e2
       exact⟨u,r,.inl ⟨hk,by simp⟩⟩
     . rw[List.getElem?_set_ne (Ne.symm hj)]at e2;obtain⟨u',r',q⟩:=hl j y v' e1 e2 e3
       refine⟨u',r',?_⟩
       rcases q with⟨k,e⟩|⟨k,c,e,z⟩
       . refine .inl ⟨k,?_⟩
         have:y≠x:=fun e=>hj (lQ hN e1 (e ▸ hi))
         simp[this,e]
       . exact .inr ⟨k,c,e,z.sameBut hs (cne y c e)⟩
   . obtain⟨w',z⟩:=I.cell y c e
     exact⟨w',z.sameBut hs (cne y c e)⟩
   . obtain⟨e,n,ne,nf,d⟩:=I.pin p hp
     exact⟨(hs.2 p.1 ne).trans e,n,ne,nf,d⟩
 . have hfn:X.fn x = true:=by
    rcases hf with z|z
    . exact z
    . rw[z]at hk;cases hk
   obtain⟨c,hc⟩:=I.ok.has x (.inl hk);obtain⟨w',z⟩:=I.cell x c hc;refine wpAny_storeName_cell I.ok.kind hk hc z (fun h' hc' hs=>?_);obtain⟨oc,hoc,hocd⟩:=id z;refine h { s with heap:=h' } ⟨I.ok,I.os,I.bare,⟨fun b o e n hb hx=>?_,fun b o e n hb hx=>?_,I.base.free,fun b o e hx=>?_,I.base.tups,I.base.frzs,I.base.tbls⟩,⟨m,hn.sameBut hs (Ne.symm (cne x c hc)),fun j y v' e1 e2 e3=>?_⟩,fun y c' e=>?_,I.free,I.freeC,fun p hp=>?_,tracked ⟨oc,hoc,I.freeC x c hc⟩ hs,by simpa using I.len⟩ ⟨c,hs,.inr hc⟩
   . exact(hs.2 b (Nat.ne_of_lt (Nat.lt_of_lt_of_le (Heap.lt_size e) (I.ok.cab x c hfn hc)))).trans (I.base.keep b o e n hb hx)
   . obtain⟨sl,e1⟩:=I.base.slot b o e n hb hx
     exact⟨sl,(hs.2 b (Nat.ne_of_lt (Nat.lt_of_lt_of_le (Heap.lt_size e) (I.ok.cab x c hfn hc)))).trans e1⟩
   . obtain⟨o',e1⟩:=I.base.there b o e hx
     exact⟨o',(hs.2 b (Nat.ne_of_lt (Nat.lt_of_lt_of_le (Heap.lt_size e) (I.ok.cab x c hfn hc)))).trans e1⟩
   . by_cases hj:j=i
     . subst hj;rw[hi]at e1;cases e1;rw[List.getElem?_set_self hiσ]at e2;cases e2
       exact⟨u,r,.inr ⟨.inl hk,c,hc,hc'⟩⟩
     . rw[List.getElem?_set_ne (Ne.symm hj)]at e2;obtain⟨u',r',q⟩:=hl j y v' e1 e2 e3
       refine⟨u',r',?_⟩
       rcases q with q|⟨k,c',e,z'⟩
       . exact .inl q
       . refine .inr ⟨k,c',e,z'.sameBut hs ?_⟩
         rintro rfl
         exact hj (lQ hN e1 (I.ok.inj _ _ _ e hc ▸ hi))
   . by_cases hcc:c'=c
     . subst hcc;exact⟨_,hc'⟩
     . obtain⟨w2,z2⟩:=I.cell y c' e
       exact⟨w2,z2.sameBut hs hcc⟩
   . obtain⟨e,n,ne,nf,d⟩:=I.pin p hp
     refine⟨(hs.2 p.1 ?_).trans e,n,ne,nf,d⟩
     intro q;rw[q,hoc]at e
     have q':oc=p.2:=Option.some.inj e
     exact d w' (by rw[<- q'];exact hocd)
theorem gY{M:Model}{A:Around}{E:Value->Shared->Prop}{i:Nat}{x:Str}{v:V}{u:Value}{Q:Unit->Shared->Prop}(I:Inv X pins σ H s)(hN:X.N.Nodup)(hi:X.N[i]?=some x)(hx:Loc X.env.scope x)(r:RelV v u)
  (h:∀ s',Inv X pins (σ.set i (some v)) H s'->Q () s') (hf:X.fn x=true \/ X.env.scope.names.lookup x=some .local:=by first|exact .inl rfl|exact .inr rfl|assumption):wpAny M A (storeName X.env x u) Q E s:=
 ug I hN hi hx r (fun s' I' _=>h s' I') hf
theorem Inv.zy{s':Shared}{ch:List Addr}(I:Inv X pins σ H s)(ho:s'.os=s.os)(u:Un (frs X.stack) ch H H' s.heap s'.heap)(hok:HOk X.prog X.w H' s'.heap)(hg:AllBare s'.gens)
  (hch:∀ b∈ch,(b∈X.ex \/ X.s₀.heap.objs.size<=b) /\ b≠X.env.locals /\ (∀ x c,X.env.cells.lookup x=some c->c≠b) /\ ∀ p∈X.pn++pins,p.1≠b):Inv X pins σ H' s':=by
 obtain⟨h',g',d',t',o'⟩:=s'
 have e:o'=s.os:=ho
 subst e;exact I.call (g':=g') (t':=t') (d':=d') u hok hg hch
end
abbrev XK:=Value->Option Addr->Hp->Prop
abbrev St:=List (Option V)
abbrev VK:=V->Hp->Prop
abbrev TE:=St->Hp->VK->Prop
abbrev TT:=St->Hp->(Bool->Hp->Prop)->Prop
abbrev TA:=St->Hp->(List V->Hp->Prop)->Prop
structure Ends where
 nx:St->Hp->Prop
 rt:VK
 bk:St->Hp->Prop:=fun _ _=>False
 ct:St->Hp->Prop:=fun _ _=>False
abbrev TS:=Ends->St->Hp->Prop
noncomputable def EP(X:Cx)(pins:List (Addr×Obj))(σ:St)(Q:VK)(u:Value)(s':Shared):Prop:=∃ v H',Inv X pins σ H' s' /\ RelV v u /\ Q v H'
noncomputable def TP(X:Cx)(pins:List (Addr×Obj))(σ:St)(Q:Bool->Hp->Prop)(b:Bool)(s':Shared):Prop:=∃ H',Inv X pins σ H' s' /\ Q b H'
noncomputable def AP(X:Cx)(pins:List (Addr×Obj))(σ:St)(Q:List V->Hp->Prop)(us:List Value)(s':Shared):Prop:=∃ vs H',Inv X pins σ H' s' /\ Vals vs us /\ Q vs H'
noncomputable def SP(X:Cx)(pins:List (Addr×Obj))(D:Ends)(f:Flow)(s':Shared):Prop:=
 match f with
 |.next=>∃ σ' H',Inv X pins σ' H' s' /\ D.nx σ' H'
 |.brk=>∃ σ' H',Inv X pins σ' H' s' /\ D.bk σ' H'
 |.cont=>∃ σ' H',Inv X pins σ' H' s' /\ D.ct σ' H'
 |.ret u=>∃ v σ' H',Inv X pins σ' H' s' /\ RelV v u /\ D.rt v H'
noncomputable def PE(X:Cx)(e:Expr)(t:TE):Prop:=
 ∀(pins:List (Addr×Obj)) (s:Shared) (σ:St) (H:Hp) (Q:VK),Inv X pins σ H s->t σ H Q->wpAny (model X.prog X.w) X.A (eval e X.env) (EP X pins σ Q) X.xe s
noncomputable def PT(X:Cx)(e:Expr)(t:TT):Prop:=
 ∀(pins:List (Addr×Obj)) (s:Shared) (σ:St) (H:Hp) (Q:Bool->Hp->Prop),Inv X pins σ H s->t σ H Q->wpAny (model X.prog X.w) X.A (isTrue e X.env (eval e X.env)) (TP X pins σ Q) X.xe s
noncomputable def PW(X:Cx)(e:Expr)(t:TT):Prop:=
 ∀(whole:Sem Value) (pins:List (Addr×Obj)) (s:Shared) (σ:St) (H:Hp) (Q:Bool->Hp->Prop),Inv X pins σ H s->t σ H Q->wpAny (model X.prog X.w) X.A (isTrue e X.env whole) (TP X pins σ Q) X.xe s
theorem PW.pt{X:Cx}{e:Expr}{t:TT}(h:PW X e t):PT X e t:=h _
noncomputable def PA(X:Cx)(es:List Expr)(t:TA):Prop:=
 ∀(pos:Pos) (pins:List (Addr×Obj)) (s:Shared) (σ:St) (H:Hp) (Q:List V->Hp->Prop),Inv X pins σ H s->t σ H Q->wpAny (model X.prog X.w) X.A (spliced (backTo pos (starEach es X.env))) (AP X pins σ Q) X.xe s
noncomputable def PS(X:Cx)(st:Stmt)(t:TS):Prop:=
 ∀(pins:List (Addr×Obj)) (s:Shared) (σ:St) (H:Hp) (D:Ends),Inv X pins σ H s->t D σ H->wpAny (model X.prog X.w) X.A (exec st X.env) (SP X pins D) X.xe s
noncomputable def PSs(X:Cx)(st:List Stmt)(t:TS):Prop:=
 ∀(pins:List (Addr×Obj)) (s:Shared) (σ:St) (H:Hp) (D:Ends),Inv X pins σ H s->t D σ H->wpAny (model X.prog X.w) X.A (execs st X.env) (SP X pins D) X.xe s
theorem thn{α:Type}{t:Sem α}{Q Q':α->Shared->Prop}{M:Model}{A:Around}{E:Value->Shared->Prop}{s:Shared}(h:wpAny M A t Q E s)(hQ:∀ a s,Q a s->Q' a s):wpAny M A t Q' E s:=wpAny_mono h hQ fun _ _ x=>x
section
variable{X:Cx}
theorem bin{a b:Expr}{ta tb:TE}(ha:PE X a ta)(hb:PE X b tb){pins:List (Addr×Obj)}{s:Shared}{σ:St}{H:Hp}{R:V->V->Hp->Prop}(I:Inv X pins σ H s)(h:ta σ H fun x H1=>tb σ H1 fun y H2=>R x y H2)
  {α:Type} {Q:α->Shared->Prop} {f:Value->Value->Sem α}
  (hf:∀ v u s2 x y H2,Inv X pins σ H2 s2->RelV x v->RelV y u->R x y H2->wpAny (model X.prog X.w) X.A (f v u) Q X.xe s2):
  wpAny (model X.prog X.w) X.A (eval a X.env) (fun v s₁=>wpAny (model X.prog X.w) X.A (eval b X.env) (fun u s₂=>wpAny (model X.prog X.w) X.A (f v u) Q X.xe s₂) X.xe s₁) X.xe s:=by
 refine thn (ha pins s σ H _ I h) fun v s1 ⟨x,H1,I1,r1,q1⟩=>?_
 refine thn (hb pins s1 σ H1 _ I1 q1) fun u s2 ⟨y,H2,I2,r2,q2⟩=>?_
 exact hf v u s2 x y H2 I2 r1 r2 q2
noncomputable def jw(i:Nat):TE:=fun σ H Q=>∃ v,σ[i]?=some (some v) /\ Q v H
noncomputable def tC(v:V):TE:=fun _ H Q=>Q v H
theorem Br{i:Nat}{x:Str}{pos:Pos}(hN:X.N[i]?=some x)(hv:Vis X.env.scope x)(hd:(x==("__debug__":Str))=false:=by decide)(hcd:(x==("__classdict__":Str))=false:=by decide):PE X (.Name x pos) (jw i):=by
 intro pins s σ H Q I h;obtain⟨v,e,h⟩:=h;obtain⟨m,hn,hl⟩:=I.loc;obtain⟨u,r,l⟩:=hl i x v hN e hv
 have fin:EP X pins σ Q u s:=⟨v,H,I,r,h⟩
 rcases l with⟨hk,hm⟩|⟨hk,c,hc,hcell⟩
 . exact wpAny_Name (wpAny_loadName_local I.ok.kind hk hn hm fin) hd
 . rcases hk with hk|hk
   . exact wpAny_Name (wpAny_loadName_cell I.ok.kind hk hc hcell fin) hd
   . exact wpAny_Name (wpAny_loadName_free I.ok.kind hk hc hcell fin hcd) hd
theorem Bu{i j pos}:PE X (.Constant (.int i) j pos) (tC (.int i)):=fun _ _ _ H _ I h=>wpAny_Constant_int ⟨.int i,H,I.tok _,⟨_,rfl⟩,h⟩
theorem BS{b j pos}:PE X (.Constant (.bool b) j pos) (tC (.bl b)):=fun _ _ _ H _ I h=>Constant_bool ⟨.bl b,H,I,rfl,h⟩
theorem Ac{j pos}:PE X (.Constant .none j pos) (tC .non):=fun _ _ _ H _ I h=>Constant_none ⟨.non,H,I,rfl,h⟩
theorem Ax{x j pos}:PE X (.Constant (.str x) j pos) (tC (.str x)):=fun _ _ _ H _ I h=>Calls.Constant_str ⟨.str x,H,I.tok _,⟨_,rfl⟩,h⟩
noncomputable def Gl(X:Cx)(x:Str):Prop:=X.env.kindOf x=some .globalImplicit
theorem kJ{E:Value->Shared->Prop}{pins:List (Addr×Obj)}{s:Shared}{σ:St}{H:Hp}{x:Str}{u:Value}{pos:Pos}{Q:Value->Shared->Prop}(I:Inv X pins σ H s)(hg:Gl X x)(hm:X.mg x=some u)(h:Q u s)
  (hd:(x==("__debug__":Str))=false:=by decide):wpAny (model X.prog X.w) X.A (eval (.Name x pos) X.env) Q E s:=
 Calls.Name_function_global I.ok.kind hg (Calls.loadGlobal_global (by rw[I.ok.glob];exact I.mod.glob.keeps I.bk) hm h) hd
theorem my{E:Value->Shared->Prop}{pins:List (Addr×Obj)}{s:Shared}{σ:St}{H:Hp}{x:Str}{u:Value}{pos:Pos}{Q:Value->Shared->Prop}(I:Inv X pins σ H s)(hg:Gl X x)(hm:X.mg x=none)(hv:bootBuiltins x=some u)(h:Q u s)
  (hn:x ≠ "__name__":=by decide) (hd:(x==("__debug__":Str))=false:=by decide):wpAny (model X.prog X.w) X.A (eval (.Name x pos) X.env) Q E s:=by
 obtain⟨mb,h1,h2⟩:=I.mod.blt;exact Calls.Name_function_global I.ok.kind hg (Calls.loadGlobal_builtin (by rw[I.ok.glob];exact I.mod.glob.keeps I.bk) hm (by rw[I.ok.blt];exact h1.keeps I.bk) ((h2 x hn).trans hv) h) hd
theorem ya{x:Str}{v:V}{u:Value}{pos:Pos}(hg:Gl X x)(hm:X.mg x=some u)(r:RelV v u)(hd:(x==("__debug__":Str))=false:=by decide):PE X (.Name x pos) (tC v):=
 fun _ _ _ H _ I h=>kJ I hg hm ⟨v,H,I,r,h⟩ hd
theorem yd{x:Str}{v:V}{u:Value}{pos:Pos}(hg:Gl X x)(hm:X.mg x=none)(hv:bootBuiltins x=some u)(r:RelV v u)(hn:x ≠ "__name__":=by decide)(hd:(x==("__debug__":Str))=false:=by decide):PE X (.Name x pos) (tC v):=
 fun _ _ _ H _ I h=>my I hg hm hv ⟨v,H,I,r,h⟩ hn hd
variable{a b:Expr}{ta tb:TE}{pos:Pos}
noncomputable def PC(X:Cx)(op:CmpOp)(a b:Expr)(t:TE):Prop:=
 ∀(pins:List (Addr×Obj)) (s:Shared) (σ:St) (H:Hp) (Q:VK),Inv X pins σ H s->t σ H Q ->
   wpAny (model X.prog X.w) X.A (eval a X.env) (fun v s₁=>wpAny (model X.prog X.w) X.A (eval b X.env) (fun u s₂=>wpAny (model X.prog X.w) X.A (compareOp op v u) (EP X pins σ Q) X.xe s₂) X.xe s₁) X.xe s
variable{tA tB':TT}{rest:List Expr}
noncomputable def Bv(t u:TT):TT:=fun σ H Q=>t σ H fun c H1=>if c=true then u σ H1 Q else Q false H1
noncomputable def tOr(t u:TT):TT:=fun σ H Q=>t σ H fun c H1=>if c=true then Q true H1 else u σ H1 Q
noncomputable def A7(t:TT):TT:=fun σ H Q=>t σ H fun c H1=>Q (!c) H1
theorem yo(ha:PT X a tA):PW X (.BoolOp .And [a] pos) tA:=by
 intro wh pins s σ H Q I h;refine isTrue_and (thn (ha pins s σ H Q I h) fun c s1 e=>?_)
 cases c with
 |true=>exact isTrue_and_nil e
 |false=>exact e
theorem zT(ha:PT X a tA):PW X (.BoolOp .Or [a] pos) tA:=by
 intro wh pins s σ H Q I h;refine isTrue_or (thn (ha pins s σ H Q I h) fun c s1 e=>?_)
 cases c with
 |false=>exact isTrue_or_nil e
 |true=>exact e
theorem Am(ha:PT X a tA)(hb:PW X (.BoolOp .And (b ::rest) pos) tB'):PW X (.BoolOp .And (a ::b ::rest) pos) (Bv tA tB'):=by
 intro wh pins s σ H Q I h;refine isTrue_and (thn (ha pins s σ H _ I h) fun c s1 ⟨H1,I1,q1⟩=>?_)
 cases c with
 |true=>exact hb wh pins s1 σ H1 Q I1 q1
 |false=>exact⟨H1,I1,q1⟩
theorem Cf(ha:PT X a tA)(hb:PW X (.BoolOp .Or (b ::rest) pos) tB'):PW X (.BoolOp .Or (a ::b ::rest) pos) (tOr tA tB'):=by
 intro wh pins s σ H Q I h;refine isTrue_or (thn (ha pins s σ H _ I h) fun c s1 ⟨H1,I1,q1⟩=>?_)
 cases c with
 |true=>exact⟨H1,I1,q1⟩
 |false=>exact hb wh pins s1 σ H1 Q I1 q1
theorem AE(ha:PT X a tA):PT X (.UnaryOp .Not a pos) (A7 tA):=by
 intro pins s σ H Q I h;exact isTrue_not (ha pins s σ H (fun c H1=>Q (!c) H1) I h)
noncomputable def wo(ta tb:TE):TE:=fun σ H Q=>ta σ H fun x H1=>∃ c,x=.bl c /\ if c=true then tb σ H1 Q else Q (.bl false) H1
noncomputable def Az(ta tb:TE):TE:=fun σ H Q=>ta σ H fun x H1=>∃ c,x=.bl c /\ if c=true then Q (.bl true) H1 else tb σ H1 Q
noncomputable def uY(ta:TE):TE:=fun σ H Q=>ta σ H fun x H1=>∃ c,x=.bl c /\ Q (.bl (!c)) H1
theorem AZ{op}{t:TE}(h:PE X a t):PE X (.BoolOp op [a] pos) t:=fun pins s σ H Q I hw=>BoolOp_one (h pins s σ H Q I hw)
theorem zM(ha:PE X a ta)(hb:PE X (.BoolOp .And (b ::rest) pos) tb):PE X (.BoolOp .And (a ::b ::rest) pos) (wo ta tb):=by
 intro pins s σ H Q I h;refine BoolOp_and (thn (ha pins s σ H _ I h) fun v s1 ⟨x,H1,I1,r1,q1⟩=>?_);obtain⟨c,rfl,q1⟩:=q1;cases r1;refine wpAny_truthy_bool ?_
 cases c with
 |true=>exact hb pins s1 σ H1 Q I1 q1
 |false=>exact⟨.bl false,H1,I1,rfl,q1⟩
theorem BQ(ha:PE X a ta)(hb:PE X (.BoolOp .Or (b ::rest) pos) tb):PE X (.BoolOp .Or (a ::b ::rest) pos) (Az ta tb):=by
 intro pins s σ H Q I h;refine BoolOp_or (thn (ha pins s σ H _ I h) fun v s1 ⟨x,H1,I1,r1,q1⟩=>?_);obtain⟨c,rfl,q1⟩:=q1;cases r1;refine wpAny_truthy_bool ?_
 cases c with
 |false=>exact hb pins s1 σ H1 Q I1 q1
 |true=>exact⟨.bl true,H1,I1,rfl,q1⟩
theorem AY(ha:PE X a ta):PE X (.UnaryOp .Not a pos) (uY ta):=by
 intro pins s σ H Q I h;refine UnaryOp_ (thn (ha pins s σ H _ I h) fun v s1 ⟨x,H1,I1,r1,q1⟩=>?_);obtain⟨c,rfl,q1⟩:=q1;cases r1;exact not_of (wpAny_truthy_bool ⟨.bl (!c),H1,I1,rfl,q1⟩)
noncomputable def tIf(t:TT)(ta tb:TE):TE:=fun σ H Q=>t σ H fun c H1=>if c=true then ta σ H1 Q else tb σ H1 Q
theorem v3{c:Expr}(hc:PT X c tA)(ha:PE X a ta)(hb:PE X b tb):PE X (.IfExp c a b pos) (tIf tA ta tb):=by
 intro pins s σ H Q I h;refine wpAny_IfExp (thn (hc pins s σ H _ I h) fun d s1 ⟨H1,I1,q1⟩=>?_)
 cases d with
 |true=>exact ha pins s1 σ H1 Q I1 q1
 |false=>exact hb pins s1 σ H1 Q I1 q1
end
noncomputable def SqL(K:PySem.W.Frag)(H:Hp)(a:Addr)(xs:List V):Prop:=
 Rd H a (.lst xs) \/
  ∃(o:Obj) (its:Array Value) (n:Nat),K.lookup a=some o /\ o.cls=.type "list" /\ o.dict=none /\ o.data=.seq its n /\ its.size<=sizeLine /\ Vals xs its.toList
noncomputable def SqT(K:PySem.W.Frag)(H:Hp)(a:Addr)(xs:List V):Prop:=
 Rd H a (.tup xs) \/
  ∃(o:Obj) (its:Array Value) (n:Nat),K.lookup a=some o /\ (o.cls=.type "tuple" /\ o.dict=none) /\ o.data=.seq its n /\ its.size<=sizeLine /\ Vals xs its.toList
noncomputable def D0:Value->Option V
 |.none=>some .non
 |.bool b=>some (.bl b)
 |.int i _=>some (.int i)
 |.str x _=>some (.str x)
 |.bytes b _=>some (.byt b)
 |.float b _=>some (.flt b)
 |.ref a=>some (.ref a)
 |.type n=>some (.ty n)
 |_=>none
theorem RelV.abs{x:V}{u:Value}(r:RelV x u):D0 u=some x:=by
 cases x with
 |non=>cases r;rfl
 |bl _=>cases r;rfl
 |int _=>obtain⟨t,rfl⟩:=r;rfl
 |str _=>obtain⟨t,rfl⟩:=r;rfl
 |byt _=>obtain⟨t,rfl⟩:=r;rfl
 |flt _=>obtain⟨t,rfl⟩:=r;rfl
 |ref _=>cases r;rfl
 |ty _=>cases r;rfl
theorem RelV.inj{x y:V}{u:Value}(r:RelV x u)(q:RelV y u):x=y:=Option.some.inj (r.abs.symm.trans q.abs)
theorem Vals.inj:∀{xs ys:List V} {us:List Value},Vals xs us->Vals ys us->xs=ys
 |_,_,_,.nil,.nil=>rfl
 |_,_,_,.cons r t,.cons r' t'=>by rw[r.inj r',Vals.inj t t']
section
variable{X:Cx}{pins:List (Addr×Obj)}{σ:St}{H:Hp}{s:Shared}{a:Addr}{xs ys:List V}
theorem Inv.list(I:Inv X pins σ H s)(h:SqL X.K H a xs):∃ its:List Value,Vals xs its /\ PlainL s.heap a its.toArray /\ xs.length<=sizeLine:=by
 rcases h with h|⟨o,its,n,hk,hc,hd,hs,hz,r⟩
 . obtain⟨z,its,n,r,e⟩:=h.ok I.hok
   exact⟨its,r,⟨_,n,e,rfl,rfl,rfl⟩,z⟩
 . refine⟨its.toList,r,⟨o,n,I.kIn a o hk,hc,hd,by simpa using hs⟩,?_⟩
   have e:=r.length;simp only[Array.length_toList]at e;omega
theorem Inv.tuple(I:Inv X pins σ H s)(h:SqT X.K H a xs):∃ its:List Value,Vals xs its /\ IsTup s.heap a its.toArray /\ xs.length<=sizeLine:=by
 rcases h with h|⟨o,its,n,hk,hc,hs,hz,r⟩
 . obtain⟨z,its,r,p⟩:=h.ok I.hok
   exact⟨its,r,p,z.1⟩
 . refine⟨its.toList,r,⟨o,I.kIn a o hk,hc.1,n,by simpa using hs⟩,?_⟩
   have e:=r.length;simp only[Array.length_toList]at e;omega
theorem Inv.noD(I:Inv X pins σ H s)(h:SqT X.K H a xs):NoD s.heap a:=by
 rcases h with h|⟨o,its,n,hk,hc,_⟩
 . exact(h.ok I.hok).1.2
 . exact .of (I.kIn a o hk) hc.2
theorem Inv.pW(I:Inv X pins σ H s)(h:SqL X.K H a xs)(h':SqL X.K H a ys):xs=ys:=by
 obtain⟨its,r,⟨o,n,e,_,_,d⟩,_⟩:=I.list h;obtain⟨its',r',⟨o',n',e',_,_,d'⟩,_⟩:=I.list h';rw[e]at e';cases e';rw[d]at d'
 injection d' with d1 _
 have:its=its':=by simpa using congrArg Array.toList d1
 subst this;exact r.inj r'
theorem Inv.uG(I:Inv X pins σ H s)(h:SqT X.K H a xs)(h':SqT X.K H a ys):xs=ys:=by
 obtain⟨its,r,⟨o,e,_,n,d⟩,_⟩:=I.tuple h;obtain⟨its',r',⟨o',e',_,n',d'⟩,_⟩:=I.tuple h';rw[e]at e';cases e';rw[d]at d'
 injection d' with d1 _
 have:its=its':=by simpa using congrArg Array.toList d1
 subst this;exact r.inj r'
end
section
variable{X:Cx}{st:Stmt}{rest:List Stmt}{t u:TS}{e:Expr}{te:TE}{pos:Pos}
noncomputable def vY:TS:=fun D σ H=>D.nx σ H
noncomputable def vC(t u:TS):TS:=fun D σ H=>t { D with nx:=u D } σ H
theorem yg:PSs X [] vY:=fun _ _ σ H _ I h=>wpAny_execs_nil ⟨σ,H,I,h⟩
theorem uX(h1:PS X st t)(h2:PSs X rest u):PSs X (st ::rest) (vC t u):=by
 intro pins s σ H D I h;refine wpAny_execs_cons (thn (h1 pins s σ H { D with nx:=u D } I h) fun f s1 q=>?_)
 cases f with
 | next=>
   obtain⟨σ',H',I',q⟩:=q;exact h2 pins s1 σ' H' D I' q
 |ret v=>exact q
 |brk=>exact q
 |cont=>exact q
theorem sY(h1:PS X st t):PSs X [st] t:=by
 intro pins s σ H D I h;refine wpAny_execs_cons (thn (h1 pins s σ H D I h) fun f s1 q=>?_)
 cases f with
 |next=>exact wpAny_execs_nil q
 |ret v=>exact q
 |brk=>exact q
 |cont=>exact q
theorem Inv.quiet{pins:List (Addr×Obj)}{σ:St}{H:Hp}{s:Shared}(I:Inv X pins σ H s):interactive X.env=false:=by simp[interactive,I.ok.kind]
noncomputable def kj(te:TE):TS:=fun D σ H=>te σ H fun _ H1=>D.nx σ H1
theorem ye(he:PE X e te)(hs:swapsWith e none pos.line X.env=pure false:=by rfl):PS X (.Expr e pos) (kj te):=by
 intro pins s σ H D I h;exact wpAny_Expr_any (thn (he pins s σ H _ I h) fun v s1 ⟨x,H1,I1,r1,q1⟩=>⟨σ,H1,I1,q1⟩) I.quiet hs
noncomputable def wV(te:TE):TS:=fun D σ H=>te σ H D.rt
theorem Bx(he:PE X e te):PS X (.Return (some e) pos) (wV te):=by
 intro pins s σ H D I h;exact wpAny_Return_some (thn (he pins s σ H _ I h) fun v s1 ⟨x,H1,I1,r1,q1⟩=>⟨x,σ,H1,I1,r1,q1⟩)
noncomputable def Ao(c:TT)(t u:TS):TS:=fun D σ H=>c σ H fun b H1=>if b=true then t D σ H1 else u D σ H1
theorem Cg{c:Expr}{a b:List Stmt}{tc:TT}(hc:PT X c tc)(ha:PSs X a t)(hb:PSs X b u):PS X (.If c a b pos) (Ao tc t u):=by
 intro pins s σ H D I h;refine wpAny_If (thn (hc pins s σ H _ I h) fun d s1 ⟨H1,I1,q1⟩=>?_)
 cases d with
 |true=>exact ha pins s1 σ H1 D I1 q1
 |false=>exact hb pins s1 σ H1 D I1 q1
end
abbrev TG:=V->St->Hp->(St->Hp->Prop)->Prop
abbrev TGs:=List V->St->Hp->(St->Hp->Prop)->Prop
noncomputable def PG(X:Cx)(target:Expr)(t:TG):Prop:=
 ∀(pins:List (Addr×Obj)) (s:Shared) (σ:St) (H:Hp) (v:V) (u:Value) (Q:St->Hp->Prop),Inv X pins σ H s->RelV v u->t v σ H Q ->
   wpAny (model X.prog X.w) X.A (assign target X.env u) (fun _ s'=>∃ σ' H',Inv X pins σ' H' s' /\ Q σ' H') X.xe s
noncomputable def PGs(X:Cx)(ts:List Expr)(t:TGs):Prop:=
 ∀(pins:List (Addr×Obj)) (s:Shared) (σ:St) (H:Hp) (vs:List V) (us:List Value) (Q:St->Hp->Prop),Inv X pins σ H s->Vals vs us->t vs σ H Q ->
   wpAny (model X.prog X.w) X.A (assignInOrder ((assignEach ts X.env).map (·.2)) us) (fun _ s'=>∃ σ' H',Inv X pins σ' H' s' /\ Q σ' H') X.xe s
abbrev TIp:=V->V->Hp->VK->Prop
noncomputable def PIp(X:Cx)(op:Operator)(t:TIp):Prop:=
 ∀(pins:List (Addr×Obj)) (s:Shared) (σ:St) (H:Hp) (x y:V) (v u:Value) (Q:VK),Inv X pins σ H s->RelV x v->RelV y u->t x y H Q ->
   wpAny (model X.prog X.w) X.A (inplaceOp op v u) (EP X pins σ Q) X.xe s
section
variable{X:Cx}{pos:Pos}
noncomputable def eU(i:Nat):TG:=fun v σ H Q=>Q (σ.set i (some v)) H
theorem yn{i:Nat}{x:Str}(hN:X.N.Nodup)(hi:X.N[i]?=some x)(hx:Loc X.env.scope x)(hf:X.fn x=true \/ X.env.scope.names.lookup x=some .local:=by first|exact .inl rfl|exact .inr rfl|assumption):PG X (.Name x pos) (eU i):=by
 intro pins s σ H v u Q I r h;exact wpAny_assign_Name (gY I hN hi hx r (fun s' I'=>⟨_,H,I',h⟩) hf)
noncomputable def Bs:TGs:=fun vs σ H Q=>vs=[] /\ Q σ H
noncomputable def tO(t:TG)(u:TGs):TGs:=fun vs σ H Q=>∃ v r,vs=v ::r /\ t v σ H fun σ' H'=>u r σ' H' Q
theorem yh:PGs X [] Bs:=by
 intro pins s σ H vs us Q I r h;obtain⟨e,h⟩:=h;subst e;cases r;exact assignInOrder_nil ⟨σ,H,I,h⟩
theorem wF{e:Expr}{es:List Expr}{t:TG}{u:TGs}(h1:PG X e t)(h2:PGs X es u)
  (hs:(assignEach (e ::es) X.env).map (·.2)=assign e X.env ::(assignEach es X.env).map (·.2):=by rfl):PGs X (e ::es) (tO t u):=by
 intro pins s σ H vs us Q I r h;obtain⟨v,vr,e1,h⟩:=h;subst e1
 cases r with
 | cons r rr=>
   rw[hs];refine assignInOrder_cons (thn (h1 pins s σ H _ _ _ I r h) fun _ s1 ⟨σ1,H1,I1,q1⟩=>?_);exact h2 pins s1 σ1 H1 _ _ Q I1 rr q1
noncomputable def Bi(K:PySem.W.Frag)(n:Nat)(t:TGs):TG:=fun v σ H Q=>∃ a xs,v=.ref a /\ SqT K H a xs /\ xs.length=n /\ t xs σ H Q
theorem Bm{es:List Expr}{k:Nat}{t:TGs}{n:Nat}(hc:X.calm=true)(h:PGs X es t)
  (hn:(assignEach es X.env).length=n:=by rfl) (hst:(assignEach es X.env).findIdx? (·.1)=none:=by rfl):PG X (.Tuple es k pos) (Bi X.K n t):=by
 intro pins s σ H v u Q I r hw;obtain⟨a,xs,e1,hq,hl,hw⟩:=hw;subst e1;cases r;obtain⟨its,rv,ht,hz⟩:=I.tuple hq
 refine assign_Tuple_tuple (I.ok.hd hc) ht (by simp[hn,<- hl,rv.length]) hst fun h' hx=>?_
 have I1:Inv X pins σ H { s with heap:=h' }:=I.kept (t':=s.toks) fun b o e=>hx b o (Nat.ne_of_lt (Heap.lt_size e)) e
 exact h pins _ σ H xs _ Q I1 (by simpa using rv) hw
noncomputable def rK(te:TE)(g:TG):TS:=fun D σ H=>te σ H fun x H1=>g x σ H1 D.nx
theorem Aw{i:Nat}{x:Str}{e:Expr}{te:TE}{pos':Pos}(hN:X.N.Nodup)(hi:X.N[i]?=some x)(hx:Loc X.env.scope x)(he:PE X e te)(hs:swapsWith e (some (.Name x pos')) pos.line X.env=pure false:=by rfl)(hf:X.fn x=true \/ X.env.scope.names.lookup x=some .local:=by first|exact .inl rfl|exact .inr rfl|assumption):
  PS X (.Assign [.Name x pos'] e pos) (rK te (eU i)):=by
 intro pins s σ H D I h;refine wpAny_Assign_Name (thn (he pins s σ H _ I h) fun v s1 ⟨y,H1,I1,r1,q1⟩=>?_) hs;exact gY I1 hN hi hx r1 (fun s2 I2=>⟨_,H1,I2,q1⟩) hf
noncomputable def yN(i:Nat)(te:TE)(ti:TIp):TS:=fun D σ H=>∃ x,σ[i]?=some (some x) /\ te σ H fun y H1=>ti x y H1 fun z H2=>D.nx (σ.set i (some z)) H2
theorem zV{i:Nat}{x:Str}{e:Expr}{te:TE}{op:Operator}{ti:TIp}{pos':Pos}(hN:X.N.Nodup)(hi:X.N[i]?=some x)(hx:Loc X.env.scope x)(he:PE X e te)(ho:PIp X op ti)(hf:X.fn x=true \/ X.env.scope.names.lookup x=some .local:=by first|exact .inl rfl|exact .inr rfl|assumption):
  PS X (.AugAssign (.Name x pos') op e pos) (yN i te ti):=by
 intro pins s σ H D I h;obtain⟨v,e1,h⟩:=h;obtain⟨m,hn,hl⟩:=I.loc
 have vis:Vis X.env.scope x:=by rcases hx with k|k;exact .inl k;exact .inr (.inl k)
 obtain⟨u,r,l⟩:=hl i x v hi e1 vis;refine wpAny_AugAssign_Name ?_
 have go:wpAny (model X.prog X.w) X.A (eval e X.env) (fun w s₂=>wpAny (model X.prog X.w) X.A (inplaceOp op u w) (fun r s₃=>wpAny (model X.prog X.w) X.A (storeName X.env x r) (fun _=>SP X pins D .next) X.xe s₃) X.xe s₂) X.xe s:=by
  refine thn (he pins s σ H _ I h) fun w s1 ⟨y,H1,I1,r1,q1⟩=>?_
  refine thn (ho pins s1 σ H1 v y u w _ I1 r r1 q1) fun z s2 ⟨zv,H2,I2,r2,q2⟩=>?_
  exact gY I2 hN hi hx r2 (fun s3 I3=>⟨_,H2,I3,q2⟩) hf
 rcases l with⟨hk,hm⟩|⟨hk,c,hc,hcell⟩
 . exact wpAny_loadName_local I.ok.kind hk hn hm go
 . rcases hk with hk|hk
   . exact wpAny_loadName_cell I.ok.kind hk hc hcell go
   . rcases hx with k|k
     . have:X.env.scope.names.lookup x=some .free:=hk
       rw[k]at this;cases this
     . have:X.env.scope.names.lookup x=some .free:=hk
       rw[k]at this;cases this
noncomputable def ipI(f:Int->Int->Int):TIp:=fun x y H Q=>∃ i j,x=.int i /\ y=.int j /\ Q (.int (f i j)) H
theorem AK:PIp X .Add (ipI fun i j=>i+j):=by
 intro pins s σ H x y v u Q I r1 r2 h;obtain⟨i,j,e1,e2,q⟩:=h;subst e1;subst e2;obtain⟨t,rfl⟩:=r1;obtain⟨t',rfl⟩:=r2;exact iadd_int ⟨.int _,H,I.tok _,⟨_,rfl⟩,q⟩
end
section
variable{X:Cx}{pos:Pos}
noncomputable def rq(c:TT)(tb:TS):TS:=fun D σ H=>∃ W:Nat->St->Hp->Prop,(∃ m,W m σ H) /\ ∀ m σ H,W m σ H ->
 c σ H fun b H1=>if b=true then ∃ N:St->Hp->Prop,(∀ σ' H',N σ' H'->∃ m',m'<m /\ W m' σ' H') /\ tb { D with nx:=N,ct:=N,bk:=D.nx } σ H1 else D.nx σ H1
theorem wt{c:Expr}{body:List Stmt}{tc:TT}{tb:TS}(hp:PassesOwn (model X.prog X.w) X.A X.env X.xe)(hc:PT X c tc)(hb:PSs X body tb):PS X (.While c body [] pos) (rq tc tb):=by
 intro pins s σ H D I h;obtain⟨W,⟨m0,w0⟩,turn⟩:=h;refine wpAny_While (codeAny_whileLoop (fun n s'=>∃ σ' H',Inv X pins σ' H' s' /\ W n σ' H') ?_ m0 ⟨σ,H,I,w0⟩)
 rintro n s1 ⟨σ1,H1,I1,w1⟩
 refine wpAny_passesOwn hp (thn (hc pins s1 σ1 H1 _ I1 (turn n σ1 H1 w1)) fun b s2 ⟨H2,I2,q2⟩=>?_)
 cases b with
 | true=>
   obtain⟨N,hN,q2⟩:=q2;rw[if_pos rfl];refine wpAny_passesOwn hp (thn (hb pins s2 σ1 H2 _ I2 q2) fun f s3 q3=>?_)
   cases f with
   | next=>
     obtain⟨σ3,H3,I3,n3⟩:=q3;obtain⟨m',hm,w3⟩:=hN σ3 H3 n3
     exact⟨m',hm,σ3,H3,I3,w3⟩
   | cont=>
     obtain⟨σ3,H3,I3,n3⟩:=q3;obtain⟨m',hm,w3⟩:=hN σ3 H3 n3
     exact⟨m',hm,σ3,H3,I3,w3⟩
   |brk=>exact q3
   |ret v=>exact q3
 | false=>
   rw[if_neg Bool.false_ne_true];exact wpAny_execs_nil ⟨σ1,H2,I2,q2⟩
end
structure It where
 go:Nat->Hp->Prop
 yld:Nat->Hp->V->Hp->Prop
 stop:Nat->Hp->Prop
noncomputable def lP(X:Cx)(pins:List (Addr×Obj))(H:Hp)(b:Addr):Prop:=
 H b=none /\ b≠X.env.locals /\ b∉X.fs /\ (b∈X.ex \/ X.s₀.heap.objs.size<=b) /\ (∀ x c,X.env.cells.lookup x=some c->c≠b) /\ ∀ p∈X.pn++pins,p.1≠b
theorem Inv.tU{X:Cx}{pins:List (Addr×Obj)}{σ:St}{H H':Hp}{s:Shared}{b:Addr}(I:Inv X pins σ H s)(hb:s.heap.objs.size<=b)(hn:H' b=none):lP X pins H' b:=by
 refine⟨hn,Nat.ne_of_gt (Nat.lt_of_lt_of_le I.lt hb),I.Eg hb,.inr (Nat.le_trans I.sz hb),fun x c e z=>?_,fun p hp z=>?_⟩
 . obtain⟨v,q⟩:=I.cell x c e;exact absurd (Nat.lt_of_lt_of_le q.lt (by rw[z];exact hb)) (Nat.lt_irrefl _)
 . exact absurd (Nat.lt_of_lt_of_le (Heap.lt_size (I.pin p hp).1) (by rw[z];exact hb)) (Nat.lt_irrefl _)
structure Turn(P:Program)(w:World)(K:PySem.W.Frag)(tg:Expr)(J:It)(fp:List Addr)(it:Addr)(tn:Nat->Heap->Prop):Prop where
 mem:it∈fp
 obj:∀ i h,tn i h->∀ b∈fp,∃ o,h.get? b=some o /\ ∀ v,o.data≠.cell v
 keep:∀ i h h',tn i h->(∀ b∈fp,∀ o,h.get? b=some o->h'.get? b=some o)->tn i h'
 item:∀(X:Cx),X.prog=P->X.w=w->X.K=K->X.calm=true->∀(i:Nat) (pins:List (Addr×Obj)) (s:Shared) (σ:St) (H:Hp) (E:Value->Shared->Prop),Inv X pins σ H s->(∀ b∈fp,lP X pins H b)->tn i s.heap->J.go i H ->
  wpAny (model P w) X.A (pyNext (.ref it)) (fun r s1=>∃ u,r=some u /\
   wpAny (model P w) X.A (letOwnedTupleGo tg (.ref it) u) (fun _ s2=>∃ x H',Inv X pins σ H' s2 /\ RelV x u /\ J.yld i H x H' /\ tn (i+1) s2.heap /\ ∀ b∈fp,H' b=none) E s1) E s
 done:∀(X:Cx),X.prog=P->X.w=w->X.K=K->X.calm=true->∀(i:Nat) (pins:List (Addr×Obj)) (s:Shared) (σ:St) (H:Hp) (E:Value->Shared->Prop),Inv X pins σ H s->(∀ b∈fp,lP X pins H b)->tn i s.heap->J.stop i H ->
  wpAny (model P w) X.A (pyNext (.ref it)) (fun r s1=>r=none /\ Inv X pins σ H s1) E s
 self:∀(A:Around) (i:Nat) (s:Shared) (Q:Value->Shared->Prop) (E:Value->Shared->Prop),tn i s.heap->Q (.ref it) s->wpAny (model P w) A (pyIter (.ref it)) Q E s
abbrev TI:=St->Hp->(It->Hp->Prop)->Prop
noncomputable def PIE(X:Cx)(pins:List (Addr×Obj))(σ:St)(tg:Expr)(R:It->Hp->Prop)(itv:Value)(s2:Shared):Prop:=
 ∃(it:Addr) (fp:List Addr) (tn:Nat->Heap->Prop) (J:It) (H':Hp),itv=.ref it /\ Inv X pins σ H' s2 /\ Turn X.prog X.w X.K tg J fp it tn /\ tn 0 s2.heap /\ (∀ b∈fp,lP X pins H' b) /\ R J H'
noncomputable def PI(X:Cx)(tg iter:Expr)(wi:TI):Prop:=
 ∀(pins:List (Addr×Obj)) (s:Shared) (σ:St) (H:Hp) (R:It->Hp->Prop),Inv X pins σ H s->wi σ H R ->
   wpAny (model X.prog X.w) X.A (eval iter X.env) (fun v s1=>wpAny (model X.prog X.w) X.A (pyIter v) (PIE X pins σ tg R) X.xe s1) X.xe s
theorem vE{M:Model}{A:Around}{E:Value->Shared->Prop}{s:Shared}{tg:Expr}{it:Addr}{u:Value}{o:Obj}{n:String}{vs:Array Value}{Q:Unit->Shared->Prop}(ho:s.heap.get? it=some o)(hc:o.cls=.type n)(hd:o.data=.fields vs)
  (hn:["enumerate","zip","dict_itemiterator","dict_reverseitemiterator","odict_iterator","itertools.zip_longest","itertools.pairwise"].contains n=false) (hQ:Q () s):wpAny M A (letOwnedTupleGo tg (.ref it) u) Q E s:=by
 unfold letOwnedTupleGo
 cases tg<;>first
  |exact wpAny_pure hQ
  | (cases u <;> first
      |exact wpAny_pure hQ
      | (refine wpAny_bind (wpAny_load ho ?_)
         rw[hc,hd];show wpAny M A (if(["enumerate","zip","dict_itemiterator","dict_reverseitemiterator","odict_iterator","itertools.zip_longest","itertools.pairwise"].contains n&&vs[0]?==some (rawInt _))=true then _ else _) Q E s;rw[if_neg (by intro h;rw[hn,Bool.false_and]at h;cases h)]
         exact wpAny_pure hQ))
noncomputable def Itl(K:PySem.W.Frag)(a:Addr):It:=
 ⟨fun i H=>∃ xs x,SqL K H a xs /\ xs[i]?=some x,fun i H x H'=>H'=H /\ ∀ xs,SqL K H a xs->xs[i]?=some x,fun i H=>∃ xs,SqL K H a xs /\ xs.length<=i⟩
noncomputable def Itt(K:PySem.W.Frag)(a:Addr):It:=
 ⟨fun i H=>∃ xs x,SqT K H a xs /\ xs[i]?=some x,fun i H x H'=>H'=H /\ ∀ xs,SqT K H a xs->xs[i]?=some x,fun i H=>∃ xs,SqT K H a xs /\ xs.length<=i⟩
noncomputable def Itr(lo:Int)(n:Nat):It:=⟨fun i _=>i<n,fun i H x H'=>H'=H /\ x=.int (lo+i),fun i _=>n<=i⟩
theorem nI{P:Program}{w:World}{K:PySem.W.Frag}{tg:Expr}(a it:Addr):Turn P w K tg (Itl K a) [it] it (fun i h=>h.IsListIter it a i) where
 mem:=by simp
 obj:=fun i h st b hb=>by
  have e:b=it:=by simpa using hb
  subst e;obtain⟨o,e,c,d⟩:=st
  exact⟨o,e,fun v z=>by rw[d]at z;cases z⟩
 keep:=fun i h h' st k=>st.at fun o e=>k it (by simp) o e
 item:=by
  intro X hP hw hK hc i pins s σ H E I hf st hg;subst hP hw hK;obtain⟨xs,x,hq,hx⟩:=hg;obtain⟨its,rv,p,hz⟩:=I.list hq;obtain⟨u,hu,ru⟩:=rv.get hx;obtain⟨f0,f1,f2,f3,f4,f5⟩:=hf it (by simp)
  refine wpAny_pyNext_list_item st p.isList (x:=u) (by simpa using hu) fun h' st' sb=>?_
  have I1:Inv X pins σ H { s with heap:=h' }:=I.turned (t':=s.toks) (fun b o hb e=>(sb.2 b hb).trans e) f0 f1 f3 f4 f5
  obtain⟨o,e,c,d⟩:=id st'
  exact⟨u,rfl,vE (s:={ s with heap:=h' }) e c d (by decide) ⟨x,H,I1,ru,⟨rfl,fun ys hy=>by rw[I.pW hy hq];exact hx⟩,st',fun b hb=>(hf b hb).1⟩⟩
 done:=by
  intro X hP hw hK hc i pins s σ H E I hf st hg;subst hP hw hK;obtain⟨xs,hq,hx⟩:=hg;obtain⟨its,rv,p,hz⟩:=I.list hq;obtain⟨f0,f1,f2,f3,f4,f5⟩:=hf it (by simp);have hl:=rv.length
  exact wpAny_pyNext_list_end (I.ok.hd hc) st p.isList (by simp;omega) fun h' eb=>⟨rfl,I.turned (t':=s.toks) (fun b o hb e=>eb b o hb e) f0 f1 f3 f4 f5⟩
 self:=fun _ _ _ _ _ st h=>wpAny_pyIter_listiter st h
theorem kS{P:Program}{w:World}{K:PySem.W.Frag}{tg:Expr}(a it:Addr):Turn P w K tg (Itt K a) [it] it (fun i h=>h.IsTupleIter it a i) where
 mem:=by simp
 obj:=fun i h st b hb=>by
  have e:b=it:=by simpa using hb
  subst e;obtain⟨o,e,c,d⟩:=st
  exact⟨o,e,fun v z=>by rw[d]at z;cases z⟩
 keep:=fun i h h' st k=>st.at fun o e=>k it (by simp) o e
 item:=by
  intro X hP hw hK hc i pins s σ H E I hf st hg;subst hP hw hK;obtain⟨xs,x,hq,hx⟩:=hg;obtain⟨its,rv,p,hz⟩:=I.tuple hq;obtain⟨u,hu,ru⟩:=rv.get hx;obtain⟨f0,f1,f2,f3,f4,f5⟩:=hf it (by simp)
  refine wpAny_pyNext_tuple_item st (show s.heap.IsTuple a its.toArray from p) (x:=u) (by simpa using hu) fun h' st' sb=>?_
  have I1:Inv X pins σ H { s with heap:=h' }:=I.turned (t':=s.toks) (fun b o hb e=>(sb.2 b hb).trans e) f0 f1 f3 f4 f5
  obtain⟨o,e,c,d⟩:=id st'
  exact⟨u,rfl,vE (s:={ s with heap:=h' }) e c d (by decide) ⟨x,H,I1,ru,⟨rfl,fun ys hy=>by rw[I.uG hy hq];exact hx⟩,st',fun b hb=>(hf b hb).1⟩⟩
 done:=by
  intro X hP hw hK hc i pins s σ H E I hf st hg;subst hP hw hK;obtain⟨xs,hq,hx⟩:=hg;obtain⟨its,rv,p,hz⟩:=I.tuple hq;obtain⟨f0,f1,f2,f3,f4,f5⟩:=hf it (by simp);have hl:=rv.length
  exact wpAny_pyNext_tuple_end (I.ok.hd hc) st (show s.heap.IsTuple a its.toArray from p) (by simp;omega) fun h' eb=>⟨rfl,I.turned (t':=s.toks) (fun b o hb e=>eb b o hb e) f0 f1 f3 f4 f5⟩
 self:=fun _ _ _ _ _ st h=>wpAny_pyIter_tupleiter st h
theorem rZ{P:Program}{w:World}{K:PySem.W.Frag}{tg:Expr}(it:Addr)(lo:Int)(n:Nat):Turn P w K tg (Itr lo n) [it] it (fun i h=>IsRangeIter h it (lo+(i:Nat)*1) ((n:Int) - (i:Nat)) 1) where
 mem:=by simp
 obj:=fun i h st b hb=>by
  have e:b=it:=by simpa using hb
  subst e
  exact⟨_,st,fun v z=>by
   have z':Data.fields _=Data.cell v:=z
   cases z'⟩
 keep:=fun i h h' st k=>k it (by simp) _ st
 item:=by
  intro X hP hw hK hc i pins s σ H E I hf st hg;subst hP hw hK;obtain⟨f0,f1,f2,f3,f4,f5⟩:=hf it (by simp);have W:=Walks.range (prog:=X.prog) (w:=X.w) (I.ok.hd hc) it lo 1 n
  refine W.item i s _ _ hg st fun v h' tk hv st' kk=>?_
  obtain⟨t,rfl⟩:=hv
  have I1:Inv X pins σ H { s with heap:=h',toks:=tk }:=I.turned (fun b o hb e=>kk b o (by simpa using hb) e) f0 f1 f3 f4 f5
  refine⟨_,rfl,vE (s:={ s with heap:=h',toks:=tk }) (n:="range_iterator") st' rfl rfl (by decide) ⟨.int (lo+i),H,I1,⟨t,?_⟩,⟨rfl,rfl⟩,st',fun b hb=>(hf b hb).1⟩⟩
  rw[Int.mul_one]
 done:=by
  intro X hP hw hK hc i pins s σ H E I hf st hg;subst hP hw hK;obtain⟨f0,f1,f2,f3,f4,f5⟩:=hf it (by simp)
  exact wpAny_pyNext_range_end (I.ok.hd hc) st (by have:n<=i:=hg;omega) fun h' eb=>⟨rfl,I.turned (t':=s.toks) (fun b o hb e=>eb b o hb e) f0 f1 f3 f4 f5⟩
 self:=fun _ _ _ _ _ st h=>wpAny_pyIter_rangeiter st h
section
variable{X:Cx}{tg:Expr}
noncomputable def v5(K:PySem.W.Frag)(tl:TE):TI:=fun σ H R=>tl σ H fun x H1=>∃ a,x=.ref a /\ (∃ xs,SqL K H1 a xs) /\ R (Itl K a) H1
noncomputable def zK(K:PySem.W.Frag)(tl:TE):TI:=fun σ H R=>tl σ H fun x H1=>∃ a,x=.ref a /\ (∃ xs,SqT K H1 a xs) /\ R (Itt K a) H1
theorem yK{l:Expr}{tl:TE}(hl:PE X l tl):PI X tg l (v5 X.K tl):=by
 intro pins s σ H R I h
 refine thn (hl pins s σ H _ I h) fun v s1 ⟨x,H1,I1,r1,q1⟩=>?_
 obtain⟨a,e,⟨xs,hq⟩,q⟩:=q1;subst e;cases r1;obtain⟨its,rv,p,hz⟩:=I1.list hq;refine wpAny_pyIter_list p.isList ?_
 refine⟨s1.heap.objs.size,[s1.heap.objs.size],_,_,H1,rfl,I1.kept (t':=s1.toks) fun b o e=>Heap.get?_push_of_some _ e,nI a _,⟨_,Heap.get?_push_size _ rfl,rfl,rfl⟩,fun b hb=>?_,q⟩
 have e:b=s1.heap.objs.size:=by simpa using hb
 subst e;exact I1.tU (Nat.le_refl _) (I1.hok.fresh (Nat.le_refl _))
theorem Bt{l:Expr}{tl:TE}(hl:PE X l tl):PI X tg l (zK X.K tl):=by
 intro pins s σ H R I h
 refine thn (hl pins s σ H _ I h) fun v s1 ⟨x,H1,I1,r1,q1⟩=>?_
 obtain⟨a,e,⟨xs,hq⟩,q⟩:=q1;subst e;cases r1;obtain⟨its,rv,p,hz⟩:=I1.tuple hq;refine wpAny_pyIter_tuple (show s1.heap.IsTuple a its.toArray from p) ?_
 refine⟨s1.heap.objs.size,[s1.heap.objs.size],_,_,H1,rfl,I1.kept (t':=s1.toks) fun b o e=>Heap.get?_push_of_some _ e,kS a _,⟨_,Heap.get?_push_size _ rfl,rfl,rfl⟩,fun b hb=>?_,q⟩
 have e:b=s1.heap.objs.size:=by simpa using hb
 subst e;exact I1.tU (Nat.le_refl _) (I1.hok.fresh (Nat.le_refl _))
theorem u5{pins:List (Addr×Obj)}{σ:St}{H:Hp}{s:Shared}{R:It->Hp->Prop}{E:Value->Shared->Prop}{lo hi:Int}{t u v:Tok}{tk:Nat}(I:Inv X pins σ H s)(h1:-(2 ^ 62)<=lo)(h2:lo<2 ^ 62)(h3:-(2 ^ 62)<=hi)(h4:hi<2 ^ 62)
  (q:R (Itr lo (hi - lo).toNat) H):wpAny (model X.prog X.w) X.A (pyIter (.ref s.heap.objs.size)) (PIE X pins σ tg R) E { s with heap:=s.heap.push { cls:=.type "range",data:=.fields #[.int lo t,.int hi u,.int 1 v] },toks:=tk }:=by
 refine wpAny_pyIter_range (IsRange.new ..) (small_one h1 h2 h3 h4) ?_
 have I1:Inv X pins σ H { s with heap:=s.heap.push { cls:=.type "range",data:=.fields #[.int lo t,.int hi u,.int 1 v] },toks:=tk }:=I.kept fun b o e=>Heap.get?_push_of_some _ e
 refine⟨(s.heap.push { cls:=.type "range",data:=.fields #[.int lo t,.int hi u,.int 1 v] }).objs.size,[(s.heap.push { cls:=.type "range",data:=.fields #[.int lo t,.int hi u,.int 1 v] }).objs.size],_,_,H,rfl,
  I1.kept (t':=tk) fun b o e=>Heap.get?_push_of_some _ e,rZ _ lo (hi - lo).toNat,?_,fun b hb=>?_,q⟩
 . have e1:lo+((0:Nat):Int)*1=lo:=by simp
   have e2:(((hi - lo).toNat:Nat):Int) - ((0:Nat):Int)=Builtin.Range.rangeSize lo hi 1:=by rw[rangeSize_one];split<;>omega
   show IsRangeIter _ _ (lo+((0:Nat):Int)*1) ((((hi - lo).toNat:Nat):Int) - ((0:Nat):Int)) 1;rw[e1,e2];exact Heap.get?_push_size _ rfl
 . have e:b=(s.heap.push { cls:=.type "range",data:=.fields #[.int lo t,.int hi u,.int 1 v] }).objs.size:=by simpa using hb
   subst e;exact I1.tU (Nat.le_refl _) (I1.hok.fresh (Nat.le_refl _))
noncomputable def sH(ta:TA):TI:=fun σ H R=>ta σ H fun vs H1=>∃ j:Int,vs=[.int j] /\ -(2 ^ 62)<=j /\ j<2 ^ 62 /\ R (Itr 0 j.toNat) H1
theorem uw{a:Expr}{ta:TA}{p pos:Pos}(hg:Gl X "range")(hm:X.mg "range" = none)(ha:PA X [a] ta)(hs:starEach [a] X.env=[(false,eval a X.env)]:=by rfl):PI X tg (.Call (.Name "range" p) [a] [] pos) (sH ta):=by
 intro pins s σ H R I h;refine Call_ (my I hg hm boot_range (PyProof.Rows.callWith_type1 (thn (ha pos pins s σ H _ I h) fun us s1 ⟨vs,H1,I1,r1,q1⟩=>?_) hs rfl));obtain⟨j,e,q1,q2,q⟩:=q1;subst e
 cases r1 with
 | cons r rr=>
   cases rr;obtain⟨t,rfl⟩:=r;exact call_range_1 (u5 I1 (by omega) (by omega) q1 q2 (by simpa using q))
noncomputable def xb(wi:TI)(g:TG)(tb:TS):TS:=fun D σ H=>wi σ H fun J H1=>∃ W:Nat->Nat->St->Hp->Prop,(∃ m,W 0 m σ H1) /\ ∀ i m σ H,W i m σ H ->
 (J.stop i H /\ D.nx σ H) \/ (J.go i H /\ ∃ N:St->Hp->Prop,(∀ σ' H',N σ' H'->∃ m',m'<m /\ W (i+1) m' σ' H') /\ ∀ x H',J.yld i H x H'->g x σ H' fun σ2 H2=>tb { D with nx:=N,ct:=N,bk:=D.nx } σ2 H2)
noncomputable def n5(fp:List Addr)(h:Heap):List (Addr×Obj):=fp.filterMap fun b=>(h.get? b).map fun o=>(b,o)
theorem gc{fp:List Addr}{h:Heap}{b:Addr}{o:Obj}(hb:b∈fp)(e:h.get? b=some o):(b,o)∈n5 fp h:=List.mem_filterMap.mpr ⟨b,hb,by rw[e];rfl⟩
theorem tV{fp:List Addr}{h:Heap}{p:Addr×Obj}(hp:p∈n5 fp h):p.1∈fp /\ h.get? p.1=some p.2:=by
 obtain⟨b,hb,e⟩:=List.mem_filterMap.mp hp
 cases q:h.get? b with
 |none=>rw[q]at e;cases e
 | some o=>
   rw[q]at e
   have e':(b,o)=p:=Option.some.inj e
   subst e'
   exact⟨hb,q⟩
theorem Inv.pinned{pins:List (Addr×Obj)}{σ:St}{H:Hp}{s:Shared}{fp:List Addr}(I:Inv X pins σ H s)(hf:∀ b∈fp,lP X pins H b)(ho:∀ b∈fp,∃ o,s.heap.get? b=some o /\ ∀ v,o.data≠.cell v):Inv X (pins++n5 fp s.heap) σ H s:=
 I.tB fun p hp=>(List.mem_append.mp hp).elim (fun z=>I.pin p (List.mem_append_right _ z)) fun z=>by
  obtain⟨hb,e⟩:=tV z;obtain⟨f0,f1,f2,_⟩:=hf p.1 hb;obtain⟨o,e',d⟩:=ho p.1 hb;rw[e]at e';cases e'
  exact⟨e,f0,f1,f2,d⟩
theorem Inv.jv{pins pl:List (Addr×Obj)}{σ:St}{H:Hp}{s:Shared}(I:Inv X (pins++pl) σ H s):Inv X pins σ H s:=I.tB fun p hp=>I.pin p (List.mem_append_right _ (List.mem_append_left _ hp))
theorem Al{iter:Expr}{body:List Stmt}{wi:TI}{g:TG}{tb:TS}{pos:Pos}(hp:PassesOwn (model X.prog X.w) X.A X.env X.xe)(hc:X.calm=true)(hi:PI X tg iter wi)(hg:PG X tg g)(hb:PSs X body tb)
  (hs:∀ x,foldedSetIterable iter X.env x=pure x:=by intro _;rfl):PS X (.For tg iter body [] pos) (xb wi g tb):=by
 intro pins s σ H D I h;refine wpAny_For (thn (hi pins s σ H _ I h) fun v s1 h1=>thn h1 fun itv s2 h2=>?_) hs;obtain⟨it,fp,tn,J,H2,e,I2,T,st2,f2,W,⟨m0,w0⟩,turn⟩:=h2;subst e
 have stat:∀{H':Hp},(∀ b∈fp,H' b=none)->∀ b∈fp,lP X pins H' b:=fun hn b hb=>⟨hn b hb,(f2 b hb).2⟩
 refine codeAny_forLoop_any (fun n s'=>∃ i σ' H',Inv X pins σ' H' s' /\ tn i s'.heap /\ (∀ b∈fp,H' b=none) /\ W i n σ' H') ?_ m0 ⟨0,σ,H2,I2,st2,fun b hb=>(f2 b hb).1,w0⟩
 rintro n s3 ⟨i,σ3,H3,I3,st3,fr3,w3⟩
 rcases turn i n σ3 H3 w3 with⟨stop,qn⟩|⟨go,N,hN,step⟩
 . refine wpAny_passesOwn hp (thn (T.done X rfl rfl rfl hc i pins s3 σ3 H3 X.xe I3 (stat fr3) st3 stop) fun r s4 ⟨hr,I4⟩=>?_);subst hr;exact wpAny_execs_nil ⟨σ3,H3,I4,qn⟩
 . refine wpAny_passesOwn hp (thn (T.item X rfl rfl rfl hc i pins s3 σ3 H3 X.xe I3 (stat fr3) st3 go) fun r s4 ⟨u,hr,h4⟩=>?_);subst hr;refine wpAny_passesOwn hp (thn h4 fun _ s5 ⟨x,H5,I5,r5,y5,st5,fr5⟩=>?_)
   have I5':=I5.pinned (stat fr5) (T.obj _ _ st5)
   refine wpAny_passesOwn hp (thn (hg _ s5 σ3 H5 x u _ I5' r5 (step x H5 y5)) fun _ s6 ⟨σ6,H6,I6,q6⟩=>?_);refine wpAny_passesOwn hp (thn (hb _ s6 σ6 H6 _ I6 q6) fun f s7 q7=>?_)
   have again:∀{σ7:St} {H7:Hp},Inv X (pins++n5 fp s5.heap) σ7 H7 s7->N σ7 H7->∃ m,m<n /\ ∃ i σ' H',Inv X pins σ' H' s7 /\ tn i s7.heap /\ (∀ b∈fp,H' b=none) /\ W i m σ' H':=fun {σ7 H7} I7 n7=>by
    obtain⟨m',hm,w7⟩:=hN σ7 H7 n7
    refine⟨m',hm,i+1,σ7,H7,I7.jv,T.keep _ _ _ st5 fun b hb o e=>(I7.pin (b,o) (List.mem_append_right _ (List.mem_append_right _ (gc hb e)))).1,fun b hb=>?_,w7⟩
    obtain⟨o,e,d⟩:=T.obj _ _ st5 b hb
    exact(I7.pin (b,o) (List.mem_append_right _ (List.mem_append_right _ (gc hb e)))).2.1
   cases f with
   |next=>obtain⟨σ7,H7,I7,n7⟩:=q7;exact again I7 n7
   |cont=>obtain⟨σ7,H7,I7,n7⟩:=q7;exact again I7 n7
   |brk=>obtain⟨σ7,H7,I7,q7⟩:=q7;exact⟨σ7,H7,I7.jv,q7⟩
   |ret v=>obtain⟨x7,σ7,H7,I7,r7,q7⟩:=q7;exact⟨x7,σ7,H7,I7.jv,r7,q7⟩
end
theorem xa{K:PySem.W.Frag}{a:Addr}{xs:List V}{g:TG}{tb:TS}{D:Ends}{σ:St}{H:Hp}(Pv:Nat->St->Hp->Prop)(h0:Pv 0 σ H)(hl:∀ i σ H,i<=xs.length->Pv i σ H->SqL K H a xs)
  (hs:∀ i x σ H,xs[i]?=some x->Pv i σ H->g x σ H fun σ2 H2=>tb { D with nx:=Pv (i+1),ct:=Pv (i+1),bk:=D.nx } σ2 H2) (hd:∀ σ H,Pv xs.length σ H->D.nx σ H):
  ∃ W:Nat->Nat->St->Hp->Prop,(∃ m,W 0 m σ H) /\ ∀ i m σ H,W i m σ H ->
    ((Itl K a).stop i H /\ D.nx σ H) \/ ((Itl K a).go i H /\ ∃ N:St->Hp->Prop,(∀ σ' H',N σ' H'->∃ m',m'<m /\ W (i+1) m' σ' H') /\ ∀ x H',(Itl K a).yld i H x H'->g x σ H' fun σ2 H2=>tb { D with nx:=N,ct:=N,bk:=D.nx } σ2 H2):=by
 refine⟨fun i m σ H=>m=xs.length - i /\ i<=xs.length /\ Pv i σ H,⟨xs.length,by simp,Nat.zero_le _,h0⟩,?_⟩
 rintro i m σ H ⟨rfl,hi,p⟩
 have q:=hl i σ H hi p
 by_cases hlt:i<xs.length
 . refine .inr ⟨⟨xs,xs[i],q,by simp[hlt]⟩,Pv (i+1),fun σ' H' p'=>⟨xs.length - (i+1),by omega,rfl,hlt,p'⟩,fun x H' y=>?_⟩;obtain⟨e,y⟩:=y;subst e;exact hs i x σ _ (y xs q) p
 . have e:i=xs.length:=by omega
   subst e;exact .inl ⟨⟨xs,q,Nat.le_refl _⟩,hd σ H p⟩
theorem xq{K:PySem.W.Frag}{a:Addr}{xs:List V}{g:TG}{tb:TS}{D:Ends}{σ:St}{H:Hp}(Pv:Nat->St->Hp->Prop)(h0:Pv 0 σ H)(hl:∀ i σ H,i<=xs.length->Pv i σ H->SqT K H a xs)
  (hs:∀ i x σ H,xs[i]?=some x->Pv i σ H->g x σ H fun σ2 H2=>tb { D with nx:=Pv (i+1),ct:=Pv (i+1),bk:=D.nx } σ2 H2) (hd:∀ σ H,Pv xs.length σ H->D.nx σ H):
  ∃ W:Nat->Nat->St->Hp->Prop,(∃ m,W 0 m σ H) /\ ∀ i m σ H,W i m σ H ->
    ((Itt K a).stop i H /\ D.nx σ H) \/ ((Itt K a).go i H /\ ∃ N:St->Hp->Prop,(∀ σ' H',N σ' H'->∃ m',m'<m /\ W (i+1) m' σ' H') /\ ∀ x H',(Itt K a).yld i H x H'->g x σ H' fun σ2 H2=>tb { D with nx:=N,ct:=N,bk:=D.nx } σ2 H2):=by
 refine⟨fun i m σ H=>m=xs.length - i /\ i<=xs.length /\ Pv i σ H,⟨xs.length,by simp,Nat.zero_le _,h0⟩,?_⟩
 rintro i m σ H ⟨rfl,hi,p⟩
 have q:=hl i σ H hi p
 by_cases hlt:i<xs.length
 . refine .inr ⟨⟨xs,xs[i],q,by simp[hlt]⟩,Pv (i+1),fun σ' H' p'=>⟨xs.length - (i+1),by omega,rfl,hlt,p'⟩,fun x H' y=>?_⟩;obtain⟨e,y⟩:=y;subst e;exact hs i x σ _ (y xs q) p
 . have e:i=xs.length:=by omega
   subst e;exact .inl ⟨⟨xs,q,Nat.le_refl _⟩,hd σ H p⟩
theorem uh{lo:Int}{n:Nat}{g:TG}{tb:TS}{D:Ends}{σ:St}{H:Hp}(Pv:Nat->St->Hp->Prop)(h0:Pv 0 σ H)
  (hs:∀ i σ H,i<n->Pv i σ H->g (.int (lo+i)) σ H fun σ2 H2=>tb { D with nx:=Pv (i+1),ct:=Pv (i+1),bk:=D.nx } σ2 H2) (hd:∀ σ H,Pv n σ H->D.nx σ H):
  ∃ W:Nat->Nat->St->Hp->Prop,(∃ m,W 0 m σ H) /\ ∀ i m σ H,W i m σ H ->
    ((Itr lo n).stop i H /\ D.nx σ H) \/ ((Itr lo n).go i H /\ ∃ N:St->Hp->Prop,(∀ σ' H',N σ' H'->∃ m',m'<m /\ W (i+1) m' σ' H') /\ ∀ x H',(Itr lo n).yld i H x H'->g x σ H' fun σ2 H2=>tb { D with nx:=N,ct:=N,bk:=D.nx } σ2 H2):=by
 refine⟨fun i m σ H=>m=n - i /\ i<=n /\ Pv i σ H,⟨n,by simp,Nat.zero_le _,h0⟩,?_⟩
 rintro i m σ H ⟨rfl,hi,p⟩
 by_cases hlt:i<n
 . refine .inr ⟨hlt,Pv (i+1),fun σ' H' p'=>⟨n - (i+1),by omega,rfl,hlt,p'⟩,fun x H' y=>?_⟩;obtain⟨e,y⟩:=y;subst e y;exact hs i σ _ hlt p
 . have e:i=n:=by omega
   subst e;exact .inl ⟨Nat.le_refl _,hd σ H p⟩
abbrev R2:=V->V->Hp->VK->Prop
noncomputable def OpR(X:Cx)(f:Value->Value->Sem Value)(r:R2):Prop:=
 ∀(pins:List (Addr×Obj)) (s:Shared) (σ:St) (H:Hp) (x y:V) (v u:Value) (Q:VK),Inv X pins σ H s->RelV x v->RelV y u->r x y H Q ->
   wpAny (model X.prog X.w) X.A (f v u) (EP X pins σ Q) X.xe s
noncomputable def UnR(X:Cx)(f:Value->Sem Value)(r:V->Hp->VK->Prop):Prop:=
 ∀(pins:List (Addr×Obj)) (s:Shared) (σ:St) (H:Hp) (x:V) (v:Value) (Q:VK),Inv X pins σ H s->RelV x v->r x H Q ->
   wpAny (model X.prog X.w) X.A (f v) (EP X pins σ Q) X.xe s
noncomputable def gw(X:Cx)(f:Value)(r:List V->Hp->VK->Prop):Prop:=
 ∀(pins:List (Addr×Obj)) (s:Shared) (σ:St) (H:Hp) (xs:List V) (us:List Value) (Q:VK),Inv X pins σ H s->Vals xs us->r xs H Q ->
   wpAny (model X.prog X.w) X.A (call f us) (EP X pins σ Q) X.xe s
noncomputable def Ed(X:Cx)(r:V->Hp->(Bool->Hp->Prop)->Prop):Prop:=
 ∀(pins:List (Addr×Obj)) (s:Shared) (σ:St) (H:Hp) (x:V) (v:Value) (Q:Bool->Hp->Prop),Inv X pins σ H s->RelV x v->r x H Q ->
   wpAny (model X.prog X.w) X.A (truthy v) (TP X pins σ Q) X.xe s
noncomputable def tOp(r:R2)(ta tb:TE):TE:=fun σ H Q=>ta σ H fun x H1=>tb σ H1 fun y H2=>r x y H2 Q
noncomputable def tUn(r:V->Hp->VK->Prop)(ta:TE):TE:=fun σ H Q=>ta σ H fun x H1=>r x H1 Q
noncomputable def rI(C:Int->Int->Prop)(g:Int->Int->V):R2:=fun x y H Q=>∃ i j,x=.int i /\ y=.int j /\ C i j /\ Q (g i j) H
noncomputable def rI0(g:Int->Int->V):R2:=fun x y H Q=>∃ i j,x=.int i /\ y=.int j /\ Q (g i j) H
noncomputable def rU(g:Int->V):V->Hp->VK->Prop:=fun x H Q=>∃ i,x=.int i /\ Q (g i) H
section
variable{X:Cx}{a b c:Expr}{ta tb tc:TE}{pos:Pos}
theorem A6(ha:PE X a ta)(hb:PE X b tb){pins:List (Addr×Obj)}{s:Shared}{σ:St}{H:Hp}{R:V->V->Hp->Prop}(I:Inv X pins σ H s)
  (h:ta σ H fun x H1=>tb σ H1 fun y H2=>R x y H2) {Q:Value->Shared->Prop} {f:Value->Value->Sem Value}
  (hf:∀ v u s2 x y H2,Inv X pins σ H2 s2->RelV x v->RelV y u->R x y H2->wpAny (model X.prog X.w) X.A (f v u) Q X.xe s2):
  wpAny (model X.prog X.w) X.A (eval a X.env) (fun v s₁=>wpAny (model X.prog X.w) X.A (eval b X.env) (fun u s₂=>wpAny (model X.prog X.w) X.A (f v u) Q X.xe s₂) X.xe s₁) X.xe s:=by
 refine thn (ha pins s σ H _ I h) fun v s1 ⟨x,H1,I1,r1,q1⟩=>?_
 refine thn (hb pins s1 σ H1 _ I1 q1) fun u s2 ⟨y,H2,I2,r2,q2⟩=>?_
 exact hf v u s2 x y H2 I2 r1 r2 q2
theorem Cd{op:Operator}{r:R2}(ho:OpR X (binaryOp op) r)(ha:PE X a ta)(hb:PE X b tb):PE X (.BinOp a op b pos) (tOp r ta tb):=by
 intro pins s σ H Q I h;exact wpAny_BinOp (A6 ha hb I h fun v u s2 x y H2 I2 rx ry q=>ho pins s2 σ H2 x y v u Q I2 rx ry q)
theorem Cz{op:UnaryOp}{r:V->Hp->VK->Prop}(ho:UnR X (unaryOp op) r)(ha:PE X a ta):PE X (.UnaryOp op a pos) (tUn r ta):=by
 intro pins s σ H Q I h;exact UnaryOp_ (thn (ha pins s σ H _ I h) fun v s1 ⟨x,H1,I1,r1,q1⟩=>ho pins s1 σ H1 x v Q I1 r1 q1)
theorem opI{f:Value->Value->Sem Value}{C:Int->Int->Prop}{g:Int->Int->Int}
  (rule:∀(i j:Int) (t u:Tok) (s:Shared) (Q:Value->Shared->Prop) (E:Value->Shared->Prop),C i j->Q (.int (g i j) s.toks) { s with toks:=s.toks+1 }->wpAny (model X.prog X.w) X.A (f (.int i t) (.int j u)) Q E s):
  OpR X f (rI C fun i j=>.int (g i j)):=by
 intro pins s σ H x y v u Q I rx ry h;obtain⟨i,j,rfl,rfl,hc,q⟩:=h;obtain⟨t,rfl⟩:=rx;obtain⟨t',rfl⟩:=ry;exact rule i j t t' s _ _ hc ⟨.int (g i j),H,I.tok _,⟨_,rfl⟩,q⟩
theorem BU{f:Value->Value->Sem Value}{g:Int->Int->Int}
  (rule:∀(i j:Int) (t u:Tok) (s:Shared) (Q:Value->Shared->Prop) (E:Value->Shared->Prop),Q (.int (g i j) s.toks) { s with toks:=s.toks+1 }->wpAny (model X.prog X.w) X.A (f (.int i t) (.int j u)) Q E s):
  OpR X f (rI0 fun i j=>.int (g i j)):=by
 intro pins s σ H x y v u Q I rx ry h;obtain⟨i,j,rfl,rfl,q⟩:=h;obtain⟨t,rfl⟩:=rx;obtain⟨t',rfl⟩:=ry;exact rule i j t t' s _ _ ⟨.int (g i j),H,I.tok _,⟨_,rfl⟩,q⟩
theorem A0{f:Value->Value->Sem Value}{g:Int->Int->Bool}
  (rule:∀(i j:Int) (t u:Tok) (s:Shared) (Q:Value->Shared->Prop) (E:Value->Shared->Prop),Q (.bool (g i j)) s->wpAny (model X.prog X.w) X.A (f (.int i t) (.int j u)) Q E s):
  OpR X f (rI0 fun i j=>.bl (g i j)):=by
 intro pins s σ H x y v u Q I rx ry h;obtain⟨i,j,rfl,rfl,q⟩:=h;obtain⟨t,rfl⟩:=rx;obtain⟨t',rfl⟩:=ry;exact rule i j t t' s _ _ ⟨.bl (g i j),H,I,rfl,q⟩
noncomputable def AM(i j:Int):Prop:=0<j /\ j<1073741824
noncomputable def vT(i j:Int):Prop:=(-(2 ^ 64)<i /\ i<2 ^ 64) \/ (-(2 ^ 64)<j /\ j<2 ^ 64)
theorem vT.ok{i j:Int}(h:vT i j):IntMulOk i j:=by
 rcases h with⟨h1,h2⟩|⟨h1,h2⟩
 . exact .of_left (intBits_le_64 h1 h2)
 . exact .of_right (intBits_le_64 h1 h2)
theorem cm:OpR X (binaryOp .Add) (rI0 fun i j=>.int (i+j)):=BU fun _ _ _ _ _ _ _ q=>add_int q
theorem uZ:OpR X (binaryOp .Sub) (rI0 fun i j=>.int (i - j)):=BU fun _ _ _ _ _ _ _ q=>sub_int q
theorem lF:OpR X (binaryOp .Mult) (rI vT fun i j=>.int (i*j)):=opI fun _ _ _ _ _ _ _ hc q=>mul_int q hc.ok
theorem tP:OpR X (binaryOp .FloorDiv) (rI AM fun i j=>.int (i/j)):=opI fun i j _ _ _ _ _ hc q=>by
 have h1:(0:Int)<j:=hc.1
 have h2:j<1073741824:=hc.2
 exact floordiv_int (by omega) (by rw[Int.fdiv_eq_ediv_of_nonneg i (by omega)];exact q) (.inl (PyProof.noPylong_small (by omega)))
theorem eK:OpR X (binaryOp .Mod) (rI (fun _ j=>0<j) fun i j=>.int (i%j)):=opI fun i j _ _ _ _ _ hc q=>by
 have h1:(0:Int)<j:=hc
 exact mod_int' (by omega) (by rw[Int.fmod_eq_emod_of_nonneg i (by omega)];exact q)
theorem unI{f:Value->Sem Value}{g:Int->Int}
  (rule:∀(i:Int) (t:Tok) (s:Shared) (Q:Value->Shared->Prop) (E:Value->Shared->Prop),Q (.int (g i) s.toks) { s with toks:=s.toks+1 }->wpAny (model X.prog X.w) X.A (f (.int i t)) Q E s):
  UnR X f (rU fun i=>.int (g i)):=by
 intro pins s σ H x v Q I rx h;obtain⟨i,rfl,q⟩:=h;obtain⟨t,rfl⟩:=rx;exact rule i t s _ _ ⟨.int (g i),H,I.tok _,⟨_,rfl⟩,q⟩
theorem iP:UnR X (unaryOp .USub) (rU fun i=>.int (-i)):=unI fun _ _ _ _ _ q=>neg_int q
end
noncomputable def AR:V->V->Bool
 |.non,.non=>true|.non,.int _=>true|.int _,.non=>true|.non,.bl _=>true|.bl _,.non=>true|.non,.str _=>true|.str _,.non=>true
 |.int _,.int _=>true|.bl _,.bl _=>true|.str _,.str _=>true|.byt _,.byt _=>true
 |.int _,.str _=>true|.str _,.int _=>true|.bl _,.str _=>true|.str _,.bl _=>true
 |_,_=>false
noncomputable def rEq:R2:=fun x y H Q=>AR x y=true /\ Q (.bl (decide (x=y))) H
noncomputable def rNe:R2:=fun x y H Q=>AR x y=true /\ Q (.bl (!decide (x=y))) H
theorem tJ{i j:Int}:decide (V.int i=V.int j)=(i==j):=by
 rw[Bool.eq_iff_iff];simp
theorem xk{i j:Bool}:decide (V.bl i=V.bl j)=(i==j):=by
 rw[Bool.eq_iff_iff];simp
theorem sy{i j:Str}:decide (V.str i=V.str j)=(i==j):=by
 rw[Bool.eq_iff_iff];simp
theorem tF{i j:Array UInt8}:decide (V.byt i=V.byt j)=(i.toList==j.toList):=by
 rw[Bool.eq_iff_iff];cases i;cases j;simp
section
variable{X:Cx}{a b c:Expr}{ta tb tc:TE}{pos:Pos}
theorem bf{pins:List (Addr×Obj)}{σ:St}{H:Hp}{s:Shared}{Q:VK}{k k':Bool}(I:Inv X pins σ H s)(q:Q (.bl k) H)(e:k=k'):EP X pins σ Q (.bool k') s:=by
 subst e
 exact⟨.bl k,H,I,rfl,q⟩
theorem mx:OpR X (compareOp .Eq) rEq:=by
 intro pins s σ H x y v u Q I rx ry h;obtain⟨hs,q⟩:=h
 cases x with
 | non=>
   cases rx
   cases y with
   |non=>cases ry;exact PySem.EqNone.eq_none_none (bf I q (by simp))
   |bl j=>cases ry;exact PySem.EqNone.eq_none_bool (bf I q (by simp))
   |int j=>obtain⟨t',rfl⟩:=ry;exact PySem.EqNone.eq_none_int (bf I q (by simp))
   |str j=>obtain⟨t',rfl⟩:=ry;exact PySem.EqNone.eq_none_str (bf I q (by simp))
   |_=>exact absurd (show false=true from hs) Bool.false_ne_true
 | bl i=>
   cases rx
   cases y with
   |non=>cases ry;exact PySem.EqNone.eq_bool_none (bf I q (by simp))
   |bl j=>cases ry;exact eq_bool (bf I q xk)
   |str j=>obtain⟨t',rfl⟩:=ry;exact PySem.EqMixed.eq_bool_str (bf I q (by simp))
   |_=>exact absurd (show false=true from hs) Bool.false_ne_true
 | int i=>
   obtain⟨t,rfl⟩:=rx
   cases y with
   |non=>cases ry;exact PySem.EqNone.eq_int_none (bf I q (by simp))
   |int j=>obtain⟨t',rfl⟩:=ry;exact eq_int (bf I q tJ)
   |str j=>obtain⟨t',rfl⟩:=ry;exact PySem.EqMixed.eq_int_str (bf I q (by simp))
   |_=>exact absurd (show false=true from hs) Bool.false_ne_true
 | str i=>
   obtain⟨t,rfl⟩:=rx
   cases y with
   |non=>cases ry;exact PySem.EqNone.eq_str_none (bf I q (by simp))
   |bl j=>cases ry;exact PySem.EqMixed.eq_str_bool (bf I q (by simp))
   |int j=>obtain⟨t',rfl⟩:=ry;exact PySem.EqMixed.eq_str_int (bf I q (by simp))
   |str j=>obtain⟨t',rfl⟩:=ry;exact eq_str (bf I q sy)
   |_=>exact absurd (show false=true from hs) Bool.false_ne_true
 | byt i=>
   obtain⟨t,rfl⟩:=rx
   cases y with
   |byt j=>obtain⟨t',rfl⟩:=ry;exact PySem.W.eq_bytes (bf I q tF)
   |_=>exact absurd (show false=true from hs) Bool.false_ne_true
 |_=>cases y<;>exact absurd (show false=true from hs) Bool.false_ne_true
theorem tf:OpR X (compareOp .NotEq) rNe:=by
 intro pins s σ H x y v u Q I rx ry h;obtain⟨hs,q⟩:=h
 cases x with
 | non=>
   cases rx
   cases y with
   |non=>cases ry;exact PySem.EqNone.ne_none_none (bf I q (by simp))
   |bl j=>cases ry;exact PySem.EqNone.ne_none_bool (bf I q (by simp))
   |int j=>obtain⟨t',rfl⟩:=ry;exact PySem.EqNone.ne_none_int (bf I q (by simp))
   |str j=>obtain⟨t',rfl⟩:=ry;exact PySem.EqNone.ne_none_str (bf I q (by simp))
   |_=>exact absurd (show false=true from hs) Bool.false_ne_true
 | bl i=>
   cases rx
   cases y with
   |non=>cases ry;exact PySem.EqNone.ne_bool_none (bf I q (by simp))
   |bl j=>cases ry;exact ne_bool (bf I q (congrArg not xk))
   |str j=>obtain⟨t',rfl⟩:=ry;exact PySem.EqMixed.ne_bool_str (bf I q (by simp))
   |_=>exact absurd (show false=true from hs) Bool.false_ne_true
 | int i=>
   obtain⟨t,rfl⟩:=rx
   cases y with
   |non=>cases ry;exact PySem.EqNone.ne_int_none (bf I q (by simp))
   |int j=>obtain⟨t',rfl⟩:=ry;exact ne_int (bf I q (congrArg not tJ))
   |str j=>obtain⟨t',rfl⟩:=ry;exact PySem.EqMixed.ne_int_str (bf I q (by simp))
   |_=>exact absurd (show false=true from hs) Bool.false_ne_true
 | str i=>
   obtain⟨t,rfl⟩:=rx
   cases y with
   |non=>cases ry;exact PySem.EqNone.ne_str_none (bf I q (by simp))
   |bl j=>cases ry;exact PySem.EqMixed.ne_str_bool (bf I q (by simp))
   |int j=>obtain⟨t',rfl⟩:=ry;exact PySem.EqMixed.ne_str_int (bf I q (by simp))
   |str j=>obtain⟨t',rfl⟩:=ry;exact ne_str (bf I q (congrArg not sy))
   |_=>exact absurd (show false=true from hs) Bool.false_ne_true
 | byt i=>
   obtain⟨t,rfl⟩:=rx
   cases y with
   |byt j=>obtain⟨t',rfl⟩:=ry;exact PySem.W.ne_bytes (bf I q (congrArg not tF))
   |_=>exact absurd (show false=true from hs) Bool.false_ne_true
 |_=>cases y<;>exact absurd (show false=true from hs) Bool.false_ne_true
theorem nO:OpR X (compareOp .Lt) (rI0 fun i j=>.bl (decide (i<j))):=A0 fun _ _ _ _ _ _ _ q=>lt_int q
theorem p5:OpR X (compareOp .LtE) (rI0 fun i j=>.bl (decide (i<=j))):=A0 fun _ _ _ _ _ _ _ q=>le_int q
theorem qb:OpR X (compareOp .Gt) (rI0 fun i j=>.bl (decide (j<i))):=A0 fun _ _ _ _ _ _ _ q=>gt_int q
theorem vo:OpR X (compareOp .Is) (fun x y H Q=>y=.non /\ Q (.bl (decide (x=.non))) H):=by
 intro pins s σ H x y v u Q I rx ry h;obtain⟨rfl,q⟩:=h;cases ry;refine is_none_gen (bf I q ?_)
 cases x<;>first
  |(cases rx;rfl)
  |(obtain⟨t,rfl⟩:=rx;rfl)
theorem sW:OpR X (compareOp .IsNot) (fun x y H Q=>y=.non /\ Q (.bl (!decide (x=.non))) H):=by
 intro pins s σ H x y v u Q I rx ry h;obtain⟨rfl,q⟩:=h;cases ry;refine isnot_none_gen (bf I q ?_)
 cases x<;>first
  |(cases rx;rfl)
  |(obtain⟨t,rfl⟩:=rx;rfl)
theorem lr(b:Expr){op:CmpOp}(h:op≠.In:=by decide)(h2:op≠.NotIn:=by decide):behindInMarks op b=false:=by
 have e1:(op==CmpOp.In)=false:=by cases op<;>first|rfl|exact absurd rfl h
 have e2:(op==CmpOp.NotIn)=false:=by cases op<;>first|rfl|exact absurd rfl h2
 cases b<;>simp[behindInMarks,e1,e2]
theorem ym{op:CmpOp}{r:R2}(ho:OpR X (compareOp op) r)(ha:PE X a ta)(hb:PE X b tb)(hm:behindInMarks op b=false):PE X (.Compare a [op] [b] pos) (tOp r ta tb):=by
 intro pins s σ H Q I h;exact wpAny_Compare1 (A6 ha hb I h fun v u s2 x y H2 I2 rx ry q=>ho pins s2 σ H2 x y v u Q I2 rx ry q) hm
noncomputable def sE(t:TE):TT:=fun σ H Q=>t σ H fun x H'=>∃ k,x=.bl k /\ Q k H'
theorem xD{op:CmpOp}{r:R2}(ho:OpR X (compareOp op) r)(ha:PE X a ta)(hb:PE X b tb)(hm:behindInMarks op b=false):PT X (.Compare a [op] [b] pos) (sE (tOp r ta tb)):=by
 intro pins s σ H Q I h
 refine wpAny_isTrue_Compare1 (thn (ha pins s σ H _ I h) fun v s1 ⟨x,H1,I1,r1,q1⟩=>thn (hb pins s1 σ H1 _ I1 q1) fun u s2 ⟨y,H2,I2,r2,q2⟩=>
  thn (ho pins s2 σ H2 x y v u _ I2 r1 r2 q2) fun c s3 ⟨z,H3,I3,r3,k,e,q3⟩=>?_) hm
 subst e;cases r3;exact wpAny_truthy_bool ⟨H3,I3,q3⟩
noncomputable def rm(r r':R2)(ta tb tc:TE):TE:=fun σ H Q=>ta σ H fun x H1=>tb σ H1 fun y H2=>r x y H2 fun z H3=>∃ k,z=.bl k /\
 (if k=true then tc σ H3 fun w' H4=>r' y w' H4 Q else Q (.bl false) H3)
theorem vR{op op':CmpOp}{r r':R2}(ho:OpR X (compareOp op) r)(ho':OpR X (compareOp op') r')(ha:PE X a ta)(hb:PE X b tb)(hc:PE X c tc)
  (hm:lastMarks [op,op'] [b,c]=false:=by with_unfolding_all rfl):PE X (.Compare a [op,op'] [b,c] pos) (rm r r' ta tb tc):=by
 intro pins s σ H Q I h
 refine Compare_chain (thn (ha pins s σ H _ I h) fun v s1 ⟨x,H1,I1,r1,q1⟩=>chain_link (thn (hb pins s1 σ H1 _ I1 q1) fun u s2 ⟨y,H2,I2,r2,q2⟩=>
  thn (ho pins s2 σ H2 x y v u _ I2 r1 r2 q2) fun d s3 ⟨z,H3,I3,r3,k,e,q3⟩=>?_)) hm
 subst e;cases r3;refine wpAny_truthy_bool ?_
 cases k with
 |false=>exact ite_ff ⟨.bl false,H3,I3,rfl,q3⟩
 |true=>exact ite_tt (chain_last (thn (hc pins s3 σ H3 _ I3 q3) fun w' s4 ⟨z',H4,I4,r4,q4⟩=>ho' pins s4 σ H4 y z' u w' Q I4 r2 r4 q4))
noncomputable def ua(K:PySem.W.Frag)(x:V)(H:Hp)(k:Bool):Prop:=
 match x with
 |.non=>k=false
 |.bl b=>k=b
 |.int i=>k=(i != 0)
 |.str y=>y.length<=sizeLine /\ k=((y.length:Int) != 0)
 |.byt y=>y.size<=sizeLine /\ k=((y.size:Int) != 0)
 |.ref p=>(∃ xs,SqL K H p xs /\ k=!xs.isEmpty) \/ (∃ xs,SqT K H p xs /\ k=!xs.isEmpty) \/ ∃ kvs,H p=some (.dK kvs) /\ k=!kvs.isEmpty
 |_=>False
theorem sv{κ:Type}{kvs:List (κ×V)}{vs:List (κ×Value)}(r:KV kvs vs):(!vs.isEmpty)=!kvs.isEmpty:=by
 cases r<;>rfl
theorem mT{xs:List V}{its:List Value}(r:Vals xs its):(!its.toArray.isEmpty)=!xs.isEmpty:=by
 cases r<;>simp
theorem pC:(sizeLine:Nat)<2 ^ 63:=by rw[sizeLine_eq];decide
theorem AW:Ed X (fun x H Q=>∃ k,ua X.K x H k /\ Q k H):=by
 intro pins s σ H x v Q I rx h;obtain⟨k,e,q⟩:=h;have hl:=pC
 have hs:sizeLine=16777216:=sizeLine_eq
 cases x with
 | non=>
   cases rx
   have e':k=false:=e
   subst e';exact truthy_none ⟨H,I,q⟩
 | bl b=>
   cases rx
   have e':k=b:=e
   subst e';exact wpAny_truthy_bool ⟨H,I,q⟩
 | int i=>
   obtain⟨t,rfl⟩:=rx
   have e':k=(i != 0):=e
   subst e';exact PySem.P.truthy_int ⟨H,I,q⟩
 | str y=>
   obtain⟨t,rfl⟩:=rx
   obtain⟨hy,e'⟩:y.length<=sizeLine /\ k=((y.length:Int) != 0):=e
   subst e';exact PySem.P.truthy_str (by omega) ⟨H,I.tok _,q⟩
 | byt y=>
   obtain⟨t,rfl⟩:=rx
   obtain⟨hy,e'⟩:y.size<=sizeLine /\ k=((y.size:Int) != 0):=e
   subst e';exact PySem.W.truthy_bytes (by omega) ⟨H,I.tok _,q⟩
 | ref p=>
   cases rx
   have e':(∃ xs,SqL X.K H p xs /\ k=!xs.isEmpty) \/ (∃ xs,SqT X.K H p xs /\ k=!xs.isEmpty) \/ ∃ kvs,H p=some (.dK kvs) /\ k=!kvs.isEmpty:=e
   rcases e' with⟨xs,hx,e'⟩|⟨xs,hx,e'⟩|⟨kvs,hx,e'⟩
   . subst e';obtain⟨its,r,pl,hz⟩:=I.list hx;have hlen:=r.length;exact wpAny_truthy_list pl.isList (by simp only[List.size_toArray];omega) ⟨H,I.tok _,by rw[mT r];exact q⟩
   . subst e';obtain⟨its,r,pl,hz⟩:=I.tuple hx;have hlen:=r.length;exact truthy_tuple pl (by simp only[List.size_toArray];omega) ⟨H,I.tok _,by rw[mT r];exact q⟩
   . subst e'
     obtain⟨hz,hS,vs,r,m⟩:kvs.length<=sizeLine /\ (p==sysModules)=false /\ ∃ vs,KV kvs vs /\ s.heap.DictOf (cG X.prog X.w) p vs:=I.hok p _ hx
     have hlen:kvs.length=vs.length:=Paired.length r
     exact wpAny_truthy_dict hS m (by omega) ⟨H,I.tok _,by rw[sv r];exact q⟩
 |_=>exact(show False from e).elim
theorem uV(ha:PE X a ta)(he:∀ whole,isTrue a X.env whole=(do let v <- whole;standAt a.pos;holding [v] (truthy v))):
  PT X a (fun σ H Q=>ta σ H fun x H'=>∃ k,ua X.K x H' k /\ Q k H'):=by
 intro pins s σ H Q I h;exact isTrue_plain (thn (ha pins s σ H _ I h) fun v s1 ⟨x,H1,I1,r1,q1⟩=>AW pins s1 σ H1 x v Q I1 r1 q1) (he _)
theorem vals1{x:V}{us:List Value}(r:Vals [x] us):∃ u,us=[u] /\ RelV x u:=by
 cases r with
 |cons r1 r2=>cases r2;exact⟨_,rfl,r1⟩
end
theorem uk{h:Heap}{dx:Addr}{mA:Str->Option Value}(n:h.Ns1 dx mA):∃ od,h.get? dx=some od /\ ∀ name,PySem.W.lookIn name od=some (mA name):=by
 obtain⟨o,es,ep,ho,hd,hk,_,hm⟩:=n
 refine⟨o,ho,fun name=>?_⟩
 have e:=hm name;unfold nsFind findBy at e;rw[<- Array.find?_toList]at e;unfold PySem.W.lookIn;rw[hd];dsimp only;split
 . rename_i y q;rw[q]at e;exact congrArg some e
 . rename_i q;rw[q]at e
   have a:es.toList.any (·.refKey)=false:=by
    rw[List.any_eq_false];intro y hy;obtain⟨z,t,hkey⟩:=hk y (Array.mem_toList_iff.mp hy);simp[DictEntry.refKey,hkey]
   have a':¬ es.toList.any (·.refKey)=true:=by rw[a];exact Bool.false_ne_true
   rw[if_neg a'];exact congrArg some e
theorem bb.some_of{v:V}{o:Option Value}(r:bb (some v) o):∃ u,o=some u /\ RelV v u:=by
 cases o with
 |none=>exact(show False from r).elim
 |some u=>exact⟨u,rfl,r⟩
theorem uI{v:V}{u:Value}(r:RelV v u):PySem.W.handedIn u=true:=by
 cases v with
 |non=>cases(show u=Value.none from r);rfl
 |bl b=>cases(show u=Value.bool b from r);rfl
 |int i=>obtain⟨t,e⟩:=(show ∃ t,u=Value.int i t from r);cases e;rfl
 |str x=>obtain⟨t,e⟩:=(show ∃ t,u=Value.str x t from r);cases e;rfl
 |byt b=>obtain⟨t,e⟩:=(show ∃ t,u=Value.bytes b t from r);cases e;rfl
 |flt b=>obtain⟨t,e⟩:=(show ∃ t,u=Value.float b t from r);cases e;rfl
 |ref a=>cases(show u=Value.ref a from r);rfl
 |ty n=>cases(show u=Value.type n from r);rfl
section
variable{X:Cx}{pins:List (Addr×Obj)}{σ:St}{H:Hp}{s:Shared}{a C dx:Addr}{fs:List (Str×V)}{f:Str}{v:V}{A:Around}{E:Value->Shared->Prop}
theorem x6{prog:Program}{w:World}{env:Env}{e:Expr}{f:Str}{pos:Pos}{s:Shared}{Q:Value->Shared->Prop}(hb:attributeBase e f env (eval e env)=eval e env)
  (h:wpAny (model prog w) A (eval e env) (fun o s₁=>wpAny (model prog w) A (getAttr o f true) Q E s₁) E s):wpAny (model prog w) A (eval (.Attribute e f pos) env) Q E s:=
 Attribute_any_ h (by rw[arm_eval_Attribute,hb])
end
structure dy(k:Nat)(A:Around):Prop where
 hd:A.handled=none
 dp:A.depth+3*k+5<recursionLimit
 un:A.units+16*k+200<cLine
theorem dy.mono{j k:Nat}{A:Around}(r:dy k A)(h:j<=k):dy j A:=⟨r.hd,by have:=r.dp;omega,by have:=r.un;omega⟩
theorem dy.deeper{k:Nat}{A:Around}(r:dy (k+1) A)(env:Env):dy k (A.deeper env):=
 ⟨r.hd,by have:=r.dp;show A.depth+1+3*k+5<_;omega,by have:=r.un;show A.units+3+16*k+200<_;omega⟩
theorem rj{A:Around}{C:Addr}{us:List Value}{kw:List (Str×Value)}:(A.under (.builtin "type.__call__" ⟨.ref C ::us,kw⟩)).depth=A.depth+1:=by
 first|rfl|simp[Around.under,Code.weight,Code.isCreation,Code.isGuard,Code.isCaller,Code.frames,Code.isFrame,guardIds]
theorem so{A:Around}{C:Addr}{us:List Value}{kw:List (Str×Value)}:(A.under (.builtin "type.__call__" ⟨.ref C ::us,kw⟩)).units=A.units+1:=by
 first|rfl|simp[Around.under,Code.cUnits,Code.frames,Code.isFrame]
theorem dy.make{k:Nat}{A:Around}(r:dy (k+1) A)(C:Addr)(us:List Value)(kw:List (Str×Value)):dy k (A.under (.builtin "type.__call__" ⟨.ref C ::us,kw⟩)):=
 ⟨r.hd,by have:=r.dp;rw[rj];omega,by have:=r.un;rw[so];omega⟩
theorem dy.depth{k:Nat}{A:Around}(r:dy k A):A.depth<recursionLimit:=by have:=r.dp;omega
theorem dy.units{k:Nat}{A:Around}(r:dy k A):A.units+64<cLine:=by have:=r.un;omega
noncomputable def gD:TA:=fun _ H Q=>Q [] H
noncomputable def cK(ta:TE)(tr:TA):TA:=fun σ H Q=>ta σ H fun x H1=>tr σ H1 fun xs H2=>Q (x ::xs) H2
section
variable{X:Cx}{e:Expr}{es:List Expr}{te:TE}{t:TA}{pos:Pos}
theorem Ap:PA X [] gD:=fun _ _ _ _ H Q I h=>Calls.spliced_nil ⟨[],H,I,.nil,h⟩
theorem xW(ha:PE X e te)(hr:PA X es t)(hs:starEach (e ::es) X.env=(false,eval e X.env) ::starEach es X.env:=by rfl):PA X (e ::es) (cK te t):=by
 intro pos pins s σ H Q I h;rw[hs];show wpAny _ _ (spliced ((false,eval e X.env) ::backTo pos (starEach es X.env))) _ _ s;refine Calls.spliced_cons (thn (ha pins s σ H _ I h) fun u s1 ⟨x,H1,I1,r1,q1⟩=>?_)
 exact thn (hr pos pins s1 σ H1 _ I1 q1) fun us s2 ⟨xs,H2,I2,r2,q2⟩=>⟨x ::xs,H2,I2,.cons r1 r2,q2⟩
noncomputable def xR(t:TA):TE:=fun σ H Q=>t σ H fun xs H1=>xs.length<=sizeLine /\ ∀ p,H1 p=none->Q (.ref p) (upd H1 p (.tup xs))
noncomputable def Bb(t:TA):TE:=fun σ H Q=>t σ H fun xs H1=>xs.length<=sizeLine /\ ∀ p,H1 p=none->Q (.ref p) (upd H1 p (.lst xs))
theorem A1{x1}(h:PA X es t):PE X (.Tuple es x1 pos) (xR t):=by
 intro pins s σ H Q I hq;refine wpAny_Tuple_spliced (thn (h pos pins s σ H _ I hq) fun us s1 ⟨xs,H1,I1,r,z,q⟩=>⟨by rw[<- r.length];exact z,?_⟩)
 have hf:H1 s1.heap.objs.size=none:=I1.hok.fresh (Nat.le_refl _)
 refine⟨.ref s1.heap.objs.size,upd H1 s1.heap.objs.size (.tup xs),I1.laid (t':=s1.toks) (fun b u e=>Heap.get?_push_of_some _ e) (Nat.le_refl _) ?_,rfl,q _ hf⟩
 exact⟨⟨z,.new _ _⟩,us,r,⟨_,Heap.get?_push_size _ rfl,rfl,_,rfl⟩⟩
theorem AG(h:PA X es t):PE X (.List es pos) (Bb t):=by
 intro pins s σ H Q I hq;refine wpAny_List_spliced (thn (h pos pins s σ H _ I hq) fun us s1 ⟨xs,H1,I1,r,z,q⟩=>⟨by rw[<- r.length];exact z,?_⟩)
 have hf:H1 s1.heap.objs.size=none:=I1.hok.fresh (Nat.le_refl _)
 refine⟨.ref s1.heap.objs.size,upd H1 s1.heap.objs.size (.lst xs),I1.laid (t':=s1.toks) (fun b u e=>Heap.get?_push_of_some _ e) (Nat.le_refl _) ?_,rfl,q _ hf⟩
 exact⟨z,us,0,r,Heap.get?_push_size _ rfl⟩
end
abbrev Sp:=List V->Hp->VK->XK->Prop
abbrev CXT:=List Env->Hp->Shared->XK->Value->Shared->Prop
structure rE(P:Program)(w:World)(K:PySem.W.Frag)(mg:Str->Option Value)(base:Heap)(A:Around)(outer:List Env)(s:Shared)(H:Hp):Prop where
 frames:A.frames=some outer
 mod:Mod K mg base
 bs:∀ b o,base.get? b=some o->s.heap.get? b=some o /\ H b=none
 bsz:base.objs.size<=s.heap.objs.size
 kA:s.heap.FunFrames base outer
 frf:∀ b∈frs outer,H b=none
 hok:HOk P w H s.heap
 bare:AllBare s.gens
noncomputable def CE(outer:List Env)(P:Program)(w:World)(H:Hp)(s:Shared)(Q:VK)(u:Value)(s':Shared):Prop:=
 ∃ v H',s'.os=s.os /\ AllBare s'.gens /\ Un (frs outer) [] H H' s.heap s'.heap /\ HOk P w H' s'.heap /\ RelV v u /\ Q v H'
noncomputable def CR(CX:CXT)(outer:List Env)(P:Program)(w:World)(H:Hp)(s:Shared)(Q:VK)(E:XK)(r:Result)(s':Shared):Prop:=
 match r with
 |.ok (.ret u)=>CE outer P w H s Q u s'
 |.ok _=>False
 |.error e=>CX outer H s E e s'
structure bH(P:Program)(w:World)(K:PySem.W.Frag)(mg:Str->Option Value)(base:Heap)(CX:CXT)(k:Nat)(f:Addr)(fd:FuncData)(ps:List Str)(sp:Sp):Prop where
 len:∀ vs H Q E,sp vs H Q E->vs.length=ps.length
 run:∀(A:Around) (outer:List Env) (s:Shared) (H:Hp) (args:Args) (us:List Value) (vs:List V) (Q:VK) (E:XK),dy k A->rE P w K mg base A outer s H->BindsTo s fd args (ps.zip us)->Vals vs us->sp vs H Q E ->
  codeAny (model P w) A (.call (.ref f) args) (CR CX outer P w H s Q E) s
theorem bH.mono{P:Program}{w:World}{K:PySem.W.Frag}{mg:Str->Option Value}{base:Heap}{CX:CXT}{j k:Nat}{f:Addr}{fd:FuncData}{ps:List Str}{sp:Sp}(F:bH P w K mg base CX j f fd ps sp)(h:j<=k):
  bH P w K mg base CX k f fd ps sp:=⟨F.len,fun A outer s H args us vs Q E hr=>F.run A outer s H args us vs Q E (hr.mono h)⟩
theorem bH.imp{P:Program}{w:World}{K:PySem.W.Frag}{mg:Str->Option Value}{base:Heap}{CX:CXT}{k:Nat}{f:Addr}{fd:FuncData}{ps:List Str}{sp sp':Sp}(F:bH P w K mg base CX k f fd ps sp)
  (h:∀ vs H Q E,sp' vs H Q E->sp vs H Q E):bH P w K mg base CX k f fd ps sp':=
 ⟨fun vs H Q E q=>F.len vs H Q E (h _ _ _ _ q),fun A outer s H args us vs Q E hr he hb hv hs=>F.run A outer s H args us vs Q E hr he hb hv (h _ _ _ _ hs)⟩
theorem rE.make{P:Program}{w:World}{K:PySem.W.Frag}{mg:Str->Option Value}{base:Heap}{A:Around}{outer:List Env}{s:Shared}{H:Hp}(e:rE P w K mg base A outer s H)(C:Addr)(us:List Value)(kw:List (Str×Value)):
  rE P w K mg base (A.under (.builtin "type.__call__" ⟨.ref C ::us,kw⟩)) outer s H:=⟨by first|exact e.frames|(simpa [Around.under,Code.envs,Code.isFrame,pushEnvs]using e.frames),e.mod,e.bs,e.bsz,e.kA,e.frf,e.hok,e.bare⟩
section
variable{X:Cx}{pins:List (Addr×Obj)}{σ:St}{H:Hp}{s s':Shared}
theorem Inv.B7(I:Inv X pins σ H s):rE X.prog X.w X.K X.mg X.base X.A X.stack s H:=
 ⟨I.ok.frames,I.ok.mod,I.bs,Nat.le_trans I.ok.bsz I.sz,I.stack,I.pj,I.hok,I.bare⟩
theorem Inv.after{Q:VK}{u:Value}(I:Inv X pins σ H s)(h:CE X.stack X.prog X.w H s Q u s'):EP X pins σ Q u s':=by
 obtain⟨v,H',os,bare,un,hok,r,q⟩:=h;obtain⟨hh,g,d,t,os'⟩:=s'
 obtain rfl:os'=s.os:=os
 exact⟨v,H',I.call (h':=hh) (g':=g) (d':=d) (t':=t) (ch:=[]) un hok bare (fun b z=>absurd z (by simp)),r,q⟩
end
noncomputable def Binds(K:PySem.W.Frag)(fd:FuncData)(ps:List Str)(ds:List Value):Prop:=
 ∀(s:Shared) (us:List Value),K.In s.heap->(us++ds).length=ps.length->BindsTo s fd ⟨us,[]⟩ (ps.zip (us++ds))
theorem Binds.all{K:PySem.W.Frag}{fd:FuncData}{ps:List Str}(h:∀ us:List Value,us.length=ps.length->bindArgs fd ⟨us,[]⟩=pure (ps.zip us)):Binds K fd ps []:=fun s us _ hl=>by
 rw[List.append_nil]at hl ⊢
 exact .of_eq (h us hl)
structure aN(N P:List Str)(sc:Scope):Prop where
 kind:sc.kind=.function
 co:sc.isCoroutine=false
 gen:sc.isGenerator=false
 nd:N.Nodup
 pre:N.take P.length=P
 par:∀ x∈P,sc.names.lookup x=some .local \/ sc.names.lookup x=some .cell
 nofree:∀ y∈sc.names,y.2≠.free
theorem nt{kindOf:Str->Option NameKind}{x:Str}:∀{binds:List (Str×Value)} {m:Str->Option Value},(∀ v,(x,v)∉binds)->bindL kindOf binds m x=m x
 |[],_,_=>rfl
 | (n,v) ::r,m,h=>by
   unfold bindL;rw[nt fun w hw=>h w (List.mem_cons_of_mem _ hw)];split
   . have:x≠n:=by rintro rfl;exact h v List.mem_cons_self
     simp[this]
   . rfl
theorem nc{kindOf:Str->Option NameKind}{x:Str}:∀{binds:List (Str×Value)} {m:Str->Option Value},(∀ v,(x,v)∉binds)->bindC kindOf binds m x=m x
 |[],_,_=>rfl
 | (n,v) ::r,m,h=>by
   unfold bindC;rw[nc fun w hw=>h w (List.mem_cons_of_mem _ hw)];split
   . rfl
   . have:x≠n:=by rintro rfl;exact h v List.mem_cons_self
     simp[this]
theorem nF{kindOf:Str->Option NameKind}{x:Str}{v:Value}:∀{P:List Str} {vs:List Value} {i:Nat} {m:Str->Option Value},P.Nodup->P[i]?=some x->vs[i]?=some v->kindOf x=some .local ->
  bindL kindOf (P.zip vs) m x=some v
 |[],_,_,_,_,h,_,_=>by simp at h
 |_ ::_,[],_,_,_,_,h,_=>by simp at h
 | p ::P,w ::vs,0,m,nd,h1,h2,hk=>by
   simp at h1 h2;subst h1;subst h2;show bindL kindOf ((p,w) ::P.zip vs) m p=_;unfold bindL;rw[nt fun v hv=>(List.nodup_cons.mp nd).1 (List.of_mem_zip hv).1,if_pos hk];simp
 | p ::P,w ::vs,i+1,m,nd,h1,h2,hk=>by
   show bindL kindOf ((p,w) ::P.zip vs) m x=_;unfold bindL;exact nF (i:=i) (List.nodup_cons.mp nd).2 (by simpa using h1) (by simpa using h2) hk
theorem ny{kindOf:Str->Option NameKind}{x:Str}{v:Value}:∀{P:List Str} {vs:List Value} {i:Nat} {m:Str->Option Value},P.Nodup->P[i]?=some x->vs[i]?=some v->kindOf x≠some .local ->
  bindC kindOf (P.zip vs) m x=some v
 |[],_,_,_,_,h,_,_=>by simp at h
 |_ ::_,[],_,_,_,_,h,_=>by simp at h
 | p ::P,w ::vs,0,m,nd,h1,h2,hk=>by
   simp at h1 h2;subst h1;subst h2;show bindC kindOf ((p,w) ::P.zip vs) m p=_;unfold bindC;rw[nc fun v hv=>(List.nodup_cons.mp nd).1 (List.of_mem_zip hv).1,if_neg hk];simp
 | p ::P,w ::vs,i+1,m,nd,h1,h2,hk=>by
   show bindC kindOf ((p,w) ::P.zip vs) m x=_;unfold bindC;exact ny (i:=i) (List.nodup_cons.mp nd).2 (by simpa using h1) (by simpa using h2) hk
noncomputable def start(N:List Str)(vs:List V):St:=vs.map some++List.replicate (N.length - vs.length) none
noncomputable def jI(CX:CXT)(P:Program)(w:World)(K:PySem.W.Frag)(mg:Str->Option Value)(base:Heap)(N:List Str)(qual:Str)(scope:Scope)(f:Addr)(cd:Value)(A:Around)(outer:List Env)(s:Shared)(H:Hp)(E:XK):Cx where
 prog:=P
 w:=w
 K:=K
 mg:=mg
 base:=base
 A:=A.deeper (envOfC qual scope s.heap.objs.size f cd)
 N:=N
 s₀:=s
 H₀:=H
 env:=envOfC qual scope s.heap.objs.size f cd
 outer:=outer
 stack:=envOfC qual scope s.heap.objs.size f cd ::outer
 ex:=[]
 calm:=true
 fn:=fun _=>true
 pn:=[]
 xe:=fun e s'=>wpAny (model P w) (A.deeper (envOfC qual scope s.heap.objs.size f cd)) (leaving (envOfC qual scope s.heap.objs.size f cd) e) (fun _ s''=>CX outer H s E e s'') (fun e' s''=>CX outer H s E e' s'') s'
theorem pK{sc:Scope}{n:Nat}{x:Str}(h:sc.names.lookup x=some .cell):∃ c,(cellsFrom n sc.names []).lookup x=some c:=by
 have q:=PySem.W.cellsFrom_some sc.names n [] (.inl h);exact Option.isSome_iff_exists.mp q
theorem uN{CX:CXT}{P:Program}{w:World}{K:PySem.W.Frag}{mg:Str->Option Value}{base:Heap}{N ps:List Str}{qual:Str}{scope:Scope}{f:Addr}{cd:Value}{A:Around}{outer:List Env}{s s1:Shared}{H:Hp}{E:XK}{us:List Value}{vs:List V}
  (S:aN N ps scope) (hd:A.handled=none) (e0:rE P w K mg base A outer s H) (hl:vs.length=ps.length) (r:Vals vs us)
  (x:InCallC s s.heap.objs.size (bindL (envOfC qual scope s.heap.objs.size f cd).kindOf (ps.zip us) fun _=>none) (cellsFrom (s.heap.objs.size+1) scope.names []) (bindC (envOfC qual scope s.heap.objs.size f cd).kindOf (ps.zip us) fun _=>none) s1):
  Inv (jI CX P w K mg base N qual scope f cd A outer s H E) [] (start N vs) H s1:=by
 have hpl:ps.length<=N.length:=by have:=congrArg List.length S.pre;rw[List.length_take]at this;omega
 obtain⟨h1,tk,rfl,hk⟩:=x.done
 have noA:∀ b:Addr,b∉(jI CX P w K mg base N qual scope f cd A outer s H E).ex:=fun b z=>absurd (show b∈([]:List Addr) from z) (by simp)
 refine⟨⟨e0.mod,S.kind,rfl,rfl,Nat.le_refl _,fun y z c h1 h2=>?_,fun y hy=>?_,fun y c _ h=>?_,fun _=>hd,Around.frames_deeper e0.frames,.inr ⟨rfl,rfl⟩,fun b z=>absurd z (noA b),e0.bs,e0.bsz,fun b _ _=>noA b,fun b z=>absurd z (noA b),e0.kA,e0.frf⟩,
  rfl,e0.bare,Un.kept hk,⟨_,x.toInCall.ns,fun i y v h1 h2 h3=>?_⟩,fun y c h=>⟨_,x.cell y c h⟩,e0.hok.fresh (Nat.le_refl _),fun y c h=>?_,fun p hp=>absurd (show p∈([]:List (Addr×Obj)) from hp) (by simp),e0.hok.kept hk,?_⟩
 . exact name_of_addr x.apart (PySem.mem_of_lookup h1) (PySem.mem_of_lookup h2)
 . have hy:scope.names.lookup y=some .cell \/ scope.names.lookup y=some .free:=hy
   rcases hy with hy|hy
   . exact pK hy
   . exact absurd rfl (S.nofree _ (PySem.mem_of_lookup hy))
 . exact Nat.le_of_lt (x.above y c (PySem.mem_of_lookup h))
 . have hi:i < vs.length:=by
    unfold start at h2
    by_cases hi:i<vs.length
    . exact hi
    . rw[List.getElem?_append_right (by simpa using hi)]at h2;rw[List.getElem?_replicate]at h2
      split at h2<;>cases h2
   have ha:vs[i]?=some v:=by
    unfold start at h2;rw[List.getElem?_append_left (by simpa using hi),List.getElem?_map]at h2
    cases e:vs[i]? with
    |none=>rw[e]at h2;cases h2
    |some a=>rw[e]at h2;cases h2;rfl
   obtain⟨u,hu,rv⟩:=r.get ha
   have hp:ps[i]?=some y:=by
    rw[<- S.pre,List.getElem?_take_of_lt (by omega)];exact h1
   have ndP:ps.Nodup:=by rw[<- S.pre];exact S.nd.sublist (List.take_sublist _ _)
   refine⟨u,rv,?_⟩
   rcases S.par y (List.mem_of_getElem? hp)with k|k
   . exact .inl ⟨k,nF ndP hp hu k⟩
   . obtain⟨c,e⟩:=pK (n:=s.heap.objs.size+1) k;refine .inr ⟨.inl k,c,e,?_⟩;have q:=x.cell y c e;rw[ny ndP hp hu (by show scope.names.lookup y≠_;rw[k];decide)]at q;exact q
 . exact e0.hok.fresh (Nat.le_of_lt (x.above y c (PySem.mem_of_lookup h)))
 . unfold start;show _=N.length;rw[List.length_append,List.length_map,List.length_replicate];omega
theorem BN{CX:CXT}{P:Program}{w:World}{K:PySem.W.Frag}{mg:Str->Option Value}{base:Heap}{k:Nat}{f:Addr}{name qual:Str}{params:Arguments}{body:List Stmt}{scope:Scope}{dV kV doc pm cdv ct oc:Value}{an od:Option Addr}
  {osl:Array (Option Value)} {N ps:List Str} {sp:Sp} (lk:K.lookup f=some ⟨oc,od,.func (PySem.W.fnOf name qual params body scope dV kV doc pm an cdv ct),osl⟩) (hcd:PySem.W.codeIn K cdv qual=true) (S:aN N ps scope)
  (len:∀ vs H Q E,sp vs H Q E->vs.length=ps.length)
  (hbody:∀(A:Around) (outer:List Env) (s:Shared) (H:Hp) (vs:List V) (Q:VK) (E:XK),dy k (A.deeper (envOfC qual scope s.heap.objs.size f cdv))->sp vs H Q E ->
    ∃ t,PSs (jI CX P w K mg base N qual scope f cdv A outer s H E) body t /\ t { nx:=fun _ H'=>Q .non H',rt:=Q } (start N vs) H):
  bH P w K mg base CX (k+1) f (PySem.W.fnOf name qual params body scope dV kV doc pm an cdv ct) ps sp:=by
 refine⟨len,fun A outer s H args us vs Q E hr e0 hb r hsp=>?_⟩
 have hl:=len _ _ _ _ hsp
 have KX:K.In s.heap:=e0.mod.kin.keeps fun b o e=>(e0.bs b o e).1
 have lim:s.heap.NoLimit:=e0.mod.nolimit.keeps fun b o e=>(e0.bs b o e).1
 have hkind:∀ y∈ps.zip us,scope.names.lookup y.1=some .local \/ (scope.names.lookup y.1=some .cell /\ ((cellsFrom (s.heap.objs.size+1) scope.names []).lookup y.1).isSome=true):=fun ⟨n,v⟩ hy=>by
  rcases S.par n (List.of_mem_zip hy).1 with q|q
  . exact .inl q
  . exact .inr ⟨q,PySem.W.cellsFrom_some _ _ _ (.inl q)⟩
 refine codeAny_call_function hr.depth (KX _ _ lk) rfl S.co S.gen rfl (PySem.W.codeRec_of KX hcd) (hb _ _ _ _ ?_)
 refine wpAny_newFunctionEnv_cells S.kind hkind fun env he s1 x=>?_
 subst he
 refine⟨lim.keeps x.toInCall.keep,codeAny_func ?_⟩
 obtain⟨t,ht,hq⟩:=hbody A outer s H vs Q E (hr.deeper _) hsp
 have I:Inv (jI CX P w K mg base N qual scope f cdv A outer s H E) [] (start N vs) H s1:=uN S hr.hd e0 hl r x
 refine wpAny_mono (ht [] s1 (start N vs) H _ I hq) (fun fl s' hs=>?_) fun e s' hs=>hs
 have fin:∀{σ':St} {H':Hp} {v:V} {u:Value},Inv (jI CX P w K mg base N qual scope f cdv A outer s H E) [] σ' H' s'->RelV v u->Q v H'->CE outer P w H s Q u s':=
  fun {σ' H' v u} J rv q=>⟨v,H',J.os,J.bare,J.base,J.hok,rv,q⟩
 cases fl with
 | ret u=>
   obtain⟨v,σ',H',J,rv,q⟩:=hs;exact fin J rv q
 | next=>
   obtain⟨σ',H',J,q⟩:=hs;exact fin (v:=V.non) (u:=Value.none) J rfl q
 | brk=>
   obtain⟨_,_,_,q⟩:=hs;exact False.elim q
 | cont=>
   obtain⟨_,_,_,q⟩:=hs;exact False.elim q
section
variable{X:Cx}{x:Str}{p pos:Pos}{e:Expr}{es:List Expr}{t:TA}{id T:String}{r:List V->Hp->VK->Prop}
noncomputable def tCB(r:List V->Hp->VK->Prop)(t:TA):TE:=fun σ H Q=>t σ H fun vs H1=>r vs H1 Q
theorem xj(hc:gw X (.builtin id) r)(hg:Gl X x)(hm:X.mg x=none)(hv:bootBuiltins x=some (.builtin id))(ha:PA X (e ::es) t)(hn:x ≠ "__name__":=by decide)(hdb:(x==("__debug__":Str))=false:=by decide)
  (he:starEach (e ::es) X.env=(false,eval e X.env) ::starEach es X.env:=by rfl) (hpl:(backTo pos (starEach es X.env)).any (·.1)=false:=by rfl):PE X (.Call (.Name x p) (e ::es) [] pos) (tCB r t):=by
 intro pins s σ H Q I h;refine wpAny_Call_Name_kw (my I hg hm hv ?_ hn hdb);exact PyProof.Rows.callWith_builtin1 (thn (ha pos pins s σ H _ I h) fun us s1 ⟨vs,H1,I1,r1,q1⟩=>hc pins s1 σ H1 vs us Q I1 r1 q1) he hpl
theorem tW(hc:gw X (.type T) r)(hg:Gl X x)(hm:X.mg x=none)(hv:bootBuiltins x=some (.type T))(ha:PA X (e ::es) t)(hn:x ≠ "__name__":=by decide)(hdb:(x==("__debug__":Str))=false:=by decide)
  (he:starEach (e ::es) X.env=(false,eval e X.env) ::starEach es X.env:=by rfl) (hpl:(backTo pos (starEach es X.env)).any (·.1)=false:=by rfl):PE X (.Call (.Name x p) (e ::es) [] pos) (tCB r t):=by
 intro pins s σ H Q I h;refine wpAny_Call_Name_kw (my I hg hm hv ?_ hn hdb);exact PyProof.Rows.callWith_type1 (thn (ha pos pins s σ H _ I h) fun us s1 ⟨vs,H1,I1,r1,q1⟩=>hc pins s1 σ H1 vs us Q I1 r1 q1) he hpl
end
end L2
namespace HT
open PySem PyProof.Rows
section
open PySem.SeqAt
open PySem.AutoSeq1 (wpAny_loadPart')
open PySem.MeetsSeq PySem.MeetsSeq2 PySem.MeetsSeq3
end
section
variable{prog:Program}{w:World}{A:Around}{E:Value->Shared->Prop}{s:Shared}
theorem yl{t b:Addr}{vs ws:List Value}{Q:Value->Shared->Prop}(ht:IsTup s.heap t vs.toArray)(hb:IsTup s.heap b ws.toArray)(hv:vs≠[])
  (h1:ws=[]->Q (.ref t) s) (h2:ws≠[]->Q (.ref s.heap.objs.size) { s with heap:=s.heap.push { cls:=.type "tuple",data:=.seq (vs++ws).toArray } })
  (hsz:vs.length+ws.length<=sizeLine):wpAny (model prog w) A (binaryOp .Add (.ref t) (.ref b)) Q E s:=by
 obtain⟨⟨cls,dd,data,sl⟩,ho,hc,n,hd⟩:=id ht;obtain⟨⟨cls2,dd2,data2,sl2⟩,ho2,hc2,n2,hd2⟩:=id hb;simp only at hc hd hc2 hd2;subst hc hd hc2 hd2
 have e:vs.toArray++ws.toArray=(vs++ws).toArray:=by simp
 by_cases hw:ws=[]
 . exact concat_meets ⟨_,ho,rfl⟩ ⟨_,ho2,rfl⟩ noFill_tuple_add seq_tuple_add PySem.F.slot_tuple_add PySem.F.entry_tuple_add (PySem.F.args_tuple_add_2 _ _)
    (tuple_addW1 t b vs.toArray ws.toArray n n2 dd dd2 sl sl2 (by simpa using hv) (by simp[hw])) ⟨ho,ho2,h1 hw⟩
 . refine concat_meets ⟨_,ho,rfl⟩ ⟨_,ho2,rfl⟩ noFill_tuple_add seq_tuple_add PySem.F.slot_tuple_add PySem.F.entry_tuple_add (PySem.F.args_tuple_add_2 _ _)
    (tuple_addW2 t b vs.toArray ws.toArray n n2 dd dd2 sl sl2 (by simpa using hv) (by simpa using hw) (by rw[List.size_toArray,List.size_toArray];exact hsz)) ⟨ho,ho2,?_⟩
   rw[e];exact h2 hw
noncomputable def sIx(n d:Nat):Option Int->Nat
 |none=>d
 |some v=>if v<0 then(v+(n:Int)).toNat else min v.toNat n
theorem As(n d:Nat)(hd:d<=n)(o:Option Int):sIx n d o<=n:=by
 cases o with
 |none=>exact hd
 | some v=>
   show(if v<0 then(v+(n:Int)).toNat else min v.toNat n)<=n
   by_cases hv:v<0
   . rw[if_pos hv];omega
   . rw[if_neg hv];exact Nat.min_le_right _ _
theorem tj(v:Int)(n d:Nat):(if v<0 then max (v+(n:Int)) 0 else min v (n:Int))=((sIx n d (some v):Nat):Int):=by
 show(if v<0 then max (v+(n:Int)) 0 else min v (n:Int))=(((if v<0 then(v+(n:Int)).toNat else min v.toNat n):Nat):Int)
 by_cases hv:v<0
 . simp only[if_pos hv];omega
 . simp only[if_neg hv];omega
theorem qZ(lo hi:Option Int)(n:Nat):Builtin.Slice.sliceAdjust lo hi 1 (n:Int)=(((sIx n 0 lo:Nat):Int),((sIx n n hi:Nat):Int)):=by
 have h1:¬ ((1:Int)<0):=by omega
 unfold Builtin.Slice.sliceAdjust;simp only[h1,if_false];refine Prod.ext ?_ ?_
 . cases lo with
   |none=>rfl
   |some v=>exact tj v n 0
 . cases hi with
   |none=>rfl
   |some v=>exact tj v n n
theorem rh(i j:Nat):Builtin.Slice.slicePlaces (i:Int) (j:Int) 1=j - i:=by
 unfold Builtin.Slice.slicePlaces
 have h1:(1:Int)>0:=by omega
 simp only[h1,if_true,Int.ediv_one]
 split<;>omega
theorem lK{v:Value}{o:Option Int}{Q:Option Int->Shared->Prop}(p:IsPart v o)(h:Q o s):wpAny (model prog w) A (Builtin.Slice.slicePartIndex v) Q E s:=by
 cases p with
 |none=>exact slicePart_none h
 |int i t=>exact slicePart_int h
theorem fD{sl:Addr}{vl vu:Value}{lo hi:Option Int}{n:Nat}{Q:Int×Int×Nat->Shared->Prop}(hs:s.heap.IsSliceOf sl vl vu .none)(pl:IsPart vl lo)(pu:IsPart vu hi)
  (h:Q (((sIx n 0 lo:Nat):Int),1,sIx n n hi - sIx n 0 lo) s):wpAny (model prog w) A (Builtin.Slice.sliceApplied (.ref sl) (pure (n:Int))) Q E s:=by
 obtain⟨os,hos,hcs,hds⟩:=id hs;unfold Builtin.Slice.sliceApplied Builtin.Slice.sliceFields;refine wpAny_bind (wpAny_bind (wpAny_field hos hds (x:=vl) rfl (wpAny_bind (wpAny_field hos hds (x:=vu) rfl (wpAny_bind (wpAny_field hos hds (x:=.none) rfl (wpAny_pure ?_)))))));refine wpAny_bind (slicePart_none ?_);show wpAny _ _ (if((1:Int)==0)=true then _ else _) _ _ s;rw[if_neg (by decide)];refine wpAny_bind (lK pl (wpAny_bind (lK pu (wpAny_bind (wpAny_pure ?_)))));show wpAny _ _ (match Builtin.Slice.sliceAdjust lo hi 1 (n:Int)with|(lo,hi)=>pure (lo,(1:Int),Builtin.Slice.slicePlaces lo hi 1)) _ _ s;rw[qZ lo hi n];show wpAny _ _ (pure (((sIx n 0 lo:Nat):Int),(1:Int),Builtin.Slice.slicePlaces ((sIx n 0 lo:Nat):Int) ((sIx n n hi:Nat):Int) 1)) _ _ s;rw[rh];exact wpAny_pure h
theorem uW(xs:Array Value)(i k:Nat):((List.range k).filterMap fun (m:Nat)=>xs[((i:Int)+(m:Int)*1).toNat]?).toArray=((xs.toList.drop i).take k).toArray:=by
 have e:(fun (m:Nat)=>xs[((i:Int)+(m:Int)*1).toNat]?)=fun m=>xs[i+m]?:=by
  funext m
  have:((i:Int)+(m:Int)*1).toNat=i+m:=by omega
  rw[this]
 rw[e];have:=pick_run xs i k;rw[List.filterMap_map]at this
 have e2:((fun x=>xs[x]?) ∘ fun x=>i+x)=fun m=>xs[i+m]?:=rfl
 rw[e2]at this;rw[this]
theorem jA{t sl:Addr}{items:Array Value}{vl vu:Value}{lo hi:Option Int}{Q:Value->Shared->Prop}(ht:IsTup s.heap t items)(hs:s.heap.IsSliceOf sl vl vu .none)(pl:IsPart vl lo)(pu:IsPart vu hi)
  (hw:¬ (sIx items.size 0 lo=0 /\ sIx items.size items.size hi=items.size))
  (h:Q (.ref s.heap.objs.size) { s with heap:=s.heap.push { cls:=.type "tuple",data:=.seq ((items.toList.drop (sIx items.size 0 lo)).take (sIx items.size items.size hi - sIx items.size 0 lo)).toArray } })
  (hsz:items.size<=sizeLine):wpAny (model prog w) A (getItem (.ref t) (.ref sl)) Q E s:=by
 have htake:sizeOk (.seq ((items.toList.drop (sIx items.size 0 lo)).take (sIx items.size items.size hi - sIx items.size 0 lo)).toArray):=by
  show((items.toList.drop (sIx items.size 0 lo)).take (sIx items.size items.size hi - sIx items.size 0 lo)).toArray.size<=sizeLine
  rw[List.size_toArray,List.length_take,List.length_drop,Array.length_toList];omega
 have hj:sIx items.size items.size hi<=items.size:=As _ _ (Nat.le_refl _) hi
 obtain⟨os,hos,hcs,hds⟩:=id hs
 have hTs:s.TypeIs (.ref sl) "slice":=⟨os,hos,hcs⟩
 unfold getItem
 try with_reducible refine wpAny_holding ?_
 first|refine wpAny_bind (wpAny_pure ?_)|skip
 refine wpAny_bind (wpAny_sequenceKey ht.typeIs (by decide) ?_)
 refine wpAny_bind (wpAny_callSpecial?_slot (name:=Str.ofString "__getitem__") ht.typeIs PyProof.Rows.slot_tuple_getitem
  (wpAny_call_entry PyProof.Rows.slot_tuple_getitem ht.typeIs entry_tuple_getitem ?_ (args_tuple_getitem _ _)))
 show wpAny _ _ (Builtin.Tuple.tupleItemsOf (.ref t) >>= _) _ _ s;refine wpAny_bind (tupleItemsOf_ ht ?_);refine wpAny_bind (wpAny_typeOf hTs ?_);rw[if_pos (by decide)];refine wpAny_bind (fD hs pl pu ?_)
 have hno:¬ ((((sIx items.size 0 lo:Nat):Int)==0&&(1:Int)==1&&(sIx items.size items.size hi - sIx items.size 0 lo)==items.size)=true):=by
  intro q;rw[Bool.and_eq_true,Bool.and_eq_true]at q
  have q1:((sIx items.size 0 lo:Nat):Int)=0:=eq_of_beq q.1.1
  have q2:sIx items.size items.size hi - sIx items.size 0 lo=items.size:=eq_of_beq q.2
  exact hw ⟨by omega,by omega⟩
 show wpAny _ _ (if(((sIx items.size 0 lo:Nat):Int)==0&&(1:Int)==1&&(sIx items.size items.size hi - sIx items.size 0 lo)==items.size)=true then _ else _) _ _ s;rw[if_neg hno,uW]
 first
  |exact wpAny_bind (m:=Builtin.Tuple.tupleExact _) (wpAny_newObj_type (wpAny_pure ⟨_,rfl,wpAny_pure h⟩) htake)
  |exact wpAny_bind (m:=Builtin.Tuple.tupleExact _) (wpAny_newObj_type (wpAny_bind (wpAny_pure (wpAny_pure ⟨_,rfl,wpAny_pure h⟩))) htake)
  |exact wpAny_bind (wpAny_bind (m:=Builtin.Tuple.tupleExact _) (wpAny_newObj_type (wpAny_pure (wpAny_pure ⟨_,rfl,wpAny_pure h⟩)) htake))
  |exact wpAny_bind (wpAny_bind (m:=Builtin.Tuple.tupleExact _) (wpAny_newObj_type (wpAny_pure ⟨_,rfl,wpAny_pure h⟩) htake))
end
end HT
namespace L2
open PySem PySem.Spec PyProof.Rows
abbrev TO:=St->Hp->(Option Int->Hp->Prop)->Prop
noncomputable def PO(X:Cx)(e:Option Expr)(t:TO):Prop:=
 ∀(pins:List (Addr×Obj)) (s:Shared) (σ:St) (H:Hp) (Q:Option Int->Hp->Prop),Inv X pins σ H s->t σ H Q ->
   wpAny (model X.prog X.w) X.A (evalPart e X.env) (fun u s'=>∃ o H',Inv X pins σ H' s' /\ IsPart u o /\ Q o H') X.xe s
noncomputable def nZ:TO:=fun _ H Q=>Q none H
noncomputable def vB(t:TE):TO:=fun σ H Q=>t σ H fun x H1=>∃ i,x=.int i /\ Q (some i) H1
section
variable{X:Cx}{e:Expr}{te:TE}{lo hi:Option Expr}{tl th:TO}{pos p2:Pos}
theorem xX:PO X none nZ:=by
 intro pins s σ H Q I h;rw[evalPart_none];exact wpAny_pure ⟨none,H,I,.none,h⟩
theorem yb(h:PE X e te):PO X (some e) (vB te):=by
 intro pins s σ H Q I hw;rw[evalPart_some]
 refine thn (h pins s σ H _ I hw) fun u s1 ⟨x,H1,I1,r1,q1⟩=>?_
 obtain⟨i,rfl,q⟩:=q1;obtain⟨t,rfl⟩:=r1
 exact⟨some i,H1,I1,.int i t,q⟩
noncomputable def SlR(X:Cx)(r:V->Option Int->Option Int->Hp->VK->Prop):Prop:=
 ∀(pins:List (Addr×Obj)) (s:Shared) (σ:St) (H:Hp) (x:V) (v vl vu:Value) (lo hi:Option Int) (sl:Addr) (Q:VK),Inv X pins σ H s->RelV x v->s.heap.IsSliceOf sl vl vu .none->IsPart vl lo->IsPart vu hi->r x lo hi H Q ->
   ∃ T id,typeLookup (.type T) "__getitem__" = pure (some (.builtin id)) /\ s.TypeIs v T /\ wpAny (model X.prog X.w) X.A (getItem v (.ref sl)) (EP X pins σ Q) X.xe s
noncomputable def tSl(r:V->Option Int->Option Int->Hp->VK->Prop)(te:TE)(tl th:TO):TE:=fun σ H Q=>te σ H fun x H1=>tl σ H1 fun l H2=>th σ H2 fun u H3=>r x l u H3 Q
theorem v7{r:V->Option Int->Option Int->Hp->VK->Prop}(hr:SlR X r)(he:PE X e te)(hl:PO X lo tl)(hu:PO X hi th):PE X (.Subscript e (.Slice lo hi none p2) pos) (tSl r te tl th):=by
 intro pins s σ H Q I h;refine Subscript_ (thn (he pins s σ H _ I h) fun v s1 ⟨x,H1,I1,r1,q1⟩=>?_);refine wpAny_Slice (thn (hl pins s1 σ H1 _ I1 q1) fun vl s2 ⟨l,H2,I2,pl,q2⟩=>thn (hu pins s2 σ H2 _ I2 q2) fun vu s3 ⟨u,H3,I3,pu,q3⟩=>?_);rw[evalPart_none];refine wpAny_pure ?_
 have I4:Inv X pins σ H3 { s3 with heap:=s3.heap.push { cls:=.type "slice",data:=.fields #[vl,vu,.none] } }:=I3.kept (t':=s3.toks) fun b ob q=>Heap.get?_push_of_some _ q
 obtain⟨T,id,hT,ht,hg⟩:=hr pins { s3 with heap:=s3.heap.push { cls:=.type "slice",data:=.fields #[vl,vu,.none] } } σ H3 x v vl vu l u s3.heap.objs.size Q I4 r1 (Heap.IsSliceOf.new ..) pl pu q3;show wpAny (model X.prog X.w) X.A (subscriptTail e (.Slice lo hi none p2) v (.ref s3.heap.objs.size)) (EP X pins σ Q) X.xe { s3 with heap:=s3.heap.push { cls:=.type "slice",data:=.fields #[vl,vu,.none] } };exact tail_any (ops:=[.ref s3.heap.objs.size,v]) ht hT hg (by with_unfolding_all rfl)
noncomputable def kE(xs:List V)(lo hi:Option Int):List V:=(xs.drop (HT.sIx xs.length 0 lo)).take (HT.sIx xs.length xs.length hi - HT.sIx xs.length 0 lo)
theorem j9(xs:List V)(lo hi:Option Int):(kE xs lo hi).length<=xs.length:=by
 unfold kE;rw[List.length_take,List.length_drop];omega
noncomputable def Ek(K:PySem.W.Frag):V->Option Int->Option Int->Hp->VK->Prop:=fun x lo hi H Q=>∃ a xs,x=.ref a /\ SqT K H a xs /\
 ¬ (HT.sIx xs.length 0 lo=0 /\ HT.sIx xs.length xs.length hi=xs.length) /\ ∀ p,H p=none->Q (.ref p) (upd H p (.tup (kE xs lo hi)))
theorem Ab:SlR X (Ek X.K):=by
 intro pins s σ H x v vl vu lo hi sl Q I rx hs pl pu h;obtain⟨a,xs,rfl,hx,hw,q⟩:=h;cases rx;obtain⟨its,r,ht,hz⟩:=I.tuple hx
 have hlen:its.toArray.size=xs.length:=by rw[List.size_toArray];exact r.length.symm
 refine⟨"tuple",_,PyProof.Rows.slot_tuple_getitem.lookup,ht.typeIs,?_⟩
 refine HT.jA ht hs pl pu (by rw[hlen];exact hw) ?_ (by rw[hlen];exact hz);rw[hlen]
 refine⟨.ref s.heap.objs.size,_,I.laid (t':=s.toks) (o:=.tup (kE xs lo hi)) (fun b ob q=>Heap.get?_push_of_some _ q) (Nat.le_refl _) ?_,rfl,q _ (I.hok.fresh (Nat.le_refl _))⟩
 exact⟨⟨Nat.le_trans (j9 xs lo hi) hz,.new _ _⟩,_,(r.drop (HT.sIx xs.length 0 lo)).take (HT.sIx xs.length xs.length hi - HT.sIx xs.length 0 lo),IsTup.new _ _⟩
noncomputable def wm(K:PySem.W.Frag):R2:=fun x y H Q=>∃ a b xs ys,x=.ref a /\ y=.ref b /\ SqT K H a xs /\ SqT K H b ys /\ xs≠[] /\ xs.length+ys.length<=sizeLine /\
 (ys=[]->Q (.ref a) H) /\ (ys≠[]->∀ p,H p=none->Q (.ref p) (upd H p (.tup (xs++ys))))
theorem Vals.i8{xs:List V}{us:List Value}(r:Vals xs us):us=[]↔xs=[]:=by
 cases r with
 |nil=>simp
 |cons _ _=>simp
theorem xY:OpR X (binaryOp .Add) (wm X.K):=by
 intro pins s σ H x y v u Q I rx ry h;obtain⟨a,b,xs,ys,rfl,rfl,ha,hb,hx,hz,q1,q2⟩:=h;cases rx;cases ry;obtain⟨its,r1,p1,_⟩:=I.tuple ha;obtain⟨its2,r2,p2,_⟩:=I.tuple hb;refine HT.yl p1 p2 (fun z=>hx (r1.i8.mp z)) (fun z=>⟨.ref a,H,I,rfl,q1 (r2.i8.mp z)⟩) (fun z=>?_) (by rw[<- r1.length,<- r2.length];exact hz)
 refine⟨.ref s.heap.objs.size,_,I.laid (t':=s.toks) (o:=.tup (xs++ys)) (fun b ob q=>Heap.get?_push_of_some _ q) (Nat.le_refl _) ?_,rfl,q2 (fun w=>z (r2.i8.mpr w)) _ (I.hok.fresh (Nat.le_refl _))⟩
 exact⟨⟨by rw[List.length_append];exact hz,.new _ _⟩,_,r1.append r2,IsTup.new _ _⟩
end
noncomputable def ixN(n:Nat)(i:Int):Option Nat:=if 0<=i then(if i<n then some i.toNat else none)else if -(n:Int)<=i then some (i+n).toNat else none
noncomputable def atI{α:Type}(xs:List α)(i:Int):Option α:=(ixN xs.length i).bind fun j=>xs[j]?
theorem yi{n:Nat}{i:Int}{j:Nat}(h:ixN n i=some j):seqIndex? i n=some j /\ j<n /\ -(n:Int)<=i /\ i<n:=by
 unfold ixN at h
 by_cases h0:0<=i
 . rw[if_pos h0]at h
   by_cases h1:i<n
   . rw[if_pos h1]at h
     have e:i.toNat=j:=Option.some.inj h
     exact⟨by rw[seqIndex_of h0 h1,e],by omega,by omega,h1⟩
   . rw[if_neg h1]at h;cases h
 . rw[if_neg h0]at h
   by_cases h1:-(n:Int)<=i
   . rw[if_pos h1]at h
     have e:(i+n).toNat=j:=Option.some.inj h
     exact⟨by rw[seqIndex_neg (by omega) h1,e],by omega,h1,by omega⟩
   . rw[if_neg h1]at h;cases h
theorem sN{α:Type}{xs:List α}{i:Int}{v:α}(h:atI xs i=some v):∃ j,seqIndex? i xs.length=some j /\ xs[j]?=some v /\ j<xs.length /\ -(xs.length:Int)<=i /\ i<xs.length:=by
 unfold atI at h
 cases e:ixN xs.length i with
 |none=>rw[e]at h;cases h
 | some j=>
   rw[e]at h;obtain⟨h1,h2,h3,h4⟩:=yi e
   exact⟨j,h1,h,h2,h3,h4⟩
noncomputable def n9(b:Expr):Prop:=∀ o i,subscripted b false o i=operate [o,i] (getItem o i)
noncomputable def IxR(X:Cx)(r:R2):Prop:=
 ∀(value slice:Expr) (pins:List (Addr×Obj)) (s:Shared) (σ:St) (H:Hp) (x y:V) (v u:Value) (Q:VK),Inv X pins σ H s->RelV x v->RelV y u->r x y H Q ->
   subscripted slice false v u=operate [v,u] (getItem v u)->wpAny (model X.prog X.w) X.A (subscriptTail value slice v u) (EP X pins σ Q) X.xe s
noncomputable def MtR(X:Cx)(id:String)(r:V->List V->Hp->VK->Prop):Prop:=
 ∀(pins:List (Addr×Obj)) (s:Shared) (σ:St) (H:Hp) (x:V) (xs:List V) (v:Value) (us:List Value) (Q:VK),Inv X pins σ H s->RelV x v->Vals xs us->r x xs H Q ->
   wpAny (model X.prog X.w) X.A (call (.builtin id) (v ::us)) (EP X pins σ Q) X.xe s
section
variable{X:Cx}{a b:Expr}{ta tb:TE}{pos:Pos}
theorem Cp{r:R2}(hr:IxR X r)(ha:PE X a ta)(hb:PE X b tb)(hs:n9 b):PE X (.Subscript a b pos) (tOp r ta tb):=by
 intro pins s σ H Q I h;exact Subscript_ (A6 ha hb I h fun v u s2 x y H2 I2 rx ry q=>hr a b pins s2 σ H2 x y v u Q I2 rx ry q (hs _ _))
noncomputable def Ci(K:PySem.W.Frag):R2:=fun x y H Q=>∃ p xs i v,x=.ref p /\ y=.int i /\ SqL K H p xs /\ atI xs i=some v /\ Q v H
noncomputable def Cm(K:PySem.W.Frag):R2:=fun x y H Q=>∃ p xs i v,x=.ref p /\ y=.int i /\ SqT K H p xs /\ atI xs i=some v /\ Q v H
theorem kM:IxR X (Ci X.K):=by
 intro value slice pins s σ H x y v u Q I rx ry h hs;obtain⟨p,xs,i,z,rfl,rfl,hq,he,q⟩:=h;cases rx;obtain⟨t,rfl⟩:=ry;obtain⟨its,r,pl,hz⟩:=I.list hq;obtain⟨j,h1,h2,h3,h4,h5⟩:=sN he;obtain⟨w,ew,rw'⟩:=r.get h2;have hl:=r.length;have hn:=pC
 have fin:EP X pins σ Q w s:=⟨z,H,I,rw',q⟩
 by_cases h0:0<=i
 . have hj:i.toNat = j:=by
    rw[seqIndex_of h0 h5]at h1;exact Option.some.inj h1
   exact item_listR pl.isList h0 (by omega) (by rw[hj];simpa using ew) fin hs
 . have hj:(i + (its.toArray.size:Int)).toNat = j:=by
    rw[seqIndex_neg (by omega) h4]at h1;rw[List.size_toArray,<- hl];exact Option.some.inj h1
   exact subscriptTail_builtinR (x:=w) pl.isList.typeIs slot_list_getitem.lookup
    (wpAny_getItem_list_neg (Q:=fun r s'=>r=w /\ EP X pins σ Q r s') pl.isList (by omega) (by rw[List.size_toArray]<;>omega) (by omega) (by rw[hj];simpa using ew) ⟨rfl,fin⟩) hs
theorem aS:IxR X (Cm X.K):=by
 intro value slice pins s σ H x y v u Q I rx ry h hs;obtain⟨p,xs,i,z,rfl,rfl,hq,he,q⟩:=h;cases rx;obtain⟨t,rfl⟩:=ry;obtain⟨its,r,pl,hz⟩:=I.tuple hq;obtain⟨j,h1,h2,h3,h4,h5⟩:=sN he;obtain⟨w,ew,rw'⟩:=r.get h2;have hl:=r.length;have hn:=pC
 have fin:EP X pins σ Q w s:=⟨z,H,I,rw',q⟩
 exact subscriptTail_builtinR (x:=w) pl.typeIs slot_tuple_getitem.lookup
  (getItem_tuple (j:=j) (Q:=fun r s'=>r=w /\ EP X pins σ Q r s') pl (by omega) (by omega) (by rw[List.size_toArray,<- hl];exact h1) (by simpa using ew) ⟨rfl,fin⟩) hs
theorem Inv.lst{pins:List (Addr×Obj)}{σ:St}{H:Hp}{s:Shared}{p:Addr}{xs:List V}(I:Inv X pins σ H s)(h:H p=some (.lst xs)):
  ∃(its:List Value) (n:Nat),Vals xs its /\ s.heap.get? p=some { cls:=.type "list",data:=.seq its.toArray n } /\ xs.length<=sizeLine:=by
 obtain⟨z,its,n,r,e⟩:=I.hok p _ h
 exact⟨its,n,r,e,z⟩
theorem oO(lo hi:Option Int)(n:Nat):(sliceBounds lo hi none n).1=((HT.sIx n 0 lo:Nat):Int) /\ (sliceBounds lo hi none n).2.1=((HT.sIx n n hi:Nat):Int) /\ (sliceBounds lo hi none n).2.2=1:=by
 refine⟨?_,?_,rfl⟩
 . cases lo with
   |none=>simp[sliceBounds,HT.sIx]
   | some i=>
     simp only[sliceBounds,HT.sIx,Option.getD_none,show(1:Int)>0 by decide,if_true]
     by_cases h:i<0
     . simp only[h,if_true]<;>omega
     . simp only[h,if_false]<;>omega
 . cases hi with
   |none=>simp[sliceBounds,HT.sIx]
   | some i=>
     simp only[sliceBounds,HT.sIx,Option.getD_none,show(1:Int)>0 by decide,if_true]
     by_cases h:i<0
     . simp only[h,if_true]<;>omega
     . simp only[h,if_false]<;>omega
theorem mZ(its:List Value)(lo hi:Option Int):slicePick its.toArray lo hi none=((its.drop (HT.sIx its.length 0 lo)).take (HT.sIx its.length its.length hi - HT.sIx its.length 0 lo)).toArray:=by
 obtain⟨h1,h2,h3⟩:=oO lo hi its.toArray.size;unfold slicePick;rw[h1,h2,h3]
 simp only[sliceRange_one,pick_run,List.size_toArray]<;>rfl
noncomputable def Du(K:PySem.W.Frag):V->Option Int->Option Int->Hp->VK->Prop:=fun x lo hi H Q=>∃ a xs,x=.ref a /\ SqL K H a xs /\ ∀ p,H p=none->Q (.ref p) (upd H p (.lst (kE xs lo hi)))
theorem C8:SlR X (Du X.K):=by
 intro pins s σ H x v vl vu lo hi sl Q I rx hs pl pu h;obtain⟨a,xs,rfl,hx,q⟩:=h;cases rx;obtain⟨its,r,ht,hz⟩:=I.list hx;have hlen:=r.length
 refine⟨"list",_,slot_list_getitem.lookup,ht.isList.typeIs,?_⟩
 refine wpAny_getItem_list_slice ht.isList hs pl pu .none (by simp) ?_ (by rw[List.size_toArray]<;>omega);rw[mZ,<- hlen]
 refine⟨.ref s.heap.objs.size,_,I.laid (t':=s.toks) (o:=.lst (kE xs lo hi)) (fun b ob q=>Heap.get?_push_of_some _ q) (Nat.le_refl _) ?_,rfl,q _ (I.hok.fresh (Nat.le_refl _))⟩
 exact⟨Nat.le_trans (j9 xs lo hi) hz,_,0,(r.drop (HT.sIx xs.length 0 lo)).take (HT.sIx xs.length xs.length hi - HT.sIx xs.length 0 lo),Heap.get?_push_size _ rfl⟩
noncomputable def iz:V->Bool
 |.non=>true
 |.bl _=>true
 |.int _=>true
 |.str _=>true
 |_=>false
noncomputable def eqV:V->V->Bool
 |.non,.non=>true
 |.bl a,.bl b=>a==b
 |.bl a,.int b=>(if a then 1 else 0)==b
 |.int a,.bl b=>a==(if b then 1 else 0)
 |.int a,.int b=>a==b
 |.str a,.str b=>a==b
 |_,_=>false
theorem AX{A:Around}{s:Shared}{y x:V}{u v:Value}(ry:RelV y u)(rx:RelV x v)(fy:iz y=true)(fx:iz x=true):SeqAt.EqAt A s u v (eqV y x):=by
 cases y with
 | non=>
   cases ry
   cases x with
   |non=>cases rx;exact SeqAt.EqAt.same _
   |bl b=>cases rx;exact SeqAt.EqAt.none_bool b
   |int b=>obtain⟨t,rfl⟩:=rx;exact SeqAt.EqAt.none_int b t
   |str b=>obtain⟨t,rfl⟩:=rx;exact SeqAt.EqAt.none_str b t
   |_=>exact absurd (show false=true from fx) Bool.false_ne_true
 | bl a=>
   cases ry
   cases x with
   |non=>cases rx;exact SeqAt.EqAt.bool_none a
   |bl b=>cases rx;exact SeqAt.EqAt.bool_bool a b
   |int b=>obtain⟨t,rfl⟩:=rx;exact SeqAt.EqAt.bool_int a b t
   |str b=>obtain⟨t,rfl⟩:=rx;exact SeqAt.EqAt.bool_str a b t
   |_=>exact absurd (show false=true from fx) Bool.false_ne_true
 | int a=>
   obtain⟨t',rfl⟩:=ry
   cases x with
   |non=>cases rx;exact SeqAt.EqAt.int_none a t'
   |bl b=>cases rx;exact SeqAt.EqAt.int_bool a t' b
   |int b=>obtain⟨t,rfl⟩:=rx;exact SeqAt.EqAt.int_int a t' b t
   |str b=>obtain⟨t,rfl⟩:=rx;exact SeqAt.EqAt.int_str a t' b t
   |_=>exact absurd (show false=true from fx) Bool.false_ne_true
 | str a=>
   obtain⟨t',rfl⟩:=ry
   cases x with
   |non=>cases rx;exact SeqAt.EqAt.str_none a t'
   |bl b=>cases rx;exact SeqAt.EqAt.str_bool a t' b
   |int b=>obtain⟨t,rfl⟩:=rx;exact SeqAt.EqAt.str_int a t' b t
   |str b=>obtain⟨t,rfl⟩:=rx;exact SeqAt.EqAt.str_str a t' b t
   |_=>exact absurd (show false=true from fx) Bool.false_ne_true
 |_=>exact absurd (show false=true from fy) Bool.false_ne_true
noncomputable def eqU(x:V)(u:Value):Bool:=match u with
 |.none=>eqV .non x
 |.bool b=>eqV (.bl b) x
 |.int i _=>eqV (.int i) x
 |.str z _=>eqV (.str z) x
 |_=>false
theorem wa{x y:V}{u:Value}(r:RelV y u)(f:iz y=true):eqU x u=eqV y x:=by
 cases y with
 |non=>cases r;rfl
 |bl b=>cases r;rfl
 |int i=>obtain⟨t,rfl⟩:=r;rfl
 |str z=>obtain⟨t,rfl⟩:=r;rfl
 |_=>exact absurd (show false=true from f) Bool.false_ne_true
theorem oz{x:V}:∀{xs:List V} {us:List Value},Vals xs us->xs.all iz=true->us.any (eqU x)=xs.any fun y=>eqV y x
 |_,_,.nil,_=>rfl
 | y ::xs,u ::us,.cons r t,f=>by
   rw[List.all_cons,Bool.and_eq_true]at f;rw[List.any_cons,List.any_cons,wa r f.1,oz t f.2]
theorem kP{A:Around}{s:Shared}{x:V}{v:Value}(rx:RelV x v)(fx:iz x=true):∀{xs:List V} {us:List Value},Vals xs us->xs.all iz=true->∀ u∈us,SeqAt.EqAt A s u v (eqU x u)
 |_,_,.nil,_=>fun u hu=>by cases hu
 | y ::xs,u ::us,.cons r t,f=>fun u' hu=>by
   rw[List.all_cons,Bool.and_eq_true]at f
   rcases List.mem_cons.mp hu with rfl|hu
   . rw[wa r f.1];exact AX r rx f.1 fx
   . exact kP rx fx t f.2 u' hu
noncomputable def inV(x:V)(xs:List V):Bool:=xs.any fun y=>eqV y x
noncomputable def rIn(K:PySem.W.Frag)(neg:Bool):R2:=fun x y H Q=>∃ p xs,y=.ref p /\ (SqL K H p xs \/ SqT K H p xs) /\ iz x=true /\ xs.all iz=true /\ Q (.bl (if neg then !inV x xs else inV x xs)) H
theorem uE:OpR X (compareOp .In) (rIn X.K false):=by
 intro pins s σ H x y v u Q I rx ry h;obtain⟨p,xs,rfl,hq,fx,fs,q⟩:=h;cases ry
 rcases hq with hq|hq
 . obtain⟨its,r,pl,hz⟩:=I.list hq;refine SeqAt.in_listAt (eqU x) pl.isList (fun w hw=>kP rx fx r fs w (by simpa using hw)) ⟨.bl _,H,I,rfl,?_⟩;rw[show its.toArray.any (eqU x)=its.any (eqU x) by simp,oz r fs];exact q
 . obtain⟨its,r,pl,hz⟩:=I.tuple hq;refine SeqAt.in_tupleAt (eqU x) pl (fun w hw=>kP rx fx r fs w (by simpa using hw)) ⟨.bl _,H,I,rfl,?_⟩;rw[show its.toArray.any (eqU x)=its.any (eqU x) by simp,oz r fs];exact q
theorem oB:gw X (.builtin "len") (fun xs H Q=>∃ p ys,xs=[.ref p] /\ (SqL X.K H p ys \/ SqT X.K H p ys) /\ Q (.int ys.length) H):=by
 intro pins s σ H xs us Q I r h;obtain⟨p,ys,rfl,hq,q⟩:=h;obtain⟨u,rfl,rx⟩:=vals1 r;cases rx;have hn:=pC
 rcases hq with hq|hq
 . obtain⟨its,r',pl,hz⟩:=I.list hq;have hlen:=r'.length;exact Calls.call_len_list pl.isList (by simp only[List.size_toArray]<;>omega) ⟨.int ys.length,H,I.tok _,⟨s.toks+1,by rw[List.size_toArray,hlen]⟩,q⟩
 . obtain⟨its,r',pl,hz⟩:=I.tuple hq;have hlen:=r'.length;exact len_tuple pl (by simp only[List.size_toArray]<;>omega) ⟨.int ys.length,H,I.tok _,⟨s.toks+1,by rw[List.size_toArray,hlen]⟩,q⟩
theorem oo:gw X (.type "list") (fun xs H Q=>∃ p ys,xs=[.ref p] /\ (SqL X.K H p ys \/ SqT X.K H p ys) /\ ∀ l,H l=none->Q (.ref l) (upd H l (.lst ys))):=by
 intro pins s σ H xs us Q I r h;obtain⟨p,ys,rfl,hq,q⟩:=h;obtain⟨u,rfl,rx⟩:=vals1 r;cases rx
 have fin:∀(its:List Value),Vals ys its->ys.length<=sizeLine->∀(h':Heap) (c':Nat),(∀ b o',s.heap.get? b=some o'->h'.get? b=some o') ->
   h'.get? s.heap.objs.size=some { cls:=.type "list",dict:=none,data:=.seq its.toArray c',slots:=#[] }->EP X pins σ Q (.ref s.heap.objs.size) { s with heap:=h' }:=fun its r' hz h' c' kp e=>
  ⟨.ref s.heap.objs.size,_,I.laid (t':=s.toks) kp (Nat.le_refl _) (show b0 X.prog X.w _ h' _ (.lst ys) from⟨hz,its,c',r',e⟩),rfl,q _ (I.hok.fresh (Nat.le_refl _))⟩
 rcases hq with hq|hq
 . obtain⟨its,r',pl,hz⟩:=I.list hq;have hlen:=r'.length;obtain⟨o,ho,hc,n,hd⟩:=pl.isList;exact call_list_seq p (.inl rfl) ho hc hd (fun h' c' kp e=>fin its r' hz h' c' kp e) (by simp only[List.size_toArray]<;>omega)
 . obtain⟨its,r',pl,hz⟩:=I.tuple hq;have hlen:=r'.length;obtain⟨o,ho,hc,n,hd⟩:=pl;exact call_list_seq p (.inr rfl) ho hc hd (fun h' c' kp e=>fin its r' hz h' c' kp e) (by simp only[List.size_toArray]<;>omega)
theorem mX:gw X (.type "tuple") (fun xs H Q=>∃ p ys,xs=[.ref p] /\ ((SqL X.K H p ys /\ ∀ l,H l=none->Q (.ref l) (upd H l (.tup ys))) \/ (SqT X.K H p ys /\ Q (.ref p) H))):=by
 intro pins s σ H xs us Q I r h;obtain⟨p,ys,rfl,h⟩:=h;obtain⟨u,rfl,rx⟩:=vals1 r;cases rx
 rcases h with⟨hq,q⟩|⟨hq,q⟩
 . obtain⟨its,r',pl,hz⟩:=I.list hq;have hlen:=r'.length;refine call_tuple_list pl.isList (fun h' kp=>?_) (by simp only[List.size_toArray]<;>omega)
   have I1:Inv X pins σ H { s with heap:=h' }:=I.kept (t':=s.toks) kp
   have I2:Inv X pins σ (upd H h'.objs.size (.tup ys)) { s with heap:=h'.push { cls:=.type "tuple",data:=.seq its.toArray } }:=
    I1.laid (t':=s.toks) (fun b o e=>Heap.get?_push_of_some _ e) (Nat.le_refl _) (show b0 X.prog X.w _ _ _ (.tup ys) from⟨⟨hz,.new _ _⟩,its,r',IsTup.new _ _⟩)
   exact⟨.ref h'.objs.size,_,I2,rfl,q _ (I1.hok.fresh (Nat.le_refl _))⟩
 . obtain⟨its,r',pl,hz⟩:=I.tuple hq;exact call_tuple_same pl ⟨.ref p,H,I,rfl,q⟩
noncomputable def tyV(K:PySem.W.Frag)(T:String)(x:V)(H:Hp):Prop:=match x with
 |.str _=>T = "str"
 |.int _=>T = "int"
 | .ref p=>(T = "list" /\ ∃ xs,SqL K H p xs) \/ (T = "tuple" /\ ∃ o,K.lookup p = some o /\ o.cls = .type "tuple" /\ o.dict = none) \/
    (T = "dict" /\ ((∃ kvs,H p=some (.dK kvs)) \/ ∃ kvs,H p=some (.dT kvs))) \/ (T = "set" /\ ∃ S n,H p=some (.set S n))
 |_=>False
theorem vc{pins:List (Addr×Obj)}{σ:St}{H:Hp}{s:Shared}{T:String}{x:V}{v:Value}(I:Inv X pins σ H s)(r:RelV x v)(ty:tyV X.K T x H):
  s.TypeIs v T /\ ∀ a,v=.ref a->∃ ob,s.heap.get? a=some ob /\ ob.dict=none:=by
 cases x with
 | str z=>
   obtain⟨t,rfl⟩:=r
   cases(show T = "str" from ty)
   exact⟨typeIs_str s z t,fun _ e=>nomatch e⟩
 | int i=>
   obtain⟨t,rfl⟩:=r
   cases(show T = "int" from ty)
   exact⟨typeIs_int s i t,fun _ e=>nomatch e⟩
 | ref p=>
   cases r
   rcases ty with⟨rfl,xs,hq⟩|⟨rfl,o,hk,hc,hd⟩|⟨rfl,hk⟩|⟨rfl,S,n,hk⟩
   . obtain⟨its,_,pl,_⟩:=I.list hq
     refine⟨pl.isList.typeIs,fun a e=>?_⟩
     cases e;obtain⟨o,n,e,c,hd,_⟩:=pl
     exact⟨o,e,hd⟩
   . refine⟨⟨o,I.kIn p o hk,hc⟩,fun a e=>?_⟩
     cases e
     exact⟨o,I.kIn _ o hk,hd⟩
   . have z:∃ o,s.heap.get? p = some o /\ o.ExactDict:=by
      rcases hk with⟨kvs,hk⟩|⟨kvs,hk⟩
      . obtain⟨_,_,_,_,o,_,_,e,ex,_⟩:=I.hok p _ hk
        exact⟨o,e,ex⟩
      . obtain⟨_,_,_,_,o,_,_,e,ex,_⟩:=I.hok p _ hk
        exact⟨o,e,ex⟩
     obtain⟨o,e,ex⟩:=z
     refine⟨⟨o,e,ex.1⟩,fun a e2=>?_⟩
     cases e2
     exact⟨o,e,ex.2.1⟩
   . obtain⟨o,_,_,_,e,ex,_⟩:=I.hok p _ hk
     refine⟨⟨o,e,ex.1⟩,fun a e2=>?_⟩
     cases e2
     exact⟨o,e,ex.2.1⟩
 |_=>exact False.elim ty
noncomputable def yQ(K:PySem.W.Frag)(T:String)(r:V->List V->Hp->VK->Prop)(to:TE):TE:=fun σ H Q=>to σ H fun x H1=>tyV K T x H1 /\ r x [] H1 Q
noncomputable def tBM(K:PySem.W.Frag)(T:String)(r:V->List V->Hp->VK->Prop)(to:TE)(t:TA):TE:=fun σ H Q=>to σ H fun x H1=>tyV K T x H1 /\ t σ H1 fun xs H2=>r x xs H2 Q
variable{o e:Expr}{es:List Expr}{to:TE}{t:TA}{name:Str}{apos cpos:Pos}{T id:String}{r:V->List V->Hp->VK->Prop}
theorem AB(pa:PlainAttrs T)(slot:Slot T name id)(hty:typeOf (.builtin id)=pure (.type "method_descriptor"))(hm:MtR X id r)(ho:PE X o to)
  (hbase:attributeBase o name X.env (eval o X.env)=eval o X.env:=by rfl) (hline:(apos.endLine==cpos.line)=true:=by rfl):PE X (.Call (.Attribute o name apos) [] [] cpos) (yQ X.K T r to):=by
 intro pins s σ H Q I h;refine wpAny_Call_method0_late hbase hline (thn (ho pins s σ H _ I h) fun v s1 ⟨x,H1,I1,r1,ty,q1⟩=>?_);obtain⟨h1,h2⟩:=vc I1 r1 ty
 exact⟨T,id,pa,slot,hty,h1,h2,Calls.callWith_builtin rfl (PySem.evalArgs_none (hm pins s1 σ H1 x [] v [] Q I1 r1 .nil q1))⟩
theorem Cw(pa:PlainAttrs T)(slot:Slot T name id)(hty:typeOf (.builtin id)=pure (.type "method_descriptor"))(hm:MtR X id r)(ho:PE X o to)(ha:PA X (e ::es) t)
  (hbase:attributeBase o name X.env (eval o X.env)=eval o X.env:=by rfl)
  (hfew:((backTo cpos (starEach (e ::es) X.env)).all (fun x=>!x.1)&&(backToKw cpos (keywordEach [] X.env)).all (fun x=>x.1.isSome)
    && decide ((e ::es).length+([]:List Keyword).length+(if([]:List Keyword).isEmpty then 0 else 1)<30))=true:=by rfl)
  (hline:(apos.endLine==cpos.line)=true:=by rfl) (hs:starEach (e ::es) X.env=(false,eval e X.env) ::starEach es X.env:=by rfl) (hplain:(backTo cpos (starEach es X.env)).any (·.1)=false:=by rfl):
  PE X (.Call (.Attribute o name apos) (e ::es) [] cpos) (tBM X.K T r to t):=by
 intro pins s σ H Q I h;refine wpAny_Call_method_late hbase hfew hline rfl (thn (ho pins s σ H _ I h) fun v s1 ⟨x,H1,I1,r1,ty,q1⟩=>?_);obtain⟨h1,h2⟩:=vc I1 r1 ty
 refine⟨T,id,pa,slot,hty,h1,h2,?_⟩
 have hA:=ha cpos pins s1 σ H1 _ I1 q1
 rw[hs]at hA ⊢
 refine Calls.callWith_builtin (by show(false||(backTo cpos (starEach es X.env)).any (·.1))=false;rw[hplain]<;>rfl) (Calls.evalArgs_plain ?_)
 exact thn hA fun us s2 ⟨vs,H2,I2,r2,q2⟩=>hm pins s2 σ H2 x vs v us Q I2 r1 r2 q2
end
noncomputable def MtM(X:Cx)(id:String)(r:V->List V->Hp->VK->Prop):Prop:=
 ∀(pins:List (Addr×Obj)) (s:Shared) (σ:St) (H:Hp) (x:V) (xs:List V) (v:Value) (us:List Value) (Q:VK),Inv X pins σ H s->RelV x v->Vals xs us->r x xs H Q ->
   wpAny (model X.prog X.w) X.A (call (.builtin id) (v ::us)) (EP X pins σ Q) X.xe s
theorem Vals.one:∀{x:V} {us:List Value},Vals [x] us->∃ u,us=[u] /\ RelV x u
 |_,_,.cons r .nil=>⟨_,rfl,r⟩
theorem Vals.two:∀{x y:V} {us:List Value},Vals [x,y] us->∃ u v,us=[u,v] /\ RelV x u /\ RelV y v
 |_,_,_,.cons r (.cons q .nil)=>⟨_,_,rfl,r,q⟩
theorem Vals.zero:∀{us:List Value},Vals [] us->us=[]
 |_,.nil=>rfl
theorem Vals.dropLast{xs:List V}{us:List Value}(h:Vals xs us):Vals xs.dropLast us.dropLast:=by
 induction h with
 |nil=>exact .nil
 | cons r t ih=>
   cases t with
   |nil=>exact .nil
   |cons q t'=>exact .cons r ih
theorem Vals.eraseIdx:∀{xs:List V} {us:List Value} (i:Nat),Vals xs us->Vals (xs.eraseIdx i) (us.eraseIdx i)
 |_,_,_,.nil=>.nil
 |_,_,0,.cons _ t=>t
 |_,_,i+1,.cons r t=>.cons r (Vals.eraseIdx i t)
theorem Vals.rep{xs:List V}{us:List Value}(h:Vals xs us):∀ k:Nat,Vals (List.replicate k xs).flatten (List.replicate k us).flatten
 |0=>.nil
 | k+1=>by
   rw[List.replicate_succ,List.replicate_succ,List.flatten_cons,List.flatten_cons];exact Vals.append h (Vals.rep h k)
theorem rR{α:Type}(l:List α):l.eraseIdx (l.length - 1)=l.dropLast:=by
 induction l with
 |nil=>rfl
 | cons a r ih=>
   cases r with
   |nil=>rfl
   | cons b r=>
     have e:(a ::b ::r).length - 1=((b ::r).length - 1)+1:=by
      have h1:(a ::b ::r).length=r.length+2:=rfl
      have h2:(b ::r).length=r.length+1:=rfl
      omega
     rw[e,List.eraseIdx_cons_succ,ih]
     all_goals rfl
theorem foldl_rep(its:List Value):∀(k:Nat) (acc:List Value),
  List.foldl (fun x1 x2=>x1++x2) acc.toArray (List.replicate k its.toArray)=(acc++(List.replicate k its).flatten).toArray
 |0,acc=>by simp
 | k+1,acc=>by
   have e:acc.toArray++its.toArray=(acc++its).toArray:=by simp
   have e2:(acc++its)++(List.replicate k its).flatten=acc++(List.replicate (k+1) its).flatten:=by
    rw[List.replicate_succ,List.flatten_cons,List.append_assoc]
   rw[<- e2,<- foldl_rep its k (acc++its),<- e,List.replicate_succ,List.foldl_cons]
section
variable{X:Cx}{pins:List (Addr×Obj)}{σ:St}{H:Hp}{s:Shared}{l b:Addr}{xs ys zs:List V}
theorem Inv.xH{its its':List Value}{n:Nat}{f:Array Value->Array Value}{t':Nat}(I:Inv X pins σ H s)(hH:H l=some (.lst xs))
  (e:s.heap.get? l=some { cls:=.type "list",data:=.seq its.toArray n }) (hf:f its.toArray=its'.toArray) (hv:Vals ys its') (hz:ys.length<=sizeLine):
  Inv X pins σ (upd H l (.lst ys)) { s with heap:=s.heap.update l (Obj.mapSeq f),toks:=t' }:=by
 have q:=PySem.IsL.update e f;rw[hf]at q;refine I.write (x:=l) (e:=l) (by rw[hH];exact trivial) (.inl rfl) (fun b' u hb hu=>(Heap.get?_update_other s.heap (Obj.mapSeq f) (Ne.symm hb)).trans hu) ⟨_,q⟩ ?_
 exact⟨hz,its',_,hv,q⟩
theorem Inv.D1{its:List Value}{t':Nat}(I:Inv X pins σ H s)(hv:Vals ys its)(hz:ys.length<=sizeLine):
  Inv X pins σ (upd H s.heap.objs.size (.lst ys)) { s with heap:=s.heap.push { cls:=.type "list",data:=.seq its.toArray },toks:=t' }:=
 I.laid (fun _ _ q=>Heap.get?_push_of_some _ q) (Nat.le_refl _) ⟨hz,its,0,hv,Heap.get?_push_size _ rfl⟩
theorem Inv.fresh(I:Inv X pins σ H s):H s.heap.objs.size=none:=I.hok.fresh (Nat.le_refl _)
theorem Inv.wN(I:Inv X pins σ H s)(hH:H l=some (.lst xs)):xs.length<=sizeLine /\ ∃(its:List Value) (n:Nat),Vals xs its /\ xs.length=its.length /\ s.heap.get? l=some { cls:=.type "list",data:=.seq its.toArray n }:=by
 obtain⟨z,its,n,r,e⟩:=I.hok l _ hH
 exact⟨z,its,n,r,r.length,e⟩
theorem qa{n:Nat}(h:n<=sizeLine):Builtin.List.listTooLong n=false:=by
 unfold Builtin.List.listTooLong;exact decide_eq_false (by omega)
end
section
variable{X:Cx}
noncomputable def sG:V->List V->Hp->VK->Prop:=fun x vs H Q=>∃ l xs y,x=.ref l /\ vs=[y] /\ H l=some (.lst xs) /\ xs.length<sizeLine /\ Q .non (upd H l (.lst (xs++[y])))
theorem nB:MtM X "list.append" sG:=by
 intro pins s σ H x vs v us Q I rx rv h;obtain⟨l,xs,y,rfl,rfl,hH,hz,q⟩:=h;cases rx;obtain⟨u,rfl,ru⟩:=rv.one;obtain⟨z,its,n,r,hl,e⟩:=I.wN hH;refine call_meets F.slot_list_append ⟨_,e,rfl⟩ F.entry_list_append (F.args_list_append_2 _ _) (PySem.list_append l its.toArray n u (by rw[List.size_toArray];omega)) ⟨e,?_⟩
 refine⟨.non,_,I.xH (its':=its++[u]) hH e (by simp) (r.append (.cons ru .nil)) ?_,rfl,q⟩
 rw[List.length_append,List.length_singleton];omega
noncomputable def tm:V->List V->Hp->VK->Prop:=fun x vs H Q=>∃ l b xs zs,x=.ref l /\ vs=[.ref b] /\ H l=some (.lst xs) /\ H b=some (.lst zs) /\ xs.length+zs.length<=sizeLine /\ Q .non (upd H l (.lst (xs++zs)))
theorem uD:MtM X "list.extend" tm:=by
 intro pins s σ H x vs v us Q I rx rv h;obtain⟨l,b,xs,zs,rfl,rfl,hH,hB,hz,q⟩:=h;cases rx;obtain⟨u,rfl,ru⟩:=rv.one;cases ru;obtain⟨z,its,n,r,hl,e⟩:=I.wN hH;obtain⟨z2,its2,n2,r2,hl2,e2⟩:=I.wN hB
 have hsz:its.toArray.size+its2.toArray.size<=sizeLine:=by rw[List.size_toArray,List.size_toArray];omega
 have hlong:¬ (!its.toArray.isEmpty&&Builtin.List.listTooLong (its.toArray.size+its2.toArray.size))=true:=by
  rw[qa hsz,Bool.and_false];exact Bool.false_ne_true
 refine call_meets F.slot_list_extend ⟨_,e,rfl⟩ F.entry_list_extend (F.args_list_extend_2 _ _)
  (AutoSeq1.list_extend_list_list_0 l its.toArray n b its2.toArray n2 hlong (by rw[List.size_toArray];omega) (by omega)) ⟨e,e2,?_⟩
 refine⟨.non,_,I.xH (its':=its++its2) hH e (by simp) (r.append r2) ?_,rfl,q⟩
 rw[List.length_append];omega
noncomputable def Cq:V->List V->Hp->VK->Prop:=fun x vs H Q=>∃ l xs y,x=.ref l /\ vs=[] /\ H l=some (.lst xs) /\ xs[xs.length - 1]?=some y /\ Q y (upd H l (.lst xs.dropLast))
theorem A3:MtM X "list.pop" Cq:=by
 intro pins s σ H x vs v us Q I rx rv h;obtain⟨l,xs,y,rfl,rfl,hH,hy,q⟩:=h;cases rx;have hus:=rv.zero;subst hus;obtain⟨z,its,n,r,hl,e⟩:=I.wN hH;obtain⟨u,hu,ru⟩:=r.get hy
 have hy':its.toArray[its.toArray.size - 1]?=some u:=by
  show its.toArray[its.length - 1]?=some u;rw[<- Array.getElem?_toList,<- hl];exact hu
 refine call_meets F.slot_list_pop ⟨_,e,rfl⟩ F.entry_list_pop (F.args_list_pop_1 _) (MeetsSeq.list_pop_last l its.toArray n u hy' (by rw[List.size_toArray];omega)) ⟨e,?_⟩
 refine⟨y,_,I.xH (its':=its.dropLast) hH e ?_ r.dropLast ?_,ru,q⟩
 . show its.toArray.eraseIdxIfInBounds (its.toArray.size - 1)=its.dropLast.toArray;rw[List.size_toArray,List.eraseIdxIfInBounds_toArray,rR]
 . rw[List.length_dropLast];omega
theorem len_rep{α:Type}(xs:List α)(k:Nat):(List.replicate k xs).flatten.length=k*xs.length:=by
 induction k with
 |zero=>simp
 |succ k ih=>rw[List.replicate_succ,List.flatten_cons,List.length_append,ih,Nat.succ_mul,Nat.add_comm]
end
section
variable{prog:Program}{w:World}{A:Around}{E:Value->Shared->Prop}{s:Shared}
set_option maxRecDepth 100000 in
end
end L2
namespace Att
open PySem PySem.W PySem.Calls PyProof.Rows
theorem kB{P:Params}{h:Heap}:∀(ns:List Int) (vs:List Value),WellAll P h vs (ns.map WData.int)->IntsAre vs ns:=by
 intro ns
 induction ns with
 | nil=>
   intro vs w;rw[List.map_nil]at w;cases w;exact .nil
 | cons n ns ih=>
   intro vs w;rw[List.map_cons]at w
   cases w with
   | cons a b=>
     cases a;exact .cons _ _ (ih _ b)
theorem um{l:OpenLaw}{n:Nat}(hn:l.most=some n){P:Params}{h:Heap}{args:List WData}{vals:List Value}
  (hpre:l.row.toRowW.claim.pre args=true) (hwl:WellAll P h vals args):
  ∃ a vs ns,vals=[Value.ref a] /\ args=[WData.list (ns.map WData.int)] /\ h.get? a=some { cls:=.type "list",data:=.seq vs.toArray } /\ IntsAre vs ns /\ ns.length<=n:=by
 have hsh:WShape.hasAll [] args [.list .int]=true:=(pre_splitW hpre).1
 have hc:l.pre.holds [] { args:=args }=true:=(pre_splitW hpre).2
 obtain⟨d,r,rfl,h1,h2⟩:=hasAllW_cons hsh
 obtain rfl:=hasAllW_nil h2
 obtain⟨xs,rfl,h3⟩:=hasW_list h1;obtain⟨ns,rfl⟩:=items_int h3
 have hlen:ns.length<=n:=by
  unfold OpenLaw.pre at hc
  have h4:(WTm.not (.lt (.lit (.int (n:Int))) (.len (.arg 0)))).holds [] { args:=[.list (ns.map .int)] }=true:=by
   have h4:=(holds_andW hc).1;rw[hn]at h4;exact h4
  have h5:=condW_of h4 (w_not (w_lt w_lit (w_len_list (w_arg rfl))));rw[List.length_map]at h5
  refine Nat.le_of_not_lt fun q=>?_
  have q':(n:Int)<((ns.length:Nat):Int):=by omega
  first
   |(rw[decide_eq_true q']at h5;exact absurd h5 (by decide))
   |(simp at h5;omega)
 cases hwl with
 | cons w1 w2=>
   cases w2
   cases w1 with
   |list ho hall=>exact⟨_,_,ns,rfl,rfl,ho,kB ns _ hall,hlen⟩
theorem uv(l:OpenLaw)(args:List WData):l.row.toRowW.claim.post args (.bool true) args=true:=
 postW_of (r:=l.row.toRowW) (X:=(true==true))
  (show WShape.has [] (.bool true) .bool=true by first|rfl|decide|simp[WShape.has,WShape.arms,WShape.armsAll])
  (show(WTm.eq .res (.lit (.bool true))).value [] { args:=args,res:=some (.bool true),after:=args }=some (.bool (true==true)) from w_eq_bool (w_res rfl) w_lit) rfl
theorem qH{l:OpenLaw}{n:Nat}{q:Program}{loose:List Str}{XP:(Str->Option Value)->Heap->Prop}{YP:World->Heap->Prop}{d:DefRec}
  (hn:l.most=some n) (hdf:d.params.defaults=[])
  (call:∀(w:World) (s₀ s₁:Shared) (mg mb:Str->Option Value) (fa:Addr) (o:Obj) (pm cd doc:Value) (a:Addr) (vs:List Value) (ns:List Int),
    Ground q loose [] XP w s₀ mg mb s₁.heap->YP w s₁.heap ->
    s₁.heap.get? fa=some o->o.data=.func (docDef d.name d.params d.body d.scope pm cd doc)->s₁.heap.CodeRec cd d.name->mg d.name=some (.ref fa) ->
    s₁.heap.get? a=some { cls:=.type "list",data:=.seq vs.toArray }->IntsAre vs ns->ns.length<=n->s₁.gens=#[] ->
    codeAny (model l.prog w) callerA (.call (.ref fa) ⟨[.ref a],[]⟩) (fun r s'=>r=.ok (.ret (.bool true)) /\ OldK s₁.heap s'.heap /\ s'.os=s₁.os /\ AllBare s'.gens) s₁):
  WalkO q loose XP YP l.row.toRowW d [] (fun f vs=>PySem.call f vs):=by
 intro w s₀ s₁ mg mb G Y fa o pm cd doc dV kV ho hd hcd hD hmg hg args vals as hpre hlay hrd hwl hlo
 obtain rfl:dV=.none:=Dflts.none hD hdf
 obtain rfl:kV=.none:=Dflts.noKw hD
 obtain⟨a,vs,ns,rfl,rfl,hobj,hints,hlen⟩:=um hn hpre hwl;refine enter_call (codeAny_mono (call w s₀ s₁ mg mb fa o pm cd doc a vs ns G Y ho (fd_plain hd) hcd hmg hobj hints hlen hg) fun r s' hq=>?_);obtain⟨rfl,h2,h3,h4⟩:=hq
 exact⟨.inl ⟨.bool true,.bool true,[],rfl,fun _=>rfl,.bool true,uv l _,fun _=>⟨List.Pairwise.nil,fun _ hm=>(nomatch hm)⟩⟩,h2,h3,h4⟩
end Att
namespace L2
open PySem PySem.Spec PyProof.Rows
theorem ni:∀{vs:List Value} {ns:List Int},IntsAre vs ns->Vals (ns.map V.int) vs
 |_,_,.nil=>.nil
 |_,_,.cons n t h=>.cons ⟨t,rfl⟩ (ni h)
noncomputable def zL(H:Hp):Prop:=∀ b,H b=none \/ ∃ o xs,H b=some (.frz o (.lst xs))
theorem wW{P:Program}{w:World}{K:PySem.W.Frag}{mg mb:Str->Option Value}{CX:CXT}{k:Nat}{fa a:Addr}{fd:FuncData}{x:Str}{sp:Sp}{s₁:Shared}{vs:List Value}{ns:List Int}
  (KX:K.In s₁.heap) (hns:s₁.heap.Ns mainGlobals mg) (hb:s₁.heap.Ns builtinsNs mb) (hbb:∀ x:Str,x ≠ "__name__" -> mb x=bootBuiltins x) (hlim:s₁.heap.NoLimit) (hg:s₁.gens=#[])
  (ha:s₁.heap.get? a=some { cls:=.type "list",data:=.seq vs.toArray }) (hi:IntsAre vs ns) (hl:ns.length<=sizeLine) (hr:dy k callerA)
  (F:∀ base:Heap,K.In base->base.Ns mainGlobals mg->bH P w K mg base CX k fa fd [x] sp) (hbind:∀(s:Shared) (u:Value),BindsTo s fd ⟨[u],[]⟩ [(x,u)])
  (hsp:∀ H:Hp,zL H->SqL K H a (ns.map V.int)->sp [.ref a] H (fun v _=>v=.bl true) fun _ _ _=>False)
  (hCX:∀ H e s',CX [] H s₁ (fun _ _ _=>False) e s'->False):
  codeAny (model P w) callerA (.call (.ref fa) ⟨[.ref a],[]⟩) (fun r s'=>r=.ok (.ret (.bool true)) /\ OldK s₁.heap s'.heap /\ s'.os=s₁.os /\ AllBare s'.gens) s₁:=by
 have rv:=ni hi;have lenV:=hi.length
 have core:∀ H:Hp,zL H->SqL K H a (ns.map V.int)->HOk P w H s₁.heap->(∀ b,H b≠none->b=a)->(H a≠none->K.lookup a=none) ->
   codeAny (model P w) callerA (.call (.ref fa) ⟨[.ref a],[]⟩) (fun r s'=>r=.ok (.ret (.bool true)) /\ OldK s₁.heap s'.heap /\ s'.os=s₁.os /\ AllBare s'.gens) s₁:=by
  intro H hO hS hok hA hK
  have base_of:∀{b:Addr} {o:Obj},s₁.heap.get? b=some o->H b=none->(oG s₁.heap H).get? b=some o:=fun e n=>uR e n
  have noA:∀{b:Addr} {o:Obj} {es:Array DictEntry} {ep:Nat},s₁.heap.get? b=some o->o.data=.dict es ep->H b=none:=fun {b o es ep} e d=>by
   cases q:H b with
   |none=>rfl
   | some u=>
     have e':b=a:=hA b (by rw[q];simp)
     subst e';rw[ha]at e;cases e
     have d':Data.seq vs.toArray _=Data.dict es ep:=d
     cases d'
  have nsK:∀{b:Addr} {m:Str->Option Value},s₁.heap.Ns b m->(oG s₁.heap H).Ns b m:=fun {b m} ⟨o,es,ep,e,d,r⟩=>⟨o,es,ep,base_of e (noA e d),d,r⟩
  have hKb:K.In (oG s₁.heap H):=fun b o e=>base_of (KX b o e) (by
   cases q:H b with
   |none=>rfl
   | some u=>
     have e':b=a:=hA b (by rw[q];simp)
     subst e'
     rw[hK (by rw[q];simp)]at e;cases e)
  have hM:Mod K mg (oG s₁.heap H):=⟨hKb,nsK hns,⟨mb,nsK hb,hbb⟩,let ⟨mc,h1,h2⟩:=hlim;⟨mc,nsK h1,h2⟩⟩
  have e0:rE P w K mg (oG s₁.heap H) callerA [] s₁ H:=⟨rfl,hM,fun b o e=>yH e,Nat.le_of_eq (uH _ _),trivial,fun b hb=>absurd (show b∈([]:List Addr) from hb) (by simp),hok,.of_eq hg⟩
  refine codeAny_mono ((F _ hKb (nsK hns)).run callerA [] s₁ H ⟨[.ref a],[]⟩ [.ref a] [.ref a] _ _ hr e0 (hbind s₁ (.ref a)) (.cons rfl .nil) (hsp H hO hS)) fun r s' h=>?_
  cases r with
  |error e=>exact(hCX H e s' h).elim
  | ok fl=>
    cases fl with
    |next=>exact False.elim h
    |brk=>exact False.elim h
    |cont=>exact False.elim h
    | ret u=>
      obtain⟨v,H',os,bare,un,hok',r',q⟩:=h
      have q':v=.bl true:=q
      subst q'
      obtain rfl:u=Value.bool true:=r'
      refine⟨rfl,OldK.of_keep fun b o e=>?_,os,bare⟩
      cases q:H b with
      |none=>exact un.keep b o e q (by intro z;exact absurd (show b∈([]:List Addr) from z) (by simp)) (by simp)
      | some u=>
        rcases hO b with z|⟨ob,xs,z⟩
        . rw[q]at z;cases z
        . have z2:=un.frzs b ob _ z;obtain⟨e1,_⟩:=hok b _ z;obtain⟨e2,_⟩:=hok' b _ z2;rw[e]at e1;cases e1;exact e2
 cases hk:K.lookup a with
 | some o=>
   have e:=KX a o hk;rw[ha]at e;cases e
   refine core (fun _=>none) (fun _=>.inl rfl) (.inr ⟨_,vs.toArray,_,hk,rfl,rfl,rfl,by rw[List.size_toArray,lenV];exact hl,by simpa using rv⟩) (fun b u z=>by have z':(none:Option HO)=some u:=z;cases z') (fun b z=>absurd rfl z) fun z=>absurd rfl z
 | none=>
   refine core (fun b=>if b=a then some (.frz { cls:=.type "list",data:=.seq vs.toArray } (.lst (ns.map V.int)))else none) (fun b=>?_) (.inl (.inr ⟨{ cls:=.type "list",data:=.seq vs.toArray },if_pos rfl⟩)) (fun b u z=>?_) (fun b z=>?_) fun _=>hk
   . by_cases hb:b=a
     . exact .inr ⟨_,_,if_pos hb⟩
     . exact .inl (if_neg hb)
   . by_cases hb:b=a
     . have z':=(if_pos hb).symm.trans z
       cases z'
       subst hb
       exact⟨ha,by rw[List.length_map];exact hl,vs,_,rv,ha⟩
     . have z':=(if_neg hb).symm.trans z
       cases z'
   . by_cases hb:b=a
     . exact hb
     . exact absurd (if_neg hb) z
abbrev KOf{K:PySem.W.Frag}{h:Heap}(_:K.In h):PySem.W.Frag:=K
theorem x3{l:PySem.W.OpenLaw}{n k:Nat}{q:Program}{loose:List Str}{XP:(Str->Option Value)->Heap->Prop}{YP:World->Heap->Prop}{d:DefRec}{K:Params->PySem.W.Frag}{CX:World->CXT}{sp:World->Sp}{x:Str}
  (hn:l.most=some n) (hn2:n<=sizeLine) (hdf:d.params.defaults=[]) (hr:dy k callerA)
  (hY:∀(w:World) (h:Heap),YP w h->(K w.params).In h)
  (F:∀(w:World) (mg:Str->Option Value) (fa:Addr) (h:Heap),(K w.params).In h->h.Ns mainGlobals mg->mg d.name=some (.ref fa) ->
    ∃ fd:FuncData,(∀(s:Shared) (u:Value),BindsTo s fd ⟨[u],[]⟩ [(x,u)]) /\
      ∀ base:Heap,(K w.params).In base->base.Ns mainGlobals mg->bH l.prog w (K w.params) mg base (CX w) k fa fd [x] (sp w))
  (hsp:∀(w:World) (H:Hp) (a:Addr) (ns:List Int),ns.length<=n->zL H->SqL (K w.params) H a (ns.map V.int)->sp w [.ref a] H (fun v _=>v=.bl true) fun _ _ _=>False)
  (hCX:∀(w:World) (H:Hp) (s:Shared) (e:Value) (s':Shared),CX w [] H s (fun _ _ _=>False) e s'->False):
  PySem.W.WalkO q loose XP YP l.row.toRowW d [] (fun f vs=>PySem.call f vs):=by
 refine Att.qH hn hdf fun w s₀ s₁ mg mb fa o pm cd doc a vs ns G Y ho hd hcd hmg hobj hints hlen hg=>?_
 have KX:=hY w _ Y;obtain⟨fd,hb,hF⟩:=F w mg fa _ KX G.T.g hmg
 exact wW KX G.T.g G.T.b G.T.builtins G.T.nolimit hg hobj hints (Nat.le_trans hlen hn2) hr hF hb (fun H hO hS=>hsp w H a ns hlen hO hS) fun H e s'=>hCX w H s₁ e s'
def inClass(s:Stmt)(j:Nat):Stmt:=match s with
 |.ClassDef _ _ _ body _ _ _ _ _ _ _=>body.getD j (.Pass ⟨0,0,0,0⟩)
 |_=>.Pass ⟨0,0,0,0⟩
noncomputable def cP(s:Stmt):Arguments:=match s with
 |.FunctionDef _ a _ _ _ _ _ _ _ _=>a
 |_=>{ posonlyargs:=[],args:=[],vararg:=none,kwonlyargs:=[],kw_defaults:=[],kwarg:=none,defaults:=[] }
noncomputable def b4(s:Stmt):List Stmt:=match s with
 |.FunctionDef _ _ b _ _ _ _ _ _ _=>b
 |_=>[]
noncomputable def ay(s:Stmt):Scope:=match s with
 |.FunctionDef _ _ _ _ _ _ sc _ _ _=>sc
 |_=>{ kind:=.function,names:=[],isGenerator:=false,isCoroutine:=false }
structure Fun(K:PySem.W.Frag)(x qual:Str)(st:Stmt)(f:Addr)(fd:FuncData):Prop where
 ex:∃(oc:Value) (od:Option Addr) (kV doc pm:Value) (an:Option Addr) (cdv ct:Value) (osl:Array (Option Value)),
  fd=PySem.W.fnOf x qual (cP st) (b4 st) (ay st) .none kV doc pm an cdv ct /\ K.lookup f=some ⟨oc,od,.func fd,osl⟩ /\ PySem.W.codeIn K cdv qual=true
 kp:PySem.W.keepIn K (.ref f)=true
section
variable{P:Program}{w:World}{K:PySem.W.Frag}{mg:Str->Option Value}{base:Heap}
theorem Fun.binds{x qual:Str}{st:Stmt}{f:Addr}{fd:FuncData}{ps:List Str}(F:Fun K x qual st f fd)
  (h:∀(kV doc pm:Value) (an:Option Addr) (cdv ct:Value) (us:List Value),us.length=ps.length->bindArgs (PySem.W.fnOf x qual (cP st) (b4 st) (ay st) .none kV doc pm an cdv ct) ⟨us,[]⟩=pure (ps.zip us)):Binds K fd ps []:=by
 obtain⟨oc,od,kV,doc,pm,an,cdv,ct,osl,rfl,lk,hcd⟩:=F.ex;exact .all (h kV doc pm an cdv ct)
theorem qU{x qual:Str}{st:Stmt}{f:Addr}{oc:Value}{od an:Option Addr}{osl:Array (Option Value)}{kV doc pm cdv ct:Value}(l:K.lookup f=some ⟨oc,od,.func (PySem.W.fnOf x qual (cP st) (b4 st) (ay st) .none kV doc pm an cdv ct),osl⟩)
  (c:PySem.W.codeIn K cdv qual=true) (k:PySem.W.keepIn K (.ref f)=true):Fun K x qual st f (PySem.W.fnOf x qual (cP st) (b4 st) (ay st) .none kV doc pm an cdv ct):=⟨⟨oc,od,kV,doc,pm,an,cdv,ct,osl,rfl,l,c⟩,k⟩
end
theorem Ck{A:Around}{k:Nat}(hr:dy k A):A.units+1<cLine:=Nat.lt_of_le_of_lt (Nat.add_le_add_left (by decide:1<=64) _) hr.units
section
variable{X:Cx}
theorem pv(i:Nat){x:Str}{pos:Pos}(hN:X.N[i]?=some x:=by rfl)(hv:Vis X.env.scope x:=by first|exact Or.inl rfl|exact Or.inr (Or.inl rfl)|exact Or.inr (Or.inr rfl))(hd:(x==("__debug__":Str))=false:=by decide)
  (hcd:(x==("__classdict__":Str))=false:=by decide):PE X (.Name x pos) (jw i):=Br hN hv hd hcd
end
theorem mW{A B:Prop}(h:B):if false=true then A else B:=by
 rw[if_neg Bool.false_ne_true];exact h
theorem m5{A B:Prop}(h:A):if true=true then A else B:=by
 rw[if_pos rfl];exact h
noncomputable def au(H H':Hp):Prop:=∀ b o,H b=some o->H' b=some o
theorem au.refl(H:Hp):au H H:=fun _ _ h=>h
theorem au.trans{H H1 H2:Hp}(a:au H H1)(b:au H1 H2):au H H2:=fun c o h=>b c o (a c o h)
theorem au.free{H H':Hp}(e:au H H'){l:Addr}(h:H' l=Option.none):H l=Option.none:=by
 cases q:H l with
 |none=>rfl
 | some o=>
   rw[e l o q]at h;cases h
theorem au.seq{K:PySem.W.Frag}{H H':Hp}{a:Addr}{xs:List V}(e:au H H')(h:SqL K H a xs):SqL K H' a xs:=by
 rcases h with(h|⟨o,h⟩)|h
 . exact .inl (.inl (e _ _ h))
 . exact .inl (.inr ⟨o,e _ _ h⟩)
 . exact .inr h
section
variable{κ:Type}[DecidableEq κ]
theorem bb.getD{o:Option V}{u:Option Value}{d:V}{d':Value}(r:bb o u)(rd:RelV d d'):RelV (o.getD d) (u.getD d'):=by
 cases o with
 | none=>cases u with
   |none=>exact rd
   |some _=>exact(show False from r).elim
 | some _=>cases u with
   |none=>exact(show False from r).elim
   |some _=>exact r
end
theorem BP{P:Program}{w:World}{k:Key}{u:Value}(r:RelV (kV k) u):(cG P w).is k u=true:=by
 cases k with
 |inl i=>obtain⟨t,e⟩:=(show ∃ t,u=Value.int i t from r);subst e;exact pR P w i t
 |inr x=>obtain⟨t,e⟩:=(show ∃ t,u=Value.str x t from r);subst e;exact qd P w x t
theorem m9{P:Program}{w:World}:∀{ks:List Key} {us:List Value},Vals (ks.map kV) us->ItemsAre (cG P w) ks us
 |[],_,r=>by rw[List.map_nil]at r;cases r;exact .nil
 | k ::ks,_,r=>by
   rw[List.map_cons]at r
   cases r with
   |cons h t=>exact .cons (BP h) (m9 t)
section
variable{X:Cx}{pins:List (Addr×Obj)}{σ:St}{H:Hp}{s:Shared}{a:Addr}{y v:V}{u r:Value}{o:Option V}{A:Around}{E:Value->Shared->Prop}
theorem Inv.big(I:Inv X pins σ H s):sysModules<s.heap.objs.size:=by
 have h:mainGlobals<s.heap.objs.size:=(I.mod.glob.keeps I.bk).lt
 exact Nat.lt_trans (by decide) h
theorem yM{h':Heap}{t':Nat}{ob:HO}(I:Inv X pins σ H s)(mu:Mut (H a))(hs:Heap.SameBut a s.heap h')(he:∃ q,h'.get? a=some q)(new:b0 X.prog X.w (upd H a ob) h' a ob):
  Inv X pins σ (upd H a ob) { s with heap:=h',toks:=t' }:=
 I.write (x:=a) (e:=a) mu (.inl rfl) (fun b q hb z=>(hs.2 b hb).trans z) he new
end
end L2
set_option maxHeartbeats 4000000
namespace L2.E
open PySem PySem.Spec PyProof.Rows
noncomputable def vh(a C:Addr)(dx:Option Addr)(h:Heap):Prop:=∃ o vs,h.get? a=some o /\ o.cls=.ref C /\ o.dict=dx /\ o.data=.fields vs /\ vs.size=6
noncomputable def TbO(T:Addr)(h:Heap):Prop:=∃ o ts,h.get? T=some o /\ o.data=.fields ts /\ 3<ts.size
noncomputable abbrev jb(a C:Addr)(dx:Option Addr):HO:=.ext (vh a C dx)
noncomputable abbrev oTb(T:Addr):HO:=.ext (TbO T)
theorem vp(x:vh a C dx h):b0 P w H h a (jb a C dx):=by
 refine⟨x,let ⟨o,_,e,_⟩:=x;⟨o,e⟩,fun h1 h2 p k=>?_⟩
 obtain⟨o,vs,e,r⟩:=p
 exact⟨o,vs,k o e,r⟩
theorem zw(x:TbO T h):b0 P w H h T (oTb T):=by
 refine⟨x,let ⟨o,_,e,_⟩:=x;⟨o,e⟩,fun h1 h2 p k=>?_⟩
 obtain⟨o,vs,e,r⟩:=p
 exact⟨o,vs,k o e,r⟩
theorem wz(h:H a=some o):upd H a o=H:=by
 funext b
 unfold upd;split
 . rename_i e;rw[e,h]
 . rfl
structure Fly(H:Hp)(h:Heap)(a C:Addr)(dx:Option Addr):Prop where
 exc:H a=some (jb a C dx)
 tb:∃ o vs,h.get? a=some o /\ o.data=.fields vs /\ (vs[1]?=some Value.none \/ ∃ T,vs[1]?=some (.ref T) /\ H T=some (oTb T) /\ T≠a)
structure oR(H:Hp)(h:Heap)(a C:Addr)(dx:Option Addr):Prop where
 exc:H a=some (jb a C dx)
 tb:∃ o vs T,h.get? a=some o /\ o.data=.fields vs /\ vs[1]?=some (.ref T) /\ H T=some (oTb T) /\ T≠a
theorem oR.fly(F:oR H h a C dx):Fly H h a C dx:=
 let ⟨o,vs,T,e1,e2,e3,e4,e5⟩:=F.tb
 ⟨F.exc,o,vs,e1,e2,.inr ⟨T,e3,e4,e5⟩⟩
section
variable{X:Cx}{pins:List (Addr×Obj)}{σ:St}{H:Hp}{s:Shared}{a C:Addr}{dx:Option Addr}
theorem xh(I:Inv X pins σ H s)(k:Heap.SlotsOnly (frs X.stack) s.heap h₁):Un (frs X.stack) [] H H s.heap h₁ where
 keep:=fun b o e _ hb _=>(k.2.1 b hb).trans e
 slot:=fun b o e _ _ _=>k.2.2 b o e
 free:=fun _ _ _ n _=>n
 there:=fun b o e _=>let ⟨_,q⟩:=k.2.2 b o e;⟨_,q⟩
 tups:=fun _ _ q=>q
 frzs:=fun _ _ _ q=>q
 tbls:=fun _ ps q=>⟨#[],by rw[q];simp⟩
theorem uC(I:Inv X pins σ H s)(k:Heap.SlotsOnly (frs X.stack) s.heap h₁):HOk X.prog X.w H h₁:=fun b o e=>by
 have nf:∀ c u,H c=some u->c∉frs X.stack:=fun c u q z=>by rw[I.pj c z]at q;cases q
 refine(I.hok b o e).ll (fun c v hc q=>(k.2.1 c ?_).trans q) (fun _ q=>q) fun _ _ q=>q
 rcases hc with z|z
 . rw[z];exact nf b o e
 . exact nf c _ z
theorem yq(I:Inv X pins σ H s)(e:H a=some (jb a C dx)):
  Inv X pins σ H { s with heap:=s.heap.update a (Obj.mapFields (·.setIfInBounds i v)) }:=by
 obtain⟨⟨o,vs,ho,hc,hd,hf,hz⟩,_,_⟩:=I.hok a _ e;have hs:=Heap.get?_update_self (Obj.mapFields (·.setIfInBounds i v)) ho (Obj.isFreed_of_fields (Obj.data_mapFields hf _))
 have q:=I.write (x:=a) (e:=a) (o:=jb a C dx) (t':=s.toks) (h':=s.heap.update a (Obj.mapFields (·.setIfInBounds i v))) (by rw[e];trivial) (.inl rfl)
  (fun b u hb q=>(Heap.get?_update_other _ _ (Ne.symm hb)).trans q) ⟨_,hs⟩ (vp ⟨_,_,hs,by rw[Obj.cls_mapFields];exact hc,by obtain⟨c,d,dt,sl⟩:=o;cases dt<;>exact hd,Obj.data_mapFields hf _,by simpa using hz⟩)
 rw[wz e]at q;exact q
theorem wq(I:Inv X pins σ H s)(e:H T=some (oTb T)):
  Inv X pins σ H { s with heap:=s.heap.update T (Obj.mapFields (·.setIfInBounds i v)) }:=by
 obtain⟨⟨o,vs,ho,hf,hz⟩,_,_⟩:=I.hok T _ e;have hs:=Heap.get?_update_self (Obj.mapFields (·.setIfInBounds i v)) ho (Obj.isFreed_of_fields (Obj.data_mapFields hf _))
 have q:=I.write (x:=T) (e:=T) (o:=oTb T) (t':=s.toks) (h':=s.heap.update T (Obj.mapFields (·.setIfInBounds i v))) (by rw[e];trivial) (.inl rfl)
  (fun b u hb q=>(Heap.get?_update_other _ _ (Ne.symm hb)).trans q) ⟨_,hs⟩ (zw ⟨_,_,hs,Obj.data_mapFields hf _,by simpa using hz⟩)
 rw[wz e]at q;exact q
theorem pX{Q:Unit->Shared->Prop}{E:Value->Shared->Prop}(I:Inv X pins σ H s)(hst:X.stack=X.env ::X.outer)(hf:X.env.frame=some L)(e:H a=some (jb a C dx))
  (h:∀ s' H',Inv X pins σ H' s'->au H H'->oR H' s'.heap a C dx->Q () s'):
  wpAny (model X.prog X.w) X.A (do let fr <- frameOf X.env;let pl <- entryPlaceOf L had;let b <- EntryCells.newEntry head fr .none (rawInt L) .none pl;setField (.ref a) 1 b) Q E s:=by
 have hfr:X.A.frames=some (X.env ::X.outer):=by rw[<- hst];exact I.ok.frames
 have hl:s.heap.FunFrames X.base (X.env ::X.outer):=by rw[<- hst];exact I.stack
 refine wpAny_bind (wpAny_frameOf_fun hfr hl hf fun h₁ k₁=>?_)
 have k₁':Heap.SlotsOnly (frs X.stack) s.heap h₁:=by rw[hst];exact k₁
 have I₁:=I.call (g':=s.gens) (t':=s.toks) (d':=s.drawn) (ch:=[]) (xh I k₁') (uC I k₁') I.bare (fun b z=>absurd z (by simp));refine wpAny_bind (wpAny_entryPlaceOf fun pl hpl=>?_);unfold EntryCells.newEntry newFields;refine wpAny_bind (wpAny_newObj_type ?_ (hpl.sizeOk5 _ _ _ _ _))
 have big:3<([head,.ref L,.none,rawInt L,.none]++(if pl.isEmpty then List.replicate 6 Value.none else pl)).toArray.size:=by
  rw[List.size_toArray,List.length_append];show 3<5+_;omega
 have new:=Heap.get?_push_size h₁ (o:={ cls:=.type "traceback",dict:=none,data:=.fields ([head,.ref L,.none,rawInt L,.none]++(if pl.isEmpty then List.replicate 6 Value.none else pl)).toArray }) rfl
 have fr:H h₁.objs.size=none:=I₁.hok.fresh (Nat.le_refl _)
 have ne:h₁.objs.size≠a:=fun z=>by rw[z,e]at fr;cases fr
 have I₂:=I₁.laid (a:=h₁.objs.size) (o:=oTb h₁.objs.size) (t':=s.toks) (fun b u q=>Heap.get?_push_of_some _ q) (Nat.le_refl _) (zw ⟨_,_,new,rfl,big⟩)
 have g:au H (upd H h₁.objs.size (oTb h₁.objs.size)):=fun b u q=>by rw[aA (aY q fr)];exact q
 obtain⟨⟨o,vs,ho,hc,hd,hv,hz⟩,_,_⟩:=I₂.hok a _ (g _ _ e);refine wpAny_setField ho hv (by omega) ?_;refine h _ _ (yq I₂ (g _ _ e)) g ⟨g _ _ e,_,_,h₁.objs.size,Heap.get?_update_self _ ho (Obj.isFreed_of_fields (Obj.data_mapFields hv _)),Obj.data_mapFields hv _,by simp[hz],az,ne⟩
theorem oX{Q:Unit->Shared->Prop}{E:Value->Shared->Prop}(I:Inv X pins σ H s)(hst:X.stack=X.env ::X.outer /\ X.env.frame=some X.env.locals)(F:Fly H s.heap a C dx)
  (h:∀ s' H',Inv X pins σ H' s'->au H H'->oR H' s'.heap a C dx->Q () s'):wpAny (model X.prog X.w) X.A (noteFrame (.ref a) X.env) Q E s:=by
 obtain⟨o,vs,ho,hv,hw⟩:=F.tb;unfold noteFrame;simp only[hst.2]
 rcases hw with h1|⟨T,h1,hT,ne⟩
 . refine wpAny_bind (wpAny_field ho hv h1 ?_);rw[if_neg (by decide)];exact pX I hst.1 hst.2 F.exc h
 . obtain⟨⟨oT,ts,hoT,hdT,hz⟩,_,_⟩:=I.hok T _ hT;refine wpAny_bind (wpAny_field ho hv h1 ?_);rw[if_pos (show(Value.ref T != Value.none)=true from by simp)]
   have h3:ts[3]?=some ts[3]:=by simp[hz]
   refine wpAny_bind (wpAny_field hoT hdT h3 ?_)
   by_cases c:(ts[3]==rawInt X.env.locals)=true
   . rw[if_pos c];exact wpAny_pure (h s H I (au.refl H) ⟨F.exc,o,vs,T,ho,hv,h1,hT,ne⟩)
   . rw[if_neg c];refine wpAny_bind (wpAny_setField hoT hdT hz ?_);exact pX (wq I hT) hst.1 hst.2 F.exc h
theorem dZ{Q:Unit->Shared->Prop}{E:Value->Shared->Prop}(I:Inv X pins σ H s)(F:oR H s.heap a C dx)
  (h:∀ s',Inv X pins σ H s'->oR H s'.heap a C dx->Q () s'):wpAny (model X.prog X.w) X.A (setFlight (.ref a) x) Q E s:=by
 obtain⟨o,vs,T,ho,hv,h1,hT,ne⟩:=F.tb;unfold setFlight;obtain⟨⟨oT,ts,hoT,hdT,hz⟩,_,_⟩:=I.hok T _ hT;refine wpAny_bind (wpAny_field ho hv h1 ?_);rw[if_pos (show(Value.ref T != Value.none)=true from by simp)];refine wpAny_setField hoT hdT hz ?_;exact h _ (wq I hT) ⟨F.exc,o,vs,T,(Heap.get?_update_other _ _ ne).trans ho,hv,h1,hT,ne⟩
theorem sT{α:Type}{Q:α->Shared->Prop}{E:Value->Shared->Prop}(I:Inv X pins σ H s)(F:oR H s.heap a C dx)
  (h:∀ s',Inv X pins σ H s'->oR H s'.heap a C dx->E (.ref a) s'):wpAny (model X.prog X.w) X.A (PySem.passOn what (.ref a) X.env:Sem α) Q E s:=by
 obtain⟨o,vs,T,ho,hv,h1,hT,ne⟩:=id F.tb;unfold PySem.passOn;refine wpAny_bind (wpAny_field ho hv h1 ?_);rw[if_neg (show ¬ (Value.ref T==Value.none)=true from by simp)];exact wpAny_bind (dZ I F fun s' I' F'=>wpAny_throw (h s' I' F'))
end
noncomputable def CXE(P:Program)(w:World):CXT:=fun outer H s E e s'=>∃ a C dx H',e=.ref a /\ s'.os=s.os /\ AllBare s'.gens /\ Un (frs outer) [] H H' s.heap s'.heap /\ HOk P w H' s'.heap /\ Fly H' s'.heap a C dx /\ E (.ref C) (some a) H'
abbrev XW:=Value->Option Addr->St->Hp->Prop
noncomputable def Thr(X:Cx)(W:XW):Prop:=∀(pins:List (Addr×Obj)) (σ:St) (H:Hp) (s:Shared) (a C:Addr) (dx:Option Addr),Inv X pins σ H s->Fly H s.heap a C dx->W (.ref C) (some a) σ H->X.xe (.ref a) s
section
variable{CX:CXT}{P:Program}{w:World}{K:PySem.W.Frag}{mg:Str->Option Value}{base:Heap}{N:List Str}{qual:Str}{scope:Scope}{f:Addr}{cd:Value}{A:Around}{outer:List Env}{s₀:Shared}{H₀:Hp}{E:XK}
theorem aF:Thr (jI (CXE P w) P w K mg base N qual scope f cd A outer s₀ H₀ E) (fun C a _ H=>∀ H',au H H'->E C a H'):=by
 intro pins σ H s a C dx I F hw;show wpAny _ _ (leaving _ _) _ _ s;unfold leaving;refine wpAny_bind (oX I ⟨rfl,rfl⟩ F fun s1 H1 I1 g1 F1=>?_)
 refine dZ I1 F1 fun s2 I2 F2=>?_
 exact⟨a,C,dx,H1,rfl,I2.os,I2.bare,I2.base,I2.hok,F2.fly,hw H1 g1⟩
theorem eQ:PassesOwn (model P w) (jI (CXE P w) P w K mg base N qual scope f cd A outer s₀ H₀ E).A (jI (CXE P w) P w K mg base N qual scope f cd A outer s₀ H₀ E).env (jI (CXE P w) P w K mg base N qual scope f cd A outer s₀ H₀ E).xe:=by
 show PassesOwn (model P w) (A.deeper (envOfC qual scope s₀.heap.objs.size f cd)) (envOfC qual scope s₀.heap.objs.size f cd) (fun e s'=>wpAny (model P w) (A.deeper (envOfC qual scope s₀.heap.objs.size f cd)) (leaving (envOfC qual scope s₀.heap.objs.size f cd) e) (fun _ s''=>CXE P w outer H₀ s₀ E e s'') (fun e' s''=>CXE P w outer H₀ s₀ E e' s'') s')
 passes_own
end
section
variable{X:Cx}{k:Nat}{f:Addr}{fd:FuncData}{ps:List Str}{sp:Sp}{dvs:List V}{ds:List Value}{W:XW}{x m:Str}{p pos apos:Pos}{e o:Expr}{es:List Expr}{ta:TE}{t:TA}
noncomputable def oA(sp:Sp)(dvs:List V)(W:XW)(t:TA):TE:=fun σ H Q=>t σ H fun vs H1=>sp (vs++dvs) H1 Q fun C a H'=>W C a σ H'
theorem xA{pins:List (Addr×Obj)}(F:bH X.prog X.w X.K X.mg X.base (CXE X.prog X.w) k f fd ps sp)(hr:dy k X.A)(hb:Binds X.K fd ps ds)(hd:Vals dvs ds)(hx:Thr X W)
  (I:Inv X pins σ H s) (r:Vals vs us) (h:sp (vs++dvs) H Q fun C a H'=>W C a σ H'):wpAny (model X.prog X.w) X.A (call (.ref f) us) (EP X pins σ Q) X.xe s:=by
 have r2:Vals (vs++dvs) (us++ds):=r.append hd
 have hl:(us++ds).length=ps.length:=by rw[<- r2.length];exact F.len _ _ _ _ h
 refine wpAny_call (codeAny_mono (F.run X.A X.stack s H ⟨us,[]⟩ (us++ds) (vs++dvs) Q _ hr I.B7 (hb s us I.kIn hl) r2 h) fun r s' hq=>?_)
 cases r with
 | error e=>
   obtain⟨a,C,dx,H',rfl,ho,bare,un,hok,fl,hw⟩:=hq;exact hx pins σ H' s' a C dx (I.zy ho un hok bare fun b z=>absurd z (by simp)) fl hw
 | ok fl=>
   cases fl with
   |ret u=>exact I.after hq
   |next=>exact False.elim hq
   |brk=>exact False.elim hq
   |cont=>exact False.elim hq
theorem vU(F:bH X.prog X.w X.K X.mg X.base (CXE X.prog X.w) k f fd ps sp)(hr:dy k X.A)(hg:Gl X x)(hm:X.mg x=some (.ref f))(hk:PySem.W.keepIn X.K (.ref f)=true)(hb:Binds X.K fd ps ds)(hd:Vals dvs ds)(hx:Thr X W)
  (ha:PA X (e ::es) t) (hdb:(x==("__debug__":Str))=false:=by decide) (he:starEach (e ::es) X.env=(false,eval e X.env) ::starEach es X.env:=by rfl) (hpl:(backTo pos (starEach es X.env)).any (·.1)=false:=by rfl):
  PE X (.Call (.Name x p) (e ::es) [] pos) (oA sp dvs W t):=by
 intro pins s σ H Q I h;refine wpAny_Call_Name_kw (kJ I hg hm ?_ hdb);refine PySem.W.callWith_K (h₀:=X.base) I.ok.mod.kin hk (thn (ha pos pins s σ H _ I h) fun us s1 ⟨vs,H1,I1,r,q⟩=>⟨I1.kIn,?_⟩) he hpl;exact xA F hr hb hd hx I1 r q
end
theorem va{P:Program}{w:World}{H:Hp}{h:Heap}{a:Addr}{o:HO}(x:b0 P w H h a o):∃ u,h.get? a=some u:=by
 cases o with
 |lst xs=>obtain⟨_,_,_,_,e⟩:=x;exact⟨_,e⟩
 |tup xs=>obtain⟨_,_,_,u,e,_⟩:=x;exact⟨_,e⟩
 |dK kvs=>obtain⟨_,_,_,_,o,_,_,e,_⟩:=x;exact⟨_,e⟩
 |dT kvs=>obtain⟨_,_,_,_,o,_,_,e,_⟩:=x;exact⟨_,e⟩
 |set S n=>obtain⟨o,_,_,_,e,_⟩:=x;exact⟨_,e⟩
 |ins C dx fs=>obtain⟨_,_,_,e,_⟩:=x;exact⟨_,e⟩
 |own y=>exact x
 |xd fs=>obtain⟨_,⟨_,_,_,e,_⟩,_⟩:=x;exact⟨_,e⟩
 |rng lo hi=>obtain⟨_,_,_,e⟩:=x;exact⟨_,e⟩
 |frz ob u=>obtain⟨e,_⟩:=x;exact⟨_,e⟩
 |tbl ps=>exact⟨_,x⟩
 |met f y=>exact⟨_,x⟩
 |ext φ=>exact x.2.1
section
variable{X:Cx}{pins:List (Addr×Obj)}{σ:St}{H:Hp}{s:Shared}{h':Heap}{a:Addr}{o:HO}
theorem tR(I:Inv X pins σ H s)(hn:s.heap.get? a=none):H a=none:=by
 cases q:H a with
 |none=>rfl
 | some u=>
   obtain⟨v,e⟩:=va (I.hok a u q);rw[hn]at e;cases e
theorem BR(I:Inv X pins σ H s)(k:∀ b u,s.heap.get? b=some u->h'.get? b=some u)(hn:s.heap.get? a=none)(new:b0 X.prog X.w (upd H a o) h' a o):
  Inv X pins σ (upd H a o) { s with heap:=h' }:=by
 have fr:=tR I hn
 have ne:∀ b u,s.heap.get? b=some u->b≠a:=fun b u q z=>by rw[z,hn]at q;cases q
 have un:Un X.fs [] H (upd H a o) s.heap h':=⟨fun b u q _ _ _=>k b u q,fun b u q _ _ _=>⟨u.slots,k b u q⟩,fun b u q n _=>by rw[aA (ne b u q)];exact n,fun b u q _=>⟨u,k b u q⟩,
  fun b xs q=>by rw[aA (aY q fr)];exact q,fun b u xs q=>by rw[aA (aY q fr)];exact q,fun b ps q=>⟨#[],by rw[aA (aY q fr),q];simp⟩⟩
 refine I.un (t':=s.toks) un fun b u q=>?_
 by_cases hb:b=a
 . subst hb;rw[az]at q;cases q;exact new
 . rw[aA hb]at q
   exact(I.hok b u q).ll (fun c v _ z=>k c v z) (fun c z=>by rw[aA (aY z fr)];exact z) fun c xs z=>by rw[aA (aY z fr)];exact z
end
theorem xC{K:PySem.W.Frag}{h₀:Heap}{mg:Str->Option Value}{x:Str}{C:Addr}{bmB:List Value}{newId:String}(X:K.In h₀)(e:mg x=some (.ref C))(q:PySem.W.excIn K C bmB newId=true):
  OwnCls x C bmB newId mg h₀:=by
 refine⟨e,?_⟩
 unfold PySem.W.excIn at q;split at q
 next dd cd sl ho=>
  split at q
  next C' bm k0 k1 k2 k3 n k5 hm hs=>
   simp only[Bool.and_eq_true,beq_iff_eq,Bool.not_eq_true']at q;obtain⟨⟨⟨⟨⟨e1,e2⟩,del⟩,ht⟩,ok⟩,ini⟩:=q;subst e1 e2
   cases cd with
   | mk nm bs mro ns qn hd sn sub ab col dl=>
     dsimp only at hm del ok ini
     subst hm del
     have z:sl=#[k0,k1,k2,k3,some (.builtin n),k5]:=by cases sl;simp only at hs;rw[hs]
     subst z
     exact⟨bm,ns,nm,qn,bs,hd,sn,sub,ab,col,dd,k0,k1,k2,k3,k5,_,X _ _ ho,.of_isNs (PySem.W.isNs_of_in X ok),PySem.W.nsMap_none_of_in X ok ini,PySem.W.tail_of_in X ht⟩
  next=>cases q
 next=>cases q
noncomputable abbrev hand(X:Cx)(a:Addr):Cx:={ X with A:=X.A.mark (some (.ref a)),calm:=false,xe:=fun _ _=>False }
theorem oy{X:Cx}{pins:List (Addr×Obj)}{σ:St}{H:Hp}{s:Shared}(I:Inv X pins σ H s)(a:Addr):Inv (hand X a) pins σ H s:=
 ⟨⟨I.ok.mod,I.ok.kind,I.ok.glob,I.ok.blt,I.ok.above,I.ok.inj,I.ok.has,I.ok.cab,fun z=>absurd z Bool.false_ne_true,I.ok.frames,I.ok.stk,I.ok.exf,I.ok.bs,I.ok.bsz,I.ok.noex,I.ok.exfs,I.ok.kA,I.ok.frf⟩,I.os,I.bare,I.base,I.loc,I.cell,I.free,I.freeC,I.pin,I.hok,I.len⟩
theorem ju{X:Cx}{pins:List (Addr×Obj)}{σ:St}{H:Hp}{s:Shared}{a:Addr}(ok:X.Ok)(I:Inv (hand X a) pins σ H s):Inv X pins σ H s:=
 ⟨ok,I.os,I.bare,I.base,I.loc,I.cell,I.free,I.freeC,I.pin,I.hok,I.len⟩
noncomputable abbrev hU(X:Cx)(pn:List (Addr×Obj))(xe:Value->Shared->Prop):Cx:={ X with pn:=pn,xe:=xe }
theorem wc{X:Cx}{pins:List (Addr×Obj)}{σ:St}{H:Hp}{s:Shared}(I:Inv X pins σ H s)(xe:Value->Shared->Prop):Inv (hU X (X.pn++pins) xe) [] σ H s:=
 ⟨⟨I.ok.mod,I.ok.kind,I.ok.glob,I.ok.blt,I.ok.above,I.ok.inj,I.ok.has,I.ok.cab,I.ok.hd,I.ok.frames,I.ok.stk,I.ok.exf,I.ok.bs,I.ok.bsz,I.ok.noex,I.ok.exfs,I.ok.kA,I.ok.frf⟩,I.os,I.bare,I.base,I.loc,I.cell,I.free,I.freeC,fun p hp=>I.pin p (by simpa using hp),I.hok,I.len⟩
theorem ib{X:Cx}{pins pins':List (Addr×Obj)}{σ:St}{H:Hp}{s:Shared}{xe:Value->Shared->Prop}(ok:X.Ok)(I:Inv (hU X (X.pn++pins) xe) pins' σ H s):Inv X pins σ H s:=
 ⟨ok,I.os,I.bare,I.base,I.loc,I.cell,I.free,I.freeC,fun p hp=>I.pin p (List.mem_append_left _ hp),I.hok,I.len⟩
noncomputable def gF(K:PySem.W.Frag)(C:Addr)(bm:List Value):Prop:=bm.contains (.type "BaseException")=true /\ ∃ nm q N bs hdct sn sub ab col dd k0 k1 k2 k3 k5 newId,K.lookup C=some (excClassObj nm q C N bs bm hdct sn sub ab col dd k0 k1 k2 k3 k5 newId)
noncomputable def km(K:PySem.W.Frag)(T C:Addr)(b:Bool):Prop:=∃ bmC bmT,gF K C bmC /\ gF K T bmT /\ (Value.ref C ::bmC).contains (.ref T)=b
theorem qW{M:Model}{A:Around}{E:Value->Shared->Prop}{K:PySem.W.Frag}{s:Shared}{a C T:Addr}{dx:Option Addr}{b:Bool}{Q:Bool->Shared->Prop}(X:K.In s.heap)(e:vh a C dx s.heap)(t:km K T C b)(hq:Q b s):
  wpAny M A (excMatches (.ref a) (.ref T)) Q E s:=by
 obtain⟨bmC,bmT,⟨bC,nm,q,N,bs,hdct,sn,sub,ab,col,dd,k0,k1,k2,k3,k5,nid,lC⟩,⟨bT,nm',q',N',bs',hdct',sn',sub',ab',col',dd',k0',k1',k2',k3',k5',nid',lT⟩,hb⟩:=t;obtain⟨o,vs,he,hcls,_⟩:=e;have hC:=X _ _ lC;have hT:=X _ _ lT;obtain⟨hp,g,d,tk,os⟩:=s;have f:=tc_notTuple
 have cB:(Value.ref T ::bmT).contains (.type "BaseException")=true:=by rw[List.contains_cons,bT,Bool.or_true]
 unfold excMatches
 repeat (first
  |(with_reducible refine wpAny_loadPart_at he ?_;rw[hcls])
  |with_reducible refine wpAny_loadPart_at hT ?_
  |(with_reducible refine wpAny_isSubtype_exc hC ?_;rw[hb])
  |(with_reducible refine wpAny_isSubtype_exc hT ?_;rw[cB])
  |wp_step)
 cases b<;>(wp_walk;exact hq)
theorem yP{X:Cx}{pins:List (Addr×Obj)}{σ:St}{H:Hp}{s:Shared}{h':Heap}{t':Nat}{i:Nat}{n:Str}{m:Str->Option Value}{v:Option Value}(I:Inv X pins σ H s)(hN:X.N.Nodup)(hi:X.N[i]?=some n)
  (hl:∀(j:Nat) (x:Str) (v:V),X.N[j]?=some x->σ[j]?=some (some v)->Vis X.env.scope x->∃ u,RelV v u /\ Look X.env s.heap m x u)
  (hs:Heap.SameBut X.env.locals s.heap h') (hn:h'.Ns X.env.locals (fun x=>if x=n then v else m x)):Inv X pins (σ.set i none) H { s with heap:=h',toks:=t' }:=by
 have cne:=I.cne
 refine⟨I.ok,I.os,I.bare,⟨fun b o e k hb hx=>?_,fun b o e k hb hx=>?_,I.base.free,fun b o e hx=>?_,I.base.tups,I.base.frzs,I.base.tbls⟩,⟨_,hn,fun j y w e1 e2 e3=>?_⟩,fun y c e=>?_,I.free,I.freeC,fun p hp=>?_,fun b ob e=>?_,by simpa using I.len⟩
 . exact(hs.2 b (Nat.ne_of_lt (Nat.lt_of_lt_of_le (Heap.lt_size e) I.ok.above))).trans (I.base.keep b o e k hb hx)
 . obtain⟨sl,z⟩:=I.base.slot b o e k hb hx
   exact⟨sl,(hs.2 b (Nat.ne_of_lt (Nat.lt_of_lt_of_le (Heap.lt_size e) I.ok.above))).trans z⟩
 . obtain⟨o',z⟩:=I.base.there b o e hx
   exact⟨o',(hs.2 b (Nat.ne_of_lt (Nat.lt_of_lt_of_le (Heap.lt_size e) I.ok.above))).trans z⟩
 . by_cases hj:j=i
   . subst hj;rw[List.getElem?_set]at e2;split at e2
     . split at e2<;>cases e2
     . exact absurd rfl ‹_›
   . rw[List.getElem?_set_ne (Ne.symm hj)]at e2;obtain⟨u,r,q⟩:=hl j y w e1 e2 e3
     refine⟨u,r,?_⟩
     rcases q with⟨k,e⟩|⟨k,c,e,z⟩
     . refine .inl ⟨k,?_⟩
       have:y≠n:=fun z=>hj (lQ hN e1 (z ▸ hi))
       simp[this,e]
     . exact .inr ⟨k,c,e,z.sameBut hs (cne y c e)⟩
 . obtain⟨w,z⟩:=I.cell y c e
   exact⟨w,z.sameBut hs (cne y c e)⟩
 . obtain⟨e,k,ne,nf,d⟩:=I.pin p hp
   exact⟨(hs.2 p.1 ne).trans e,k,ne,nf,d⟩
 . refine(I.hok b ob e).ll (fun c w hc q=>(hs.2 c ?_).trans q) (fun _ q=>q) fun _ _ q=>q
   rintro rfl
   rcases hc with z|z
   . rw[<- z,I.free]at e;cases e
   . rw[I.free]at z;cases z
noncomputable def Cj(i:Option Nat)(a:Option Addr)(σ:St):St:=match i,a with
 |some j,some b=>σ.set j (some (.ref b))
 |_,_=>σ
noncomputable def vq(i:Option Nat)(σ:St):St:=match i with
 |some j=>σ.set j none
 |none=>σ
noncomputable def uS(i:Option Nat)(D:Ends):Ends:={ nx:=fun σ H=>D.nx (vq i σ) H,rt:=D.rt,bk:=fun σ H=>D.bk (vq i σ) H,ct:=fun σ H=>D.ct (vq i σ) H }
noncomputable def zZ(K:PySem.W.Frag)(T:Addr)(ts:TS)(i:Option Nat)(W₀:XW)(D:Ends):XW:=fun C a σ H=>∀ H',au H H'->∃ c b,C=.ref c /\ km K T c b /\ if b=true then ts (uS i D) (Cj i a σ) H' else W₀ C a σ H'
noncomputable def tT(K:PySem.W.Frag)(tb:XW->TS)(T:Addr)(ts:TS)(i:Option Nat)(W₀:XW):TS:=fun D σ H=>tb (zZ K T ts i W₀ D) D σ H
section
variable{X:Cx}{x n:Str}{np hpos pos:Pos}{body suite:List Stmt}{b₀:Stmt}{tb:XW->TS}{ts:TS}{T:Addr}{W₀:XW}
theorem sQ{a:Addr}{pins:List (Addr×Obj)}{D:Ends}{f:Flow}{s:Shared}(ok:X.Ok)(h:SP (hand X a) pins D f s):SP X pins D f s:=by
 cases f with
 |next=>obtain⟨σ',H',I,q⟩:=h;exact⟨σ',H',ju ok I,q⟩
 |brk=>obtain⟨σ',H',I,q⟩:=h;exact⟨σ',H',ju ok I,q⟩
 |cont=>obtain⟨σ',H',I,q⟩:=h;exact⟨σ',H',ju ok I,q⟩
 |ret u=>obtain⟨v,σ',H',I,r,q⟩:=h;exact⟨v,σ',H',ju ok I,r,q⟩
theorem vW{pins pins':List (Addr×Obj)}{xe:Value->Shared->Prop}{D:Ends}{f:Flow}{s:Shared}(ok:X.Ok)(h:SP (hU X (X.pn++pins) xe) pins' D f s):SP X pins D f s:=by
 cases f with
 |next=>obtain⟨σ',H',I,q⟩:=h;exact⟨σ',H',ib ok I,q⟩
 |brk=>obtain⟨σ',H',I,q⟩:=h;exact⟨σ',H',ib ok I,q⟩
 |cont=>obtain⟨σ',H',I,q⟩:=h;exact⟨σ',H',ib ok I,q⟩
 |ret u=>obtain⟨v,σ',H',I,r,q⟩:=h;exact⟨v,σ',H',ib ok I,r,q⟩
theorem nr{pins:List (Addr×Obj)}{σ:St}{H:Hp}{s:Shared}{a C:Addr}{dx:Option Addr}{b:Bool}{R:Result->Shared->Prop}(I:Inv X pins σ H s)(F:oR H s.heap a C dx)(hg:Gl X x)(hm:X.mg x=some (.ref T))(hk:km X.K T C b)
  (hd:(x==("__debug__":Str))=false) (h:R (.ok (if b then .brk else .next)) s):codeAny (model X.prog X.w) (X.A.mark (some (.ref a))) (.handlers (.ref a) [.ExceptHandler (some (.Name x np)) none [] hpos] X.env) R s:=by
 refine codeAny_handlers_test (kJ (X:=hand X a) (oy I a) hg hm ?_ hd);obtain⟨e,_,_⟩:=I.hok a _ F.exc;exact qW I.kIn e hk h
theorem AQ(hst:X.stack=X.env ::X.outer /\ X.env.frame=some X.env.locals)(hb:∀ pn xe W,Thr (hU X pn xe) W->PassesOwn (model X.prog X.w) X.A X.env xe->PSs (hU X pn xe) body (tb W))(hg:Gl X x)(hm:X.mg x=some (.ref T))
  (hs:∀ a,PSs (hand X a) (b₀ ::suite) ts) (hX:Thr X W₀) (hd:(x==("__debug__":Str))=false:=by decide):
  PS X (.Try body [.ExceptHandler (some (.Name x np)) none (b₀ ::suite) hpos] [] [] pos) (tT X.K tb T ts none W₀):=by
 intro pins s σ H D I h;refine wpAny_Try_except ?_
 refine wpAny_mono (hb (X.pn++pins) _ (zZ X.K T ts none W₀ D) ?_ PassesOwn.looking [] s σ H D (wc I _) h) (fun f s1 h1=>?_) fun _ _ z=>z
 . intro pins' σ' H' s' a C dx I' F' hw
   refine oX (ib (pins:=pins) I.ok I') hst F' fun s1 H1 I1 g1 F1=>?_
   refine dZ I1 F1 fun s2 I2 F2=>?_
   obtain⟨c,b,hc,hk,q⟩:=hw H1 g1;cases hc;refine wpAny_handleBy_cons (nr I2 F2 hg hm hk hd ?_) (by intro z;cases z)
   cases b with
   | true=>
     refine codeAny_handlers_suite (dZ (X:=hand X a) (oy I2 a) F2 fun s3 I3 F3=>?_)
     refine wpAny_mono (hs a pins s3 σ' H1 D I3 q) (fun f s4 h4=>sQ I.ok h4) fun _ _ z=>False.elim z
   | false=>
     refine wpAny_handleBy_nil (sT I2 F2 fun s3 I3 F3=>?_);exact hX pins σ' H1 s3 a C dx I3 F3.fly q
 . have z:=vW I.ok h1
   cases f with
   |next=>exact wpAny_execs_nil z
   |brk=>exact z
   |cont=>exact z
   |ret u=>exact z
theorem wG{i:Nat}(hst:X.stack=X.env ::X.outer /\ X.env.frame=some X.env.locals)(hN:X.N.Nodup)(hi:X.N[i]?=some n)(hl:X.env.scope.names.lookup n=some .local)(hb:∀ pn xe W,Thr (hU X pn xe) W->PassesOwn (model X.prog X.w) X.A X.env xe->PSs (hU X pn xe) body (tb W))
  (hg:Gl X x) (hm:X.mg x=some (.ref T)) (hs:∀ a,PSs (hand X a) (b₀ ::suite) ts) (hX:Thr X W₀) (hd:(x==("__debug__":Str))=false:=by decide):
  PS X (.Try body [.ExceptHandler (some (.Name x np)) (some n) (b₀ ::suite) hpos] [] [] pos) (tT X.K tb T ts (some i) W₀):=by
 intro pins s σ H D I h
 have hcls:(X.env.scope.kind == .class||(X.env.scope.kind == .module&&X.env.locals != X.env.globals))=false:=by rw[I.ok.kind];rfl
 have fin:∀{σ' H' s'},Inv X pins σ' H' s'->∀{Q:Unit->Shared->Prop} {E:Value->Shared->Prop},(∀ s'',Inv X pins (σ'.set i none) H' s''->Q () s'')->wpAny (model X.prog X.w) X.A (do bindName X.env n .none;unbindBehindTheSuite X.env n hpos) Q E s':=fun {σ' H' s'} J {Q E} k=>by
  obtain⟨m,hn,hlk⟩:=id J.loc
  exact wpAny_nameGoes_keeps hl hn hcls fun h2 v hn2 hs2=>k _ (yP J hN hi hlk hs2 hn2)
 refine wpAny_Try_except ?_
 refine wpAny_mono (hb (X.pn++pins) _ (zZ X.K T ts (some i) W₀ D) ?_ PassesOwn.looking [] s σ H D (wc I _) h) (fun f s1 h1=>?_) fun _ _ z=>z
 . intro pins' σ' H' s' a C dx I' F' hw
   refine oX (ib (pins:=pins) I.ok I') hst F' fun s1 H1 I1 g1 F1=>?_
   refine dZ I1 F1 fun s2 I2 F2=>?_
   obtain⟨c,b,hc,hk,q⟩:=hw H1 g1;cases hc;refine wpAny_handleBy_cons (nr I2 F2 hg hm hk hd ?_) (by intro z;cases z)
   cases b with
   | true=>
     refine codeAny_handlers_suite_as (dZ (X:=hand X a) (oy I2 a) F2 fun s3 I3 F3=>?_);refine gY (X:=hand X a) (v:=.ref a) I3 hN hi (.inl hl) rfl (fun s4 I4=>?_) (.inr hl)
     refine wpAny_mono (hs a pins s4 _ H1 (uS (some i) D) I4 q) (fun f s5 h5=>?_) fun _ _ z=>False.elim z
     have z:=sQ I.ok h5;show wpAny _ _ _ _ _ s5
     cases f with
     |next=>obtain⟨σ6,H6,J,r⟩:=z;exact fin J fun s7 J7=>⟨_,_,J7,r⟩
     |brk=>obtain⟨σ6,H6,J,r⟩:=z;exact fin J fun s7 J7=>⟨_,_,J7,r⟩
     |cont=>obtain⟨σ6,H6,J,r⟩:=z;exact fin J fun s7 J7=>⟨_,_,J7,r⟩
     |ret u=>obtain⟨v,σ6,H6,J,rv,r⟩:=z;exact fin J fun s7 J7=>⟨v,_,_,J7,rv,r⟩
   | false=>
     refine wpAny_handleBy_nil (sT I2 F2 fun s3 I3 F3=>?_);exact hX pins σ' H1 s3 a C dx I3 F3.fly q
 . have z:=vW I.ok h1
   cases f with
   |next=>exact wpAny_execs_nil z
   |brk=>exact z
   |cont=>exact z
   |ret u=>exact z
end
noncomputable abbrev blk(X:Cx)(scope:Scope)(cl:List (Str×Addr))(N:List Str)(C:Addr)(s₀:Shared)(H₀:Hp)(ex:List Addr):Cx:=
 { prog:=X.prog,w:=X.w,K:=X.K,mg:=X.mg,base:=X.base,A:=X.A,N:=N,s₀:=s₀,H₀:=H₀,env:=compEnvC scope cl C X.env,outer:=X.stack,stack:=X.stack,ex:=ex,fn:=fun _=>false,calm:=X.calm,pn:=[],xe:=fun _ _=>False }
theorem oU:Thr X (fun _ _ _ _=>False):=fun _ _ _ _ _ _ _ _ _ h=>h.elim
structure kQ(X:Cx)(scope:Scope)(cl:List (Str×Addr))(M:List Str)(ι:List Nat)(x:Str):Prop where
 clos:closureFor scope X.env=pure cl
 kind:scope.kind=.function
 nocell:(scope.names.all fun p=>p.2 != .cell)=true
 locs:(scope.names.all fun p=>p.2 != .local||scope.names.lookup p.1==some .local)=true
 var:scope.names.lookup x=some .local
 names:M.map some=ι.map fun i=>X.N[i]?
 cells:M.map (fun y=>scope.names.lookup y)=M.map fun _=>some .free
 kinds:M.map X.env.kindOf=M.map fun _=>some .cell
 same:M.map (fun y=>cl.lookup y)=M.map fun y=>X.env.cells.lookup y
 sub:cl.map (fun p=>X.env.cells.lookup p.1)=cl.map fun p=>some p.2
 all:(scope.names.all fun p=>!(p.2 == .free)||(cl.lookup p.1).isSome)=true
 nd:(M++[x]).Nodup
theorem ph{α β:Type}{f g:α->β}{l:List α}(h:l.map f=l.map g){a:α}(ha:a∈l):f a=g a:=by
 induction l with
 |nil=>cases ha
 | cons b r ih=>
   rw[List.map_cons,List.map_cons]at h
   injection h with h1 h2
   rcases List.mem_cons.mp ha with z|z
   . rw[z];exact h1
   . exact ih h2 z
theorem oQ{scope:Scope}(h:scope.names.lookup y=some .free):(relabel scope env).names.lookup y=some .cell \/ (relabel scope env).names.lookup y=some .free:=by
 unfold relabel;dsimp only;generalize scope.names=l at h
 induction l with
 |nil=>cases h
 | cons p r ih=>
   obtain⟨n,k⟩:=p;rw[List.lookup_cons]at h;rw[List.map_cons]
   by_cases e:(y==n)=true
   . rw[e]at h
     have hk:k=.free:=Option.some.inj h
     subst hk;dsimp only;split
     . rw[List.lookup_cons,e];exact .inl rfl
     . rw[List.lookup_cons,e];exact .inr rfl
   . have e':(y==n)=false:=by simpa using e
     rw[e']at h;dsimp only;split
     . rw[List.lookup_cons,e'];exact ih h
     . rw[List.lookup_cons,e'];exact ih h
theorem n8{scope:Scope}(hc:(scope.names.all fun p=>p.2 != .cell)=true)(h:(relabel scope env).names.lookup y=some .cell \/ (relabel scope env).names.lookup y=some .free):∃ p∈scope.names,p.1=y /\ p.2=.free:=by
 unfold relabel at h
 dsimp only at h
 generalize scope.names=l at h hc
 induction l with
 |nil=>rcases h with h|h<;>cases h
 | cons p r ih=>
   obtain⟨n,k⟩:=p;rw[List.all_cons,Bool.and_eq_true]at hc;rw[List.map_cons]at h
   by_cases e:(y==n)=true
   . refine⟨(n,k),List.mem_cons_self,(beq_iff_eq.mp e).symm,?_⟩
     dsimp only at h ⊢
     split at h
     . rename_i c;simp only[Bool.and_eq_true,beq_iff_eq]at c;exact c.1.1
     . rw[List.lookup_cons,e]at h
       have hk:(k != NameKind.cell)=true:=hc.1
       rcases h with h|h
       . have:k=.cell:=Option.some.inj h
         subst this;exact absurd hk (by decide)
       . exact Option.some.inj h
   . have e':(y==n)=false:=by simpa using e
     have h':(List.map (fun x=>match x with|(n,k)=>if(k==NameKind.free&&env.scope.kind==ScopeKind.function&&env.kindOf n==some NameKind.cell)=true then(n,NameKind.cell)else(n,k)) r).lookup y=some .cell \/
       (List.map (fun x=>match x with|(n,k)=>if(k==NameKind.free&&env.scope.kind==ScopeKind.function&&env.kindOf n==some NameKind.cell)=true then(n,NameKind.cell)else(n,k)) r).lookup y=some .free:=by
      dsimp only at h
      split at h
      . rw[List.lookup_cons,e']at h;exact h
      . rw[List.lookup_cons,e']at h;exact h
     obtain⟨q,hq,z⟩:=ih h' hc.2
     exact⟨q,List.mem_cons_of_mem _ hq,z⟩
noncomputable def pick(ι:List Nat)(σ:St):St:=ι.map fun i=>(σ[i]?).join
noncomputable def qj(wi:TI)(ι:List Nat)(te:TE):TE:=fun σ H Q=>wi σ H fun J H1=>∀ D,H1 D=none->∃ W:Nat->Nat->List V->Hp->Prop,(∃ m,W 0 m [] (upd H1 D (.lst []))) /\ ∀ i m ys H,W i m ys H ->
 H D=some (.lst ys) /\ ((J.stop i H /\ Q (.ref D) H) \/ (J.go i H /\ ∀ x H',J.yld i H x H'->te (pick ι σ++[some x]) H' fun y H2=>H2 D=some (.lst ys) /\ ys.length<sizeLine /\ ∃ m',m'<m /\ W (i+1) m' (ys++[y]) (upd H2 D (.lst (ys++[y])))))
section
variable{X:Cx}{scope:Scope}{cl:List (Str×Addr)}{M:List Str}{ι:List Nat}{x:Str}
theorem kQ.lJ(S:kQ X scope cl M ι x)(h:cl.lookup y=some c):X.env.cells.lookup y=some c:=ph S.sub (PySem.mem_of_lookup h)
theorem Aa{pins:List (Addr×Obj)}{s:Shared}{h₁:Heap}(S:kQ X scope cl M ι x)(I:Inv X pins σ H s)(hex:∀ b∈ex,lP X pins H b /\ b<s.heap.objs.size)(hn:h₁.Ns s.heap.objs.size (fun _=>none))
  (hk:∀ b o,s.heap.get? b=some o->h₁.get? b=some o):Inv (blk X scope cl (M++[x]) s.heap.objs.size s H ex) [] (pick ι σ++[none]) H { s with heap:=h₁,toks:=t' }:=by
 have noM:∀ b:Addr,b∈ex->b≠s.heap.objs.size:=fun b hb=>Nat.ne_of_lt (hex b hb).2
 have fsx:∀ b∈ex,b∉frs X.stack:=fun b hb z=>by
  obtain⟨⟨_,f1,f2,_⟩,_⟩:=hex b hb
  rcases List.mem_cons.mp (I.sj b z)with e|e
  . exact f1 e
  . exact f2 e
 have base0:∀ b o,X.base.get? b=some o->b∉ex:=fun b o e z=>by
  obtain⟨⟨_,_,_,f3,_⟩,_⟩:=hex b z
  rcases f3 with f|f
  . exact I.ok.noex b o e f
  . exact absurd (Nat.lt_of_lt_of_le (Heap.lt_size e) (Nat.le_trans I.ok.bsz f)) (Nat.lt_irrefl _)
 refine⟨⟨I.ok.mod,S.kind,I.ok.glob,I.ok.blt,Nat.le_refl _,fun y z c h1 h2=>I.ok.inj y z c (S.lJ h1) (S.lJ h2),fun y hy=>?_,fun y c z=>absurd z Bool.false_ne_true,I.ok.hd,I.ok.frames,.inl rfl,
  fun b hb=>⟨noM b hb,fun y c h z=>(hex b hb).1.2.2.2.2.1 y c (S.lJ h) z⟩,I.bs,Nat.le_trans I.ok.bsz I.sz,base0,fsx,I.stack,I.pj⟩,
  rfl,I.bare,Un.kept hk,⟨_,hn,fun i y v e1 e2 e3=>?_⟩,fun y c h=>?_,I.fresh,fun y c h=>?_,fun p hp=>absurd (show p∈([]:List (Addr×Obj)) from hp) (by simp),I.hok.kept hk,?_⟩
 . obtain⟨p,hp,rfl,hpf⟩:=n8 S.nocell hy;have q:=List.all_eq_true.mp S.all p hp;rw[hpf]at q
   have q':(cl.lookup p.1).isSome=true:=by
    cases e:(cl.lookup p.1).isSome with
    |true=>rfl
    |false=>rw[e]at q;exact absurd q (by decide)
   exact Option.isSome_iff_exists.mp q'
 . have hiM:i < M.length:=by
    by_cases hlt:i<M.length
    . exact hlt
    . exfalso
      have hl:(pick ι σ).length=M.length:=by
       have q:=congrArg List.length S.names;rw[List.length_map,List.length_map]at q;unfold pick;rw[List.length_map,q]
      rw[List.getElem?_append_right (by omega),hl]at e2
      have:i - M.length=0 \/ 1<=i - M.length:=by omega
      rcases this with z|z
      . rw[z]at e2;cases e2
      . rw[List.getElem?_eq_none (by simpa using z)]at e2;cases e2
   have hl:ι.length=M.length:=by
    have q:=congrArg List.length S.names;rw[List.length_map,List.length_map]at q;exact q.symm
   rw[List.getElem?_append_left hiM]at e1
   have hyM:y∈M:=List.mem_of_getElem? e1
   have e2':((σ[ι[i]]?).join)=some v:=by
    rw[List.getElem?_append_left (by unfold pick;rw[List.length_map];omega)]at e2;unfold pick at e2;rw[List.getElem?_map,List.getElem?_eq_getElem (by omega)]at e2;exact Option.some.inj e2
   have e4:σ[ι[i]]?=some (some v):=by
    cases q:σ[ι[i]]? with
    |none=>rw[q]at e2';cases e2'
    |some w=>rw[q]at e2';exact congrArg some e2'
   have e5:X.N[ι[i]]?=some y:=by
    have q:=congrArg (fun l=>l[i]?) S.names;rw[List.getElem?_map,List.getElem?_map,e1,List.getElem?_eq_getElem (by omega)]at q
    exact(Option.some.inj q).symm
   have kc:X.env.kindOf y=some .cell:=ph S.kinds hyM
   obtain⟨m,hm,hl⟩:=I.loc;obtain⟨u,r,q⟩:=hl _ y v e5 e4 (.inr (.inl kc))
   refine⟨u,r,.inr ⟨?_,?_⟩⟩
   . exact oQ (ph S.cells hyM)
   . rcases q with⟨k,_⟩|⟨_,c,e,o,ho,hd⟩
     . rw[kc]at k;cases k
     . exact⟨c,(ph S.same hyM).trans e,o,hk _ _ ho,hd⟩
 . obtain⟨v,o,ho,hd⟩:=I.cell y c (S.lJ h)
   exact⟨v,o,hk _ _ ho,hd⟩
 . exact I.freeC y c (S.lJ h)
 . have q:=congrArg List.length S.names;rw[List.length_map,List.length_map]at q
   show(pick ι σ++[none]).length=(M++[x]).length
   unfold pick;rw[List.length_append,List.length_append,List.length_map,q];rfl
theorem xr{pins:List (Addr×Obj)}{s s':Shared}(I:Inv X pins σ H s)(hC:C=s.heap.objs.size)(hex:∀ b∈ex,lP X pins H b)(J:Inv (blk X scope cl N C s H ex) [] σ' H' s')
  (hs:Heap.SameBut C s'.heap h'):Inv X pins σ H' { s' with heap:=h' }:=by
 subst hC
 have K:Inv X pins σ H' s':=I.zy (ch:=ex) J.os J.base J.hok J.bare fun b hb=>by
  obtain⟨_,f1,_,f3,f4,f5⟩:=hex b hb
  exact⟨f3,f1,f4,f5⟩
 refine K.turned (t':=s'.toks) (it:=s.heap.objs.size) (fun b o hb e=>(hs.2 b hb).trans e) J.free (Nat.ne_of_gt I.lt) (.inr I.sz) (fun y c e z=>?_) (fun p hp z=>?_)
 . obtain⟨v,q⟩:=I.cell y c e;exact absurd (z ▸ q.lt) (Nat.lt_irrefl _)
 . exact absurd (z ▸ Heap.lt_size (I.pin p hp).1) (Nat.lt_irrefl _)
theorem ur(elt target iter:Expr)(scope:Scope)(pos:Pos)(it acc:Value)(env:Env):
  compTurn (.ListComp elt [⟨target,iter,[],0⟩] scope pos) 0 it acc env=(do
   standAt iter.pos
   match <- pyNext it with
   |none=>pure (.done .next)
   | some v=>do
     letOwnedTupleGo target it v
     assign target env v
     (do let x <- eval elt env;let _ <- call (.builtin "list.append") [acc,x];pure ())
     again (.compLoop (.ListComp elt [⟨target,iter,[],0⟩] scope pos) 0 it acc env)):=by rfl
theorem yt(S:kQ X scope cl M ι x)(hc:X.calm=true)(hi:PI X (.Name x px) iter wi)(he:∀ C s₀ H₀ ex,PE (blk X scope cl (M++[x]) C s₀ H₀ ex) elt te)
  (hs:∀ v,foldedSetIterable iter X.env v=pure v:=by intro _;rfl):PE X (.ListComp elt [⟨.Name x px,iter,[],0⟩] scope pos) (qj wi ι te):=by
 intro pins s σ H Q I h;rw[eval_ListComp];refine wpAny_comprehension_free (use:=none) rfl hs S.clos S.kind (fun y hy hl=>?_) (wpAny_mono (hi pins s σ H _ I h) (fun v s1 h1=>wpAny_mono h1 (fun itv s2 h2=>?_) fun _ _ z=>z) fun _ _ z=>z)
 . have q:=List.all_eq_true.mp S.locs y hy;rw[hl]at q
   simpa using q
 obtain⟨it,fp,tn,J,H2,rfl,I2,T,st2,f2,hW⟩:=h2;have I3:=I2.D1 (ys:=[]) (its:=[]) (t':=s2.toks) .nil (Nat.zero_le _);obtain⟨W,⟨m0,w0⟩,turn⟩:=hW s2.heap.objs.size I2.fresh
 have fpo:∀ b∈fp,b<s2.heap.objs.size:=fun b hb=>let ⟨_,e,_⟩:=T.obj _ _ st2 b hb;Heap.lt_size e
 have f3:∀ b∈fp,lP X pins (upd H2 s2.heap.objs.size (.lst [])) b:=fun b hb=>by
  obtain⟨q0,q⟩:=f2 b hb
  exact⟨by rw[aA (Nat.ne_of_lt (fpo b hb))];exact q0,q⟩
 show wpAny _ _ (newObj (.type "list") _ none) _ _ s2;refine wpAny_newObj_type (wpAny_newFunctionEnv (fun y hy=>?_) (by intro y hy;simp at hy) (fun h₁ hn₁ sb₁=>?_) S.kind)
 . have q:=List.all_eq_true.mp S.nocell y hy
   simpa using q
 have hsz:(s2.heap.push { cls:=.type "list",dict:=none,data:=.seq ([]:List Value).toArray }).objs.size=s2.heap.objs.size+1:=Heap.size_push ..
 have hk₁:∀ b o,(s2.heap.push { cls:=.type "list",dict:=none,data:=.seq ([]:List Value).toArray }).get? b=some o->h₁.get? b=some o:=fun b o e=>
  (sb₁.2 b (Nat.ne_of_lt (Heap.lt_size e))).trans (Heap.get?_push_of_some _ e)
 have J0:=Aa (t':=s2.toks+([]:List (Str×Value)).length) S I3 (ex:=fp) (fun b hb=>⟨f3 b hb,Nat.lt_of_lt_of_le (fpo b hb) (by rw[hsz];exact Nat.le_succ _)⟩) hn₁ hk₁
 have old:∀ b∈fp,∀ o,s2.heap.get? b=some o->h₁.get? b=some o:=fun b _ o e=>hk₁ b o (Heap.get?_push_of_some _ e)
 have st₁:tn 0 h₁:=T.keep _ _ _ st2 old
 have loop:codeAny (model X.prog X.w) X.A (.compLoop (.ListComp elt [⟨.Name x px,iter,[],0⟩] scope pos) 0 (.ref it) (.ref s2.heap.objs.size) (compEnvC scope cl (s2.heap.objs.size+1) X.env))
   (compPost (model X.prog X.w) X.A X.xe none (EP X pins σ Q) (.ref s2.heap.objs.size) (s2.heap.objs.size+1)) { s2 with heap:=h₁,toks:=s2.toks+([]:List (Str×Value)).length }:=by
  rw[hsz]at J0
  refine codeAny_loop rfl (fun n s'=>∃ i H' ys v,Inv (blk X scope cl (M++[x]) (s2.heap.objs.size+1) { s2 with heap:=s2.heap.push { cls:=.type "list",data:=.seq ([]:List Value).toArray },toks:=s2.toks } (upd H2 s2.heap.objs.size (.lst [])) fp) [] (pick ι σ++[v]) H' s' /\ tn i s'.heap /\ (∀ b∈fp,H' b=none) /\ W i n ys H')
   (fun n s' hI=>?_) m0 ⟨0,_,[],none,J0,st₁,fun b hb=>(f3 b hb).1,w0⟩
  obtain⟨i,H',ys,v,J',st',fr',w'⟩:=hI;obtain⟨hD,alt⟩:=turn i n ys H' w'
  have fpY:∀{G:Hp},(∀ b∈fp,G b=none)->∀ b∈fp,lP (blk X scope cl (M++[x]) (s2.heap.objs.size+1) { s2 with heap:=s2.heap.push { cls:=.type "list",data:=.seq ([]:List Value).toArray },toks:=s2.toks } (upd H2 s2.heap.objs.size (.lst [])) fp) [] G b:=fun hG b hb=>
   ⟨hG b hb,(J'.ok.exf b hb).1,J'.ok.exfs b hb,.inl hb,(J'.ok.exf b hb).2,fun p hp=>absurd (show p∈([]:List (Addr×Obj)) from hp) (by simp)⟩
  show wpAny _ _ ((compTurn _ 0 (.ref it) (.ref s2.heap.objs.size) (compEnvC scope cl (s2.heap.objs.size+1) X.env)).onRaise _) _ _ s';refine wpAny_noted (wpAny_noRaise ?_);rw[ur];refine wpAny_bind (wpAny_standAt (wpAny_bind ?_))
  rcases alt with⟨stop,qn⟩|⟨go,step⟩
  . refine thn (T.done (blk X scope cl (M++[x]) (s2.heap.objs.size+1) _ _ fp) rfl rfl rfl hc i [] s' _ H' _ J' (fpY fr') st' stop) fun r s4 ⟨hr,J4⟩=>?_
    subst hr;refine wpAny_pure ?_;obtain⟨m,hm,_⟩:=id J4.loc
    refine⟨m,hm,fun h' sb=>⟨.ref s2.heap.objs.size,H',xr I3 hsz.symm f3 J4 sb,rfl,qn⟩⟩
  . refine thn (T.item (blk X scope cl (M++[x]) (s2.heap.objs.size+1) _ _ fp) rfl rfl rfl hc i [] s' _ H' _ J' (fpY fr') st' go) fun r s4 ⟨u,hr,h4⟩=>?_
    subst hr;refine wpAny_bind (thn h4 fun _ s5 ⟨z,H5,J5,r5,y5,st5,fr5⟩=>?_)
    have J5':=J5.pinned (fpY fr5) (T.obj _ _ st5)
    have hxN:(M++[x])[M.length]?=some x:=by simp
    refine wpAny_bind ?_;refine wpAny_assign_Name ?_;refine gY (X:=blk X scope cl (M++[x]) (s2.heap.objs.size+1) _ _ fp) (i:=M.length) (v:=z) J5' S.nd hxN (.inl (lookup_relabel_local S.var)) r5 (fun s6 J6=>?_) (.inr (lookup_relabel_local S.var))
    have hlp:(pick ι σ).length=M.length:=by
     have q:=congrArg List.length S.names;rw[List.length_map,List.length_map]at q;unfold pick;rw[List.length_map,q]
    have hset:(pick ι σ++[v]).set M.length (some z)=pick ι σ++[some z]:=by
     rw[<- hlp,List.set_append_right _ _ (Nat.le_refl _),Nat.sub_self];rfl
    rw[hset]at J6;refine wpAny_bind (wpAny_bind (thn (he _ _ _ _ _ s6 _ H5 _ J6 (step z H5 y5)) fun yv s7 ⟨y,H7,J7,r7,hD7,hz7,m',hm',w7⟩=>?_));refine wpAny_bind (thn (nB (X:=blk X scope cl (M++[x]) (s2.heap.objs.size+1) _ _ fp) _ s7 _ H7 (.ref s2.heap.objs.size) [y] (.ref s2.heap.objs.size) [yv] (fun _ G=>G=upd H7 s2.heap.objs.size (.lst (ys++[y]))) J7 rfl (.cons r7 .nil) ⟨_,_,y,rfl,rfl,hD7,hz7,rfl⟩) fun _ s8 ⟨_,H8,J8,_,e8⟩=>?_);subst e8;refine wpAny_pure (wpAny_pure ⟨rfl,m',hm',i+1,_,_,some z,J8.jv,?_,fun b hb=>?_,w7⟩)
    . exact T.keep _ _ _ st5 fun b hb o e=>(J8.pin (b,o) (List.mem_append_right _ (List.mem_append_right _ (gc hb e)))).1
    . obtain⟨o,e,d⟩:=T.obj _ _ st5 b hb
      exact(J8.pin (b,o) (List.mem_append_right _ (List.mem_append_right _ (gc hb e)))).2.1
 rw[hsz]at *;exact codeAny_compStart_list loop (T.self X.A 0 _ _ _ st₁ loop)
end
section
variable{X:Cx}
noncomputable def IsV(K:PySem.W.Frag)(T:String)(x:V)(H:Hp)(b:Bool):Prop:=match x with
 |.int _=>(T = "int" /\ b=true) \/ (T = "bool" /\ b=false) \/ (T = "list" /\ b=false) \/ (T = "tuple" /\ b=false) \/ (T = "str" /\ b=false)
 |.bl _=>(T = "int" /\ b=true) \/ (T = "bool" /\ b=true) \/ (T = "list" /\ b=false) \/ (T = "tuple" /\ b=false) \/ (T = "str" /\ b=false)
 |.non=>(T = "int" /\ b=false) \/ (T = "bool" /\ b=false) \/ (T = "list" /\ b=false) \/ (T = "tuple" /\ b=false) \/ (T = "str" /\ b=false)
 |.str _=>(T = "int" /\ b=false) \/ (T = "bool" /\ b=false) \/ (T = "list" /\ b=false) \/ (T = "tuple" /\ b=false) \/ (T = "str" /\ b=true)
 | .ref p=>((∃ xs,SqL K H p xs) /\ ((T = "int" /\ b = false) \/ (T = "bool" /\ b = false) \/ (T = "list" /\ b = true) \/ (T = "tuple" /\ b = false) \/ (T = "str" /\ b = false))) \/
    ((∃ xs,SqT K H p xs) /\ ((T = "int" /\ b=false) \/ (T = "bool" /\ b=false) \/ (T = "list" /\ b=false) \/ (T = "tuple" /\ b=true) \/ (T = "str" /\ b=false)))
 |_=>False
theorem dH:gw X (.builtin "isinstance") (fun xs H Q=>∃ x T b,xs=[x,.ty T] /\ IsV X.K T x H b /\ Q (.bl b) H):=by
 intro pins s σ H vs us Q I rv h;obtain⟨x,T,b,rfl,hv,q⟩:=h;obtain⟨u,v,rfl,ru,rT⟩:=rv.two;cases rT
 cases x with
 | int i=>
   obtain⟨t,rfl⟩:=ru
   rcases hv with⟨rfl,rfl⟩|⟨rfl,rfl⟩|⟨rfl,rfl⟩|⟨rfl,rfl⟩|⟨rfl,rfl⟩
   . exact IsiPair.int_int ⟨.bl _,H,I,rfl,q⟩
   . exact IsiPair.int_bool ⟨.bl _,H,I.tok _,rfl,q⟩
   . exact IsiPair.int_list ⟨.bl _,H,I.tok _,rfl,q⟩
   . exact IsiPair.int_tuple ⟨.bl _,H,I.tok _,rfl,q⟩
   . exact IsiPair.int_str ⟨.bl _,H,I.tok _,rfl,q⟩
 | bl i=>
   cases ru
   rcases hv with⟨rfl,rfl⟩|⟨rfl,rfl⟩|⟨rfl,rfl⟩|⟨rfl,rfl⟩|⟨rfl,rfl⟩
   . exact IsiPair.bool_int ⟨.bl _,H,I,rfl,q⟩
   . exact IsiPair.bool_bool ⟨.bl _,H,I,rfl,q⟩
   . exact IsiPair.bool_list ⟨.bl _,H,I.tok _,rfl,q⟩
   . exact IsiPair.bool_tuple ⟨.bl _,H,I.tok _,rfl,q⟩
   . exact IsiPair.bool_str ⟨.bl _,H,I.tok _,rfl,q⟩
 | non=>
   cases ru
   rcases hv with⟨rfl,rfl⟩|⟨rfl,rfl⟩|⟨rfl,rfl⟩|⟨rfl,rfl⟩|⟨rfl,rfl⟩
   . exact IsiPair.NoneType_int ⟨.bl _,H,I.tok _,rfl,q⟩
   . exact IsiPair.NoneType_bool ⟨.bl _,H,I.tok _,rfl,q⟩
   . exact IsiPair.NoneType_list ⟨.bl _,H,I.tok _,rfl,q⟩
   . exact IsiPair.NoneType_tuple ⟨.bl _,H,I.tok _,rfl,q⟩
   . exact IsiPair.NoneType_str ⟨.bl _,H,I.tok _,rfl,q⟩
 | str i=>
   obtain⟨t,rfl⟩:=ru
   rcases hv with⟨rfl,rfl⟩|⟨rfl,rfl⟩|⟨rfl,rfl⟩|⟨rfl,rfl⟩|⟨rfl,rfl⟩
   . exact IsiPair.str_int ⟨.bl _,H,I.tok _,rfl,q⟩
   . exact IsiPair.str_bool ⟨.bl _,H,I.tok _,rfl,q⟩
   . exact IsiPair.str_list ⟨.bl _,H,I.tok _,rfl,q⟩
   . exact IsiPair.str_tuple ⟨.bl _,H,I.tok _,rfl,q⟩
   . exact IsiPair.str_str ⟨.bl _,H,I,rfl,q⟩
 | ref p=>
   cases ru
   rcases hv with⟨⟨xs,hS⟩,hv⟩|⟨⟨xs,hS⟩,hv⟩
   . obtain⟨its,r,pl,hz⟩:=I.list hS;obtain⟨o,e,c,_⟩:=pl.isList
     rcases hv with⟨rfl,rfl⟩|⟨rfl,rfl⟩|⟨rfl,rfl⟩|⟨rfl,rfl⟩|⟨rfl,rfl⟩
     . exact IsiPair.list_int e c ⟨.bl _,H,I.tok _,rfl,q⟩
     . exact IsiPair.list_bool e c ⟨.bl _,H,I.tok _,rfl,q⟩
     . exact IsiPair.list_list e c ⟨.bl _,H,I,rfl,q⟩
     . exact IsiPair.list_tuple e c ⟨.bl _,H,I.tok _,rfl,q⟩
     . exact IsiPair.list_str e c ⟨.bl _,H,I.tok _,rfl,q⟩
   . obtain⟨its,r,pl,hz⟩:=I.tuple hS;obtain⟨o,e,c,_⟩:=pl
     rcases hv with⟨rfl,rfl⟩|⟨rfl,rfl⟩|⟨rfl,rfl⟩|⟨rfl,rfl⟩|⟨rfl,rfl⟩
     . exact IsiPair.tuple_int e c ⟨.bl _,H,I.tok _,rfl,q⟩
     . exact IsiPair.tuple_bool e c ⟨.bl _,H,I.tok _,rfl,q⟩
     . exact IsiPair.tuple_list e c ⟨.bl _,H,I.tok _,rfl,q⟩
     . exact IsiPair.tuple_tuple e c ⟨.bl _,H,I,rfl,q⟩
     . exact IsiPair.tuple_str e c ⟨.bl _,H,I.tok _,rfl,q⟩
 |_=>exact hv.elim
theorem xB:typeOf (.type "ValueError")=pure (.type "type"):=by kernel_rfl
theorem boot_bool:bootBuiltins "bool" = some (.type "bool"):=by decide +kernel
theorem boot_isinstance:bootBuiltins "isinstance" = some (.builtin "isinstance"):=by decide +kernel
theorem boot_all:bootBuiltins "all" = some (.builtin "all"):=by decide +kernel
theorem boot_tuple:bootBuiltins "tuple" = some (.type "tuple"):=by decide +kernel
theorem boot_list:bootBuiltins "list" = some (.type "list"):=by decide +kernel
theorem boot_int:bootBuiltins "int" = some (.type "int"):=by decide +kernel
theorem boot_len:bootBuiltins "len" = some (.builtin "len"):=by decide +kernel
theorem kZ{prog:Program}{w:World}{A:Around}{E:Value->Shared->Prop}{K:PySem.W.Frag}{s:Shared}{a C:Addr}{T:Value}{dx:Option Addr}{bm:List Value}{k:Value}{dep:Int}{tk:Tok}{Q:Fin->Shared->Prop}(hk:k=.int dep tk)(X:K.In s.heap)(e:vh a C dx s.heap)
  (hC:gF K C bm) (hty:(∃ n,T=.type n /\ typeOf (.type n)=pure (.type "type")) \/ ∃ B bmB,T=.ref B /\ gF K B bmB) (hb:(Value.ref C ::bm).contains T=true) (hq:Q (.done (.ret (.bool true))) s):
  wpAny (model prog w) A (Builtin.«isinstance.nested» ⟨[.ref a,T,k],[]⟩) Q E s:=by
 subst hk;obtain⟨_,nm,q,N,bs,hdct,sn,sub,ab,col,dd,k0,k1,k2,k3,k5,nid,lC⟩:=hC;obtain⟨o,vs,he,hcls,_⟩:=e;have hC:=X _ _ lC;obtain⟨hp,g,d,tks,os⟩:=s
 by_cases same:(Value.ref C==T)=true
 . rcases hty with⟨n,rfl,hty⟩|⟨B,bmB,rfl,_⟩
   . cases same
   . repeat (first
      |(with_reducible refine wpAny_loadPart_at he ?_;rw[hcls])
      |assumption
      |wp_step)
     all_goals first|assumption|exact hq
 . have same':(Value.ref C==T)=false:=by simpa using same
   rcases hty with⟨n,rfl,hty⟩|⟨B,bmB,rfl,⟨_,nm',q',N',bs',hdct',sn',sub',ab',col',dd',k0',k1',k2',k3',k5',nid',lB⟩⟩
   . repeat (first
      |(with_reducible refine wpAny_loadPart_at he ?_;rw[hcls])
      |(with_reducible refine wpAny_isSubtype_exc hC ?_;rw[hb])
      |assumption
      |wp_step)
     all_goals first|assumption|exact hq
   . have hB:=X _ _ lB
     repeat (first
      |(with_reducible refine wpAny_loadPart_at he ?_;rw[hcls])
      |with_reducible refine wpAny_loadPart_at hB ?_
      |(with_reducible refine wpAny_isSubtype_exc hC ?_;rw[hb])
      |assumption
      |wp_step)
     all_goals first|assumption|exact hq
theorem vt:gw X (.builtin "isinstance") (fun xs H Q=>∃ a T C dx bm,xs=[.ref a,T] /\ H a=some (jb a C dx) /\ gF X.K C bm /\ ((∃ B bmB,T=.ref B /\ gF X.K B bmB /\ (Value.ref C ::bm).contains (.ref B)=true) \/ (T=.ty "ValueError" /\ bm.contains (.type "ValueError")=true)) /\ Q (.bl true) H):=by
 intro pins s σ H vs us Q I rv h;obtain⟨a,T,C,dx,bm,rfl,ha,hC,hT,q⟩:=h;obtain⟨u,v,rfl,ru,rT⟩:=rv.two;cases ru;obtain⟨e,_,_⟩:=I.hok a _ ha
 rcases hT with⟨B,bmB,rfl,hB,hb⟩|⟨rfl,hb⟩
 . cases rT;refine call_isinstance (S:=fun _ R s'=>s'=s /\ R (.ok (.ret (.bool true))) s) (fun prog w A R s' hs=>?_) ⟨rfl,?_⟩
   . obtain⟨rfl,hs⟩:=hs;exact isinstance_outer (kZ rfl I.kIn e hC (.inr ⟨B,bmB,rfl,hB⟩) hb hs) (by intro z;cases z)
   . exact⟨.bl _,H,I,rfl,q⟩
 . cases rT;refine call_isinstance (S:=fun _ R s'=>s'=s /\ R (.ok (.ret (.bool true))) s) (fun prog w A R s' hs=>?_) ⟨rfl,?_⟩
   . obtain⟨rfl,hs⟩:=hs;exact isinstance_outer (kZ rfl I.kIn e hC (.inl ⟨_,rfl,xB⟩) (by rw[List.contains_cons,hb,Bool.or_true]) hs) (by intro z;cases z)
   . exact⟨.bl _,H,I,rfl,q⟩
end
section
variable{P:Program}{w:World}{K:PySem.W.Frag}{mg:Str->Option Value}{base:Heap}
theorem okX{x qual:Str}{st:Stmt}{f:Addr}{fd:FuncData}{N ps:List Str}{k:Nat}{sp:Sp}(F:Fun K x qual st f fd)(S:aN N ps (ay st))(len:∀ vs H Q E,sp vs H Q E->vs.length=ps.length)
  (hbody:∀(cdv:Value) (A:Around) (outer:List Env) (s:Shared) (H:Hp) (vs:List V) (Q:VK) (E:XK),dy k (A.deeper (envOfC qual (ay st) s.heap.objs.size f cdv))->sp vs H Q E ->
    ∃ t,PSs (jI (CXE P w) P w K mg base N qual (ay st) f cdv A outer s H E) (b4 st) t /\ t { nx:=fun _ H'=>Q .non H',rt:=Q } (start N vs) H):bH P w K mg base (CXE P w) (k+1) f fd ps sp:=by
 obtain⟨oc,od,kV,doc,pm,an,cdv,ct,osl,rfl,lk,hcd⟩:=F.ex
 exact BN lk hcd S len fun A outer s H vs Q E hr hsp=>hbody cdv A outer s H vs Q E hr hsp
end
theorem SqL.new{K:PySem.W.Frag}{H:Hp}{p:Addr}{xs:List V}(h:H p=some (.lst xs)):SqL K H p xs:=.inl (.inl h)
theorem SqT.new{K:PySem.W.Frag}{H:Hp}{p:Addr}{xs:List V}(h:H p=some (.tup xs)):SqT K H p xs:=.inl (.inl h)
theorem oZ{H:Hp}{p q:Addr}{o:HO}(h:H q=some o)(n:H p=none):q≠p:=fun z=>by rw[z,n]at h;cases h
theorem _root_.L2.au.upd{H H':Hp}{p:Addr}{o:HO}(e:au H H')(n:H p=none):au H (upd H' p o):=fun b u h=>by
 rw[aA (oZ h n)];exact e b u h
theorem _root_.L2.au.new{H:Hp}{p:Addr}{o:HO}(n:H p=none):au H (L2.upd H p o):=(au.refl H).upd n
theorem takes{K:PySem.W.Frag}{T C:Addr}{b:Bool}{bmC bmT:List Value}(h1:gF K C bmC)(h2:gF K T bmT)(h:(Value.ref C ::bmC).contains (.ref T)=b):km K T C b:=⟨bmC,bmT,h1,h2,h⟩
section
variable{X:Cx}
theorem jF:gw X (.builtin "all") (fun xs H Q=>∃(p:Addr) (bs:List Bool),xs=[.ref p] /\ SqL X.K H p (bs.map V.bl) /\ X.A.handled=none /\ Q (.bl (bs.all id)) H):=by
 intro pins s σ H vs us Q I rv h;obtain⟨p,bs,rfl,hp,hh,q⟩:=h;obtain⟨u,rfl,ru⟩:=rv.one;cases ru;obtain⟨its,r,pl,_⟩:=I.list hp;have hl:=r.length
 have isl:s.heap.IsList p its.toArray:=pl.isList
 obtain⟨o,e,_⟩:=id isl;refine call_all_walk (wpAny_pyIter_list isl ?_)
 have ne:p≠s.heap.objs.size:=Nat.ne_of_lt (Heap.lt_size e)
 have tv:∀(i:Nat) (v:Value),its.toArray[i]?=some v->∃ b,bs[i]?=some b /\ v=Value.bool b:=fun i v hv=>by
  have hv':its[i]?=some v:=by simpa using hv
  have hi:i<its.length:=(List.getElem?_eq_some_iff.mp hv').1
  rw[<- hl,List.length_map]at hi
  have hx:(bs.map V.bl)[i]?=some (V.bl bs[i]):=by simp[hi]
  obtain⟨u,hu,ru⟩:=r.get hx;rw[hv']at hu;cases hu
  exact⟨bs[i],by simp[hi],ru⟩
 refine⟨s.heap.objs.size,_,_,_,_,_,(fun i=>(bs[i]?).getD false),rfl,Walks.list (A:=X.A.in1) hh s.heap.objs.size p ne its.toArray,⟨⟨_,Heap.get?_push_size _ rfl,rfl,rfl⟩,isl.at fun o e=>Heap.get?_push_of_some _ e⟩,fun i v s' Q' E' hP hQ=>?_,fun h' tk hk=>?_⟩
 . obtain⟨b,hb,rfl⟩:=tv i v hP
   have hQ':Q' ((bs[i]?).getD false) s':=hQ
   rw[hb]at hQ';exact wpAny_truthy_bool hQ'
 . have en:its.toArray.size=bs.length:=by rw[List.size_toArray,<- hl,List.length_map]
   have eb:(List.range its.toArray.size).all (fun i=>(bs[i]?).getD false)=bs.all id:=by
    rw[en];rw[Bool.eq_iff_iff,List.all_eq_true,List.all_eq_true];constructor
    . intro hA b hb;obtain⟨i,hi,rfl⟩:=List.mem_iff_getElem.mp hb;have:=hA i (by simpa using hi)
      simpa [hi]using this
    . intro hA i hi
      have hi':i<bs.length:=by simpa using hi
      have:=hA bs[i] (List.getElem_mem hi')
      simpa [hi']using this
   rw[eb]
   refine⟨.bl _,H,I.kept (h':=h') (t':=tk) fun b o e'=>hk b o ?_ (Heap.get?_push_of_some _ e'),rfl,q⟩
   have lt:=Heap.lt_size e';intro z
   have z':b=s.heap.objs.size:=by simpa using z
   exact absurd (z' ▸ lt) (Nat.lt_irrefl _)
end
noncomputable def isStar:Expr->Bool
 |.Starred ..=>true
 |_=>false
theorem ia{e:Expr}{es:List Expr}{env:Env}(h:isStar e=false):starEach (e ::es) env=(false,eval e env) ::starEach es env:=by
 cases e<;>first|rfl|cases h
theorem vf{X:Cx}{e:Expr}{es:List Expr}{te:TE}{t:TA}(ha:PE X e te)(hr:PA X es t)(hs:isStar e=false:=by rfl):PA X (e ::es) (cK te t):=xW ha hr (ia hs)
end L2.E
namespace L2.P
open PySem
noncomputable def ixP(n:Nat)(i:Int):Option Nat:=if 0<=i then(if i<n then some i.toNat else none)else if -(n:Int)<=i then some (i+n).toNat else none
noncomputable def atP{α:Type}(xs:List α)(i:Int):Option α:=(ixP xs.length i).bind fun j=>xs[j]?
noncomputable def oe(n d:Nat):Option Int->Nat
 |none=>d
 |some v=>if v<0 then(v+(n:Int)).toNat else min v.toNat n
inductive PV where
 |non|bl (b:Bool)|int (i:Int)|str (s:Str)|lst (xs:List PV)|tup (xs:List PV)
inductive OV where
 | sh (x:PV)|ol (ts:List OV)|ob (c:String) (ks:List Str) (ts:List OV)
   |di (kvs:List (Int×PV))|dt (kvs:List (List Int×PV))
inductive Sl where
 | sh (x:PV)|ow (xs:List PV)|ex (c:String) (fs:List (Str×PV))
   |tr (io:Bool) (t:OV)|bo (t:OV)
abbrev aa:=List (Option Sl)
inductive RV where
 |sh (x:PV)|fr (xs:List PV)|al (xs:List PV)
noncomputable def RV.pv:RV->PV
 |.sh x=>x
 |.fr xs=>.lst xs
 |.al xs=>.lst xs
abbrev XF:=List (Str×PV)
inductive OE where
 |ok (r:RV)|exc (c:String) (fs:XF)|bad
inductive OT where
 |ok (b:Bool)|exc (c:String) (fs:XF)|bad
inductive OA where
 |ok (xs:List PV)|exc (c:String) (fs:XF)|bad
inductive OS where
 |nx (ρ:aa)|rt (ρ:aa) (r:RV)|bk (ρ:aa)|ct (ρ:aa)|exc (ρ:aa) (c:String) (fs:XF)|bad
noncomputable def OE.bind:OE->(RV->OE)->OE
 |.ok r,f=>f r
 |.exc c fs,_=>.exc c fs
 |.bad,_=>.bad
noncomputable def OE.cf:OE->(RV->OT)->OT
 |.ok r,f=>f r
 |.exc c fs,_=>.exc c fs
 |.bad,_=>.bad
noncomputable def OE.bP:OE->(RV->OA)->OA
 |.ok r,f=>f r
 |.exc c fs,_=>.exc c fs
 |.bad,_=>.bad
noncomputable def OE.aP(ρ:aa):OE->(RV->OS)->OS
 |.ok r,f=>f r
 |.exc c fs,_=>.exc ρ c fs
 |.bad,_=>.bad
noncomputable def OT.bind:OT->(Bool->OE)->OE
 |.ok r,f=>f r
 |.exc c fs,_=>.exc c fs
 |.bad,_=>.bad
noncomputable def OT.cf:OT->(Bool->OT)->OT
 |.ok r,f=>f r
 |.exc c fs,_=>.exc c fs
 |.bad,_=>.bad
noncomputable def OT.aP(ρ:aa):OT->(Bool->OS)->OS
 |.ok r,f=>f r
 |.exc c fs,_=>.exc ρ c fs
 |.bad,_=>.bad
noncomputable def OA.bind:OA->(List PV->OE)->OE
 |.ok r,f=>f r
 |.exc c fs,_=>.exc c fs
 |.bad,_=>.bad
noncomputable def OA.bP:OA->(List PV->OA)->OA
 |.ok r,f=>f r
 |.exc c fs,_=>.exc c fs
 |.bad,_=>.bad
noncomputable def OA.aP(ρ:aa):OA->(List PV->OS)->OS
 |.ok r,f=>f r
 |.exc c fs,_=>.exc ρ c fs
 |.bad,_=>.bad
noncomputable def ao(i:Nat):aa->OE:=fun ρ=>match ρ[i]? with
 |some (some (.sh x))=>.ok (.sh x)
 |some (some (.ow xs))=>.ok (.al xs)
 |_=>.bad
noncomputable def mC(x:PV):aa->OE:=fun _=>.ok (.sh x)
noncomputable def oE:Option RV->OE
 |some r=>.ok r
 |none=>.bad
noncomputable def mOp(g:PV->PV->Option RV)(ma mb:aa->OE):aa->OE:=fun ρ=>(ma ρ).bind fun a=>(mb ρ).bind fun b=>oE (g a.pv b.pv)
noncomputable def gI(C:Int->Int->Bool)(f:Int->Int->PV):PV->PV->Option RV
 |.int i,.int j=>if C i j then some (.sh (f i j))else none
 |_,_=>none
noncomputable def dM:=gI (fun _ _=>true) fun i j=>.int (i+j)
noncomputable def u3:=gI (fun _ _=>true) fun i j=>.int (i - j)
noncomputable def pk:=gI (fun i j=>(decide (-(2 ^ 64)<i)&&decide (i<2 ^ 64))||(decide (-(2 ^ 64)<j)&&decide (j<2 ^ 64))) fun i j=>.int (i*j)
noncomputable def uA:=gI (fun _ j=>decide (0<j)&&decide (j<1073741824)) fun i j=>.int (i/j)
noncomputable def gE:=gI (fun _ j=>decide (0<j)) fun i j=>.int (i%j)
noncomputable def gLt:=gI (fun _ _=>true) fun i j=>.bl (decide (i<j))
noncomputable def gLe:=gI (fun _ _=>true) fun i j=>.bl (decide (i<=j))
noncomputable def gGt:=gI (fun _ _=>true) fun i j=>.bl (decide (j<i))
noncomputable def eqS:PV->PV->Option Bool
 |.non,.non=>some true|.non,.int _=>some false|.int _,.non=>some false|.non,.bl _=>some false|.bl _,.non=>some false|.non,.str _=>some false|.str _,.non=>some false
 |.int a,.int b=>some (decide (a=b))|.bl a,.bl b=>some (decide (a=b))|.str a,.str b=>some (decide (a=b))
 |.int _,.str _=>some false|.str _,.int _=>some false|.bl _,.str _=>some false|.str _,.bl _=>some false
 |_,_=>none
noncomputable def gEq:PV->PV->Option RV:=fun x y=>(eqS x y).map fun b=>.sh (.bl b)
noncomputable def gNe:PV->PV->Option RV:=fun x y=>(eqS x y).map fun b=>.sh (.bl (!b))
noncomputable def fh:RV->Option PV
 |.sh x=>some x
 |.fr xs=>some (.lst xs)
 |.al _=>none
noncomputable def aC:aa->OA:=fun _=>.ok []
noncomputable def ah(me:aa->OE)(mr:aa->OA):aa->OA:=fun ρ=>(me ρ).bP fun r=>match fh r with
 |some x=>(mr ρ).bP fun xs=>.ok (x ::xs)
 |none=>.bad
noncomputable def lim:Nat:=16777216
noncomputable def oM(ma:aa->OA):aa->OE:=fun ρ=>(ma ρ).bind fun xs=>if xs.length<=lim then .ok (.fr xs)else .bad
noncomputable def bO(ma:aa->OA):aa->OE:=fun ρ=>(ma ρ).bind fun xs=>if xs.length<=lim then .ok (.sh (.tup xs))else .bad
noncomputable def aI(f:List PV->OE)(ma:aa->OA):aa->OE:=fun ρ=>(ma ρ).bind f
noncomputable def mUn(g:PV->Option RV)(ma:aa->OE):aa->OE:=fun ρ=>(ma ρ).bind fun a=>oE (g a.pv)
noncomputable def oK:PV->Option RV
 |.int i=>some (.sh (.int (-i)))
 |_=>none
noncomputable def jG:PV->Option RV
 |.lst xs=>some (.sh (.int xs.length))
 |.tup xs=>some (.sh (.int xs.length))
 |_=>none
noncomputable def kO:PV->Option RV
 |.lst xs=>some (.fr xs)
 |.tup xs=>some (.fr xs)
 |_=>none
noncomputable def pw:PV->PV->Option RV
 |.lst xs,.int i=>(atP xs i).map .sh
 |_,_=>none
noncomputable def bK:PV->PV->Option RV
 |.tup xs,.int i=>(atP xs i).map .sh
 |_,_=>none
noncomputable def iY:List PV->Option (List Int)
 |[]=>some []
 |.int i ::r=>(iY r).map (i ::·)
 |_ ::_=>none
noncomputable def eO:List PV->Option (List Bool)
 |[]=>some []
 |.bl i ::r=>(eO r).map (i ::·)
 |_ ::_=>none
noncomputable def sg:PV->Option RV
 |.lst xs=>(eO xs).map fun bs=>.sh (.bl (bs.all id))
 |_=>none
noncomputable def isP(T:String):PV->Option Bool
 |.int _=>if T = "int" then some true else if T = "bool" \/ T = "list" \/ T = "tuple" \/ T = "str" then some false else none
 |.bl _=>if T = "int" \/ T = "bool" then some true else if T = "list" \/ T = "tuple" \/ T = "str" then some false else none
 |.non=>if T = "int" \/ T = "bool" \/ T = "list" \/ T = "tuple" \/ T = "str" then some false else none
 |.str _=>if T = "str" then some true else if T = "int" \/ T = "bool" \/ T = "list" \/ T = "tuple" then some false else none
 |.lst _=>if T = "list" then some true else if T = "int" \/ T = "bool" \/ T = "tuple" \/ T = "str" then some false else none
 |.tup _=>if T = "tuple" then some true else if T = "int" \/ T = "bool" \/ T = "list" \/ T = "str" then some false else none
noncomputable def mIs(T:String)(ma:aa->OE):aa->OE:=mUn (fun x=>(isP T x).map fun b=>.sh (.bl b)) ma
noncomputable def lb:PV->Option Bool
 |.non=>some false
 |.bl b=>some b
 |.int i=>some (i != 0)
 |.lst xs=>some (!xs.isEmpty)
 |.tup xs=>some (!xs.isEmpty)
 |.str _=>none
noncomputable def oT:Option Bool->OT
 |some b=>.ok b
 |none=>.bad
noncomputable def cV(ma:aa->OE):aa->OT:=fun ρ=>(ma ρ).cf fun r=>oT (lb r.pv)
noncomputable def aQ(ma:aa->OE):aa->OT:=fun ρ=>(ma ρ).cf fun r=>match r.pv with
 |.bl b=>.ok b
 |_=>.bad
noncomputable def fw(m:aa->OT):aa->OT:=fun ρ=>(m ρ).cf fun b=>.ok (!b)
noncomputable def jq(m n:aa->OT):aa->OT:=fun ρ=>(m ρ).cf fun b=>if b=true then n ρ else .ok false
noncomputable def m7(m n:aa->OT):aa->OT:=fun ρ=>(m ρ).cf fun b=>if b=true then .ok true else n ρ
noncomputable def kl(m n:aa->OE):aa->OE:=fun ρ=>(m ρ).bind fun r=>match r.pv with
 |.bl b=>if b=true then n ρ else .ok (.sh (.bl false))
 |_=>.bad
noncomputable def Au(m n:aa->OE):aa->OE:=fun ρ=>(m ρ).bind fun r=>match r.pv with
 |.bl b=>if b=true then .ok (.sh (.bl true))else n ρ
 |_=>.bad
noncomputable def sC(m:aa->OE):aa->OE:=fun ρ=>(m ρ).bind fun r=>match r.pv with
 |.bl b=>.ok (.sh (.bl (!b)))
 |_=>.bad
noncomputable def oP(c:aa->OT)(m n:aa->OE):aa->OE:=fun ρ=>(c ρ).bind fun b=>if b=true then m ρ else n ρ
noncomputable def lV(g g':PV->PV->Option RV)(ma mb mc:aa->OE):aa->OE:=fun ρ=>(ma ρ).bind fun a=>(mb ρ).bind fun b=>(oE (g a.pv b.pv)).bind fun r=>match r.pv with
 |.bl k=>if k=true then(mc ρ).bind fun c=>oE (g' b.pv c.pv)else .ok (.sh (.bl false))
 |_=>.bad
noncomputable def OS.andThen:OS->(aa->OS)->OS
 |.nx ρ,k=>k ρ
 |o,_=>o
noncomputable def OS.turn:OS->(aa->OS)->OS
 |.nx ρ,k=>k ρ
 |.ct ρ,k=>k ρ
 |.bk ρ,_=>.nx ρ
 |o,_=>o
noncomputable def aM(a b:aa->OS):aa->OS:=fun ρ=>(a ρ).andThen b
noncomputable def bg:aa->OS:=fun ρ=>.nx ρ
noncomputable def vd:RV->Option Sl
 |.sh x=>some (.sh x)
 |.fr xs=>some (.ow xs)
 |.al _=>none
noncomputable def b3(i:Nat)(me:aa->OE):aa->OS:=fun ρ=>(me ρ).aP ρ fun r=>match vd r with
 |some s=>.nx (ρ.set i (some s))
 |none=>.bad
noncomputable def bL(c:aa->OT)(m n:aa->OS):aa->OS:=fun ρ=>(c ρ).aP ρ fun b=>if b=true then m ρ else n ρ
noncomputable def b2(me:aa->OE):aa->OS:=fun ρ=>(me ρ).aP ρ fun r=>match r with
 |.al _=>.bad
 |r=>.rt ρ r
noncomputable def dw(i:Nat):aa->OS:=fun ρ=>match ρ[i]? with
 |some (some (.sh x))=>.rt ρ (.sh x)
 |some (some (.ow xs))=>.rt (ρ.set i none) (.fr xs)
 |_=>.bad
noncomputable def vj(me:aa->OE):aa->OS:=fun ρ=>(me ρ).aP ρ fun _=>.nx ρ
noncomputable def kF(i:Nat)(ρ:aa):aa:=match ρ[i]? with
 |some (some (.ow xs))=>ρ.set i (some (.sh (.lst xs)))
 |_=>ρ
noncomputable def kN(i:Nat)(me:aa->OE):aa->OS:=fun ρ=>match ρ[i]? with
 | some (some (.ow xs))=>(me ρ).aP ρ fun r=>match fh r with
   |some y=>if xs.length<lim then .nx (ρ.set i (some (.ow (xs++[y]))))else .bad
   |none=>.bad
 |_=>.bad
noncomputable def hV(i:Nat)(me:aa->OE):aa->OS:=fun ρ=>match ρ[i]? with
 | some (some (.ow xs))=>(me ρ).aP ρ fun r=>match r with
   |.fr ys=>if xs.length+ys.length<=lim then .nx (ρ.set i (some (.ow (xs++ys))))else .bad
   |_=>.bad
 |_=>.bad
noncomputable def cJ(i:Nat)(mb:aa->OS):List PV->aa->OS
 |[],ρ=>.nx ρ
 |x ::xs,ρ=>(mb (ρ.set i (some (.sh x)))).turn (cJ i mb xs)
noncomputable def qF:RV->Option (List PV)
 |.sh (.lst xs)=>some xs
 |.fr xs=>some xs
 |_=>none
noncomputable def bR(n:Nat):List PV:=(List.range n).map fun k:Nat=>PV.int (k:Int)
noncomputable def iw(i:Nat)(me:aa->OE)(mb:aa->OS):aa->OS:=fun ρ=>(me ρ).aP ρ fun r=>match r.pv with
 |.int j=>if -(2 ^ 62)<=j /\ j<2 ^ 62 then cJ i mb (bR j.toNat) ρ else .bad
 |_=>.bad
noncomputable def dD(mc:aa->OT)(mb:aa->OS):Nat->aa->OS
 |0,_=>.bad
 |n+1,ρ=>(mc ρ).aP ρ fun b=>if b=true then(mb ρ).turn (dD mc mb n)else .nx ρ
noncomputable def dW:PV->Option Int
 |.int i=>some i
 |_=>none
noncomputable def jk(m:aa->OE):aa->OE:=fun ρ=>(m ρ).bind fun r=>match r.pv with
 |.int i=>.ok (.sh (.int i))
 |_=>.bad
noncomputable def j6(xs:List PV)(lo hi:Option Int):List PV:=(xs.drop (oe xs.length 0 lo)).take (oe xs.length xs.length hi - oe xs.length 0 lo)
noncomputable def bU(ι:List Nat)(ρ:aa):aa:=ι.map fun i=>(ρ[i]?).join
noncomputable def bA(me:aa->OE)(ρ:aa):List PV->OA
 |[]=>.ok []
 | x ::xs=>(me (ρ++[some (.sh x)])).bP fun r=>match fh r with
   |some y=>(bA me ρ xs).bP fun ys=>.ok (y ::ys)
   |none=>.bad
noncomputable def noX:OA->OE
 |.ok xs=>if xs.length<=lim then .ok (.fr xs)else .bad
 |_=>.bad
noncomputable def kU(ml:aa->OE)(ι:List Nat)(me:aa->OE):aa->OE:=fun ρ=>(ml ρ).bind fun r=>match r.pv with
 |.lst xs=>noX (bA me (bU ι ρ) xs)
 |_=>.bad
noncomputable def iD(mn:aa->OE)(ι:List Nat)(me:aa->OE):aa->OE:=fun ρ=>(mn ρ).bind fun r=>match r.pv with
 |.int j=>if -(2 ^ 62)<=j /\ j<2 ^ 62 then noX (bA me (bU ι ρ) (bR j.toNat))else .bad
 |_=>.bad
noncomputable def nz:OS->OS
 |.exc _ _ _=>.bad
 |o=>o
noncomputable def uJ(mb:aa->OS)(takes:String->Option Bool)(ms:aa->OS):aa->OS:=fun ρ=>match mb ρ with
 | .exc ρ' c fs=>(match takes c with
   |some true=>nz (ms ρ')
   |some false=>.exc ρ' c fs
   |none=>.bad)
 |o=>o
noncomputable def Bg(i:Nat):OS->OS
 |.nx ρ=>.nx (ρ.set i none)
 |.bk ρ=>.bk (ρ.set i none)
 |.ct ρ=>.ct (ρ.set i none)
 |o=>o
noncomputable def jT(i:Nat)(mb:aa->OS)(takes:String->Option Bool)(ms:aa->OS):aa->OS:=fun ρ=>match mb ρ with
 | .exc ρ' c fs=>(match takes c with
   |some true=>Bg i (nz (ms (ρ'.set i (some (.ex c fs)))))
   |some false=>.exc ρ' c fs
   |none=>.bad)
 |o=>o
noncomputable def vH(i:Nat)(under:String->Bool):aa->OE:=fun ρ=>match ρ[i]? with
 |some (some (.ex c _))=>if under c=true then .ok (.sh (.bl true))else .bad
 |_=>.bad
noncomputable def fin:OS->OE
 |.nx _=>.ok (.sh .non)
 |.rt _ (.al _)=>.bad
 |.rt _ r=>.ok r
 |.exc _ c fs=>.exc c fs
 |_=>.bad
noncomputable def eg(n:Nat)(xs:List PV):aa:=xs.map (fun x=>some (.sh x))++List.replicate (n - xs.length) none
noncomputable def fnP(np n:Nat)(m:aa->OS):List PV->OE:=fun xs=>if xs.length=np then fin (m (eg n xs))else .bad
noncomputable def fuel:Nat:=100000
noncomputable def jm(i:Nat)(m:aa->OS):aa->OS:=fun ρ=>m (kF i ρ)
noncomputable def vX(i:Nat)(g:PV->PV->Option RV)(me:aa->OE):aa->OS:=fun ρ=>match ρ[i]? with
 | some (some (.sh x))=>(me ρ).aP ρ fun r=>match g x r.pv with
   |some (.sh z)=>.nx (ρ.set i (some (.sh z)))
   |_=>.bad
 |_=>.bad
noncomputable def dI:PV->Bool
 |.non=>true
 |_=>false
noncomputable def xn:PV->PV->Option RV
 |x,.non=>some (.sh (.bl (dI x)))
 |_,_=>none
noncomputable def pO:PV->PV->Option RV
 |x,.non=>some (.sh (.bl (!dI x)))
 |_,_=>none
noncomputable def Dr(xs:List PV)(i:Int)(y:PV):List PV:=xs.take (if i<0 then(i+(xs.length:Int)).toNat else min i.toNat xs.length)++y ::xs.drop (if i<0 then(i+(xs.length:Int)).toNat else min i.toNat xs.length)
noncomputable def CU(i:Nat)(mk me:aa->OE):aa->OS:=fun ρ=>match ρ[i]? with
 | some (some (.ow xs))=>(ah mk (ah me aC) ρ).aP ρ fun ys=>match ys with
   |[.int k,y]=>if(-(2 ^ 63)<=k /\ k<2 ^ 63) /\ xs.length<lim then .nx (ρ.set i (some (.ow (Dr xs k y))))else .bad
   |_=>.bad
 |_=>.bad
@[simp] theorem Ds(i:Nat)(ρ:aa):ao i ρ=(match ρ[i]? with
  |some (some (.sh x))=>.ok (.sh x)
  |some (some (.ow xs))=>.ok (.al xs)
  |_=>.bad):=rfl
@[simp] theorem EC(g:PV->PV->Option RV)(ma mb:aa->OE)(ρ:aa):mOp g ma mb ρ=((ma ρ).bind fun a=>(mb ρ).bind fun b=>oE (g a.pv b.pv)):=rfl
@[simp] theorem Dh(me:aa->OE)(mr:aa->OA)(ρ:aa):ah me mr ρ=((me ρ).bP fun r=>match fh r with
  |some x=>(mr ρ).bP fun xs=>.ok (x ::xs)
  |none=>.bad):=rfl
@[simp] theorem Dz(ma:aa->OA)(ρ:aa):oM ma ρ=((ma ρ).bind fun xs=>if xs.length<=lim then .ok (.fr xs)else .bad):=rfl
@[simp] theorem Dq(ma:aa->OA)(ρ:aa):bO ma ρ=((ma ρ).bind fun xs=>if xs.length<=lim then .ok (.sh (.tup xs))else .bad):=rfl
@[simp] theorem CM(f:List PV->OE)(ma:aa->OA)(ρ:aa):aI f ma ρ=((ma ρ).bind f):=rfl
@[simp] theorem EE(g:PV->Option RV)(ma:aa->OE)(ρ:aa):mUn g ma ρ=((ma ρ).bind fun a=>oE (g a.pv)):=rfl
@[simp] theorem Cv(ma:aa->OE)(ρ:aa):cV ma ρ=((ma ρ).cf fun r=>oT (lb r.pv)):=rfl
@[simp] theorem CP(ma:aa->OE)(ρ:aa):aQ ma ρ=((ma ρ).cf fun r=>match r.pv with
  |.bl b=>.ok b
  |_=>.bad):=rfl
@[simp] theorem CS(m:aa->OT)(ρ:aa):fw m ρ=((m ρ).cf fun b=>.ok (!b)):=rfl
@[simp] theorem De(m n:aa->OT)(ρ:aa):jq m n ρ=((m ρ).cf fun b=>if b=true then n ρ else .ok false):=rfl
@[simp] theorem D5(m n:aa->OT)(ρ:aa):m7 m n ρ=((m ρ).cf fun b=>if b=true then .ok true else n ρ):=rfl
@[simp] theorem CT(m n:aa->OE)(ρ:aa):kl m n ρ=((m ρ).bind fun r=>match r.pv with
  |.bl b=>if b=true then n ρ else .ok (.sh (.bl false))
  |_=>.bad):=rfl
@[simp] theorem DD(m n:aa->OE)(ρ:aa):Au m n ρ=((m ρ).bind fun r=>match r.pv with
  |.bl b=>if b=true then .ok (.sh (.bl true))else n ρ
  |_=>.bad):=rfl
@[simp] theorem CV(m:aa->OE)(ρ:aa):sC m ρ=((m ρ).bind fun r=>match r.pv with
  |.bl b=>.ok (.sh (.bl (!b)))
  |_=>.bad):=rfl
@[simp] theorem Dm(c:aa->OT)(m n:aa->OE)(ρ:aa):oP c m n ρ=((c ρ).bind fun b=>if b=true then m ρ else n ρ):=rfl
@[simp] theorem B2(g g':PV->PV->Option RV)(ma mb mc:aa->OE)(ρ:aa):lV g g' ma mb mc ρ=((ma ρ).bind fun a=>(mb ρ).bind fun b=>(oE (g a.pv b.pv)).bind fun r=>match r.pv with
  |.bl k=>if k=true then(mc ρ).bind fun c=>oE (g' b.pv c.pv)else .ok (.sh (.bl false))
  |_=>.bad):=rfl
@[simp] theorem nW(a b:aa->OS)(ρ:aa):aM a b ρ=((a ρ).andThen b):=rfl
@[simp] theorem Df(ρ:aa):bg  ρ=(.nx ρ):=rfl
@[simp] theorem Ag(i:Nat)(me:aa->OE)(ρ:aa):b3 i me ρ=((me ρ).aP ρ fun r=>match vd r with
  |some s=>.nx (ρ.set i (some s))
  |none=>.bad):=rfl
@[simp] theorem Dt(c:aa->OT)(m n:aa->OS)(ρ:aa):bL c m n ρ=((c ρ).aP ρ fun b=>if b=true then m ρ else n ρ):=rfl
@[simp] theorem Ec(me:aa->OE)(ρ:aa):b2 me ρ=((me ρ).aP ρ fun r=>match r with
  |.al _=>.bad
  |r=>.rt ρ r):=rfl
@[simp] theorem BK(i:Nat)(ρ:aa):dw i ρ=(match ρ[i]? with
  |some (some (.sh x))=>.rt ρ (.sh x)
  |some (some (.ow xs))=>.rt (ρ.set i none) (.fr xs)
  |_=>.bad):=rfl
@[simp] theorem CF(me:aa->OE)(ρ:aa):vj me ρ=((me ρ).aP ρ fun _=>.nx ρ):=rfl
@[simp] theorem BH(i:Nat)(me:aa->OE)(ρ:aa):kN i me ρ=(match ρ[i]? with
  | some (some (.ow xs))=>(me ρ).aP ρ fun r=>match fh r with
    |some y=>if xs.length<lim then .nx (ρ.set i (some (.ow (xs++[y]))))else .bad
    |none=>.bad
  |_=>.bad):=rfl
@[simp] theorem BL(i:Nat)(me:aa->OE)(ρ:aa):hV i me ρ=(match ρ[i]? with
  | some (some (.ow xs))=>(me ρ).aP ρ fun r=>match r with
    |.fr ys=>if xs.length+ys.length<=lim then .nx (ρ.set i (some (.ow (xs++ys))))else .bad
    |_=>.bad
  |_=>.bad):=rfl
@[simp] theorem CI(i:Nat)(me:aa->OE)(mb:aa->OS)(ρ:aa):iw i me mb ρ=((me ρ).aP ρ fun r=>match r.pv with
  |.int j=>if -(2 ^ 62)<=j /\ j<2 ^ 62 then cJ i mb (bR j.toNat) ρ else .bad
  |_=>.bad):=rfl
@[simp] theorem CK(m:aa->OE)(ρ:aa):jk m ρ=((m ρ).bind fun r=>match r.pv with
  |.int i=>.ok (.sh (.int i))
  |_=>.bad):=rfl
@[simp] theorem Cy(ml:aa->OE)(ι:List Nat)(me:aa->OE)(ρ:aa):kU ml ι me ρ=((ml ρ).bind fun r=>match r.pv with
  |.lst xs=>noX (bA me (bU ι ρ) xs)
  |_=>.bad):=rfl
@[simp] theorem Cc(mn:aa->OE)(ι:List Nat)(me:aa->OE)(ρ:aa):iD mn ι me ρ=((mn ρ).bind fun r=>match r.pv with
  |.int j=>if -(2 ^ 62)<=j /\ j<2 ^ 62 then noX (bA me (bU ι ρ) (bR j.toNat))else .bad
  |_=>.bad):=rfl
@[simp] theorem DC(mb:aa->OS)(takes:String->Option Bool)(ms:aa->OS)(ρ:aa):uJ mb takes ms ρ=(match mb ρ with
  | .exc ρ' c fs=>(match takes c with
    |some true=>nz (ms ρ')
    |some false=>.exc ρ' c fs
    |none=>.bad)
  |o=>o):=rfl
@[simp] theorem BY(i:Nat)(mb:aa->OS)(takes:String->Option Bool)(ms:aa->OS)(ρ:aa):jT i mb takes ms ρ=(match mb ρ with
  | .exc ρ' c fs=>(match takes c with
    |some true=>Bg i (nz (ms (ρ'.set i (some (.ex c fs)))))
    |some false=>.exc ρ' c fs
    |none=>.bad)
  |o=>o):=rfl
@[simp] theorem DI(i:Nat)(under:String->Bool)(ρ:aa):vH i under ρ=(match ρ[i]? with
  |some (some (.ex c _))=>if under c=true then .ok (.sh (.bl true))else .bad
  |_=>.bad):=rfl
@[simp] theorem BA(i:Nat)(m:aa->OS)(ρ:aa):jm i m ρ=(m (kF i ρ)):=rfl
@[simp] theorem DZ(i:Nat)(g:PV->PV->Option RV)(me:aa->OE)(ρ:aa):vX i g me ρ=(match ρ[i]? with
  | some (some (.sh x))=>(me ρ).aP ρ fun r=>match g x r.pv with
    |some (.sh z)=>.nx (ρ.set i (some (.sh z)))
    |_=>.bad
  |_=>.bad):=rfl
@[simp] theorem ET(x:PV)(ρ:aa):mC x ρ=.ok (.sh x):=rfl
@[simp] theorem Dp(ρ:aa):aC ρ=.ok []:=rfl
@[simp] theorem BI(r:RV)(f:RV->OE):OE.bind (.ok r) f=f r:=rfl
@[simp] theorem AU(c:String)(fs:XF)(f:RV->OE):OE.bind (.exc c fs) f=.exc c fs:=rfl
@[simp] theorem Bc{p:Prop}[Decidable p](x y:OE)(f:RV->OE):OE.bind (if p then x else y) f=if p then OE.bind x f else OE.bind y f:=by split<;>rfl
@[simp] theorem Aj(r:RV)(f:RV->OT):OE.cf (.ok r) f=f r:=rfl
@[simp] theorem zH(c:String)(fs:XF)(f:RV->OT):OE.cf (.exc c fs) f=.exc c fs:=rfl
@[simp] theorem zm{p:Prop}[Decidable p](x y:OE)(f:RV->OT):OE.cf (if p then x else y) f=if p then OE.cf x f else OE.cf y f:=by split<;>rfl
@[simp] theorem Bd(r:RV)(f:RV->OA):OE.bP (.ok r) f=f r:=rfl
@[simp] theorem zx(c:String)(fs:XF)(f:RV->OA):OE.bP (.exc c fs) f=.exc c fs:=rfl
@[simp] theorem yX{p:Prop}[Decidable p](x y:OE)(f:RV->OA):OE.bP (if p then x else y) f=if p then OE.bP x f else OE.bP y f:=by split<;>rfl
@[simp] theorem BF(r:Bool)(f:Bool->OE):OT.bind (.ok r) f=f r:=rfl
@[simp] theorem Bo(c:String)(fs:XF)(f:Bool->OE):OT.bind (.exc c fs) f=.exc c fs:=rfl
@[simp] theorem AN{p:Prop}[Decidable p](x y:OT)(f:Bool->OE):OT.bind (if p then x else y) f=if p then OT.bind x f else OT.bind y f:=by split<;>rfl
@[simp] theorem AO(r:Bool)(f:Bool->OT):OT.cf (.ok r) f=f r:=rfl
@[simp] theorem zo(c:String)(fs:XF)(f:Bool->OT):OT.cf (.exc c fs) f=.exc c fs:=rfl
@[simp] theorem zi{p:Prop}[Decidable p](x y:OT)(f:Bool->OT):OT.cf (if p then x else y) f=if p then OT.cf x f else OT.cf y f:=by split<;>rfl
@[simp] theorem BC(r:List PV)(f:List PV->OE):OA.bind (.ok r) f=f r:=rfl
@[simp] theorem AH(c:String)(fs:XF)(f:List PV->OE):OA.bind (.exc c fs) f=.exc c fs:=rfl
@[simp] theorem Bj{p:Prop}[Decidable p](x y:OA)(f:List PV->OE):OA.bind (if p then x else y) f=if p then OA.bind x f else OA.bind y f:=by split<;>rfl
@[simp] theorem Bf(r:List PV)(f:List PV->OA):OA.bP (.ok r) f=f r:=rfl
@[simp] theorem zC(c:String)(fs:XF)(f:List PV->OA):OA.bP (.exc c fs) f=.exc c fs:=rfl
@[simp] theorem zB{p:Prop}[Decidable p](x y:OA)(f:List PV->OA):OA.bP (if p then x else y) f=if p then OA.bP x f else OA.bP y f:=by split<;>rfl
@[simp] theorem rV(ρ:aa)(r:RV)(f:RV->OS):OE.aP ρ (.ok r) f=f r:=rfl
@[simp] theorem zE(ρ:aa)(c:String)(fs:XF)(f:RV->OS):OE.aP ρ (.exc c fs) f=.exc ρ c fs:=rfl
@[simp] theorem y4{p:Prop}[Decidable p](ρ:aa)(x y:OE)(f:RV->OS):OE.aP ρ (if p then x else y) f=if p then OE.aP ρ x f else OE.aP ρ y f:=by split<;>rfl
@[simp] theorem qT(ρ:aa)(r:Bool)(f:Bool->OS):OT.aP ρ (.ok r) f=f r:=rfl
@[simp] theorem y2(ρ:aa)(c:String)(fs:XF)(f:Bool->OS):OT.aP ρ (.exc c fs) f=.exc ρ c fs:=rfl
@[simp] theorem y0{p:Prop}[Decidable p](ρ:aa)(x y:OT)(f:Bool->OS):OT.aP ρ (if p then x else y) f=if p then OT.aP ρ x f else OT.aP ρ y f:=by split<;>rfl
@[simp] theorem AV(ρ:aa)(r:List PV)(f:List PV->OS):OA.aP ρ (.ok r) f=f r:=rfl
@[simp] theorem zq(ρ:aa)(c:String)(fs:XF)(f:List PV->OS):OA.aP ρ (.exc c fs) f=.exc ρ c fs:=rfl
@[simp] theorem zF{p:Prop}[Decidable p](ρ:aa)(x y:OA)(f:List PV->OS):OA.aP ρ (if p then x else y) f=if p then OA.aP ρ x f else OA.aP ρ y f:=by split<;>rfl
@[simp] theorem gm(ρ:aa)(k:aa->OS):(OS.nx ρ).andThen k=k ρ:=rfl
@[simp] theorem sV(ρ:aa)(k:aa->OS):(OS.nx ρ).turn k=k ρ:=rfl
@[simp] theorem Aq(ρ:aa)(k:aa->OS):(OS.bk ρ).andThen k=OS.bk ρ:=rfl
@[simp] theorem CO(ρ:aa)(k:aa->OS):(OS.bk ρ).turn k=.nx ρ:=rfl
@[simp] theorem A9(ρ:aa)(k:aa->OS):(OS.ct ρ).andThen k=OS.ct ρ:=rfl
@[simp] theorem C5(ρ:aa)(k:aa->OS):(OS.ct ρ).turn k=k ρ:=rfl
@[simp] theorem Bq(ρ:aa)(r:RV)(k:aa->OS):(OS.rt ρ r).andThen k=OS.rt ρ r:=rfl
@[simp] theorem CL(ρ:aa)(r:RV)(k:aa->OS):(OS.rt ρ r).turn k=OS.rt ρ r:=rfl
@[simp] theorem zu(ρ:aa)(c:String)(fs:XF)(k:aa->OS):(OS.exc ρ c fs).andThen k=OS.exc ρ c fs:=rfl
@[simp] theorem Cb(ρ:aa)(c:String)(fs:XF)(k:aa->OS):(OS.exc ρ c fs).turn k=OS.exc ρ c fs:=rfl
@[simp] theorem zc{p:Prop}[Decidable p](x y:OS)(k:aa->OS):OS.andThen (if p then x else y) k=if p then x.andThen k else y.andThen k:=by split<;>rfl
@[simp] theorem B8{p:Prop}[Decidable p](x y:OS)(k:aa->OS):OS.turn (if p then x else y) k=if p then x.turn k else y.turn k:=by split<;>rfl
@[simp] theorem D6(ρ:aa):fin (.nx ρ)=.ok (.sh .non):=rfl
@[simp] theorem DB(ρ:aa)(x:PV):fin (.rt ρ (.sh x))=.ok (.sh x):=rfl
@[simp] theorem DL(ρ:aa)(x:List PV):fin (.rt ρ (.fr x))=.ok (.fr x):=rfl
@[simp] theorem Di(ρ:aa)(c:String)(fs:XF):fin (.exc ρ c fs)=.exc c fs:=rfl
@[simp] theorem Dj{p:Prop}[Decidable p](x y:OS):fin (if p then x else y)=if p then fin x else fin y:=by split<;>rfl
@[simp] theorem ER(x:PV):RV.pv (.sh x)=x:=rfl
@[simp] theorem EK(x:List PV):RV.pv (.fr x)=.lst x:=rfl
@[simp] theorem EB(x:List PV):RV.pv (.al x)=.lst x:=rfl
@[simp] theorem C4(r:RV):oE (some r)=.ok r:=rfl
@[simp] theorem C9(r:Bool):oT (some r)=.ok r:=rfl
@[simp] theorem BG(i:Nat)(mb:aa->OS)(ρ:aa):cJ i mb [] ρ=.nx ρ:=rfl
@[simp] theorem lZ(i:Nat)(mb:aa->OS)(x:PV)(xs:List PV)(ρ:aa):cJ i mb (x ::xs) ρ=(mb (ρ.set i (some (.sh x)))).turn (cJ i mb xs):=rfl
@[simp] theorem D8(i j:Int):dM (.int i) (.int j)=some (.sh (.int (i+j))):=rfl
@[simp] theorem DH(i j:Int):u3 (.int i) (.int j)=some (.sh (.int (i - j))):=rfl
@[simp] theorem zN(i j:Int):pk (.int i) (.int j)=if((decide (-(2 ^ 64)<i)&&decide (i<2 ^ 64))||(decide (-(2 ^ 64)<j)&&decide (j<2 ^ 64)))=true then some (.sh (.int (i*j)))else none:=rfl
@[simp] theorem Ea(i j:Int):uA (.int i) (.int j)=if(decide (0<j)&&decide (j<1073741824))=true then some (.sh (.int (i/j)))else none:=rfl
@[simp] theorem Ee(i j:Int):gE (.int i) (.int j)=if decide (0<j)=true then some (.sh (.int (i%j)))else none:=rfl
@[simp] theorem EM(i j:Int):gLt (.int i) (.int j)=some (.sh (.bl (decide (i<j)))):=rfl
@[simp] theorem EF(i j:Int):gLe (.int i) (.int j)=some (.sh (.bl (decide (i<=j)))):=rfl
@[simp] theorem EO(i j:Int):gGt (.int i) (.int j)=some (.sh (.bl (decide (j<i)))):=rfl
@[simp] theorem En(i j:Int):gEq (.int i) (.int j)=some (.sh (.bl (decide (i=j)))):=rfl
@[simp] theorem EG(i j:Int):gNe (.int i) (.int j)=some (.sh (.bl (!decide (i=j)))):=rfl
@[simp] theorem EN(i j:Bool):gEq (.bl i) (.bl j)=some (.sh (.bl (decide (i=j)))):=rfl
@[simp] theorem Ex(i j:Bool):gNe (.bl i) (.bl j)=some (.sh (.bl (!decide (i=j)))):=rfl
@[simp] theorem DE(xs:List PV):jG (.lst xs)=some (.sh (.int xs.length)):=rfl
@[simp] theorem El(xs:List PV):jG (.tup xs)=some (.sh (.int xs.length)):=rfl
@[simp] theorem Ej(xs:List PV)(i:Int):pw (.lst xs) (.int i)=(atP xs i).map .sh:=rfl
@[simp] theorem Dy(xs:List PV)(i:Int):bK (.tup xs) (.int i)=(atP xs i).map .sh:=rfl
@[simp] theorem Eb{p:Prop}[Decidable p](x y:Option RV):oE (if p then x else y)=if p then oE x else oE y:=by split<;>rfl
@[simp] theorem D2(b:Bool):lb (.bl b)=some b:=rfl
@[simp] theorem Dn(i:Int):lb (.int i)=some (i != 0):=rfl
@[simp] theorem DN(xs:List PV):lb (.lst xs)=some (!xs.isEmpty):=rfl
@[simp] theorem DM(xs:List PV):lb (.tup xs)=some (!xs.isEmpty):=rfl
@[simp] theorem D7:lb .non=some false:=rfl
@[simp] theorem Bz(i:Int):isP "int" (.int i)=some true:=rfl
@[simp] theorem Bl(i:Int):isP "bool" (.int i)=some false:=rfl
@[simp] theorem Bw(i:Bool):isP "bool" (.bl i)=some true:=rfl
@[simp] theorem Ar(xs:List PV):isP "list" (.lst xs)=some true:=rfl
@[simp] theorem BJ(xs:List PV):kO (.lst xs)=some (.fr xs):=rfl
@[simp] theorem BE(xs:List PV):kO (.tup xs)=some (.fr xs):=rfl
@[simp] theorem CY:dW .non=none:=rfl
@[simp] theorem CH(i:Int):dW (.int i)=some i:=rfl
@[simp] theorem Eh(i:Int):oK (.int i)=some (.sh (.int (-i))):=rfl
@[simp] theorem CB(x:PV):fh (.sh x)=some x:=rfl
@[simp] theorem Dd(x:List PV):fh (.fr x)=some (.lst x):=rfl
@[simp] theorem CD(x:PV):vd (.sh x)=some (.sh x):=rfl
@[simp] theorem CJ(x:List PV):vd (.fr x)=some (.ow x):=rfl
@[simp] theorem EJ(np n:Nat)(m:aa->OS)(xs:List PV):fnP np n m xs=if xs.length=np then fin (m (eg n xs))else .bad:=rfl
@[simp] theorem BW(n:Nat)(xs:List PV):eg n xs=xs.map (fun x=>some (.sh x))++List.replicate (n - xs.length) none:=rfl
@[simp] theorem Ei(xs:List PV):qF (.sh (.lst xs))=some xs:=rfl
@[simp] theorem Dc(xs:List PV):qF (.fr xs)=some xs:=rfl
@[simp] theorem DP(x:PV):xn x .non=some (.sh (.bl (dI x))):=rfl
@[simp] theorem C6(x:PV):pO x .non=some (.sh (.bl (!dI x))):=rfl
@[simp] theorem DQ(xs:List PV):noX (.ok xs)=if xs.length<=lim then .ok (.fr xs)else .bad:=rfl
@[simp] theorem Bp(me:aa->OE)(ρ:aa):bA me ρ []=.ok []:=rfl
@[simp] theorem zR(f:RV->OE):OE.bind .bad f=.bad:=rfl
@[simp] theorem zt(f:RV->OT):OE.cf .bad f=.bad:=rfl
@[simp] theorem zg(f:RV->OA):OE.bP .bad f=.bad:=rfl
@[simp] theorem Af(f:Bool->OE):OT.bind .bad f=.bad:=rfl
@[simp] theorem zf(f:Bool->OT):OT.cf .bad f=.bad:=rfl
@[simp] theorem A2(f:List PV->OE):OA.bind .bad f=.bad:=rfl
@[simp] theorem zI(f:List PV->OA):OA.bP .bad f=.bad:=rfl
@[simp] theorem zk(ρ:aa)(f:RV->OS):OE.aP ρ .bad f=.bad:=rfl
@[simp] theorem y9(ρ:aa)(f:Bool->OS):OT.aP ρ .bad f=.bad:=rfl
@[simp] theorem y8(ρ:aa)(f:List PV->OS):OA.aP ρ .bad f=.bad:=rfl
@[simp] theorem zd(k:aa->OS):OS.bad.andThen k=.bad:=rfl
@[simp] theorem pE(k:aa->OS):OS.bad.turn k=.bad:=rfl
@[simp] theorem C3:fin .bad=.bad:=rfl
@[simp] theorem CQ:oE none=.bad:=rfl
@[simp] theorem CZ:oT none=.bad:=rfl
@[simp] theorem Dg(x:List PV):fh (.al x)=none:=rfl
@[simp] theorem CN(x:List PV):vd (.al x)=none:=rfl
@[simp] theorem Er:(0<=lim)=True:=by simp[lim]
@[simp] theorem EH:(1<=lim)=True:=by simp[lim]
@[simp] theorem Eu:(2<=lim)=True:=by simp[lim]
@[simp] theorem Ey:(3<=lim)=True:=by simp[lim]
@[simp] theorem Ez:(4<=lim)=True:=by simp[lim]
@[simp] theorem ED:(5<=lim)=True:=by simp[lim]
@[simp] theorem Ep:(6<=lim)=True:=by simp[lim]
@[simp] theorem EA:(7<=lim)=True:=by simp[lim]
@[simp] theorem Et:(8<=lim)=True:=by simp[lim]
@[simp] theorem Eo:(9<=lim)=True:=by simp[lim]
@[simp] theorem Dl:(10<=lim)=True:=by simp[lim]
@[simp] theorem DR:(11<=lim)=True:=by simp[lim]
@[simp] theorem Dw:(12<=lim)=True:=by simp[lim]
@[simp] theorem Dx:(13<=lim)=True:=by simp[lim]
@[simp] theorem D3:(14<=lim)=True:=by simp[lim]
@[simp] theorem DA:(15<=lim)=True:=by simp[lim]
@[simp] theorem DY:(16<=lim)=True:=by simp[lim]
theorem bQ{n:Nat}(h:n<=1000000):n<=lim:=by unfold lim;omega
theorem Bn{n:Nat}(h:n<=1000000):n<lim:=by unfold lim;omega
theorem kK{α:Type}(xs:List α)(k:Nat):atP xs (k:Int)=xs[k]?:=by
 unfold atP ixP
 by_cases h:k<xs.length
 . simp[h]
 . simp[h]
@[simp] theorem ES{α:Type}(xs:List α):atP xs 0=xs[0]?:=kK xs 0
@[simp] theorem Es{α:Type}(xs:List α):atP xs 1=xs[1]?:=kK xs 1
@[simp] theorem CG{α:Type}(xs:List α)(n:Nat):atP xs (no_index (OfNat.ofNat n:Int))=xs[n]?:=kK xs n
theorem vN{α:Type}(xs:List α)(i:Int)(h:0<=i):atP xs i=xs[i.toNat]?:=by
 have:=kK xs i.toNat
 rwa [Int.toNat_of_nonneg h]at this
@[simp] theorem Ew(T:String)(ma:aa->OE)(ρ:aa):mIs T ma ρ=(ma ρ).bind fun a=>oE ((isP T a.pv).map fun b=>.sh (.bl b)):=rfl
@[simp] theorem rl(ns:List Int):iY (ns.map .int)=some ns:=by
  induction ns with
  |nil=>rfl
  |cons n ns ih=>show(iY (ns.map .int)).map (n ::·)=_;rw[ih];rfl
@[simp] theorem j8(ns:List Bool):eO (ns.map .bl)=some ns:=by
  induction ns with
  |nil=>rfl
  |cons n ns ih=>show(eO (ns.map .bl)).map (n ::·)=_;rw[ih];rfl
@[simp] theorem Ah(n:Nat):(bR n).length=n:=by simp[bR]
theorem jZ{me:aa->OE}{ρ:aa}{α:Type}{g:α->PV}{f:α->PV}(l:List α)(h:∀ a∈l,me (ρ++[some (.sh (g a))])=.ok (.sh (f a))):bA me ρ (l.map g)=.ok (l.map f):=by
 induction l with
 |nil=>rfl
 | cons a l ih=>
   have h1:=h a (List.mem_cons_self)
   have h2:=ih fun b hb=>h b (List.mem_cons_of_mem _ hb)
   simp[bA,h1,h2]
noncomputable def rn(b:Bool):PV->Bool
 |.bl c=>decide (c=b)
 |_=>false
noncomputable def sq:PV->PV->Option RV
 |x,.bl b=>some (.sh (.bl (rn b x)))
 |_,_=>none
@[simp] theorem DO(x:PV)(b:Bool):sq x (.bl b)=some (.sh (.bl (rn b x))):=rfl
@[simp] theorem Dv(b c:Bool):rn b (.bl c)=decide (c=b):=rfl
noncomputable def oJ(c:String)(f:Str)(ma:aa->OA):aa->OS:=fun ρ=>(ma ρ).aP ρ fun xs=>match xs with
 |[x]=>.exc ρ c [(f,x)]
 |_=>.bad
@[simp] theorem By(c:String)(f:Str)(ma:aa->OA)(ρ:aa):oJ c f ma ρ=(ma ρ).aP ρ fun xs=>match xs with
  |[x]=>.exc ρ c [(f,x)]
  |_=>.bad:=rfl
noncomputable def tQ(i:Nat)(f:Str)(under:String->Bool):aa->OE:=fun ρ=>match ρ[i]? with
 | some (some (.ex c fs))=>if under c=true then(match fs.lookup f with
   |some x=>.ok (.sh x)
   |none=>.bad)else .bad
 |_=>.bad
@[simp] theorem CW(i:Nat)(f:Str)(under:String->Bool)(ρ:aa):tQ i f under ρ=match ρ[i]? with
  | some (some (.ex c fs))=>if under c=true then(match fs.lookup f with
    |some x=>.ok (.sh x)
    |none=>.bad)else .bad
  |_=>.bad:=rfl
end L2.P
namespace L2.P
open PySem PySem.Spec PyProof.Rows L2 L2.E
mutual
noncomputable def Rep(K:PySem.W.Frag)(S:Hp):PV->V->Prop
 |.non,v=>v=.non
 |.bl b,v=>v=.bl b
 |.int i,v=>v=.int i
 |.str s,v=>v=.str s
 |.lst xs,v=>∃ p vs,v=.ref p /\ SqL K S p vs /\ aL K S xs vs
 |.tup xs,v=>∃ p vs,v=.ref p /\ SqT K S p vs /\ aL K S xs vs
noncomputable def aL(K:PySem.W.Frag)(S:Hp):List PV->List V->Prop
 |[],vs=>vs=[]
 |x ::xs,vs=>∃ v r,vs=v ::r /\ Rep K S x v /\ aL K S xs r
end
theorem _root_.L2.au.tup{K:PySem.W.Frag}(e:au H H')(h:SqT K H a xs):SqT K H' a xs:=by
 rcases h with(h|⟨o,h⟩)|h
 . exact .inl (.inl (e _ _ h))
 . exact .inl (.inr ⟨o,e _ _ h⟩)
 . exact .inr h
section
variable{K:PySem.W.Frag}{S S':Hp}
mutual
theorem Rep.mono(s:au S S'):∀{x:PV} {v:V},Rep K S x v->Rep K S' x v
 |.non,_,h=>by unfold Rep at h ⊢;exact h
 |.bl _,_,h=>by unfold Rep at h ⊢;exact h
 |.int _,_,h=>by unfold Rep at h ⊢;exact h
 |.str _,_,h=>by unfold Rep at h ⊢;exact h
 | .lst _,_,h=>by
   unfold Rep at h ⊢
   obtain⟨p,vs,e,q,r⟩:=h
   exact⟨p,vs,e,au.seq s q,aL.mono s r⟩
 | .tup _,_,h=>by
   unfold Rep at h ⊢
   obtain⟨p,vs,e,q,r⟩:=h
   exact⟨p,vs,e,au.tup s q,aL.mono s r⟩
theorem aL.mono(s:au S S'):∀{xs:List PV} {vs:List V},aL K S xs vs->aL K S' xs vs
 |[],_,h=>by unfold aL at h ⊢;exact h
 | _ ::_,_,h=>by
   unfold aL at h ⊢
   obtain⟨v,r,e,q,t⟩:=h
   exact⟨v,r,e,Rep.mono s q,aL.mono s t⟩
end
theorem aL.nil:aL K S [] []:=by unfold aL;rfl
theorem aL.cons(h:Rep K S x v)(t:aL K S xs vs):aL K S (x ::xs) (v ::vs):=by unfold aL;exact⟨v,vs,rfl,h,t⟩
theorem aL.nil_inv(h:aL K S [] vs):vs=[]:=by unfold aL at h;exact h
theorem aL.cons_inv(h:aL K S (x ::xs) vs):∃ v r,vs=v ::r /\ Rep K S x v /\ aL K S xs r:=by unfold aL at h;exact h
theorem aL.append(h:aL K S xs vs)(t:aL K S ys us):aL K S (xs++ys) (vs++us):=by
 induction xs generalizing vs with
 |nil=>rw[h.nil_inv];exact t
 | cons x xs ih=>
   obtain⟨v,r,rfl,q,h'⟩:=h.cons_inv;exact .cons q (ih h')
theorem aL.length{xs:List PV}{vs:List V}(h:aL K S xs vs):vs.length=xs.length:=by
 induction xs generalizing vs with
 |nil=>rw[h.nil_inv];rfl
 | cons x xs ih=>
   obtain⟨v,r,rfl,q,h'⟩:=h.cons_inv;simp[ih h']
theorem aL.get(h:aL K S xs vs):∀{i:Nat} {x:PV},xs[i]?=some x->∃ v,vs[i]?=some v /\ Rep K S x v:=by
 induction xs generalizing vs with
 |nil=>intro i x e;simp at e
 | cons y xs ih=>
   obtain⟨v,r,rfl,q,h'⟩:=h.cons_inv;intro i x e
   cases i with
   |zero=>simp at e;subst e;exact⟨v,rfl,q⟩
   |succ i=>simp at e;obtain⟨u,e1,e2⟩:=ih h' e;exact⟨u,by simpa using e1,e2⟩
theorem aL.zU{xs:List PV}{vs:List V}(h:aL K S xs vs){i:Nat}{v:V}(e:vs[i]?=some v):∃ x,xs[i]?=some x /\ Rep K S x v:=by
 have hi:i<xs.length:=by rw[<- h.length];exact(List.getElem?_eq_some_iff.mp e).1
 obtain⟨u,e1,e2⟩:=h.get (i:=i) (x:=xs[i]) (by simp[hi]);rw[e]at e1;cases e1
 exact⟨_,by simp[hi],e2⟩
theorem aL.take{xs:List PV}{vs:List V}(h:aL K S xs vs):∀ n,aL K S (xs.take n) (vs.take n):=by
 induction xs generalizing vs with
 |nil=>intro n;rw[h.nil_inv];simpa using aL.nil
 | cons y xs ih=>
   obtain⟨v,r,rfl,q,h'⟩:=h.cons_inv;intro n
   cases n with
   |zero=>exact .nil
   |succ n=>exact .cons q (ih h' n)
theorem aL.drop{xs:List PV}{vs:List V}(h:aL K S xs vs):∀ n,aL K S (xs.drop n) (vs.drop n):=by
 induction xs generalizing vs with
 |nil=>intro n;rw[h.nil_inv];simpa using aL.nil
 | cons y xs ih=>
   obtain⟨v,r,rfl,q,h'⟩:=h.cons_inv;intro n
   cases n with
   |zero=>exact .cons q h'
   |succ n=>exact ih h' n
theorem aL.ints{ns:List Int}:aL K S (ns.map .int) (ns.map V.int):=by
 induction ns with
 |nil=>exact .nil
 |cons n ns ih=>exact .cons (by unfold Rep;rfl) ih
end
noncomputable def ip(K:PySem.W.Frag)(cls:String->Option Addr)(S H:Hp)(c:String)(fs:XF)(a C:Addr):Prop:=
 cls c=some C /\ ∃ dx,H a=some (jb a C dx) /\ (fs=[] \/ ∃ d us,dx=some d /\ H d=some (.xd us) /\ fs.map (·.1)=us.map (·.1) /\ aL K S (fs.map (·.2)) (us.map (·.2)))
noncomputable def isX:HO->Bool
 |.ext _=>true
 |.xd _=>true
 |_=>false
noncomputable def vV(K:PySem.W.Frag)(S:Hp)(kvs:List (Int×PV))(us:List (Key×V)):Prop:=Paired (fun (p:Int×PV) (q:Key×V)=>q.1=Sum.inl p.1 /\ Rep K S p.2 q.2) kvs us
noncomputable def cg(K:PySem.W.Frag)(S:Hp)(kvs:List (List Int×PV))(us:List (List Key×Addr×V)):Prop:=Paired (fun (p:List Int×PV) (q:List Key×Addr×V)=>q.1=p.1.map Sum.inl /\ Rep K S (.tup (p.1.map .int)) (.ref q.2.1) /\ Rep K S p.2 q.2.2) kvs us
theorem vV.mono{K:PySem.W.Frag}(s:au S S'):∀{kvs:List (Int×PV)} {us:List (Key×V)},vV K S kvs us->vV K S' kvs us
 |_,_,.nil=>.nil
 |_,_,.cons h t=>.cons ⟨h.1,Rep.mono s h.2⟩ (vV.mono s t)
theorem cg.mono{K:PySem.W.Frag}(s:au S S'):∀{kvs:List (List Int×PV)} {us:List (List Key×Addr×V)},cg K S kvs us->cg K S' kvs us
 |_,_,.nil=>.nil
 |_,_,.cons h t=>.cons ⟨h.1,Rep.mono s h.2.1,Rep.mono s h.2.2⟩ (cg.mono s t)
mutual
noncomputable def bb(K:PySem.W.Frag)(cls:String->Option Addr)(S H:Hp):OV->V->List Addr->Prop
 |.sh x,v,fp=>fp=[] /\ Rep K S x v
 |.ol ts,v,fp=>∃ p vs f,v=.ref p /\ H p=some (.lst vs) /\ fp=p ::f /\ aO K cls S H ts vs f
 |.ob c ks ts,v,fp=>∃ p C dx us f,v=.ref p /\ cls c=some C /\ H p=some (.ins C dx us) /\ H dx=some (.own p) /\ us.map (·.1)=ks /\ fp=p ::dx ::f /\ aO K cls S H ts (us.map (·.2)) f
 |.di kvs,v,fp=>∃ p us,v=.ref p /\ H p=some (.dK us) /\ fp=[p] /\ vV K S kvs us
 |.dt kvs,v,fp=>∃ p us,v=.ref p /\ H p=some (.dT us) /\ fp=[p] /\ cg K S kvs us
noncomputable def aO(K:PySem.W.Frag)(cls:String->Option Addr)(S H:Hp):List OV->List V->List Addr->Prop
 |[],vs,fp=>vs=[] /\ fp=[]
 |t ::ts,vs,fp=>∃ v r f1 f2,vs=v ::r /\ fp=f1++f2 /\ bb K cls S H t v f1 /\ aO K cls S H ts r f2
end
noncomputable def kC(K:PySem.W.Frag)(cls:String->Option Addr)(Av G S H:Hp)(i:Nat):Sl->V->List Addr->Prop
 |.sh x,v,fp=>fp=[] /\ Rep K S x v
 |.ow xs,v,fp=>∃ p vs,v=.ref p /\ fp=[p] /\ G p=none /\ S p=none /\ H p=some (.lst vs) /\ aL K S xs vs
 |.ex c fs,v,fp=>fp=[] /\ ∃ a C,v=.ref a /\ ip K cls S H c fs a C
 |.tr io t,v,fp=>bb K cls S H t v fp /\ fp.Nodup /\ (∀ a∈fp,G a=none /\ S a=none) /\ (io=true->Av i=some (.lst [v]))
 |.bo t,v,fp=>fp=[] /\ ∃ f,bb K cls S G t v f
noncomputable def zG(K:PySem.W.Frag)(cls:String->Option Addr)(G S H:Hp):Sl->V->Prop
 |.sh x,v=>Rep K S x v
 |.ow xs,v=>∃ p vs,v=.ref p /\ G p=none /\ S p=none /\ H p=some (.lst vs) /\ aL K S xs vs
 |.ex c fs,v=>∃ a C,v=.ref a /\ ip K cls S H c fs a C
 |_,_=>True
noncomputable def eZ(K:PySem.W.Frag)(B S H:Hp):RV->V->Prop
 |.sh x,v=>Rep K S x v
 |.fr xs,v=>∃ p vs,v=.ref p /\ B p=none /\ S p=none /\ H p=some (.lst vs) /\ aL K S xs vs
 |.al xs,v=>∃ p vs,v=.ref p /\ SqL K H p vs /\ aL K S xs vs
noncomputable def RdV(K:PySem.W.Frag)(S H:Hp):PV->V->Prop
 |.lst xs,v=>∃ p vs,v=.ref p /\ SqL K H p vs /\ aL K S xs vs
 |x,v=>Rep K S x v
structure SRF(K:PySem.W.Frag)(cls:String->Option Addr)(Av G S₀:Hp)(ρ:aa)(σ:St)(S H:Hp)(F:Nat->List Addr):Prop where
 gh:au G H
 s0:au S₀ S
 sh:au S H
 new:∀ b,S b≠none->S₀ b≠none \/ G b=none
 own:∀(i:Nat) (s:Sl),ρ[i]?=some (some s)->∃ v,σ[i]?=some (some v) /\ kC K cls Av G S H i s v (F i)
 apart:∀ i j a,a∈F i->a∈F j->i=j
 live:∀ i a,a∈F i->(∃ o,H a=some o /\ isX o=false) /\ G a=none /\ S a=none
 len:ρ.length=σ.length
noncomputable def SR(K:PySem.W.Frag)(cls:String->Option Addr)(Av G S₀:Hp)(ρ:aa)(σ:St)(S H:Hp):Prop:=∃ F,SRF K cls Av G S₀ ρ σ S H F
section
variable{K:PySem.W.Frag}{cls:String->Option Addr}{Av G S₀ S S' H H' B:Hp}{ρ:aa}{σ:St}{F:Nat->List Addr}
theorem SR.gh(I:SR K cls Av G S₀ ρ σ S H):au G H:=let ⟨_,J⟩:=I;J.gh
theorem SR.s0(I:SR K cls Av G S₀ ρ σ S H):au S₀ S:=let ⟨_,J⟩:=I;J.s0
theorem SR.sh(I:SR K cls Av G S₀ ρ σ S H):au S H:=let ⟨_,J⟩:=I;J.sh
theorem SR.new(I:SR K cls Av G S₀ ρ σ S H):∀ b,S b≠none->S₀ b≠none \/ G b=none:=let ⟨_,J⟩:=I;J.new
theorem SR.len(I:SR K cls Av G S₀ ρ σ S H):ρ.length=σ.length:=let ⟨_,J⟩:=I;J.len
theorem kC.one(h:kC K cls Av G S H i s v fp):zG K cls G S H s v:=by
 cases s with
 |sh x=>exact h.2
 |ow xs=>obtain⟨p,vs,e,_,r⟩:=h;exact⟨p,vs,e,r⟩
 |ex c fs=>exact h.2
 |tr io t=>trivial
 |bo t=>trivial
theorem SR.good(I:SR K cls Av G S₀ ρ σ S H)(i:Nat)(s:Sl)(e:ρ[i]?=some (some s)):∃ v,σ[i]?=some (some v) /\ zG K cls G S H s v:=by
 obtain⟨F,J⟩:=I;obtain⟨v,e1,r⟩:=J.own i s e
 exact⟨v,e1,r.one⟩
theorem ip.mono(h:ip K cls S H c fs a C)(s:au S S')(g:au H H'):ip K cls S' H' c fs a C:=by
 obtain⟨h1,dx,h2,h3⟩:=h
 refine⟨h1,dx,g _ _ h2,?_⟩
 rcases h3 with h3|⟨d,us,e1,e2,e3,e4⟩
 . exact .inl h3
 . exact .inr ⟨d,us,e1,g _ _ e2,e3,e4.mono s⟩
theorem ip.B6(h:ip K cls S H c fs a C)(s:au S S')(g:∀ b o,isX o=true->H b=some o->H' b=some o):ip K cls S' H' c fs a C:=by
 obtain⟨h1,dx,h2,h3⟩:=h
 refine⟨h1,dx,g _ _ rfl h2,?_⟩
 rcases h3 with h3|⟨d,us,e1,e2,e3,e4⟩
 . exact .inl h3
 . exact .inr ⟨d,us,e1,g _ _ rfl e2,e3,e4.mono s⟩
mutual
theorem bb.mono(s:au S S'):∀{t:OV} {v:V} {fp:List Addr},bb K cls S H t v fp->(∀ a∈fp,∀ o,H a=some o->H' a=some o)->bb K cls S' H' t v fp
 |.sh _,_,_,h,_=>by unfold bb at h ⊢;exact⟨h.1,Rep.mono s h.2⟩
 | .ol _,_,_,h,g=>by
   unfold bb at h ⊢
   obtain⟨p,vs,f,e,q,e2,r⟩:=h;subst e2
   exact⟨p,vs,f,e,g p (by simp) _ q,rfl,aO.mono s r fun a ha=>g a (by simp[ha])⟩
 | .ob _ _ _,_,_,h,g=>by
   unfold bb at h ⊢
   obtain⟨p,C,dx,us,f,e,c,q,q2,k,e2,r⟩:=h;subst e2
   exact⟨p,C,dx,us,f,e,c,g p (by simp) _ q,g dx (by simp) _ q2,k,rfl,aO.mono s r fun a ha=>g a (by simp[ha])⟩
 | .di _,_,_,h,g=>by
   unfold bb at h ⊢
   obtain⟨p,us,e,q,e2,r⟩:=h;subst e2
   exact⟨p,us,e,g p (by simp) _ q,rfl,r.mono s⟩
 | .dt _,_,_,h,g=>by
   unfold bb at h ⊢
   obtain⟨p,us,e,q,e2,r⟩:=h;subst e2
   exact⟨p,us,e,g p (by simp) _ q,rfl,r.mono s⟩
theorem aO.mono(s:au S S'):∀{ts:List OV} {vs:List V} {fp:List Addr},aO K cls S H ts vs fp->(∀ a∈fp,∀ o,H a=some o->H' a=some o)->aO K cls S' H' ts vs fp
 |[],_,_,h,_=>by unfold aO at h ⊢;exact h
 | _ ::_,_,_,h,g=>by
   unfold aO at h ⊢
   obtain⟨v,r,f1,f2,e,e2,q,t⟩:=h;subst e2
   exact⟨v,r,f1,f2,e,rfl,bb.mono s q fun a ha=>g a (List.mem_append_left _ ha),aO.mono s t fun a ha=>g a (List.mem_append_right _ ha)⟩
end
mutual
theorem bb.live:∀{t:OV} {v:V} {fp:List Addr},bb K cls S H t v fp->∀ a∈fp,∃ o,H a=some o /\ isX o=false
 |.sh _,_,_,h,a,ha=>by unfold bb at h;rw[h.1]at ha;cases ha
 | .ol _,_,_,h,a,ha=>by
   unfold bb at h;obtain⟨p,vs,f,e,q,e2,r⟩:=h;subst e2
   rcases List.mem_cons.mp ha with z|z
   . subst z;exact⟨_,q,rfl⟩
   . exact aO.live r a z
 | .ob _ _ _,_,_,h,a,ha=>by
   unfold bb at h;obtain⟨p,C,dx,us,f,e,c,q,q2,k,e2,r⟩:=h;subst e2
   rcases List.mem_cons.mp ha with z|z
   . subst z;exact⟨_,q,rfl⟩
   . rcases List.mem_cons.mp z with z|z
     . subst z;exact⟨_,q2,rfl⟩
     . exact aO.live r a z
 | .di _,_,_,h,a,ha=>by
   unfold bb at h;obtain⟨p,us,e,q,e2,r⟩:=h;subst e2
   have z:a=p:=by simpa using ha
   subst z
   exact⟨_,q,rfl⟩
 | .dt _,_,_,h,a,ha=>by
   unfold bb at h;obtain⟨p,us,e,q,e2,r⟩:=h;subst e2
   have z:a=p:=by simpa using ha
   subst z
   exact⟨_,q,rfl⟩
theorem aO.live:∀{ts:List OV} {vs:List V} {fp:List Addr},aO K cls S H ts vs fp->∀ a∈fp,∃ o,H a=some o /\ isX o=false
 |[],_,_,h,a,ha=>by unfold aO at h;rw[h.2]at ha;cases ha
 | _ ::_,_,_,h,a,ha=>by
   unfold aO at h;obtain⟨v,r,f1,f2,e,e2,q,t⟩:=h;subst e2
   rcases List.mem_append.mp ha with z|z
   . exact bb.live q a z
   . exact aO.live t a z
end
theorem kC.mono(h:kC K cls Av G S H i sl v fp)(s:au S S')(g:∀ a∈fp,∀ o,H a=some o->H' a=some o)(x:∀ b o,isX o=true->H b=some o->H' b=some o)(n:∀ a∈fp,S' a=none):kC K cls Av G S' H' i sl v fp:=by
 cases sl with
 |sh y=>exact⟨h.1,Rep.mono s h.2⟩
 | ow xs=>
   obtain⟨p,vs,e,e2,h1,h2,h3,h4⟩:=h;subst e2
   exact⟨p,vs,e,rfl,h1,n p (by simp),g p (by simp) _ h3,h4.mono s⟩
 |ex c fs=>obtain⟨e,a,C,e2,q⟩:=h;exact⟨e,a,C,e2,q.B6 s x⟩
 |tr io t=>exact⟨h.1.mono s g,h.2.1,fun a ha=>⟨(h.2.2.1 a ha).1,n a ha⟩,h.2.2.2⟩
 |bo t=>obtain⟨e,f,r⟩:=h;exact⟨e,f,r.mono s fun _ _ _ z=>z⟩
theorem RdV.mono(h:RdV K S H x v)(s:au S S')(g:au H H'):RdV K S' H' x v:=by
 cases x with
 |lst xs=>obtain⟨p,vs,e,q,r⟩:=h;exact⟨p,vs,e,au.seq g q,r.mono s⟩
 |non=>exact Rep.mono s h
 |bl b=>exact Rep.mono s h
 |int i=>exact Rep.mono s h
 |str x=>exact Rep.mono s h
 |tup xs=>exact Rep.mono s h
theorem Rep.rd(h:Rep K S x v)(g:au S H):RdV K S H x v:=by
 cases x with
 |lst xs=>unfold Rep at h;obtain⟨p,vs,e,q,r⟩:=h;exact⟨p,vs,e,au.seq g q,r⟩
 |non=>exact h
 |bl b=>exact h
 |int i=>exact h
 |str x=>exact h
 |tup xs=>exact h
theorem eZ.rd{r:RV}(h:eZ K B S H r v)(g:au S H):RdV K S H r.pv v:=by
 cases r with
 |sh x=>exact Rep.rd h g
 |fr xs=>obtain⟨p,vs,e,_,_,q,r⟩:=h;exact⟨p,vs,e,SqL.new q,r⟩
 |al xs=>exact h
theorem SRF.change(I:SRF K cls Av G S₀ ρ σ S H F)(gh:au G H')(s:au S S')(sh:au S' H')(new:∀ b,S' b≠none->S₀ b≠none \/ G b=none)
  (g:∀ i a,a∈F i->∀ o,H a=some o->H' a=some o) (x:∀ b o,isX o=true->H b=some o->H' b=some o) (n:∀ i a,a∈F i->S' a=none):SRF K cls Av G S₀ ρ σ S' H' F where
 gh:=gh
 s0:=I.s0.trans s
 sh:=sh
 new:=new
 own:=fun i t e=>by
  obtain⟨v,e1,r⟩:=I.own i t e
  exact⟨v,e1,r.mono s (fun a ha=>g i a ha) x fun a ha=>n i a ha⟩
 apart:=I.apart
 live:=fun i a ha=>by
  obtain⟨⟨o,h1,h2⟩,h3,_⟩:=I.live i a ha
  exact⟨⟨o,g i a ha o h1,h2⟩,h3,n i a ha⟩
 len:=I.len
theorem SRF.same(I:SRF K cls Av G S₀ ρ σ S H F)(g:au H H'):SRF K cls Av G S₀ ρ σ S H' F:=
 I.change (I.gh.trans g) (au.refl _) (I.sh.trans g) I.new (fun _ _ _ o e=>g _ _ e) (fun _ _ _ e=>g _ _ e) fun i a ha=>(I.live i a ha).2.2
theorem SR.same(I:SR K cls Av G S₀ ρ σ S H)(g:au H H'):SR K cls Av G S₀ ρ σ S H':=let ⟨F,J⟩:=I;⟨F,J.same g⟩
theorem set_inv{α:Type}{l:List (Option α)}{x:Option α}{s:α}(h:(l.set i x)[j]?=some (some s)):(j=i /\ x=some s /\ i<l.length) \/ (j≠i /\ l[j]?=some (some s)):=by
 by_cases e:j=i
 . subst e;rw[List.getElem?_set]at h;simp only[if_true]at h;split at h
   . rename_i hl;exact .inl ⟨rfl,Option.some.inj h,hl⟩
   . cases h
 . rw[List.getElem?_set_ne (Ne.symm e)]at h;exact .inr ⟨e,h⟩
theorem zY{α:Type}{l:List (Option α)}{x:Option α}(h:i<l.length):(l.set i x)[i]?=some x:=by
 rw[List.getElem?_set];simp[h]
noncomputable def iq(F:Nat->List Addr)(i:Nat)(fp:List Addr):Nat->List Addr:=fun j=>if j=i then fp else F j
theorem dE:iq F i fp i=fp:=by unfold iq;rw[if_pos rfl]
theorem cc(h:j≠i):iq F i fp j=F j:=by unfold iq;rw[if_neg h]
theorem SRF.put(I:SRF K cls Av G S₀ ρ σ S H F)(h:∀ t,s=some t->∃ v,u=some v /\ kC K cls Av G S H i t v fp)
  (hl:∀ a∈fp,(∃ o,H a=some o /\ isX o=false) /\ G a=none /\ S a=none) (ap:∀ j a,j≠i->a∈fp->a∉F j):SRF K cls Av G S₀ (ρ.set i s) (σ.set i u) S H (iq F i fp) where
 gh:=I.gh
 s0:=I.s0
 sh:=I.sh
 new:=I.new
 own:=fun j t e=>by
  rcases set_inv e with⟨rfl,e1,hl⟩|⟨ne,e1⟩
  . obtain⟨v,e2,r⟩:=h t e1
    exact⟨v,by rw[zY (by rw[<- I.len];exact hl),e2],by rw[dE];exact r⟩
  . rw[List.getElem?_set_ne (Ne.symm ne),cc ne];exact I.own j t e1
 apart:=fun j k a h1 h2=>by
  by_cases ej:j=i
  . by_cases ek:k=i
    . rw[ej,ek]
    . subst ej;rw[dE]at h1;rw[cc ek]at h2;exact absurd h2 (ap k a ek h1)
  . by_cases ek:k=i
    . subst ek;rw[dE]at h2;rw[cc ej]at h1;exact absurd h1 (ap j a ej h2)
    . rw[cc ej]at h1;rw[cc ek]at h2;exact I.apart j k a h1 h2
 live:=fun j a ha=>by
  by_cases ej:j=i
  . subst ej;rw[dE]at ha;exact hl a ha
  . rw[cc ej]at ha;exact I.live j a ha
 len:=by simp[I.len]
theorem SR.qK(I:SR K cls Av G S₀ ρ σ S H)(h:Rep K S x v):SR K cls Av G S₀ (ρ.set i (some (.sh x))) (σ.set i (some v)) S H:=by
 obtain⟨F,J⟩:=I
 exact⟨_,J.put (fp:=[]) (fun t e=>by cases e;exact⟨v,rfl,rfl,h⟩) (fun a ha=>nomatch ha) fun j a _ ha=>nomatch ha⟩
theorem SR.nU(I:SR K cls Av G S₀ ρ σ S H):SR K cls Av G S₀ (ρ.set i none) (σ.set i v) S H:=by
 obtain⟨F,J⟩:=I
 exact⟨_,J.put (fp:=[]) (fun t e=>nomatch e) (fun a ha=>nomatch ha) fun j a _ ha=>nomatch ha⟩
theorem fA{α:Type}{l:List α}{x:α}(h:l[i]?=some x):l.set i x=l:=by
 apply List.ext_getElem?;intro j
 by_cases e:i=j
 . subst e;rw[List.getElem?_set,if_pos rfl,if_pos (List.getElem?_eq_some_iff.mp h).1,h]
 . rw[List.getElem?_set_ne e]
theorem SR.drop(I:SR K cls Av G S₀ ρ σ S H):SR K cls Av G S₀ (ρ.set i none) σ S H:=by
 cases e:σ[i]? with
 |some v=>have:=I.nU (i:=i) (v:=v);rwa [fA e]at this
 | none=>
   have h1:σ.length<=i:=List.getElem?_eq_none_iff.mp e
   rw[List.set_eq_of_length_le (by rw[I.len];exact h1)];exact I
theorem SR.BO(I:SR K cls Av G S₀ ρ σ S H)(h:ip K cls S H c fs a C):SR K cls Av G S₀ (ρ.set i (some (.ex c fs))) (σ.set i (some (.ref a))) S H:=by
 obtain⟨F,J⟩:=I
 exact⟨_,J.put (fp:=[]) (fun t e=>by cases e;exact⟨.ref a,rfl,rfl,a,C,rfl,h⟩) (fun a ha=>nomatch ha) fun j a _ ha=>nomatch ha⟩
theorem SR.mut(I:SR K cls Av G S₀ ρ σ S H)(hi:ρ[i]?=some (some (.ow xs)))(hv:σ[i]?=some (some (.ref p)))(hr:aL K S ys us):SR K cls Av G S₀ (ρ.set i (some (.ow ys))) σ S (upd H p (.lst us)):=by
 obtain⟨F,J⟩:=I;obtain⟨v,e1,q,vs,e2,e3,hG,hS,hH,_⟩:=J.own i _ hi;rw[hv]at e1;cases e1;cases e2
 have J1:SRF K cls Av G S₀ (ρ.set i none) (σ.set i none) S H (iq F i []):=J.put (fun t e=>nomatch e) (fun a ha=>nomatch ha) fun j a _ ha=>nomatch ha
 have off:∀ j a,a∈iq F i [] j->a≠p:=fun j a ha z=>by
  by_cases ej:j=i
  . subst ej;rw[dE]at ha;cases ha
  . rw[cc ej]at ha;exact ej (J.apart j i a ha (by rw[e3,z];simp))
 have J2:=J1.change (H':=upd H p (.lst us)) (J.gh.upd hG) (au.refl _) (J.sh.upd hS) J.new (fun j a ha o h=>by rw[aA (off j a ha)];exact h)
  (fun b o hx h=>by
    rw[aA]
    . exact h
    . intro z;rw[z,hH]at h;cases h;cases hx)
  fun j a ha=>(J1.live j a ha).2.2
 have J3:=J2.put (i:=i) (s:=some (.ow ys)) (u:=some (.ref p)) (fp:=[p]) (fun t e=>by cases e;exact⟨_,rfl,p,us,rfl,rfl,hG,hS,az,hr⟩) (fun a ha=>by
  have z:a=p:=by simpa using ha
  subst z
  exact⟨⟨_,az,rfl⟩,hG,hS⟩) fun j a hj ha hz=>by
   have z:a=p:=by simpa using ha
   exact off j a hz z
 rw[List.set_set,List.set_set,fA hv]at J3
 exact⟨_,J3⟩
theorem SR.Cu(I:SR K cls Av G S₀ ρ σ S H)(hi:ρ[i]?=some (some (.ow xs))):∃ S',au S S' /\ SR K cls Av G S₀ (ρ.set i (some (.sh (.lst xs)))) σ S' H:=by
 obtain⟨F,J⟩:=I;obtain⟨v,hv,p,vs,e2,e3,hG,hS,hH,hr⟩:=J.own i _ hi;subst e2
 have J1:SRF K cls Av G S₀ (ρ.set i none) (σ.set i none) S H (iq F i []):=J.put (fun t e=>nomatch e) (fun a ha=>nomatch ha) fun j a _ ha=>nomatch ha
 have off:∀ j a,a∈iq F i [] j->a≠p:=fun j a ha z=>by
  by_cases ej:j=i
  . subst ej;rw[dE]at ha;cases ha
  . rw[cc ej]at ha;exact ej (J.apart j i a ha (by rw[e3,z];simp))
 have J2:=J1.change (S':=upd S p (.lst vs)) (H':=H) J.gh (au.new hS) (fun b u h=>by
   by_cases e:b=p
   . subst e;rw[az]at h;cases h;exact hH
   . rw[aA e]at h;exact J.sh b u h) (fun b h=>by
   by_cases e:b=p
   . subst e;exact .inr hG
   . rw[aA e]at h;exact J.new b h) (fun _ _ _ _ h=>h) (fun _ _ _ h=>h) fun j a ha=>by
     rw[aA (off j a ha)];exact(J1.live j a ha).2.2
 have J3:=J2.put (i:=i) (s:=some (.sh (.lst xs))) (u:=some (.ref p)) (fp:=[]) (fun t e=>by
  cases e
  refine⟨_,rfl,rfl,?_⟩
  unfold Rep
  exact⟨p,vs,rfl,SqL.new az,hr.mono (au.new hS)⟩) (fun a ha=>nomatch ha) fun j a _ ha=>nomatch ha
 rw[List.set_set,List.set_set,fA hv]at J3
 exact⟨_,au.new hS,_,J3⟩
end
structure aE(S H S' H':Hp):Prop where
 s:au S S'
 g:au H H'
 sh:au S' H'
 new:∀ b,S' b≠none->S b≠none \/ H b=none
theorem aE.refl(h:au S H):aE S H S H:=⟨au.refl _,au.refl _,h,fun _ z=>.inl z⟩
theorem aE.trans(a:aE S H S1 H1)(b:aE S1 H1 S2 H2):aE S H S2 H2:=
 ⟨a.s.trans b.s,a.g.trans b.g,b.sh,fun x h=>by
   rcases b.new x h with z|z
   . exact a.new x z
   . exact .inr (a.g.free z)⟩
theorem SRF.grow{K:PySem.W.Frag}{cls:String->Option Addr}{F:Nat->List Addr}(I:SRF K cls Av G S₀ ρ σ S H F)(w:aE S H S' H'):SRF K cls Av G S₀ ρ σ S' H' F:=
 I.change (I.gh.trans w.g) w.s w.sh (fun b h=>by
  rcases w.new b h with z|z
  . exact I.new b z
  . exact .inr (I.gh.free z)) (fun i a _ o h=>w.g _ _ h) (fun b o _ h=>w.g _ _ h) fun i a ha=>by
    obtain⟨⟨o,h1,_⟩,_,h3⟩:=I.live i a ha
    cases q:S' a with
    |none=>rfl
    | some o=>
      rcases w.new a (by rw[q];simp)with z|z
      . exact absurd h3 z
      . rw[h1]at z;cases z
theorem SR.grow{K:PySem.W.Frag}{cls:String->Option Addr}(I:SR K cls Av G S₀ ρ σ S H)(w:aE S H S' H'):SR K cls Av G S₀ ρ σ S' H':=let ⟨F,J⟩:=I;⟨F,J.grow w⟩
theorem SR.B5{K:PySem.W.Frag}{cls:String->Option Addr}{ρ:aa}{σ:St}(I:SR K cls Av G S₀ ρ σ S H)(w:aE S H S' H')(h:eZ K H S' H' (.fr xs) v):SR K cls Av G S₀ (ρ.set i (some (.ow xs))) (σ.set i (some v)) S' H':=by
 obtain⟨F,J⟩:=I;obtain⟨p,vs,rfl,hB,hS,hH,hr⟩:=h;have hG:=J.gh.free hB
 refine⟨_,(J.grow w).put (fp:=[p]) (fun t e=>by cases e;exact⟨_,rfl,p,vs,rfl,rfl,hG,hS,hH,hr⟩) (fun a ha=>?_) fun j a _ ha hz=>?_⟩
 . have z:a=p:=by simpa using ha
   subst z
   exact⟨⟨_,hH,rfl⟩,hG,hS⟩
 . have z:a=p:=by simpa using ha
   subst z;obtain⟨⟨o,h1,_⟩,_⟩:=J.live j a hz;rw[hB]at h1;cases h1
theorem aE.heap(h:au S H)(hp:H p=none):aE S H S (upd H p o):=⟨au.refl _,au.new hp,h.trans (au.new hp),fun _ z=>.inl z⟩
theorem aE.both(h:au S H)(hp:H p=none):aE S H (upd S p o) (upd H p o):=by
 have hS:=h.free hp
 refine⟨au.new hS,au.new hp,fun b u z=>?_,fun b z=>?_⟩
 . by_cases e:b=p
   . subst e;rw[az]at z ⊢;exact z
   . rw[aA e]at z ⊢;exact h b u z
 . by_cases e:b=p
   . subst e;exact .inr hp
   . rw[aA e]at z;exact .inl z
section
variable(K:PySem.W.Frag)(cls:String->Option Addr)(W:XW)
noncomputable def fq(σ:St)(S H:Hp)(Q:VK):OE->Prop
 |.ok r=>∀ v S' H',aE S H S' H'->eZ K H S' H' r v->Q v H'
 |.exc c fs=>∀ a C S' H',aE S H S' H'->ip K cls S' H' c fs a C->W (.ref C) (some a) σ H'
 |.bad=>False
noncomputable def kn(σ:St)(S H:Hp)(Q:Bool->Hp->Prop):OT->Prop
 |.ok b=>∀ S' H',aE S H S' H'->Q b H'
 |.exc c fs=>∀ a C S' H',aE S H S' H'->ip K cls S' H' c fs a C->W (.ref C) (some a) σ H'
 |.bad=>False
noncomputable def nj(σ:St)(S H:Hp)(Q:List V->Hp->Prop):OA->Prop
 |.ok xs=>∀ vs S' H',aE S H S' H'->aL K S' xs vs->Q vs H'
 |.exc c fs=>∀ a C S' H',aE S H S' H'->ip K cls S' H' c fs a C->W (.ref C) (some a) σ H'
 |.bad=>False
noncomputable def b5(Av G S₀:Hp)(S:Hp)(D:Ends):OS->Prop
 |.nx ρ=>∀ σ' S' H',SR K cls Av G S₀ ρ σ' S' H'->au S S'->D.nx σ' H'
 |.bk ρ=>∀ σ' S' H',SR K cls Av G S₀ ρ σ' S' H'->au S S'->D.bk σ' H'
 |.ct ρ=>∀ σ' S' H',SR K cls Av G S₀ ρ σ' S' H'->au S S'->D.ct σ' H'
 |.rt ρ r=>∀ v σ' S' H',SR K cls Av G S₀ ρ σ' S' H'->au S S'->eZ K G S' H' r v->D.rt v H'
 |.exc ρ c fs=>∀ a C σ' S' H',SR K cls Av G S₀ ρ σ' S' H'->au S S'->ip K cls S' H' c fs a C->W (.ref C) (some a) σ' H'
 |.bad=>False
noncomputable def JE(te:TE)(m:aa->OE):Prop:=∀ Av G S₀ ρ σ S H Q,SR K cls Av G S₀ ρ σ S H->fq K cls W σ S H Q (m ρ)->te σ H Q
noncomputable def JT(te:TT)(m:aa->OT):Prop:=∀ Av G S₀ ρ σ S H Q,SR K cls Av G S₀ ρ σ S H->kn K cls W σ S H Q (m ρ)->te σ H Q
noncomputable def JA(te:TA)(m:aa->OA):Prop:=∀ Av G S₀ ρ σ S H Q,SR K cls Av G S₀ ρ σ S H->nj K cls W σ S H Q (m ρ)->te σ H Q
noncomputable def JS(ts:TS)(m:aa->OS):Prop:=∀ Av G S₀ ρ σ S H D,SR K cls Av G S₀ ρ σ S H->b5 K cls W Av G S₀ S D (m ρ)->ts D σ H
end
section
variable{K:PySem.W.Frag}{cls:String->Option Addr}{W:XW}{Av G S₀ S S' H H' B B':Hp}{ρ:aa}{σ:St}{Q:VK}
theorem eZ.back(h:eZ K B' S H r v)(g:au B B'):eZ K B S H r v:=by
 cases r with
 |sh x=>exact h
 |fr xs=>obtain⟨p,vs,e,h1,h2⟩:=h;exact⟨p,vs,e,g.free h1,h2⟩
 |al xs=>exact h
theorem fq.back(w:aE S H S1 H1)(h:fq K cls W σ S H Q o):fq K cls W σ S1 H1 Q o:=by
 cases o with
 |ok r=>exact fun v S' H' w' r=>h v S' H' (w.trans w') (r.back w.g)
 |exc c fs=>exact fun a C S' H' w' r=>h a C S' H' (w.trans w') r
 |bad=>exact h
theorem kn.back{Q:Bool->Hp->Prop}(w:aE S H S1 H1)(h:kn K cls W σ S H Q o):kn K cls W σ S1 H1 Q o:=by
 cases o with
 |ok r=>exact fun S' H' w'=>h S' H' (w.trans w')
 |exc c fs=>exact fun a C S' H' w' r=>h a C S' H' (w.trans w') r
 |bad=>exact h
theorem nj.back{Q:List V->Hp->Prop}(w:aE S H S1 H1)(h:nj K cls W σ S H Q o):nj K cls W σ S1 H1 Q o:=by
 cases o with
 |ok r=>exact fun v S' H' w' r=>h v S' H' (w.trans w') r
 |exc c fs=>exact fun a C S' H' w' r=>h a C S' H' (w.trans w') r
 |bad=>exact h
theorem b5.back(s:au S S1)(h:b5 K cls W Av G S₀ S D o):b5 K cls W Av G S₀ S1 D o:=by
 cases o with
 |nx ρ=>exact fun σ' S' H' I s'=>h σ' S' H' I (s.trans s')
 |bk ρ=>exact fun σ' S' H' I s'=>h σ' S' H' I (s.trans s')
 |ct ρ=>exact fun σ' S' H' I s'=>h σ' S' H' I (s.trans s')
 |rt ρ r=>exact fun v σ' S' H' I s'=>h v σ' S' H' I (s.trans s')
 |exc ρ c fs=>exact fun a C σ' S' H' I s'=>h a C σ' S' H' I (s.trans s')
 |bad=>exact h
theorem JE.go{m:aa->OE}{f:RV->OE}(h:JE K cls W te m)(I:SR K cls Av G S₀ ρ σ S H)(p:fq K cls W σ S H Q ((m ρ).bind f))
  (k:∀ r v S1 H1,SR K cls Av G S₀ ρ σ S1 H1->aE S H S1 H1->eZ K H S1 H1 r v->fq K cls W σ S1 H1 Q (f r)->Q' v H1):te σ H Q':=by
 refine h Av G S₀ ρ σ S H Q' I ?_
 cases e:m ρ with
 |ok r=>rw[e]at p;exact fun v S1 H1 w r1=>k r v S1 H1 (I.grow w) w r1 (p.back w)
 |exc c fs=>rw[e]at p;exact p
 |bad=>rw[e]at p;exact p
theorem JE.goT{m:aa->OE}{f:RV->OT}{Q:Bool->Hp->Prop}(h:JE K cls W te m)(I:SR K cls Av G S₀ ρ σ S H)(p:kn K cls W σ S H Q ((m ρ).cf f))
  (k:∀ r v S1 H1,SR K cls Av G S₀ ρ σ S1 H1->aE S H S1 H1->eZ K H S1 H1 r v->kn K cls W σ S1 H1 Q (f r)->Q' v H1):te σ H Q':=by
 refine h Av G S₀ ρ σ S H Q' I ?_
 cases e:m ρ with
 |ok r=>rw[e]at p;exact fun v S1 H1 w r1=>k r v S1 H1 (I.grow w) w r1 (p.back w)
 |exc c fs=>rw[e]at p;exact p
 |bad=>rw[e]at p;exact p
theorem JE.goS{m:aa->OE}{f:RV->OS}(h:JE K cls W te m)(I:SR K cls Av G S₀ ρ σ S H)(p:b5 K cls W Av G S₀ S D ((m ρ).aP ρ f))
  (k:∀ r v S1 H1,SR K cls Av G S₀ ρ σ S1 H1->aE S H S1 H1->eZ K H S1 H1 r v->b5 K cls W Av G S₀ S1 D (f r)->Q' v H1):te σ H Q':=by
 refine h Av G S₀ ρ σ S H Q' I ?_
 cases e:m ρ with
 |ok r=>rw[e]at p;exact fun v S1 H1 w r1=>k r v S1 H1 (I.grow w) w r1 (p.back w.s)
 |exc c fs=>rw[e]at p;exact fun a C S' H' w x=>p a C σ S' H' (I.grow w) w.s x
 |bad=>rw[e]at p;exact p
theorem JT.go{m:aa->OT}{f:Bool->OE}{Q':Bool->Hp->Prop}(h:JT K cls W te m)(I:SR K cls Av G S₀ ρ σ S H)(p:fq K cls W σ S H Q ((m ρ).bind f))
  (k:∀ b S1 H1,SR K cls Av G S₀ ρ σ S1 H1->aE S H S1 H1->fq K cls W σ S1 H1 Q (f b)->Q' b H1):te σ H Q':=by
 refine h Av G S₀ ρ σ S H Q' I ?_
 cases e:m ρ with
 |ok r=>rw[e]at p;exact fun S1 H1 w=>k r S1 H1 (I.grow w) w (p.back w)
 |exc c fs=>rw[e]at p;exact p
 |bad=>rw[e]at p;exact p
theorem JT.goT{m:aa->OT}{f:Bool->OT}{Q Q':Bool->Hp->Prop}(h:JT K cls W te m)(I:SR K cls Av G S₀ ρ σ S H)(p:kn K cls W σ S H Q ((m ρ).cf f))
  (k:∀ b S1 H1,SR K cls Av G S₀ ρ σ S1 H1->aE S H S1 H1->kn K cls W σ S1 H1 Q (f b)->Q' b H1):te σ H Q':=by
 refine h Av G S₀ ρ σ S H Q' I ?_
 cases e:m ρ with
 |ok r=>rw[e]at p;exact fun S1 H1 w=>k r S1 H1 (I.grow w) w (p.back w)
 |exc c fs=>rw[e]at p;exact p
 |bad=>rw[e]at p;exact p
theorem JT.goS{m:aa->OT}{f:Bool->OS}{Q':Bool->Hp->Prop}(h:JT K cls W te m)(I:SR K cls Av G S₀ ρ σ S H)(p:b5 K cls W Av G S₀ S D ((m ρ).aP ρ f))
  (k:∀ b S1 H1,SR K cls Av G S₀ ρ σ S1 H1->aE S H S1 H1->b5 K cls W Av G S₀ S1 D (f b)->Q' b H1):te σ H Q':=by
 refine h Av G S₀ ρ σ S H Q' I ?_
 cases e:m ρ with
 |ok r=>rw[e]at p;exact fun S1 H1 w=>k r S1 H1 (I.grow w) w (p.back w.s)
 |exc c fs=>rw[e]at p;exact fun a C S' H' w x=>p a C σ S' H' (I.grow w) w.s x
 |bad=>rw[e]at p;exact p
theorem JA.go{m:aa->OA}{f:List PV->OE}{Q':List V->Hp->Prop}(h:JA K cls W te m)(I:SR K cls Av G S₀ ρ σ S H)(p:fq K cls W σ S H Q ((m ρ).bind f))
  (k:∀ xs vs S1 H1,SR K cls Av G S₀ ρ σ S1 H1->aE S H S1 H1->aL K S1 xs vs->fq K cls W σ S1 H1 Q (f xs)->Q' vs H1):te σ H Q':=by
 refine h Av G S₀ ρ σ S H Q' I ?_
 cases e:m ρ with
 |ok r=>rw[e]at p;exact fun v S1 H1 w r1=>k r v S1 H1 (I.grow w) w r1 (p.back w)
 |exc c fs=>rw[e]at p;exact p
 |bad=>rw[e]at p;exact p
theorem JA.goA{m:aa->OA}{f:List PV->OA}{Q Q':List V->Hp->Prop}(h:JA K cls W te m)(I:SR K cls Av G S₀ ρ σ S H)(p:nj K cls W σ S H Q ((m ρ).bP f))
  (k:∀ xs vs S1 H1,SR K cls Av G S₀ ρ σ S1 H1->aE S H S1 H1->aL K S1 xs vs->nj K cls W σ S1 H1 Q (f xs)->Q' vs H1):te σ H Q':=by
 refine h Av G S₀ ρ σ S H Q' I ?_
 cases e:m ρ with
 |ok r=>rw[e]at p;exact fun v S1 H1 w r1=>k r v S1 H1 (I.grow w) w r1 (p.back w)
 |exc c fs=>rw[e]at p;exact p
 |bad=>rw[e]at p;exact p
theorem JA.goS{m:aa->OA}{f:List PV->OS}{Q':List V->Hp->Prop}(h:JA K cls W te m)(I:SR K cls Av G S₀ ρ σ S H)(p:b5 K cls W Av G S₀ S D ((m ρ).aP ρ f))
  (k:∀ xs vs S1 H1,SR K cls Av G S₀ ρ σ S1 H1->aE S H S1 H1->aL K S1 xs vs->b5 K cls W Av G S₀ S1 D (f xs)->Q' vs H1):te σ H Q':=by
 refine h Av G S₀ ρ σ S H Q' I ?_
 cases e:m ρ with
 |ok r=>rw[e]at p;exact fun v S1 H1 w r1=>k r v S1 H1 (I.grow w) w r1 (p.back w.s)
 |exc c fs=>rw[e]at p;exact fun a C S' H' w x=>p a C σ S' H' (I.grow w) w.s x
 |bad=>rw[e]at p;exact p
theorem af:JE K cls W (jw i) (ao i):=by
 intro Av G S₀ ρ σ S H Q I p;unfold ao at p;split at p
 . rename_i x e;obtain⟨v,e1,r⟩:=I.good i _ e
   exact⟨v,e1,p v S H (aE.refl I.sh) r⟩
 . rename_i xs e;obtain⟨v,e1,a,vs,e2,_,_,h3,h4⟩:=I.good i _ e
   exact⟨v,e1,p v S H (aE.refl I.sh) ⟨a,vs,e2,SqL.new h3,h4⟩⟩
 . exact p.elim
theorem xN(h:∀ S,Rep K S x v):JE K cls W (tC v) (mC x):=fun Av G S₀ ρ σ S H Q I p=>p v S H (aE.refl I.sh) (h S)
theorem aj:JE K cls W (tC (.int n)) (mC (.int n)):=xN fun _=>by unfold Rep;rfl
theorem fj:JE K cls W (tC (.bl n)) (mC (.bl n)):=xN fun _=>by unfold Rep;rfl
theorem fU:JE K cls W (tC .non) (mC .non):=xN fun _=>by unfold Rep;rfl
theorem br:JE K cls W (tC (.str n)) (mC (.str n)):=xN fun _=>by unfold Rep;rfl
noncomputable def JR(K:PySem.W.Frag)(r:R2)(g:PV->PV->Option RV):Prop:=∀ S H x y v u rr Q,au S H->RdV K S H x v->RdV K S H y u->g x y=some rr ->
 (∀ z S' H',aE S H S' H'->eZ K H S' H' rr z->Q z H')->r v u H Q
theorem ar{g:PV->PV->Option RV}{ma mb:aa->OE}(hr:JR K r g)(ha:JE K cls W ta ma)(hb:JE K cls W tb mb):JE K cls W (tOp r ta tb) (mOp g ma mb):=by
 intro Av G S₀ ρ σ S H Q I p
 refine ha.go I p fun a v S1 H1 I1 w1 r1 p1=>hb.go I1 p1 fun b u S2 H2 I2 w2 r2 p2=>?_
 cases e:g a.pv b.pv with
 |none=>rw[e]at p2;exact p2.elim
 | some rr=>
   rw[e]at p2;exact hr S2 H2 a.pv b.pv v u rr Q I2.sh ((r1.rd I1.sh).mono w2.s w2.g) (r2.rd I2.sh) e p2
theorem bN(h:RdV K S H (.int i) v):v=.int i:=by unfold RdV Rep at h;exact h
theorem fC(h:RdV K S H (.bl i) v):v=.bl i:=by unfold RdV Rep at h;exact h
theorem dJ(h:RdV K S H (.str i) v):v=.str i:=by unfold RdV Rep at h;exact h
theorem cT(h:RdV K S H .non v):v=.non:=by unfold RdV Rep at h;exact h
theorem dR(h:RdV K S H (.lst xs) v):∃ p vs,v=.ref p /\ SqL K H p vs /\ aL K S xs vs:=h
theorem cn(h:RdV K S H (.tup xs) v):∃ p vs,v=.ref p /\ SqT K S p vs /\ aL K S xs vs:=by unfold RdV Rep at h;exact h
theorem vi{C:Int->Int->Prop}{c:Int->Int->Bool}{f:Int->Int->PV}{fv:Int->Int->V}(hc:∀ i j,c i j=true->C i j)(hf:∀ S i j,Rep K S (f i j) (fv i j)):JR K (rI C fv) (gI c f):=by
 intro S H x y v u rr Q I hx hy e k;unfold gI at e;split at e
 . rename_i i j;split at e
   . rename_i hcc;cases e
     exact⟨i,j,bN hx,bN hy,hc i j hcc,k _ S H (aE.refl I) (hf S i j)⟩
   . cases e
 . cases e
theorem lS{f:Int->Int->PV}{fv:Int->Int->V}(hf:∀ S i j,Rep K S (f i j) (fv i j)):JR K (rI0 fv) (gI (fun _ _=>true) f):=by
 intro S H x y v u rr Q I hx hy e k;unfold gI at e;split at e
 . rename_i i j;simp only[if_true]at e;cases e
   exact⟨i,j,bN hx,bN hy,k _ S H (aE.refl I) (hf S i j)⟩
 . cases e
theorem cp:JR K (rI0 fun i j=>.int (i+j)) dM:=lS fun _ _ _=>by unfold Rep;rfl
theorem v9:JR K (rI0 fun i j=>.int (i - j)) u3:=lS fun _ _ _=>by unfold Rep;rfl
theorem lY:JR K (rI vT fun i j=>.int (i*j)) pk:=vi (fun i j h=>by simpa [vT,Bool.or_eq_true,Bool.and_eq_true,decide_eq_true_eq]using h) fun _ _ _=>by unfold Rep;rfl
theorem sU:JR K (rI AM fun i j=>.int (i/j)) uA:=vi (fun i j h=>by simpa [AM,Bool.and_eq_true,decide_eq_true_eq]using h) fun _ _ _=>by unfold Rep;rfl
theorem eH:JR K (rI (fun _ j=>0<j) fun i j=>.int (i%j)) gE:=vi (fun i j h=>by simpa using h) fun _ _ _=>by unfold Rep;rfl
theorem nk:JR K (rI0 fun i j=>.bl (decide (i<j))) gLt:=lS fun _ _ _=>by unfold Rep;rfl
theorem p7:JR K (rI0 fun i j=>.bl (decide (i<=j))) gLe:=lS fun _ _ _=>by unfold Rep;rfl
theorem pH:JR K (rI0 fun i j=>.bl (decide (j<i))) gGt:=lS fun _ _ _=>by unfold Rep;rfl
theorem vZ(hx:RdV K S H x v)(hy:RdV K S H y u)(e:eqS x y=some b):AR v u=true /\ decide (v=u)=b:=by
 unfold eqS at e;split at e
 all_goals first
  |(have h1:=cT hx;subst h1;have h2:=cT hy;subst h2;cases e;exact⟨rfl,by simp⟩)
  |(have h1:=cT hx;subst h1;have h2:=bN hy;subst h2;cases e;exact⟨rfl,by simp⟩)
  |(have h1:=bN hx;subst h1;have h2:=cT hy;subst h2;cases e;exact⟨rfl,by simp⟩)
  |(have h1:=cT hx;subst h1;have h2:=fC hy;subst h2;cases e;exact⟨rfl,by simp⟩)
  |(have h1:=fC hx;subst h1;have h2:=cT hy;subst h2;cases e;exact⟨rfl,by simp⟩)
  |(have h1:=cT hx;subst h1;have h2:=dJ hy;subst h2;cases e;exact⟨rfl,by simp⟩)
  |(have h1:=dJ hx;subst h1;have h2:=cT hy;subst h2;cases e;exact⟨rfl,by simp⟩)
  |(have h1:=bN hx;subst h1;have h2:=bN hy;subst h2;cases e;exact⟨rfl,by simp⟩)
  |(have h1:=fC hx;subst h1;have h2:=fC hy;subst h2;cases e;exact⟨rfl,by simp⟩)
  |(have h1:=dJ hx;subst h1;have h2:=dJ hy;subst h2;cases e;exact⟨rfl,by simp⟩)
  |(have h1:=bN hx;subst h1;have h2:=dJ hy;subst h2;cases e;exact⟨rfl,by simp⟩)
  |(have h1:=dJ hx;subst h1;have h2:=bN hy;subst h2;cases e;exact⟨rfl,by simp⟩)
  |(have h1:=fC hx;subst h1;have h2:=dJ hy;subst h2;cases e;exact⟨rfl,by simp⟩)
  |(have h1:=dJ hx;subst h1;have h2:=fC hy;subst h2;cases e;exact⟨rfl,by simp⟩)
  |cases e
theorem ly:JR K rEq gEq:=by
 intro S H x y v u rr Q I hx hy e k;obtain⟨b,e1,e2⟩:=Option.map_eq_some_iff.mp e;obtain⟨h1,h2⟩:=vZ hx hy e1
 refine⟨h1,k _ S H (aE.refl I) ?_⟩
 subst e2;show Rep K S _ _;unfold Rep;rw[h2]
theorem sR:JR K rNe gNe:=by
 intro S H x y v u rr Q I hx hy e k;obtain⟨b,e1,e2⟩:=Option.map_eq_some_iff.mp e;obtain⟨h1,h2⟩:=vZ hx hy e1
 refine⟨h1,k _ S H (aE.refl I) ?_⟩
 subst e2;show Rep K S _ _;unfold Rep;rw[h2]
end
section
variable{K:PySem.W.Frag}{cls:String->Option Addr}{W:XW}{Av G S₀ S S' H H' B B':Hp}{ρ:aa}{σ:St}{Q:VK}
theorem eZ.share(h:eZ K H S1 H1 r v)(w:aE S H S1 H1)(e:fh r=some x):∃ S2,aE S H S2 H1 /\ au S1 S2 /\ Rep K S2 x v:=by
 cases r with
 |sh y=>cases e;exact⟨S1,w,au.refl _,h⟩
 |al xs=>cases e
 | fr xs=>
   cases e;obtain⟨p,vs,rfl,hB,hS,hH,hr⟩:=h
   refine⟨upd S1 p (.lst vs),⟨w.s.trans (au.new hS),w.g,fun b u z=>?_,fun b z=>?_⟩,au.new hS,?_⟩
   . by_cases e:b=p
     . subst e;rw[az]at z;cases z;exact hH
     . rw[aA e]at z;exact w.sh b u z
   . by_cases e:b=p
     . subst e;exact .inr hB
     . rw[aA e]at z;exact w.new b z
   . unfold Rep
     exact⟨p,vs,rfl,SqL.new az,hr.mono (au.new hS)⟩
theorem aw:JA K cls W gD aC:=fun Av G S₀ ρ σ S H Q I p=>p [] S H (aE.refl I.sh) .nil
theorem ag{me:aa->OE}{mr:aa->OA}(he:JE K cls W te me)(ht:JA K cls W t mr):JA K cls W (cK te t) (ah me mr):=by
 intro Av G S₀ ρ σ S H Q I p;refine he Av G S₀ ρ σ S H _ I ?_;unfold ah at p
 cases e:me ρ with
 |exc c fs=>rw[e]at p;exact p
 |bad=>rw[e]at p;exact p
 | ok r=>
   rw[e]at p;intro v S1 H1 w1 r1;simp only[OE.bP]at p
   cases es:fh r with
   |none=>rw[es]at p;exact p.elim
   | some x=>
     rw[es]at p;obtain⟨S2,w2,s2,rx⟩:=r1.share w1 es
     refine ht.goA (I.grow w2) (p.back w2) fun xs vs S3 H3 I3 w3 r3 p3=>?_
     exact p3 (v ::vs) S3 H3 (aE.refl I3.sh) (.cons (Rep.mono w3.s rx) r3)
theorem An:lim=sizeLine:=by decide
theorem mj{ma:aa->OA}(h:JA K cls W t ma):JE K cls W (Bb t) (oM ma):=by
 intro Av G S₀ ρ σ S H Q I p
 refine h.go I p fun xs vs S1 H1 I1 w1 r1 p1=>?_
 split at p1
 . rename_i hl
   refine⟨by rw[r1.length];exact hl,fun q hq=>p1 (.ref q) S1 _ (aE.heap I1.sh hq) ⟨q,vs,rfl,hq,I1.sh.free hq,az,r1⟩⟩
 . exact p1.elim
theorem aZ{ma:aa->OA}(h:JA K cls W t ma):JE K cls W (xR t) (bO ma):=by
 intro Av G S₀ ρ σ S H Q I p
 refine h.go I p fun xs vs S1 H1 I1 w1 r1 p1=>?_
 split at p1
 . rename_i hl
   refine⟨by rw[r1.length];exact hl,fun q hq=>p1 (.ref q) _ _ (aE.both I1.sh hq) ?_⟩
   show Rep K _ _ _;unfold Rep
   exact⟨q,vs,rfl,SqT.new az,r1.mono (aE.both (o:=.tup vs) I1.sh hq).s⟩
 . exact p1.elim
noncomputable def CA(K:PySem.W.Frag)(cls:String->Option Addr)(S H:Hp)(Q:VK)(E:XK):OE->Prop
 |.ok r=>∀ v S' H',aE S H S' H'->eZ K H S' H' r v->Q v H'
 |.exc c fs=>∀ a C S' H',aE S H S' H'->ip K cls S' H' c fs a C->E (.ref C) (some a) H'
 |.bad=>False
noncomputable def spP(K:PySem.W.Frag)(cls:String->Option Addr)(f:List PV->OE):Sp:=fun vs H Q E=>∃ S xs,au S H /\ aL K S xs vs /\ CA K cls S H Q E (f xs)
theorem aB{ma:aa->OA}{f:List PV->OE}(h:JA K cls W t ma):JE K cls W (oA (spP K cls f) [] W t) (aI f ma):=by
 intro Av G S₀ ρ σ S H Q I p
 refine h.go I p fun xs vs S1 H1 I1 w1 r1 p1=>?_
 show spP K cls f (vs++[]) H1 Q _;rw[List.append_nil]
 refine⟨S1,xs,I1.sh,r1,?_⟩
 cases e:f xs with
 |ok r=>rw[e]at p1;exact p1
 |exc c fs=>rw[e]at p1;exact p1
 |bad=>rw[e]at p1;exact p1
noncomputable def JU(K:PySem.W.Frag)(r:List V->Hp->VK->Prop)(g:PV->Option RV):Prop:=∀ S H x v rr Q,au S H->RdV K S H x v->g x=some rr ->
 (∀ z S' H',aE S H S' H'->eZ K H S' H' rr z->Q z H')->r [v] H Q
theorem cR{r:List V->Hp->VK->Prop}{g:PV->Option RV}{ma:aa->OE}(hr:JU K r g)(ha:JE K cls W ta ma):JE K cls W (tCB r (cK ta gD)) (mUn g ma):=by
 intro Av G S₀ ρ σ S H Q I p
 refine ha.go I p fun a v S1 H1 I1 w1 r1 p1=>?_
 show r [v] H1 Q
 cases e:g a.pv with
 |none=>rw[e]at p1;exact p1.elim
 |some rr=>rw[e]at p1;exact hr S1 H1 a.pv v rr Q I1.sh (r1.rd I1.sh) e p1
theorem mw{r:V->Hp->VK->Prop}{g:PV->Option RV}{ma:aa->OE}(hr:JU K (fun vs H Q=>∃ v,vs=[v] /\ r v H Q) g)(ha:JE K cls W ta ma):JE K cls W (tUn r ta) (mUn g ma):=by
 intro Av G S₀ ρ σ S H Q I p
 refine ha.go I p fun a v S1 H1 I1 w1 r1 p1=>?_
 cases e:g a.pv with
 |none=>rw[e]at p1;exact p1.elim
 | some rr=>
   rw[e]at p1;obtain⟨u,e1,h⟩:=hr S1 H1 a.pv v rr Q I1.sh (r1.rd I1.sh) e p1;cases e1;exact h
theorem iC:JU K (fun vs H Q=>∃ v,vs=[v] /\ rU (fun i=>.int (-i)) v H Q) oK:=by
 intro S H x v rr Q I hx e k
 cases x with
 |int i=>cases e;exact⟨v,rfl,i,bN hx,k _ S H (aE.refl I) (by show Rep K S _ _;unfold Rep;rfl)⟩
 |_=>cases e
theorem fe:JU K (fun xs H Q=>∃ p ys,xs=[.ref p] /\ (SqL K H p ys \/ SqT K H p ys) /\ Q (.int ys.length) H) jG:=by
 intro S H x v rr Q I hx e k
 cases x with
 | lst xs=>
   cases e;obtain⟨p,vs,rfl,hq,r⟩:=dR hx
   exact⟨p,vs,rfl,.inl hq,k _ S H (aE.refl I) (by show Rep K S _ _;unfold Rep;rw[r.length])⟩
 | tup xs=>
   cases e;obtain⟨p,vs,rfl,hq,r⟩:=cn hx
   exact⟨p,vs,rfl,.inr (au.tup I hq),k _ S H (aE.refl I) (by show Rep K S _ _;unfold Rep;rw[r.length])⟩
 |_=>cases e
theorem su:JU K (fun xs H Q=>∃ p ys,xs=[.ref p] /\ (SqL K H p ys \/ SqT K H p ys) /\ ∀ l,H l=none->Q (.ref l) (upd H l (.lst ys))) kO:=by
 intro S H x v rr Q I hx e k
 cases x with
 | lst xs=>
   cases e;obtain⟨p,vs,rfl,hq,r⟩:=dR hx
   exact⟨p,vs,rfl,.inl hq,fun l hl=>k _ S _ (aE.heap I hl) ⟨l,vs,rfl,hl,I.free hl,az,r⟩⟩
 | tup xs=>
   cases e;obtain⟨p,vs,rfl,hq,r⟩:=cn hx
   exact⟨p,vs,rfl,.inr (au.tup I hq),fun l hl=>k _ S _ (aE.heap I hl) ⟨l,vs,rfl,hl,I.free hl,az,r⟩⟩
 |_=>cases e
theorem AA{α:Type}(xs:List α)(i:Int):atP xs i=L2.atI xs i:=rfl
theorem aL.atI(h:aL K S xs vs)(e:atP xs i=some x):∃ v,L2.atI vs i=some v /\ Rep K S x v:=by
 rw[AA]at e
 unfold L2.atI at e ⊢
 rw[h.length]
 cases q:ixN xs.length i with
 |none=>rw[q]at e;cases e
 |some j=>rw[q]at e;exact h.get e
theorem og:JR K (Ci K) pw:=by
 intro S H x y v u rr Q I hx hy e k;unfold pw at e;split at e
 . rename_i xs i;obtain⟨z,e1,e2⟩:=Option.map_eq_some_iff.mp e;obtain⟨p,vs,rfl,hq,r⟩:=dR hx;obtain⟨w,e3,rw'⟩:=r.atI e1;subst e2
   exact⟨p,vs,i,w,rfl,bN hy,hq,e3,k _ S H (aE.refl I) rw'⟩
 . cases e
theorem aR:JR K (Cm K) bK:=by
 intro S H x y v u rr Q I hx hy e k;unfold bK at e;split at e
 . rename_i xs i;obtain⟨z,e1,e2⟩:=Option.map_eq_some_iff.mp e;obtain⟨p,vs,rfl,hq,r⟩:=cn hx;obtain⟨w,e3,rw'⟩:=r.atI e1;subst e2
   exact⟨p,vs,i,w,rfl,bN hy,au.tup I hq,e3,k _ S H (aE.refl I) rw'⟩
 . cases e
end
section
variable{K:PySem.W.Frag}{cls:String->Option Addr}{W:XW}{Av G S₀ S S' H H' B B':Hp}{ρ:aa}{σ:St}{Q:VK}
theorem ux{xs:List PV}{ns:List Int}(h:iY xs=some ns):xs=ns.map .int:=by
 induction xs generalizing ns with
 |nil=>cases h;rfl
 | cons x xs ih=>
   cases x with
   | int i=>
     obtain⟨ms,e1,e2⟩:=Option.map_eq_some_iff.mp h;subst e2;rw[ih e1];rfl
   |_=>cases h
theorem qX{xs:List PV}{vs:List V}{bs:List Bool}(h:eO xs=some bs)(r:aL K S xs vs):vs=bs.map V.bl:=by
 induction xs generalizing bs vs with
 |nil=>cases h;exact r.nil_inv
 | cons x xs ih=>
   cases x with
   | bl i=>
     obtain⟨ms,e1,e2⟩:=Option.map_eq_some_iff.mp h;subst e2;obtain⟨v,t,rfl,h1,h2⟩:=r.cons_inv;unfold Rep at h1;rw[ih e1 h2,h1];rfl
   |_=>cases h
theorem rQ{A:Around}(hh:A.handled=none):JU K (fun xs H Q=>∃(p:Addr) (bs:List Bool),xs=[.ref p] /\ SqL K H p (bs.map V.bl) /\ A.handled=none /\ Q (.bl (bs.all id)) H) sg:=by
 intro S H x v rr Q I hx e k
 cases x with
 | lst xs=>
   obtain⟨bs,e1,e2⟩:=Option.map_eq_some_iff.mp e;obtain⟨p,vs,rfl,hq,r⟩:=dR hx;rw[qX e1 r]at hq;subst e2
   exact⟨p,bs,rfl,hq,hh,k _ S H (aE.refl I) (by show Rep K S _ _;unfold Rep;rfl)⟩
 |_=>cases e
theorem Ai{T:String}{x:PV}{v:V}{b:Bool}(s:au S H)(hx:RdV K S H x v)(e:isP T x=some b):IsV K T v H b:=by
 cases x with
 | int i=>
   have:=bN hx;subst this;simp only[isP]at e;split at e
   . cases e;exact .inl ⟨by assumption,rfl⟩
   . split at e
     . rename_i h;cases e;rcases h with h|h|h|h
       . exact .inr (.inl ⟨h,rfl⟩)
       . exact .inr (.inr (.inl ⟨h,rfl⟩))
       . exact .inr (.inr (.inr (.inl ⟨h,rfl⟩)))
       . exact .inr (.inr (.inr (.inr ⟨h,rfl⟩)))
     . cases e
 | bl i=>
   have:=fC hx;subst this;simp only[isP]at e;split at e
   . rename_i h;cases e;rcases h with h|h
     . exact .inl ⟨h,rfl⟩
     . exact .inr (.inl ⟨h,rfl⟩)
   . split at e
     . rename_i h;cases e;rcases h with h|h|h
       . exact .inr (.inr (.inl ⟨h,rfl⟩))
       . exact .inr (.inr (.inr (.inl ⟨h,rfl⟩)))
       . exact .inr (.inr (.inr (.inr ⟨h,rfl⟩)))
     . cases e
 | non=>
   have:=cT hx;subst this;simp only[isP]at e;split at e
   . rename_i h;cases e;rcases h with h|h|h|h|h
     . exact .inl ⟨h,rfl⟩
     . exact .inr (.inl ⟨h,rfl⟩)
     . exact .inr (.inr (.inl ⟨h,rfl⟩))
     . exact .inr (.inr (.inr (.inl ⟨h,rfl⟩)))
     . exact .inr (.inr (.inr (.inr ⟨h,rfl⟩)))
   . cases e
 | str i=>
   have:=dJ hx;subst this;simp only[isP]at e;split at e
   . cases e;exact .inr (.inr (.inr (.inr ⟨by assumption,rfl⟩)))
   . split at e
     . rename_i h;cases e;rcases h with h|h|h|h
       . exact .inl ⟨h,rfl⟩
       . exact .inr (.inl ⟨h,rfl⟩)
       . exact .inr (.inr (.inl ⟨h,rfl⟩))
       . exact .inr (.inr (.inr (.inl ⟨h,rfl⟩)))
     . cases e
 | lst xs=>
   obtain⟨p,vs,rfl,hq,r⟩:=dR hx;refine .inl ⟨⟨vs,hq⟩,?_⟩;simp only[isP]at e;split at e
   . cases e;exact .inr (.inr (.inl ⟨by assumption,rfl⟩))
   . split at e
     . rename_i h;cases e;rcases h with h|h|h|h
       . exact .inl ⟨h,rfl⟩
       . exact .inr (.inl ⟨h,rfl⟩)
       . exact .inr (.inr (.inr (.inl ⟨h,rfl⟩)))
       . exact .inr (.inr (.inr (.inr ⟨h,rfl⟩)))
     . cases e
 | tup xs=>
   obtain⟨p,vs,rfl,hq,r⟩:=cn hx;refine .inr ⟨⟨vs,au.tup s hq⟩,?_⟩;simp only[isP]at e;split at e
   . cases e;exact .inr (.inr (.inr (.inl ⟨by assumption,rfl⟩)))
   . split at e
     . rename_i h;cases e;rcases h with h|h|h|h
       . exact .inl ⟨h,rfl⟩
       . exact .inr (.inl ⟨h,rfl⟩)
       . exact .inr (.inr (.inl ⟨h,rfl⟩))
       . exact .inr (.inr (.inr (.inr ⟨h,rfl⟩)))
     . cases e
theorem g5{T:String}{ta:TE}{ma:aa->OE}(ha:JE K cls W ta ma):
  JE K cls W (tCB (fun xs H Q=>∃ x T b,xs=[x,.ty T] /\ IsV K T x H b /\ Q (.bl b) H) (cK ta (cK (tC (.ty T)) gD))) (mIs T ma):=by
 intro Av G S₀ ρ σ S H Q I p
 refine ha.go I p fun a v S1 H1 I1 w1 r1 p1=>?_
 show ∃ x T' b,[v,V.ty T]=[x,V.ty T'] /\ _
 dsimp only at p1
 cases e:isP T a.pv with
 |none=>rw[e]at p1;exact p1.elim
 | some b=>
   rw[e]at p1
   exact⟨v,T,b,rfl,Ai I1.sh (r1.rd I1.sh) e,p1 _ S1 H1 (aE.refl I1.sh) (by show Rep K S1 _ _;unfold Rep;rfl)⟩
end
section
variable{K:PySem.W.Frag}{cls:String->Option Addr}{W:XW}{Av G S₀ S S' H H' B B':Hp}{ρ:aa}{σ:St}{Q:VK}
theorem i2{xs:List PV}{vs:List V}(h:aL K S xs vs):vs.isEmpty=xs.isEmpty:=by
 cases xs with
 |nil=>rw[h.nil_inv];rfl
 |cons x xs=>obtain⟨v,r,rfl,_⟩:=h.cons_inv;rfl
theorem xF(s:au S H)(hx:RdV K S H x v)(e:lb x=some b):ua K v H b:=by
 cases x with
 |non=>have:=cT hx;subst this;cases e;rfl
 |bl c=>have:=fC hx;subst this;cases e;rfl
 |int i=>have:=bN hx;subst this;cases e;rfl
 |str z=>cases e
 | lst xs=>
   obtain⟨p,vs,rfl,hq,r⟩:=dR hx;cases e;exact .inl ⟨vs,hq,by rw[i2 r]⟩
 | tup xs=>
   obtain⟨p,vs,rfl,hq,r⟩:=cn hx;cases e;exact .inr (.inl ⟨vs,au.tup s hq,by rw[i2 r]⟩)
theorem cj{ma:aa->OE}(ha:JE K cls W ta ma):JT K cls W (fun σ H Q=>ta σ H fun x H'=>∃ k,ua K x H' k /\ Q k H') (cV ma):=by
 intro Av G S₀ ρ σ S H Q I p
 refine ha.goT I p fun r v S1 H1 I1 w1 r1 p1=>?_
 cases e:lb r.pv with
 |none=>rw[e]at p1;exact p1.elim
 |some b=>rw[e]at p1;exact⟨b,xF I1.sh (r1.rd I1.sh) e,p1 S1 H1 (aE.refl I1.sh)⟩
theorem lg{r:RV}(h:r.pv=.bl b)(r1:eZ K H S1 H1 r v)(s:au S1 H1):v=.bl b:=by
 have:=r1.rd s;rw[h]at this;exact fC this
theorem aG{ma:aa->OE}(ha:JE K cls W ta ma):JT K cls W (sE ta) (aQ ma):=by
 intro Av G S₀ ρ σ S H Q I p
 refine ha.goT I p fun r v S1 H1 I1 w1 r1 p1=>?_
 cases e:r.pv with
 |bl b=>rw[e]at p1;exact⟨b,lg e r1 I1.sh,p1 S1 H1 (aE.refl I1.sh)⟩
 |_=>rw[e]at p1;exact p1.elim
theorem fb{ma:aa->OT}(ha:JT K cls W ta ma):JT K cls W (A7 ta) (fw ma):=by
 intro Av G S₀ ρ σ S H Q I p
 exact ha.goT I p fun b S1 H1 I1 w1 p1=>p1 S1 H1 (aE.refl I1.sh)
theorem mO{ma mb:aa->OT}(ha:JT K cls W ta ma)(hb:JT K cls W tb mb):JT K cls W (Bv ta tb) (jq ma mb):=by
 intro Av G S₀ ρ σ S H Q I p
 refine ha.goT I p fun b S1 H1 I1 w1 p1=>?_
 cases b with
 |true=>exact m5 (hb Av G S₀ ρ σ S1 H1 Q I1 p1)
 |false=>exact mW (p1 S1 H1 (aE.refl I1.sh))
theorem ko{ma mb:aa->OT}(ha:JT K cls W ta ma)(hb:JT K cls W tb mb):JT K cls W (tOr ta tb) (m7 ma mb):=by
 intro Av G S₀ ρ σ S H Q I p
 refine ha.goT I p fun b S1 H1 I1 w1 p1=>?_
 cases b with
 |false=>exact mW (hb Av G S₀ ρ σ S1 H1 Q I1 p1)
 |true=>exact m5 (p1 S1 H1 (aE.refl I1.sh))
theorem eE:eZ K B S H (.sh (.bl b)) (.bl b):=by show Rep K S _ _;unfold Rep;rfl
theorem jE{ma mb:aa->OE}(ha:JE K cls W ta ma)(hb:JE K cls W tb mb):JE K cls W (wo ta tb) (kl ma mb):=by
 intro Av G S₀ ρ σ S H Q I p
 refine ha.go I p fun r v S1 H1 I1 w1 r1 p1=>?_
 cases e:r.pv with
 | bl b=>
   rw[e]at p1
   refine⟨b,lg e r1 I1.sh,?_⟩
   cases b with
   |true=>exact m5 (hb Av G S₀ ρ σ S1 H1 Q I1 p1)
   |false=>exact mW (p1 _ S1 H1 (aE.refl I1.sh) eE)
 |_=>rw[e]at p1;exact p1.elim
theorem Ct{ma mb:aa->OE}(ha:JE K cls W ta ma)(hb:JE K cls W tb mb):JE K cls W (Az ta tb) (Au ma mb):=by
 intro Av G S₀ ρ σ S H Q I p
 refine ha.go I p fun r v S1 H1 I1 w1 r1 p1=>?_
 cases e:r.pv with
 | bl b=>
   rw[e]at p1
   refine⟨b,lg e r1 I1.sh,?_⟩
   cases b with
   |false=>exact mW (hb Av G S₀ ρ σ S1 H1 Q I1 p1)
   |true=>exact m5 (p1 _ S1 H1 (aE.refl I1.sh) eE)
 |_=>rw[e]at p1;exact p1.elim
theorem vO{ma:aa->OE}(ha:JE K cls W ta ma):JE K cls W (uY ta) (sC ma):=by
 intro Av G S₀ ρ σ S H Q I p
 refine ha.go I p fun r v S1 H1 I1 w1 r1 p1=>?_
 cases e:r.pv with
 |bl b=>rw[e]at p1;exact⟨b,lg e r1 I1.sh,p1 _ S1 H1 (aE.refl I1.sh) eE⟩
 |_=>rw[e]at p1;exact p1.elim
theorem qm{mc:aa->OT}{ma mb:aa->OE}(hc:JT K cls W tc mc)(ha:JE K cls W ta ma)(hb:JE K cls W tb mb):JE K cls W (tIf tc ta tb) (oP mc ma mb):=by
 intro Av G S₀ ρ σ S H Q I p
 refine hc.go I p fun b S1 H1 I1 w1 p1=>?_
 cases b with
 |true=>exact m5 (ha Av G S₀ ρ σ S1 H1 Q I1 p1)
 |false=>exact mW (hb Av G S₀ ρ σ S1 H1 Q I1 p1)
theorem mI{g g':PV->PV->Option RV}{ma mb mc:aa->OE}(hr:JR K r g)(hr':JR K r' g')(ha:JE K cls W ta ma)(hb:JE K cls W tb mb)(hc:JE K cls W tc mc):
  JE K cls W (rm r r' ta tb tc) (lV g g' ma mb mc):=by
 intro Av G S₀ ρ σ S H Q I p
 refine ha.go I p fun a v S1 H1 I1 w1 r1 p1=>hb.go I1 p1 fun b u S2 H2 I2 w2 r2 p2=>?_
 cases e:g a.pv b.pv with
 |none=>rw[e]at p2;exact p2.elim
 | some rr=>
   rw[e]at p2
   refine hr S2 H2 a.pv b.pv v u rr _ I2.sh ((r1.rd I1.sh).mono w2.s w2.g) (r2.rd I2.sh) e fun z S3 H3 w3 r3=>?_
   have I3:=I2.grow w3;simp only[oE,OE.bind]at p2
   cases e3:rr.pv with
   | bl k=>
     rw[e3]at p2;have hz:=lg e3 r3 I3.sh
     refine⟨k,hz,?_⟩
     cases k with
     |false=>exact mW (p2 _ S3 H3 w3 eE)
     | true=>
       refine m5 (hc.go I3 (p2.back w3) fun c y S4 H4 I4 w4 r4 p4=>?_)
       cases e4:g' b.pv c.pv with
       |none=>rw[e4]at p4;exact p4.elim
       |some r'=>rw[e4]at p4;exact hr' S4 H4 b.pv c.pv u y r' Q I4.sh (((r2.rd I2.sh).mono w3.s w3.g).mono w4.s w4.g) (r4.rd I4.sh) e4 p4
   |_=>rw[e3]at p2;exact p2.elim
theorem ax{ma mb:aa->OS}(ha:JS K cls W ta ma)(hb:JS K cls W tb mb):JS K cls W (vC ta tb) (aM ma mb):=by
 intro Av G S₀ ρ σ S H D I p;refine ha Av G S₀ ρ σ S H _ I ?_;unfold aM at p
 cases e:ma ρ with
 |nx ρ'=>rw[e]at p;exact fun σ' S' H' I' s'=>hb Av G S₀ ρ' σ' S' H' D I' (p.back s')
 |bk ρ'=>rw[e]at p;exact p
 |ct ρ'=>rw[e]at p;exact p
 |rt ρ' r=>rw[e]at p;exact p
 |exc ρ' c fs=>rw[e]at p;exact p
 |bad=>rw[e]at p;exact p
theorem aK:JS K cls W vY bg:=fun Av G S₀ ρ σ S H D I p=>p σ S H I (au.refl _)
theorem aV{me:aa->OE}(he:JE K cls W te me):JS K cls W (rK te (eU i)) (b3 i me):=by
 intro Av G S₀ ρ σ S H D I p
 refine he.goS I p fun r v S1 H1 I1 w1 r1 p1=>?_
 show D.nx (σ.set i (some v)) H1
 cases r with
 |sh x=>exact p1 _ S1 H1 (I1.qK r1) (au.refl _)
 |fr xs=>exact p1 _ S1 H1 (I.B5 w1 r1) (au.refl _)
 |al xs=>exact p1.elim
theorem bD{mc:aa->OT}{ma mb:aa->OS}(hc:JT K cls W tc mc)(ha:JS K cls W ta ma)(hb:JS K cls W tb mb):JS K cls W (Ao tc ta tb) (bL mc ma mb):=by
 intro Av G S₀ ρ σ S H D I p
 refine hc.goS I p fun b S1 H1 I1 w1 p1=>?_
 cases b with
 |true=>exact m5 (ha Av G S₀ ρ σ S1 H1 D I1 p1)
 |false=>exact mW (hb Av G S₀ ρ σ S1 H1 D I1 p1)
theorem aT{me:aa->OE}(he:JE K cls W te me):JS K cls W (wV te) (b2 me):=by
 intro Av G S₀ ρ σ S H D I p
 refine he.goS I p fun r v S1 H1 I1 w1 r1 p1=>?_
 cases r with
 |sh x=>exact p1 v σ S1 H1 I1 (au.refl _) r1
 |fr xs=>exact p1 v σ S1 H1 I1 (au.refl _) (r1.back I.gh)
 |al xs=>exact p1.elim
theorem de:JS K cls W (wV (jw i)) (dw i):=by
 intro Av G S₀ ρ σ S H D I p;unfold dw at p;split at p
 . rename_i x e;obtain⟨v,e1,r⟩:=I.good i _ e
   exact⟨v,e1,p v σ S H I (au.refl _) r⟩
 . rename_i xs e;obtain⟨v,e1,a,vs,e2,h1,h2,h3,h4⟩:=I.good i _ e
   exact⟨v,e1,p v σ S H I.drop (au.refl _) ⟨a,vs,e2,h1,h2,h3,h4⟩⟩
 . exact p.elim
theorem xQ{me:aa->OE}(he:JE K cls W te me):JS K cls W (kj te) (vj me):=by
 intro Av G S₀ ρ σ S H D I p
 exact he.goS I p fun r v S1 H1 I1 w1 r1 p1=>p1 σ S1 H1 I1 (au.refl _)
theorem uB{m:aa->OS}(h:JS K cls W ts m):JS K cls W ts (jm i m):=by
 intro Av G S₀ ρ σ S H D I p;unfold jm kF at p;split at p
 . rename_i xs e;obtain⟨S',s,J⟩:=I.Cu e;exact h Av G S₀ _ σ S' H D J (p.back s)
 . exact h Av G S₀ ρ σ S H D I p
theorem uu{me:aa->OE}(he:JE K cls W te me):JS K cls W (kj (tBM K "list" sG (jw i) (cK te gD))) (kN i me):=by
 intro Av G S₀ ρ σ S H D I p;unfold kN at p;split at p
 . rename_i xs e;obtain⟨v,e1,a,vs,rfl,h1,h2,h3,h4⟩:=I.good i _ e
   refine⟨_,e1,.inl ⟨rfl,_,SqL.new h3⟩,?_⟩
   refine he Av G S₀ ρ σ S H _ I ?_
   cases em:me ρ with
   |exc c fs=>rw[em]at p;exact fun a C S' H' w x=>p a C σ S' H' (I.grow w) w.s x
   |bad=>rw[em]at p;exact p
   | ok r=>
     rw[em]at p;intro u S1 H1 w1 r1;simp only[OE.aP]at p
     cases es:fh r with
     |none=>rw[es]at p;exact p.elim
     | some y=>
       rw[es]at p
       dsimp only at p
       split at p
       . rename_i hl;obtain⟨S2,w2,s2,rx⟩:=r1.share w1 es;have I2:=I.grow w2
         refine⟨a,vs,u,rfl,rfl,w2.g _ _ h3,by rw[h4.length];exact hl,?_⟩
         exact p σ S2 _ (I2.mut e e1 ((h4.mono w2.s).append (.cons rx .nil))) w2.s
       . exact p.elim
 . exact p.elim
theorem uO{me:aa->OE}(he:JE K cls W te me):JS K cls W (kj (tBM K "list" tm (jw i) (cK te gD))) (hV i me):=by
 intro Av G S₀ ρ σ S H D I p;unfold hV at p;split at p
 . rename_i xs e;obtain⟨v,e1,a,vs,rfl,h1,h2,h3,h4⟩:=I.good i _ e
   refine⟨_,e1,.inl ⟨rfl,_,SqL.new h3⟩,?_⟩
   refine he.goS I p fun r u S1 H1 I1 w1 r1 p1=>?_
   cases r with
   | fr ys=>
     dsimp only at p1
     split at p1
     . rename_i hl;obtain⟨b,us,rfl,k1,k2,k3,k4⟩:=r1
       refine⟨a,b,vs,us,rfl,rfl,w1.g _ _ h3,k3,by rw[h4.length,k4.length];exact hl,?_⟩
       exact p1 σ S1 _ (I1.mut e e1 ((h4.mono w1.s).append k4)) (au.refl _)
     . exact p1.elim
   |sh x=>exact p1.elim
   |al ys=>exact p1.elim
 . exact p.elim
theorem nu{mb:aa->OS}{D:Ends}{N:St->Hp->Prop}(hb:JS K cls W tb mb)(I:SR K cls Av G S₀ ρ σ S H)(hx:Rep K S x v)
  (p:b5 K cls W Av G S₀ S D (cJ i mb (x ::xs) ρ)) (hN:∀ ρ' σ' S' H',SR K cls Av G S₀ ρ' σ' S' H'->au S S'->b5 K cls W Av G S₀ S' D (cJ i mb xs ρ')->N σ' H'):
  eU i v σ H fun σ2 H2=>tb { D with nx:=N,ct:=N,bk:=D.nx } σ2 H2:=by
 refine hb Av G S₀ _ _ S H _ (I.qK hx) ?_;rw[lZ]at p
 cases e:mb (ρ.set i (some (.sh x)))with
 |nx ρ'=>rw[e]at p;exact fun σ' S' H' I' s'=>hN ρ' σ' S' H' I' s' (p.back s')
 |ct ρ'=>rw[e]at p;exact fun σ' S' H' I' s'=>hN ρ' σ' S' H' I' s' (p.back s')
 |bk ρ'=>rw[e]at p;exact p
 |rt ρ' r=>rw[e]at p;exact p
 |exc ρ' c fs=>rw[e]at p;exact p
 |bad=>rw[e]at p;exact p
theorem qO(h:k<n):(bR n).drop k=.int (k:Int) ::(bR n).drop (k+1):=by
 have hk:k<(bR n).length:=by unfold bR;simpa using h
 rw[List.drop_eq_getElem_cons hk]
 congr 1
 simp[bR]
theorem oF{me:aa->OE}{mb:aa->OS}(he:JE K cls W te me)(hb:JS K cls W tb mb):JS K cls W (xb (sH (cK te gD)) (eU i) tb) (iw i me mb):=by
 intro Av G S₀ ρ σ S H D I p
 refine he.goS I p fun r v S1 H1 I1 w1 r1 p1=>?_
 cases e:r.pv with
 | int j=>
   rw[e]at p1
   have hv:v=.int j:=by have:=r1.rd I1.sh;rw[e]at this;exact bN this
   subst hv
   dsimp only at p1
   split at p1
   . rename_i hj
     refine⟨j,rfl,hj.1,hj.2,?_⟩
     refine uh (n:=j.toNat) (fun k σ' H'=>∃ ρ' S',SR K cls Av G S₀ ρ' σ' S' H' /\ au S1 S' /\ b5 K cls W Av G S₀ S' D (cJ i mb ((bR j.toNat).drop k) ρ'))
      ⟨ρ,S1,I1,au.refl _,p1⟩ ?_ ?_
     . rintro k σ' H' hk ⟨ρ',S',I',s',p'⟩
       rw[qO hk]at p'
       refine nu hb I' ?_ p' fun ρ2 σ2 S3 H3 I3 s3 p3=>⟨ρ2,S3,I3,s'.trans s3,p3⟩
       unfold Rep;rw[Int.zero_add]
     . rintro σ' H' ⟨ρ',S',I',s',p'⟩
       rw[List.drop_of_length_le (by unfold bR;simp)]at p';exact p' σ' S' H' I' (au.refl _)
   . exact p1.elim
 |_=>rw[e]at p1;exact p1.elim
theorem pI{mc:aa->OT}{mb:aa->OS}(hc:JT K cls W tc mc)(hb:JS K cls W tb mb):JS K cls W (rq tc tb) (dD mc mb n):=by
 intro Av G S₀ ρ σ S H D I p
 refine⟨fun m σ' H'=>∃ ρ' S',SR K cls Av G S₀ ρ' σ' S' H' /\ au S S' /\ b5 K cls W Av G S₀ S' D (dD mc mb m ρ'),⟨n,ρ,S,I,au.refl _,p⟩,?_⟩
 rintro m σ1 H1 ⟨ρ1,S1,I1,s1,p1⟩
 cases m with
 |zero=>exact p1.elim
 | succ m=>
   unfold dD at p1
   refine hc.goS I1 p1 fun b S2 H2 I2 w2 p2=>?_
   cases b with
   |false=>exact mW (p2 σ1 S2 H2 I2 (au.refl _))
   | true=>
     refine m5 ⟨fun σ' H'=>∃ ρ' S',SR K cls Av G S₀ ρ' σ' S' H' /\ au S S' /\ b5 K cls W Av G S₀ S' D (dD mc mb m ρ'),fun σ' H' h=>⟨m,Nat.lt_succ_self m,h⟩,?_⟩;refine hb Av G S₀ ρ1 σ1 S2 H2 _ I2 ?_;simp only[if_true]at p2
     cases e:mb ρ1 with
     |nx ρ'=>rw[e]at p2;exact fun σ' S' H' I' s'=>⟨ρ',S',I',(s1.trans w2.s).trans s',p2.back s'⟩
     |ct ρ'=>rw[e]at p2;exact fun σ' S' H' I' s'=>⟨ρ',S',I',(s1.trans w2.s).trans s',p2.back s'⟩
     |bk ρ'=>rw[e]at p2;exact p2
     |rt r=>rw[e]at p2;exact p2
     |exc ρ' c fs=>rw[e]at p2;exact p2
     |bad=>rw[e]at p2;exact p2
end
section
variable{K:PySem.W.Frag}{cls:String->Option Addr}{W:XW}{Av G S₀ S S' H H' B B':Hp}{ρ:aa}{σ:St}{Q:VK}
noncomputable def xf:V->Option Int
 |.int i=>some i
 |_=>none
noncomputable def JO(K:PySem.W.Frag)(cls:String->Option Addr)(W:XW)(to:TO)(m:aa->OE):Prop:=∀ Av G S₀ ρ σ S H (Q:Option Int->Hp->Prop),SR K cls Av G S₀ ρ σ S H ->
 fq K cls W σ S H (fun v H'=>Q (xf v) H') (m ρ)->to σ H Q
theorem gf:JO K cls W nZ (mC .non):=fun Av G S₀ ρ σ S H Q I p=>p .non S H (aE.refl I.sh) (by show Rep K S _ _;unfold Rep;rfl)
theorem fP{m:aa->OE}(h:JE K cls W te m):JO K cls W (vB te) (jk m):=by
 intro Av G S₀ ρ σ S H Q I p
 refine h.go I p fun r v S1 H1 I1 w1 r1 p1=>?_
 cases e:r.pv with
 | int i=>
   rw[e]at p1
   have hv:v=.int i:=by have:=r1.rd I1.sh;rw[e]at this;exact bN this
   exact⟨i,hv,p1 (.int i) S1 H1 (aE.refl I1.sh) (by show Rep K S1 _ _;unfold Rep;rfl)⟩
 |_=>rw[e]at p1;exact p1.elim
theorem JO.go{m:aa->OE}{f:RV->OE}{Q':Option Int->Hp->Prop}(h:JO K cls W to m)(I:SR K cls Av G S₀ ρ σ S H)(p:fq K cls W σ S H Q ((m ρ).bind f))
  (k:∀ r v S1 H1,SR K cls Av G S₀ ρ σ S1 H1->aE S H S1 H1->eZ K H S1 H1 r v->fq K cls W σ S1 H1 Q (f r)->Q' (xf v) H1):to σ H Q':=by
 refine h Av G S₀ ρ σ S H Q' I ?_
 cases e:m ρ with
 |ok r=>rw[e]at p;exact fun v S1 H1 w r1=>k r v S1 H1 (I.grow w) w r1 (p.back w)
 |exc c fs=>rw[e]at p;exact p
 |bad=>rw[e]at p;exact p
theorem part_of(h:RdV K S H x v):xf v=dW x:=by
 cases x with
 |int i=>rw[bN h];rfl
 |non=>rw[cT h];rfl
 |bl b=>rw[fC h];rfl
 |str b=>rw[dJ h];rfl
 |lst xs=>obtain⟨p,vs,rfl,_⟩:=dR h;rfl
 |tup xs=>obtain⟨p,vs,rfl,_⟩:=cn h;rfl
theorem aL.cut(h:aL K S xs vs)(lo hi:Option Int):aL K S (j6 xs lo hi) (kE vs lo hi):=by
 have es:∀ n d o,oe n d o=HT.sIx n d o:=fun n d o=>by cases o<;>rfl
 unfold j6 kE;simp only[es];rw[h.length]
 exact(h.drop _).take _
theorem join_some{α:Type}{o:Option (Option α)}{s:α}(h:o.join=some s):o=some (some s):=by
 cases o with
 |none=>cases h
 | some x=>cases x with
   |none=>cases h
   |some y=>rw[show y=s from Option.some.inj h]
theorem xp{α:Type}{l:List (Option α)}{ι:List Nat}{j:Nat}{s:α}(h:(ι.map fun i=>(l[i]?).join)[j]?=some (some s)):∃ i,ι[j]?=some i /\ l[i]?=some (some s):=by
 rw[List.getElem?_map]at h
 cases e:ι[j]? with
 |none=>rw[e]at h;cases h
 |some i=>rw[e]at h;exact⟨i,rfl,join_some (Option.some.inj h)⟩
noncomputable def zh(ι:List Nat)(Av:Hp):Hp:=fun j=>match ι[j]? with
 |some i=>Av i
 |none=>none
noncomputable def pQ(ι:List Nat)(F:Nat->List Addr):Nat->List Addr:=fun j=>match ι[j]? with
 |some i=>F i
 |none=>[]
theorem kC.at(h:kC K cls Av G S H i s v fp)(e:Av' j=Av i):kC K cls Av' G S H j s v fp:=by
 cases s with
 |sh x=>exact h
 |ow xs=>exact h
 |ex c fs=>exact h
 |tr io t=>exact⟨h.1,h.2.1,h.2.2.1,fun z=>by rw[e];exact h.2.2.2 z⟩
 |bo t=>exact h
theorem SR.pick{ι:List Nat}{x:PV}{v:V}(I:SR K cls Av G S₀ ρ σ S H)(hι:ι.Nodup)(hx:Rep K S x v):SR K cls (zh ι Av) G S₀ (bU ι ρ++[some (.sh x)]) (L2.E.pick ι σ++[some v]) S H:=by
 obtain⟨F,J⟩:=I
 have hl:(bU ι ρ).length=(L2.E.pick ι σ).length:=by unfold bU L2.E.pick;simp
 have hp:(bU ι ρ).length=ι.length:=by unfold bU;simp
 refine⟨pQ ι F,J.gh,J.s0,J.sh,J.new,fun j s e=>?_,fun j k a h1 h2=>?_,fun j a h=>?_,by unfold bU L2.E.pick;simp⟩
 . by_cases hj:j<(bU ι ρ).length
   . rw[List.getElem?_append_left hj]at e;obtain⟨i,e1,e2⟩:=xp e;obtain⟨u,e3,r⟩:=J.own i s e2
     refine⟨u,?_,?_⟩
     . rw[List.getElem?_append_left (by rw[<- hl];exact hj)];unfold L2.E.pick;rw[List.getElem?_map,e1];show some (σ[i]?).join=_;rw[e3];rfl
     . unfold pQ;rw[e1];exact r.at (by unfold zh;rw[e1])
   . have hj':(bU ι ρ).length<=j:=Nat.le_of_not_lt hj
     rw[List.getElem?_append_right hj']at e
     have h0:j - (bU ι ρ).length=0:=by
      by_cases h:j - (bU ι ρ).length=0
      . exact h
      . rw[List.getElem?_eq_none (by simp;omega)]at e;cases e
     rw[h0]at e;cases e
     refine⟨v,?_,?_,hx⟩
     . rw[List.getElem?_append_right (by rw[<- hl];exact hj'),<- hl,h0];rfl
     . unfold pQ;rw[List.getElem?_eq_none (by rw[<- hp];exact hj')]
 . unfold pQ at h1 h2
   cases e1:ι[j]? with
   |none=>rw[e1]at h1;cases h1
   | some i=>
     cases e2:ι[k]? with
     |none=>rw[e2]at h2;cases h2
     | some i'=>
       rw[e1]at h1;rw[e2]at h2;have z:=J.apart i i' a h1 h2;subst z;obtain⟨ha,ea⟩:=List.getElem?_eq_some_iff.mp e1;obtain⟨hb,eb⟩:=List.getElem?_eq_some_iff.mp e2
       exact(List.getElem_inj hι).mp (ea.trans eb.symm)
 . unfold pQ at h
   cases e1:ι[j]? with
   |none=>rw[e1]at h;cases h
   |some i=>rw[e1]at h;exact J.live i a h
theorem wj{me:aa->OE}(h:bA me ρ (x ::xs)=.ok ys):∃ r y zs,me (ρ++[some (.sh x)])=.ok r /\ fh r=some y /\ bA me ρ xs=.ok zs /\ ys=y ::zs:=by
 unfold bA at h
 cases e:me (ρ++[some (.sh x)])with
 | ok r=>
   rw[e]at h;simp only[OE.bP]at h
   cases e2:fh r with
   |none=>rw[e2]at h;cases h
   | some y=>
     rw[e2]at h
     dsimp only at h
     cases e3:bA me ρ xs with
     |ok zs=>rw[e3]at h;cases h;exact⟨r,y,zs,rfl,e2,rfl,rfl⟩
     |exc c fs=>rw[e3]at h;cases h
     |bad=>rw[e3]at h;cases h
 |exc c fs=>rw[e]at h;cases h
 |bad=>rw[e]at h;cases h
theorem jX{J:It}{ι:List Nat}{me:aa->OE}{xs ys:List PV}(hι:ι.Nodup)(he:JE K cls (fun _ _ _ _=>False) te me)(I:SR K cls Av G S₀ ρ σ S H)(hy:bA me (bU ι ρ) xs=.ok ys)(hl:ys.length<=lim)
  (go:∀ k H' x,au H H'->xs[k]?=some x->J.go k H' /\ ∀ v H2,J.yld k H' v H2->H2=H' /\ Rep K S x v) (stop:∀ H',au H H'->J.stop xs.length H')
  (hQ:∀ D S' H',aE S H S' H'->H D=none->S' D=none->(∃ us,H' D=some (.lst us) /\ aL K S' ys us)->Q (.ref D) H'):
  ∀ D,H D=none->∃ W:Nat->Nat->List V->Hp->Prop,(∃ m,W 0 m [] (upd H D (.lst []))) /\ ∀ i m us H',W i m us H' ->
    H' D=some (.lst us) /\ ((J.stop i H' /\ Q (.ref D) H') \/ (J.go i H' /\ ∀ x H2,J.yld i H' x H2->te (L2.E.pick ι σ++[some x]) H2 fun y H3=>H3 D=some (.lst us) /\ us.length<sizeLine /\ ∃ m',m'<m /\ W (i+1) m' (us++[y]) (upd H3 D (.lst (us++[y]))))):=by
 intro D nD
 refine⟨fun k m us H'=>m+k=xs.length /\ H' D=some (.lst us) /\ ∃ S' zs ws,au S S' /\ au H H' /\ au S' H' /\ (∀ b,S' b≠none->S b≠none \/ (H b=none /\ b≠D)) /\ aL K S' zs us /\ bA me (bU ι ρ) (xs.drop k)=.ok ws /\ ys=zs++ws,
  ⟨xs.length,rfl,az,S,[],ys,au.refl _,au.new nD,I.sh.trans (au.new nD),fun b z=>.inl z,.nil,hy,rfl⟩,?_⟩
 rintro k m us H' ⟨hm,hD,S',zs,ws,s1,g1,sh1,n1,r1,e1,rfl⟩
 refine⟨hD,?_⟩
 have hSD:S' D=none:=by
  cases q:S' D with
  |none=>rfl
  | some o=>
    rcases n1 D (by rw[q];simp)with z|⟨_,z⟩
    . exact absurd (I.sh.free nD) z
    . exact absurd rfl z
 by_cases hk:k<xs.length
 . refine .inr ?_
   have hx:xs[k]?=some xs[k]:=by simp[hk]
   obtain⟨hgo,hyld⟩:=go k H' xs[k] g1 hx
   refine⟨hgo,fun v H2 hv=>?_⟩
   obtain⟨rfl,rv⟩:=hyld v H2 hv;rw[List.drop_eq_getElem_cons hk]at e1;obtain⟨r,y,zs',em,es,e2,rfl⟩:=wj e1
   have I1:SR K cls Av G S₀ ρ σ S' H2:=I.grow ⟨s1,g1,sh1,fun b z=>by
    rcases n1 b z with z|⟨z,_⟩
    . exact .inl z
    . exact .inr z⟩
   refine he _ G S₀ _ _ S' H2 _ (I1.pick hι (Rep.mono s1 rv)) ?_;rw[em];intro u S2 H3 w2 r2;obtain⟨S3,w3,s3,ru⟩:=r2.share w2 es
   have hl2:(zs++y ::zs').length<=lim:=hl
   have hSD3:S3 D=none:=by
    cases q:S3 D with
    |none=>rfl
    | some o=>
      rcases w3.new D (by rw[q];simp)with z|z
      . exact absurd hSD z
      . rw[hD]at z;cases z
   refine⟨w3.g _ _ hD,?_,m - 1,by omega,by omega,az,S3,zs++[y],zs',s1.trans w3.s,(g1.trans w3.g).upd nD,w3.sh.upd hSD3,fun b z=>?_,(r1.mono w3.s).append (.cons ru .nil),e2,by simp⟩
   . rw[r1.length,<- An];rw[List.length_append,List.length_cons]at hl2;omega
   . rcases w3.new b z with z|z
     . exact n1 b z
     . refine .inr ⟨g1.free z,fun e=>?_⟩;rw[e,hD]at z;cases z
 . have hk':k=xs.length:=by omega
   subst hk';refine .inl ⟨stop H' g1,?_⟩;rw[List.drop_length]at e1;cases e1
   exact hQ D S' H' ⟨s1,g1,sh1,fun b z=>by
    rcases n1 b z with z|⟨z,_⟩
    . exact .inl z
    . exact .inr z⟩ nD hSD ⟨us,hD,by rw[List.append_nil];exact r1⟩
theorem u0{ml me:aa->OE}{ι:List Nat}(hι:ι.Nodup)(hl:JE K cls W tl ml)(he:JE K cls (fun _ _ _ _=>False) te me):JE K cls W (qj (v5 K tl) ι te) (kU ml ι me):=by
 intro Av G S₀ ρ σ S H Q I p
 refine hl.go I p fun r v S1 H1 I1 w1 r1 p1=>?_
 have ra:=r1.rd I1.sh
 cases e:r.pv with
 | lst xs=>
   rw[e]at p1 ra;obtain⟨a,vs,rfl,hq,hr⟩:=dR ra
   refine⟨a,rfl,⟨vs,hq⟩,?_⟩
   dsimp only at p1
   cases em:bA me (bU ι ρ) xs with
   |exc c fs=>rw[em]at p1;exact p1.elim
   |bad=>rw[em]at p1;exact p1.elim
   | ok ys=>
     rw[em]at p1;simp only[noX]at p1;split at p1
     . rename_i hlen
       refine jX hι he I1 em hlen (fun k H' x g hx=>?_) (fun H' g=>⟨vs,au.seq g hq,by rw[hr.length];exact Nat.le_refl _⟩) fun D S' H' w nD sD ⟨us,hD,rr⟩=>p1 (.ref D) S' H' w ⟨D,us,rfl,nD,sD,hD,rr⟩
       obtain⟨u,hu,ru⟩:=hr.get hx
       refine⟨⟨vs,u,au.seq g hq,hu⟩,?_⟩
       rintro v' H2 ⟨rfl,hv⟩
       have:=hv vs (au.seq g hq);rw[hu]at this;cases this
       exact⟨rfl,ru⟩
     . exact p1.elim
 |_=>rw[e]at p1;exact p1.elim
theorem v8{mn me:aa->OE}{ι:List Nat}(hι:ι.Nodup)(hn:JE K cls W tn mn)(he:JE K cls (fun _ _ _ _=>False) te me):JE K cls W (qj (sH (cK tn gD)) ι te) (iD mn ι me):=by
 intro Av G S₀ ρ σ S H Q I p
 refine hn.go I p fun r v S1 H1 I1 w1 r1 p1=>?_
 have ra:=r1.rd I1.sh
 cases e:r.pv with
 | int j=>
   rw[e]at p1 ra;have hv:=bN ra;subst hv
   dsimp only at p1
   split at p1
   . rename_i hj
     refine⟨j,rfl,hj.1,hj.2,?_⟩
     cases em:bA me (bU ι ρ) (bR j.toNat)with
     |exc c fs=>rw[em]at p1;exact p1.elim
     |bad=>rw[em]at p1;exact p1.elim
     | ok ys=>
       rw[em]at p1;simp only[noX]at p1;split at p1
       . rename_i hlen
         have hln:(bR j.toNat).length=j.toNat:=by unfold bR;simp
         refine jX hι he I1 em hlen (fun k H' x g hx=>?_) (fun H' g=>by rw[hln];exact Nat.le_refl _) fun D S' H' w nD sD ⟨us,hD,rr⟩=>p1 (.ref D) S' H' w ⟨D,us,rfl,nD,sD,hD,rr⟩
         have hk:k<j.toNat:=by rw[<- hln];exact(List.getElem?_eq_some_iff.mp hx).1
         refine⟨hk,?_⟩
         rintro v' H2 ⟨rfl,rfl⟩
         refine⟨rfl,?_⟩
         have:x=.int (k:Int):=by
          unfold bR at hx;rw[List.getElem?_map,List.getElem?_range hk]at hx
          exact(Option.some.inj hx).symm
         subst this;unfold Rep;rw[Int.zero_add]
       . exact p1.elim
   . exact p1.elim
 |_=>rw[e]at p1;exact p1.elim
theorem rP(h:b5 K cls W Av G S₀ S D (nz o)):b5 K cls W' Av G S₀ S D o:=by
 cases o with
 |exc ρ c fs=>exact h.elim
 |nx ρ=>exact h
 |bk ρ=>exact h
 |ct ρ=>exact h
 |rt ρ r=>exact h
 |bad=>exact h
theorem zP{tb:XW->TS}{mb ms:aa->OS}{takes:String->Option Bool}(hb:∀ W,JS K cls W (tb W) mb)(hs:JS K cls (fun _ _ _ _=>False) ts ms)(hT:∀ c C b,cls c=some C->takes c=some b->km K T C b):
  JS K cls W (tT K tb T ts none W) (uJ mb takes ms):=by
 intro Av G S₀ ρ σ S H D I p;refine hb _ Av G S₀ ρ σ S H D I ?_;unfold uJ at p
 cases e:mb ρ with
 | exc ρ' c fs=>
   rw[e]at p
   dsimp only at p
   intro a C σ' S' H' I' s' x H2 g2
   cases et:takes c with
   |none=>rw[et]at p;exact p.elim
   | some b=>
     rw[et]at p
     refine⟨C,b,rfl,hT c C b x.1 et,?_⟩
     have I2:=I'.same g2
     cases b with
     |true=>exact m5 (hs Av G S₀ ρ' σ' S' H2 _ I2 (rP (p.back s')))
     |false=>exact mW (p a C σ' S' H2 I2 s' (x.mono (au.refl _) g2))
 |nx ρ'=>rw[e]at p;exact p
 |bk ρ'=>rw[e]at p;exact p
 |ct ρ'=>rw[e]at p;exact p
 |rt ρ' r=>rw[e]at p;exact p
 |bad=>rw[e]at p;exact p
theorem xm{tb:XW->TS}{mb ms:aa->OS}{takes:String->Option Bool}(hb:∀ W,JS K cls W (tb W) mb)(hs:JS K cls (fun _ _ _ _=>False) ts ms)(hT:∀ c C b,cls c=some C->takes c=some b->km K T C b):
  JS K cls W (tT K tb T ts (some i) W) (jT i mb takes ms):=by
 intro Av G S₀ ρ σ S H D I p;refine hb _ Av G S₀ ρ σ S H D I ?_;unfold jT at p
 cases e:mb ρ with
 | exc ρ' c fs=>
   rw[e]at p
   dsimp only at p
   intro a C σ' S' H' I' s' x H2 g2
   cases et:takes c with
   |none=>rw[et]at p;exact p.elim
   | some b=>
     rw[et]at p
     refine⟨C,b,rfl,hT c C b x.1 et,?_⟩
     have I2:=I'.same g2;have x2:=x.mono (au.refl _) g2
     cases b with
     | true=>
       refine m5 (hs Av G S₀ _ _ S' H2 _ (I2.BO (i:=i) x2) ?_)
       dsimp only at p
       cases eo:ms (ρ'.set i (some (.ex c fs)))with
       |exc ρ c fs=>rw[eo]at p;exact p.elim
       |nx ρ=>rw[eo]at p;exact fun σ3 S3 H3 I3 s3=>p (σ3.set i none) S3 H3 I3.nU (s'.trans s3)
       |bk ρ=>rw[eo]at p;exact fun σ3 S3 H3 I3 s3=>p (σ3.set i none) S3 H3 I3.nU (s'.trans s3)
       |ct ρ=>rw[eo]at p;exact fun σ3 S3 H3 I3 s3=>p (σ3.set i none) S3 H3 I3.nU (s'.trans s3)
       |rt ρ r=>rw[eo]at p;exact fun v σ3 S3 H3 I3 s3 r3=>p v σ3 S3 H3 I3 (s'.trans s3) r3
       |bad=>rw[eo]at p;exact p.elim
     |false=>exact mW (p a C σ' S' H2 I2 s' x2)
 |nx ρ'=>rw[e]at p;exact p
 |bk ρ'=>rw[e]at p;exact p
 |ct ρ'=>rw[e]at p;exact p
 |rt ρ' r=>rw[e]at p;exact p
 |bad=>rw[e]at p;exact p
theorem AD{under:String->Bool}(hT:∀ c C,cls c=some C->under c=true->∃ bm,gF K C bm /\ ((∃ B bmB,T=.ref B /\ gF K B bmB /\ (Value.ref C ::bm).contains (.ref B)=true) \/ (T=.ty "ValueError" /\ bm.contains (.type "ValueError")=true))):
  JE K cls W (tCB (fun xs H Q=>∃ a T C dx bm,xs=[.ref a,T] /\ H a=some (jb a C dx) /\ gF K C bm /\ ((∃ B bmB,T=.ref B /\ gF K B bmB /\ (Value.ref C ::bm).contains (.ref B)=true) \/ (T=.ty "ValueError" /\ bm.contains (.type "ValueError")=true)) /\ Q (.bl true) H) (cK (jw i) (cK (tC T) gD))) (vH i under):=by
 intro Av G S₀ ρ σ S H Q I p;unfold vH at p;split at p
 . rename_i c fs e;obtain⟨v,e1,a,C,rfl,hc,dx,hx,_⟩:=I.good i _ e;split at p
   . rename_i hu;obtain⟨bm,h1,h2⟩:=hT c C hc hu
     exact⟨_,e1,a,T,C,dx,bm,rfl,hx,h1,h2,p _ S H (aE.refl I.sh) eE⟩
   . exact p.elim
 . exact p.elim
theorem aL.begin(h:aL K S xs vs)(N:List Str)(i:Nat)(s:Sl)(e:(eg N.length xs)[i]?=some (some s)):∃ x v,s=.sh x /\ (L2.start N vs)[i]?=some (some v) /\ Rep K S x v:=by
 unfold eg at e
 by_cases hi:i<xs.length
 . rw[List.getElem?_append_left (by simpa using hi),List.getElem?_map]at e
   have hx:xs[i]?=some xs[i]:=by simp[hi]
   rw[hx]at e;cases e;obtain⟨v,hv,r⟩:=h.get hx
   refine⟨_,v,rfl,?_,r⟩
   unfold L2.start;rw[List.getElem?_append_left (by rw[List.length_map,h.length];exact hi),List.getElem?_map,hv];rfl
 . rw[List.getElem?_append_right (by simpa using hi)]at e;rw[List.getElem?_replicate]at e
   split at e<;>cases e
theorem DF{P:Program}{w:World}{mg:Str->Option Value}{base:Heap}{x qual:Str}{st:Stmt}{f:Addr}{fd:FuncData}{N ps:List Str}{k:Nat}{m:aa->OS}(F:Fun K x qual st f fd)(Sc:aN N ps (ay st))
  (hbody:∀(cdv:Value) (A:Around) (outer:List Env) (s:Shared) (H:Hp) (E:XK),dy k (A.deeper (envOfC qual (ay st) s.heap.objs.size f cdv)) ->
    ∃ t,PSs (jI (CXE P w) P w K mg base N qual (ay st) f cdv A outer s H E) (b4 st) t /\ JS K cls (fun C a _ H=>∀ H',au H H'->E C a H') t m):bH P w K mg base (CXE P w) (k+1) f fd ps (spP K cls (fnP ps.length N.length m)):=by
 refine okX F Sc (fun vs H Q E h=>?_) fun cdv A outer s H vs Q E hr h=>?_
 . obtain⟨S,xs,_,r,q⟩:=h;unfold fnP at q;split at q
   . rw[r.length];assumption
   . exact q.elim
 . obtain⟨S,xs,sS,r,q⟩:=h;unfold fnP at q;split at q
   . rename_i hl;obtain⟨t,ht,J⟩:=hbody cdv A outer s H E hr
     refine⟨t,ht,?_⟩
     refine J (fun _=>none) H S (eg N.length xs) (start N vs) S H _ ⟨fun _=>[],au.refl _,au.refl _,sS,fun _ z=>.inl z,fun i s e=>?_,fun i j a h=>(nomatch h),fun i a h=>(nomatch h),?_⟩ ?_
     . obtain⟨x,v,rfl,e1,rx⟩:=r.begin N i s e
       exact⟨v,e1,rfl,rx⟩
     . unfold eg L2.start;simp[r.length]
     . cases e:m (eg N.length xs)with
       |nx ρ'=>rw[e]at q;exact fun σ' S' H' I' s'=>q .non S' H' ⟨I'.s0,I'.gh,I'.sh,I'.new⟩ (by show Rep K S' _ _;unfold Rep;rfl)
       |bk ρ'=>rw[e]at q;exact q.elim
       |ct ρ'=>rw[e]at q;exact q.elim
       |bad=>rw[e]at q;exact q.elim
       | rt ρ' r=>
         rw[e]at q
         cases r with
         |al ys=>exact q.elim
         |sh y=>exact fun v σ' S' H' b' s' rr=>q v S' H' ⟨b'.s0,b'.gh,b'.sh,b'.new⟩ rr
         |fr ys=>exact fun v σ' S' H' b' s' rr=>q v S' H' ⟨b'.s0,b'.gh,b'.sh,b'.new⟩ rr
       | exc ρ' c fs=>
         rw[e]at q
         exact fun a C σ' S' H' I' s' x H2 g2=>q a C S' H2 ⟨I'.s0,I'.gh.trans g2,I'.sh.trans g2,I'.new⟩ (x.mono (au.refl _) g2)
   . exact q.elim
noncomputable def o7(K:PySem.W.Frag):Sp:=fun vs H Q _=>∃(a:Addr) (ns:List Int),vs=[.ref a] /\ SqL K H a (ns.map V.int) /\ ns.length<=63 /\ ∀ H',Q (.bl true) H'
theorem xt{f:List PV->OE}(h:∀ ns:List Int,ns.length<=63->f [.lst (ns.map .int)]=.ok (.sh (.bl true)))(vs:List V)(H:Hp)(Q:VK)(E:XK)(q:o7 K vs H Q E):spP K cls f vs H Q E:=by
 obtain⟨a,ns,rfl,hS,hl,q⟩:=q
 refine⟨H,[.lst (ns.map .int)],au.refl _,.cons (by unfold Rep;exact⟨a,_,rfl,hS,aL.ints⟩) .nil,?_⟩
 rw[h ns hl];intro v S' H' w r
 have:v=.bl true:=by have r':Rep K S' (.bl true) v:=r;unfold Rep at r';exact r'
 subst this;exact q H'
end
section
variable{K:PySem.W.Frag}{cls:String->Option Addr}{W:XW}{Av G S₀ S S' H H' B B':Hp}{ρ:aa}{σ:St}{Q:VK}
theorem yF{i:Nat}{te:TE}{me:aa->OE}{f:Int->Int->Int}(he:JE K cls W te me):JS K cls W (yN i te (ipI f)) (vX i (gI (fun _ _=>true) fun i j=>.int (f i j)) me):=by
 intro Av G S₀ ρ σ S H D I p;unfold vX at p;split at p
 . rename_i x e;obtain⟨v,e1,r⟩:=I.good i _ e
   refine⟨v,e1,he.goS I p fun rr u S1 H1 I1 w1 r1 p1=>?_⟩
   have ra:=r1.rd I1.sh
   cases x with
   | int a=>
     cases eb:rr.pv with
     | int b=>
       rw[eb]at p1 ra
       have r':Rep K S (.int a) v:=r
       unfold Rep at r';subst r'
       exact⟨a,b,rfl,bN ra,p1 _ S1 H1 (I1.qK (by unfold Rep;rfl)) (au.refl _)⟩
     |_=>rw[eb]at p1;exact p1.elim
   |_=>cases eb:rr.pv<;>(rw[eb]at p1;exact p1.elim)
 . exact p.elim
theorem qV{i:Nat}{te:TE}{me:aa->OE}(he:JE K cls W te me):JS K cls W (yN i te (ipI fun i j=>i+j)) (vX i dM me):=yF he
theorem nP{x:PV}{v:V}(h:RdV K S H x v):decide (v=.non)=dI x:=by
 cases x with
 |non=>rw[cT h];rfl
 |bl b=>rw[fC h];rfl
 |int b=>rw[bN h];rfl
 |str b=>rw[dJ h];rfl
 |lst xs=>obtain⟨p,vs,rfl,_⟩:=dR h;rfl
 |tup xs=>obtain⟨p,vs,rfl,_⟩:=cn h;rfl
theorem vz:JR K (fun x y H Q=>y=.non /\ Q (.bl (decide (x=.non))) H) xn:=by
 intro S H x y v u rr Q I hx hy e k;unfold xn at e;split at e
 . cases e
   exact⟨cT hy,k _ S H (aE.refl I) (by rw[nP hx];exact eE)⟩
 . cases e
theorem sM:JR K (fun x y H Q=>y=.non /\ Q (.bl (!decide (x=.non))) H) pO:=by
 intro S H x y v u rr Q I hx hy e k;unfold pO at e;split at e
 . cases e
   exact⟨cT hy,k _ S H (aE.refl I) (by rw[nP hx];exact eE)⟩
 . cases e
end
end L2.P
namespace L2
open PySem PySem.Spec PyProof.Rows
structure QE(X:Cx)(e:Expr)(t:TE):Prop where
 out:PE X e t
structure QA(X:Cx)(es:List Expr)(t:TA):Prop where
 out:PA X es t
structure QS(X:Cx)(st:Stmt)(t:TS):Prop where
 out:PS X st t
structure QSs(X:Cx)(st:List Stmt)(t:TS):Prop where
 out:PSs X st t
structure QT(X:Cx)(e:Expr)(t:TT):Prop where
 out:PT X e t
structure QW(X:Cx)(e:Expr)(t:TT):Prop where
 out:PW X e t
structure QI(X:Cx)(tg e:Expr)(t:TI):Prop where
 out:PI X tg e t
structure QG(X:Cx)(e:Expr)(t:TG):Prop where
 out:PG X e t
structure QO(X:Cx)(e:Option Expr)(t:TO):Prop where
 out:PO X e t
end L2
namespace L2
theorem qau(h:True:=by first|rfl|decide|exact .inl rfl|exact .inr rfl|exact .inr (.inl rfl)|exact .inr (.inr rfl)|assumption|(intro _;rfl)|with_unfolding_all rfl):True:=h
end L2
namespace L2.E
open PySem PySem.Spec PyProof.Rows L2
theorem fk:QE X (Expr.Constant (Const.bool b) j pos) (tC (V.bl b)):=⟨BS ⟩
theorem aq:QE X (Expr.Constant (Const.int i) j pos) (tC (V.int i)):=⟨Bu ⟩
theorem bh:QE X (Expr.Constant (Const.str x) j pos) (tC (V.str x)):=⟨Ax ⟩
theorem fR:QE X (Expr.Constant Const.none j pos) (tC V.non):=⟨Ac ⟩
theorem qv{X:Cx}(h1:Nat)(h4:autoParam (X.N[h1]?=some x) qau._auto_1)(h5:autoParam (Vis X.env.scope x) qau._auto_1)(h6:autoParam ((x==Str.ofString "__debug__")=false) qau._auto_1)(h7:autoParam ((x==Str.ofString "__classdict__")=false) qau._auto_1):QE X (Expr.Name x pos) (jw h1):=⟨pv h1 h4 h5 h6 h7⟩
theorem dk{X:Cx}(h5:Gl X x)(h6:X.mg x=some u)(h7:RelV v u)(h8:autoParam ((x==Str.ofString "__debug__")=false) qau._auto_1):QE X (Expr.Name x pos) (tC v):=⟨ya h5 h6 h7 h8⟩
theorem eP{X:Cx}(h5:Gl X x)(h6:X.mg x=none)(h7:bootBuiltins x=some u)(h8:RelV v u)(h9:autoParam (x≠Str.ofString "__name__") qau._auto_1)(h10:autoParam ((x==Str.ofString "__debug__")=false) qau._auto_1):QE X (Expr.Name x pos) (tC v):=⟨yd h5 h6 h7 h8 h9 h10⟩
theorem vS(h4:QE X a ta):QE X (Expr.UnaryOp UnaryOp.Not a pos) (uY ta):=⟨AY h4.out⟩
theorem lH{r:V->Hp->VK->Prop}(h6:UnR X (unaryOp op) r)(h7:QE X a ta):QE X (Expr.UnaryOp op a pos) (tUn r ta):=⟨Cz h6 h7.out⟩
theorem aX(h8:OpR X (binaryOp op) r)(h9:QE X a ta)(h10:QE X b tb):QE X (Expr.BinOp a op b pos) (tOp r ta tb):=⟨Cd h8 h9.out h10.out⟩
theorem kG(h8:OpR X (compareOp op) r)(h9:QE X a ta)(h10:QE X b tb)(h11:behindInMarks op b=false):QE X (Expr.Compare a [op] [b] pos) (tOp r ta tb):=⟨ym h8 h9.out h10.out h11⟩
theorem mR(h12:OpR X (compareOp op) r)(h13:OpR X (compareOp op') r')(h14:QE X a ta)(h15:QE X b tb)(h16:QE X c tc)(h17:autoParam (lastMarks [op,op'] [b,c]=false) qau._auto_1):QE X (Expr.Compare a [op,op'] [b,c] pos) (rm r r' ta tb tc):=⟨vR h12 h13 h14.out h15.out h16.out h17⟩
theorem jN(h5:QE X a t):QE X (Expr.BoolOp op [a] pos) t:=⟨AZ h5.out⟩
theorem jP{X:Cx}{a:Expr}{b:Expr}{ta:TE}{tb:TE}{pos:Pos}{rest:List Expr}(h7:QE X a ta)(h8:QE X (Expr.BoolOp BoolOp.And (b ::rest) pos) tb):QE X (Expr.BoolOp BoolOp.And (a ::b ::rest) pos) (wo ta tb):=⟨zM h7.out h8.out⟩
theorem Cn{X:Cx}{a:Expr}{b:Expr}{ta:TE}{tb:TE}{pos:Pos}{rest:List Expr}(h7:QE X a ta)(h8:QE X (Expr.BoolOp BoolOp.Or (b ::rest) pos) tb):QE X (Expr.BoolOp BoolOp.Or (a ::b ::rest) pos) (Az ta tb):=⟨BQ h7.out h8.out⟩
theorem gG(h8:QT X c tA)(h9:QE X a ta)(h10:QE X b tb):QE X (Expr.IfExp c a b pos) (tIf tA ta tb):=⟨v3 h8.out h9.out h10.out⟩
theorem lh(h4:QA X es t):QE X (Expr.List es pos) (Bb t):=⟨AG h4.out⟩
theorem aW(h5:QA X es t):QE X (Expr.Tuple es x1 pos) (xR t):=⟨A1 h5.out⟩
theorem eA{X:Cx}{e:Expr}{te:TE}{lo:Option Expr}{hi:Option Expr}{tl:TO}{th:TO}{pos:Pos}{p2:Pos}{r:V->Option Int->Option Int->Hp->VK->Prop}(h10:SlR X r)(h11:QE X e te)(h12:QO X lo tl)(h13:QO X hi th):QE X (Expr.Subscript e (Expr.Slice lo hi none p2) pos) (tSl r te tl th):=⟨v7 h10 h11.out h12.out h13.out⟩
theorem B9(h7:IxR X r)(h8:QE X a ta)(h9:QE X b tb)(h10:n9 b):QE X (Expr.Subscript a b pos) (tOp r ta tb):=⟨Cp h7 h8.out h9.out h10⟩
theorem ie{X:Cx}{cl:List (Str×Addr)}(h12:kQ X scope cl M ι x)(h13:X.calm=true)(h14:QI X (Expr.Name x px) iter wi)(h15:∀(C:Addr) (s₀:Shared) (H₀:Hp) (ex:List Addr),QE (blk X scope cl (M++[x]) C s₀ H₀ ex) elt te)(h16:autoParam (∀(v:Value),foldedSetIterable iter X.env v=pure v) qau._auto_1):QE X (Expr.ListComp elt [Comprehension.mk (Expr.Name x px) iter [] 0] scope pos) (qj wi ι te):=⟨yt h12 h13 h14.out (fun z0 z1 z2 z3=>(h15 z0 z1 z2 z3).out) h16⟩
theorem i3{X:Cx}{x:Str}(h15:bH X.prog X.w X.K X.mg X.base (CXE X.prog X.w) k f fd ps sp)(h16:dy k X.A)(h17:Gl X x)(h18:X.mg x=some (Value.ref f))(h19:PySem.W.keepIn X.K (Value.ref f)=true)(h20:Binds X.K fd ps ds)(h21:Vals dvs ds)(h22:Thr X W)(h23:QA X (e ::es) t)(h24:autoParam ((x==Str.ofString "__debug__")=false) qau._auto_1)(h25:autoParam (starEach (e ::es) X.env=(false,eval e X.env) ::starEach es X.env) qau._auto_1)(h26:autoParam ((List.any (backTo pos (starEach es X.env)) fun x=>x.fst)=false) qau._auto_1):QE X (Expr.Call (Expr.Name x p) (e ::es) [] pos) (oA sp dvs W t):=⟨vU h15 h16 h17 h18 h19 h20 h21 h22 h23.out h24 h25 h26⟩
theorem b6{X:Cx}{x:Str}{p:Pos}{pos:Pos}{e:Expr}{es:List Expr}{t:TA}{id:String}{r:List V->Hp->VK->Prop}(h9:gw X (Value.builtin id) r)(h10:Gl X x)(h11:X.mg x=none)(h12:bootBuiltins x=some (Value.builtin id))(h13:QA X (e ::es) t)(h14:autoParam (x≠Str.ofString "__name__") qau._auto_1)(h15:autoParam ((x==Str.ofString "__debug__")=false) qau._auto_1)(h16:autoParam (starEach (e ::es) X.env=(false,eval e X.env) ::starEach es X.env) qau._auto_1)(h17:autoParam ((List.any (backTo pos (starEach es X.env)) fun x=>x.fst)=false) qau._auto_1):QE X (Expr.Call (Expr.Name x p) (e ::es) [] pos) (tCB r t):=⟨xj h9 h10 h11 h12 h13.out h14 h15 h16 h17⟩
theorem ij{X:Cx}{x:Str}{r:List V->Hp->VK->Prop}(h9:gw X (Value.type T) r)(h10:Gl X x)(h11:X.mg x=none)(h12:bootBuiltins x=some (Value.type T))(h13:QA X (e ::es) t)(h14:autoParam (x≠Str.ofString "__name__") qau._auto_1)(h15:autoParam ((x==Str.ofString "__debug__")=false) qau._auto_1)(h16:autoParam (starEach (e ::es) X.env=(false,eval e X.env) ::starEach es X.env) qau._auto_1)(h17:autoParam ((List.any (backTo pos (starEach es X.env)) fun x=>x.fst)=false) qau._auto_1):QE X (Expr.Call (Expr.Name x p) (e ::es) [] pos) (tCB r t):=⟨tW h9 h10 h11 h12 h13.out h14 h15 h16 h17⟩
theorem zA{X:Cx}{o:Expr}{e:Expr}{es:List Expr}{to:TE}{t:TA}{name:Str}{apos:Pos}{cpos:Pos}{T:String}{id:String}{r:V->List V->Hp->VK->Prop}(h12:PlainAttrs T)(h13:Slot T name id)(h14:typeOf (Value.builtin id)=pure (Value.type "method_descriptor"))(h15:MtR X id r)(h16:QE X o to)(h17:QA X (e ::es) t)(h18:autoParam (attributeBase o name X.env (eval o X.env)=eval o X.env) qau._auto_1)(h19:autoParam ((((List.all (backTo cpos (starEach (e ::es) X.env)) fun x=>!x.fst)&&List.all (backToKw cpos (keywordEach [] X.env)) fun x=>Option.isSome x.fst)&&Decidable.decide ((List.length (e ::es)+List.length ([]:List Keyword)+if List.isEmpty ([]:List Keyword)=true then 0 else 1)<30))=true) qau._auto_1)(h20:autoParam ((apos.endLine==cpos.line)=true) qau._auto_1)(h21:autoParam (starEach (e ::es) X.env=(false,eval e X.env) ::starEach es X.env) qau._auto_1)(h22:autoParam ((List.any (backTo cpos (starEach es X.env)) fun x=>x.fst)=false) qau._auto_1):QE X (Expr.Call (Expr.Attribute o name apos) (e ::es) [] cpos) (tBM X.K T r to t):=⟨Cw h12 h13 h14 h15 h16.out h17.out h18 h19 h20 h21 h22⟩
theorem u6{X:Cx}{o:Expr}{to:TE}{name:Str}{apos:Pos}{cpos:Pos}{T:String}{id:String}{r:V->List V->Hp->VK->Prop}(h9:PlainAttrs T)(h10:Slot T name id)(h11:typeOf (Value.builtin id)=pure (Value.type "method_descriptor"))(h12:MtR X id r)(h13:QE X o to)(h14:autoParam (attributeBase o name X.env (eval o X.env)=eval o X.env) qau._auto_1)(h15:autoParam ((apos.endLine==cpos.line)=true) qau._auto_1):QE X (Expr.Call (Expr.Attribute o name apos) [] [] cpos) (yQ X.K T r to):=⟨AB h9 h10 h11 h12 h13.out h14 h15⟩
theorem fL:QO X none nZ:=⟨xX ⟩
theorem fN(h3:QE X e te):QO X (some e) (vB te):=⟨yb h3.out⟩
theorem ak:QA X [] gD:=⟨Ap ⟩
theorem ae(h5:QE X e te)(h6:QA X es t)(h7:autoParam (isStar e=false) qau._auto_1):QA X (e ::es) (cK te t):=⟨vf h5.out h6.out h7⟩
theorem tu(h8:OpR X (compareOp op) r)(h9:QE X a ta)(h10:QE X b tb)(h11:behindInMarks op b=false):QT X (Expr.Compare a [op] [b] pos) (sE (tOp r ta tb)):=⟨xD h8 h9.out h10.out h11⟩
theorem fc(h4:QT X a tA):QT X (Expr.UnaryOp UnaryOp.Not a pos) (A7 tA):=⟨AE h4.out⟩
theorem b8{X:Cx}(h3:QE X a ta)(h4:∀(whole:Sem Value),
 isTrue a X.env whole=do
  let v <- whole
  standAt (Expr.pos a)
  holding [v] (truthy v)):QT X a fun σ H Q=>ta σ H fun x H'=>∃ k,ua X.K x H' k /\ Q k H':=⟨uV h3.out h4⟩
theorem gU(h3:QW X e t):QT X e t:=⟨PW.pt h3.out⟩
theorem jz(h4:QT X a tA):QW X (Expr.BoolOp BoolOp.And [a] pos) tA:=⟨yo h4.out⟩
theorem jH(h4:QT X a tA):QW X (Expr.BoolOp BoolOp.Or [a] pos) tA:=⟨zT h4.out⟩
theorem mK{X:Cx}{a:Expr}{b:Expr}{pos:Pos}{tA:TT}{tB':TT}{rest:List Expr}(h7:QT X a tA)(h8:QW X (Expr.BoolOp BoolOp.And (b ::rest) pos) tB'):QW X (Expr.BoolOp BoolOp.And (a ::b ::rest) pos) (Bv tA tB'):=⟨Am h7.out h8.out⟩
theorem kg{X:Cx}{a:Expr}{b:Expr}{pos:Pos}{tA:TT}{tB':TT}{rest:List Expr}(h7:QT X a tA)(h8:QW X (Expr.BoolOp BoolOp.Or (b ::rest) pos) tB'):QW X (Expr.BoolOp BoolOp.Or (a ::b ::rest) pos) (tOr tA tB'):=⟨Cf h7.out h8.out⟩
theorem hZ{X:Cx}(h6:Gl X (Str.ofString "range"))(h7:X.mg (Str.ofString "range")=none)(h8:QA X [a] ta)(h9:autoParam (starEach [a] X.env=[(false,eval a X.env)]) qau._auto_1):QI X tg (Expr.Call (Expr.Name (Str.ofString "range") p) [a] [] pos) (sH ta):=⟨uw h6 h7 h8.out h9⟩
theorem yC{X:Cx}(h4:QE X l tl):QI X tg l (v5 X.K tl):=⟨yK h4.out⟩
theorem pd{X:Cx}(h4:QE X l tl):QI X tg l (zK X.K tl):=⟨Bt h4.out⟩
theorem Be{X:Cx}{pos:Pos}(h7:List.Nodup X.N)(h8:X.N[i]?=some x)(h9:Loc X.env.scope x)(h10:QE X e te)(h11:autoParam (swapsWith e (some (Expr.Name x pos')) pos.line X.env=pure false) qau._auto_1)(h12:autoParam (X.fn x=true \/ List.lookup x X.env.scope.names=some NameKind.local) qau._auto_1):QS X (Stmt.Assign [Expr.Name x pos'] e pos) (rK te (eU i)):=⟨Aw h7 h8 h9 h10.out h11 h12⟩
theorem Ay{X:Cx}(h9:List.Nodup X.N)(h10:X.N[i]?=some x)(h11:Loc X.env.scope x)(h12:QE X e te)(h13:PIp X op ti)(h14:autoParam (X.fn x=true \/ List.lookup x X.env.scope.names=some NameKind.local) qau._auto_1):QS X (Stmt.AugAssign (Expr.Name x pos') op e pos) (yN i te ti):=⟨zV h9 h10 h11 h12.out h13 h14⟩
theorem bE(h8:QT X c tc)(h9:QSs X a t)(h10:QSs X b u):QS X (Stmt.If c a b pos) (Ao tc t u):=⟨Cg h8.out h9.out h10.out⟩
theorem aH(h4:QE X e te):QS X (Stmt.Return (some e) pos) (wV te):=⟨Bx h4.out⟩
theorem pB{X:Cx}{pos:Pos}(h4:QE X e te)(h5:autoParam (swapsWith e none pos.line X.env=pure false) qau._auto_1):QS X (Stmt.Expr e pos) (kj te):=⟨ye h4.out h5⟩
theorem pL{X:Cx}(h6:PassesOwn (model X.prog X.w) X.A X.env X.xe)(h7:QT X c tc)(h8:QSs X body tb):QS X (Stmt.While c body [] pos) (rq tc tb):=⟨wt h6 h7.out h8.out⟩
theorem jL{X:Cx}(h8:PassesOwn (model X.prog X.w) X.A X.env X.xe)(h9:X.calm=true)(h10:QI X tg iter wi)(h11:QG X tg g)(h12:QSs X body tb)(h13:autoParam (∀(x:Value),foldedSetIterable iter X.env x=pure x) qau._auto_1):QS X (Stmt.For tg iter body [] pos) (xb wi g tb):=⟨Al h8 h9 h10.out h11.out h12.out h13⟩
theorem zJ{X:Cx}{tb:XW->TS}(h12:X.stack=X.env ::X.outer /\ X.env.frame=some X.env.locals)(h13:∀(pn:List (Addr×Obj)) (xe:Value->Shared->Prop) (W:XW),Thr (hU X pn xe) W->PassesOwn (model X.prog X.w) X.A X.env xe->QSs (hU X pn xe) body (tb W))(h14:Gl X x)(h15:X.mg x=some (Value.ref T))(h16:∀(a:Addr),QSs (hand X a) (b₀ ::suite) ts)(h17:Thr X W₀)(h18:autoParam ((x==Str.ofString "__debug__")=false) qau._auto_1):QS X (Stmt.Try body [ExceptHandler.ExceptHandler (some (Expr.Name x np)) none (b₀ ::suite) hpos] [] [] pos) (tT X.K tb T ts none W₀):=⟨AQ h12 (fun z0 z1 z2 z3 z4=>(h13 z0 z1 z2 z3 z4).out) h14 h15 (fun z0=>(h16 z0).out) h17 h18⟩
theorem vF{X:Cx}{tb:XW->TS}(h14:X.stack=X.env ::X.outer /\ X.env.frame=some X.env.locals)(h15:List.Nodup X.N)(h16:X.N[i]?=some n)(h17:List.lookup n X.env.scope.names=some NameKind.local)(h18:∀(pn:List (Addr×Obj)) (xe:Value->Shared->Prop) (W:XW),Thr (hU X pn xe) W->PassesOwn (model X.prog X.w) X.A X.env xe->QSs (hU X pn xe) body (tb W))(h19:Gl X x)(h20:X.mg x=some (Value.ref T))(h21:∀(a:Addr),QSs (hand X a) (b₀ ::suite) ts)(h22:Thr X W₀)(h23:autoParam ((x==Str.ofString "__debug__")=false) qau._auto_1):QS X (Stmt.Try body [ExceptHandler.ExceptHandler (some (Expr.Name x np)) (some n) (b₀ ::suite) hpos] [] [] pos) (tT X.K tb T ts (some i) W₀):=⟨wG h14 h15 h16 h17 (fun z0 z1 z2 z3 z4=>(h18 z0 z1 z2 z3 z4).out) h19 h20 (fun z0=>(h21 z0).out) h22 h23⟩
theorem fY{X:Cx}(h4:List.Nodup X.N)(h5:X.N[i]?=some x)(h6:Loc X.env.scope x)(h7:autoParam (X.fn x=true \/ List.lookup x X.env.scope.names=some NameKind.local) qau._auto_1):QG X (Expr.Name x pos) (eU i):=⟨yn h4 h5 h6 h7⟩
theorem aJ:QSs X [] vY:=⟨yg ⟩
theorem av{X:Cx}{st:Stmt}{t:TS}(h3:QS X st t):QSs X [st] t:=⟨sY h3.out⟩
theorem ai{X:Cx}{st:Stmt}{rest:List Stmt}{t:TS}{u:TS}(h5:QS X st t)(h6:QSs X rest u):QSs X (st ::rest) (vC t u):=⟨uX h5.out h6.out⟩
end L2.E
namespace L2.P
open PySem PySem.Spec PyProof.Rows L2 L2.E
theorem dQ{K:PySem.W.Frag}{cls:String->Option Addr}{P:Program}{w:World}{mg:Str->Option Value}{base:Heap}{x qual:Str}{st:Stmt}{f:Addr}{fd:FuncData}{N ps:List Str}{k:Nat}{m:aa->OS}(F:Fun K x qual st f fd)(Sc:aN N ps (ay st))
  (hbody:∀(cdv:Value) (A:Around) (outer:List Env) (s:Shared) (H:Hp) (E:XK),dy k (A.deeper (envOfC qual (ay st) s.heap.objs.size f cdv)) ->
    ∃ t,QSs (jI (CXE P w) P w K mg base N qual (ay st) f cdv A outer s H E) (b4 st) t /\ JS K cls (fun C a _ H=>∀ H',au H H'->E C a H') t m):bH P w K mg base (CXE P w) (k+1) f fd ps (spP K cls (fnP ps.length N.length m)):=
 DF F Sc fun cdv A outer s H E hr=>let ⟨t,h1,h2⟩:=hbody cdv A outer s H E hr;⟨t,h1.out,h2⟩
end L2.P
namespace L2.E
open PySem PySem.Spec PyProof.Rows L2
section
variable{X:Cx}
theorem vP{x:V}{v:Value}{b:Bool}(r:RelV x v):(v==Value.bool b)=decide (x=.bl b):=by
 cases x<;>first
  |(cases r;cases b<;>rfl)
  |(obtain⟨t,rfl⟩:=r;cases b<;>rfl)
  |(rename_i c;cases r;cases c<;>cases b<;>rfl)
theorem q9{x:V}{v:Value}{b:Bool}(r:RelV x v):plainIs v (.bool b)=true:=by
 cases x<;>first
  |(cases r;rfl)
  |(obtain⟨t,rfl⟩:=r;rfl)
theorem oH:OpR X (compareOp .Is) (fun x y H Q=>∃ b,y=.bl b /\ Q (.bl (decide (x=.bl b))) H):=by
 intro pins s σ H x y v u Q I rx ry h;obtain⟨b,rfl,q⟩:=h;cases ry;refine wpAny_is_plain (q9 rx) ?_;rw[vP rx]
 exact⟨.bl _,H,I,rfl,q⟩
end
end L2.E
namespace L2.P
open PySem PySem.Spec PyProof.Rows L2 L2.E
section
variable{K:PySem.W.Frag}{S H:Hp}
theorem xI{x:PV}{v:V}{b:Bool}(h:RdV K S H x v):decide (v=.bl b)=rn b x:=by
 cases x with
 |non=>rw[cT h];rfl
 |bl c=>rw[fC h];cases b<;>cases c<;>rfl
 |int c=>rw[bN h];rfl
 |str c=>rw[dJ h];rfl
 |lst xs=>obtain⟨p,vs,rfl,_⟩:=dR h;rfl
 |tup xs=>obtain⟨p,vs,rfl,_⟩:=cn h;rfl
theorem nV:JR K (fun x y H Q=>∃ b,y=.bl b /\ Q (.bl (decide (x=.bl b))) H) sq:=by
 intro S H x y v u rr Q I hx hy e k;unfold sq at e;split at e
 . rename_i b;cases e
   exact⟨b,fC hy,k _ S H (aE.refl I) (by rw[xI hx];exact eE)⟩
 . cases e
end
end L2.P
namespace L2.E
open PySem PySem.Spec PyProof.Rows L2
noncomputable def bq:List Value:=[.type "ValueError",.type "Exception",.type "BaseException",.type "object"]
noncomputable def bt:List Value->Bool
 |.ref _ ::r=>bt r
 |l=>l==bq
theorem gv{c:Addr}{r:List Value}:bt (.ref c ::r)=bt r:=by simp[bt]
theorem iL:∀{l:List Value},bt l=true->l.contains (.type "object")=true /\ l.contains (.type "BaseException")=true /\ l.isEmpty=false
 | .ref c ::r,e=>by
   rw[gv]at e;obtain⟨h1,h2,h3⟩:=iL e
   exact⟨by rw[List.contains_cons,h1,Bool.or_true],by rw[List.contains_cons,h2,Bool.or_true],rfl⟩
 |[],e=>by simp[bt,bq]at e
 | .type n ::r,e=>by
   have e':(Value.type n ::r)=bq:=by simpa [bt]using e
   rw[e'];decide
 |.none ::r,e=>by simp[bt,bq]at e
 |.bool b ::r,e=>by simp[bt,bq]at e
 |.int i t ::r,e=>by simp[bt,bq]at e
 |.str i t ::r,e=>by simp[bt,bq]at e
 |.builtin i ::r,e=>by simp[bt,bq]at e
 |.float i t ::r,e=>by simp[bt,bq]at e
 |.bytes i t ::r,e=>by simp[bt,bq]at e
 |.ellipsis ::r,e=>by simp[bt,bq]at e
theorem mJ(self:Value):∀{l:List Value},bt l=true->refuseLoop self "__setattr__" l=pure ()
 |.ref c ::r,e=>by rw[refuseLoop_ref];exact mJ self (by rw[gv]at e;exact e)
 |[],e=>by simp[bt,bq]at e
 | .type n ::r,e=>by
   have e':(Value.type n ::r)=bq:=by simpa [bt]using e
   rw[e'];exact PySem.F.store_ValueError.passes self
 |.none ::r,e=>by simp[bt,bq]at e
 |.bool b ::r,e=>by simp[bt,bq]at e
 |.int i t ::r,e=>by simp[bt,bq]at e
 |.str i t ::r,e=>by simp[bt,bq]at e
 |.builtin i ::r,e=>by simp[bt,bq]at e
 |.float i t ::r,e=>by simp[bt,bq]at e
 |.bytes i t ::r,e=>by simp[bt,bq]at e
 |.ellipsis ::r,e=>by simp[bt,bq]at e
noncomputable def lu(K:PySem.W.Frag)(C:Addr):Bool:=(PySem.W.clsIn K C).any fun cd=>bt cd.mro
structure lM(K:PySem.W.Frag)(C:Addr)(f:Str):Prop where
 hd:PySem.W.hasDictIn K C=true
 mr:lu K C=true
 sa:PySem.W.findIn K (.ref C) "__setattr__" = some (some (.builtin "object.__setattr__"))
 ga:PySem.W.findIn K (.ref C) "__getattribute__" = some (some (.builtin "BaseException.__getattribute__"))
 gt:PySem.W.findIn K (.ref C) "__getattr__" = some none
 na:PySem.W.findIn K (.ref C) f=some none
section
variable{prog:Program}{w:World}{A:Around}{E:Value->Shared->Prop}{s:Shared}{K:PySem.W.Frag}{x C:Addr}{name:Str}{v:Value}
open PySem.W in
theorem DK{ox:Obj}{od:Option Obj}{tk:Tok}{R:Result->Shared->Prop}(X:K.In s.heap)(I:InstAt s.heap x ox C od)(c:lM K C name)
  (h:wpAny (model prog w) A.in1 (Builtin.ObjectAttr.storeInOwnDict (.ref x) (.ref C) (.str name tk) name v false)
    (fun fin s'=>match fin with|.done f=>R (.ok f) s'|.again c'=>c'.quiet=true /\ codeAny (model prog w) A c' R s') (fun e s'=>R (.error e) s') s):
  codeAny (model prog w) A (.call (.builtin "object.__setattr__") ⟨[.ref x,.str name tk,v],[]⟩) R s:=by
 have SF:=PySem.F.store_object;obtain⟨cd,hc,ho⟩:=any_some (show(clsIn K C).any (fun cd=>bt cd.mro)=true from c.mr);obtain⟨q1,q2,q3⟩:=iL ho
 have sub:Looks (model prog w) s.heap (isInstance (.ref x) (.type "object")) true:=I.type.andThen (looks_mroIn X (by unfold mroIn;rw[hc,Option.bind_some,if_neg (by rw[q3];decide),q1]))
 refine codeAny_call_builtin SF.slot.plain SF.entry (@check_slot (model prog w) _ _ s "object.__setattr__" "object" "__setattr__" (.ref x) [.str name tk,v] [] _ SF.kind SF.split sub (SF.args (.ref x) (.str name tk) v) ?_)
 have hm:Looks (model prog w) s.heap (mroOf (.ref C)) cd.mro:=(looks_clsIn X hc).andThen .now
 rw[osa_eq,refuse_eq];refine wpAny_bind (wpAny_bind (I.type.here (wpAny_bind (hm.here ?_))));rw[mJ _ ho];exact wpAny_pure (wpAny_bind (I.type.here (wpAny_bind ((looks_findIn X c.na).here (wpAny_bind (Looks.here (r:=none) .now h))))))
open PySem.W in
theorem DU{ox:Obj}{vs:Array Value}{Q:Unit->Shared->Prop}(X:K.In s.heap)(hx:s.heap.get? x=some ox)(hcls:ox.cls=.ref C)(hdict:ox.dict=none)(hdat:ox.data=.fields vs)(c:lM K C name)
  (h:∀ h',h'.get? x=some { ox with dict:=some s.heap.objs.size }->h'.Ns1 s.heap.objs.size (fun y=>if y=name then some v else none)->(∀ b o,b≠x->s.heap.get? b=some o->h'.get? b=some o)->Q () { s with heap:=h',toks:=s.toks+2 }):
  wpAny (model prog w) A (setAttr (.ref x) name v) Q E s:=by
 obtain⟨oc,odi,oda,osl⟩:=ox
 dsimp only at hcls hdict hdat
 subst hcls hdict hdat
 have I:InstAt s.heap x ⟨.ref C,none,.fields vs,osl⟩ C none:=⟨hx,rfl,rfl,trivial⟩
 refine set_plain X I c.sa (DK (s:={ s with toks:=s.toks+1 }) X I c ?_);obtain⟨cd,hc,hd'⟩:=any_some c.hd
 have ne:s.heap.objs.size≠x:=Nat.ne_of_gt (Heap.lt_size hx)
 refine wpAny_bind (wpAny_pure (wpAny_bind (wpAny_bind (wpAny_loadPart hx (wpAny_bind (Looks.here (s:={ s with toks:=s.toks+1 }) (looks_clsIn X hc) ?_))))));rw[hd'];refine wpAny_bind (wpAny_alloc ?_)
 have hx1:(s.heap.push { cls:=.type "dict",data:=.dict #[] }).get? x=some ⟨.ref C,none,.fields vs,osl⟩:=Heap.get?_push_of_some _ hx
 refine wpAny_bind (wpAny_update hx1 ?_);refine wpAny_pure (a:=some s.heap.objs.size) (wpAny_bind (wpAny_pure (wpAny_bind ?_)))
 have e1:(s.heap.push { cls:=.type "dict",data:=.dict #[] }).get? s.heap.objs.size=some { cls:=.type "dict",data:=.dict #[] }:=Heap.get?_push_size s.heap rfl
 have e2:((s.heap.push { cls:=.type "dict",data:=.dict #[] }).update x fun o=>{ o with dict:=some s.heap.objs.size }).get? s.heap.objs.size=some { cls:=.type "dict",data:=.dict #[] }:=
  (Heap.get?_update_other _ _ (Ne.symm ne)).trans e1
 have n1:Heap.Ns1 ((s.heap.push { cls:=.type "dict",data:=.dict #[] }).update x fun o=>{ o with dict:=some s.heap.objs.size }) s.heap.objs.size (fun _=>none):=
  Heap.Ns1.of_empty ⟨_,#[],_,e2,rfl,(fun e he=>absurd he (by simp)),fun _=>rfl⟩
 refine wpAny_nsSet1 n1 fun h' hn2 hs2=>?_
 have hw:PySem.Within (fun _=>(none:Option Value)) ([]:List Str):=fun y hy=>absurd rfl hy
 obtain⟨oD,esD,epD,hoD,hdD,hcD⟩:=hn2.count (PySem.Within.cons name v hw);refine wpAny_bind (wpAny_lookBehind hoD (by rw[hdD];exact pastItsLine_dict (Nat.le_trans hcD (by simp))) ?_)
 have hx2:((s.heap.push { cls:=.type "dict",data:=.dict #[] }).update x fun o=>{ o with dict:=some s.heap.objs.size }).get? x=some ⟨.ref C,some s.heap.objs.size,.fields vs,osl⟩:=
  Heap.get?_update_self _ hx1 rfl
 exact wpAny_pure (h h' ((hs2.2 _ (Ne.symm ne)).trans hx2) hn2 fun b o hb e=>(hs2.2 b (Nat.ne_of_lt (Heap.lt_size e))).trans ((Heap.get?_update_other _ _ (Ne.symm hb)).trans (Heap.get?_push_of_some _ e)))
end
noncomputable def wY(a C:Addr)(dx:Option Addr)(h:Heap):Prop:=∃ o t,h.get? a=some o /\ o.cls=.ref C /\ o.dict=dx /\ o.data=.fields #[.ref t,.none,.none,.none,.bool false,.none]
noncomputable abbrev eR(a C:Addr)(dx:Option Addr):HO:=.ext (wY a C dx)
theorem sI{P:Program}{w:World}{H:Hp}{h:Heap}{a C:Addr}{dx:Option Addr}(x:wY a C dx h):b0 P w H h a (eR a C dx):=by
 refine⟨x,let ⟨o,_,e,_⟩:=x;⟨o,e⟩,fun h1 h2 p k=>?_⟩
 obtain⟨o,vs,e,r⟩:=p
 exact⟨o,vs,k o e,r⟩
theorem wY.exc{a C:Addr}{dx:Option Addr}{h:Heap}(x:wY a C dx h):vh a C dx h:=let ⟨o,t,e,c,d,f⟩:=x;⟨o,_,e,c,d,f,rfl⟩
section
variable{X:Cx}{pins:List (Addr×Obj)}{σ:St}{H:Hp}{s:Shared}{a C:Addr}{f:Str}{A:Around}{E:Value->Shared->Prop}
theorem uU{y:V}{u:Value}{Q:Unit->Shared->Prop}(I:Inv X pins σ H s)(e:H a=some (eR a C none))(c:lM X.K C f)(ry:RelV y u)
  (h:∀ s' d,H d=none->Inv X pins σ (upd (upd H a (eR a C (some d))) d (.xd [(f,y)])) s'->Q () s'):wpAny (model X.prog X.w) A (setAttr (.ref a) f u) Q E s:=by
 obtain⟨⟨o,tv,ho,hc,hd,hv⟩,_,_⟩:=I.hok a _ e
 refine DU I.kIn ho hc hd hv c fun h' h1 h2 h3=>?_
 have nd:H s.heap.objs.size=none:=I.hok.fresh (Nat.le_refl _)
 have ned:∀ b ob,s.heap.get? b=some ob->b≠s.heap.objs.size:=fun b ob q=>Nat.ne_of_lt (Heap.lt_size q)
 have nea:s.heap.objs.size≠a:=Ne.symm (ned a o ho)
 have off:∀ b,b≠a->b≠s.heap.objs.size->(upd (upd H a (eR a C (some s.heap.objs.size))) s.heap.objs.size (.xd [(f,y)])) b=H b:=fun b q1 q2=>by rw[aA q2,aA q1]
 have na:∀ b ob,H b=some ob->ob≠eR a C none->b≠a:=fun b ob q n z=>by rw[z,e]at q;exact n (Option.some.inj q).symm
 have nb:∀ b ob,H b=some ob->b≠s.heap.objs.size:=fun b ob q z=>by rw[z,nd]at q;cases q
 have un:Un (frs X.stack) [] H (upd (upd H a (eR a C (some s.heap.objs.size))) s.heap.objs.size (.xd [(f,y)])) s.heap h':=by
  have keep:∀ b ob,s.heap.get? b=some ob->H b=none->h'.get? b=some ob:=fun b ob q n=>h3 b ob (fun z=>by rw[z,e]at n;cases n) q
  refine⟨fun b ob q n _ _=>keep b ob q n,fun b ob q n _ _=>⟨ob.slots,keep b ob q n⟩,fun b ob q n _=>?_,fun b ob q _=>?_,fun b xs q=>?_,fun b ob xs q=>?_,fun b ps q=>⟨#[],?_⟩⟩
  . rw[off b (fun z=>by rw[z,e]at n;cases n) (ned b ob q)];exact n
  . by_cases z:b=a
    . subst z;exact⟨_,h1⟩
    . exact⟨ob,h3 b ob z q⟩
  . rw[off b (na b _ q (by intro z;cases z)) (nb b _ q)];exact q
  . rw[off b (na b _ q (by intro z;cases z)) (nb b _ q)];exact q
  . rw[off b (na b _ q (by intro z;cases z)) (nb b _ q),q];simp
 have hok:HOk X.prog X.w (upd (upd H a (eR a C (some s.heap.objs.size))) s.heap.objs.size (.xd [(f,y)])) h':=fun b ob q=>by
  by_cases zb:b=s.heap.objs.size
  . subst zb;rw[az]at q;cases q
    refine⟨_,h2,fun g=>?_⟩
    show bb (List.lookup g [(f,y)]) (if g=f then some u else none)
    by_cases z:g=f
    . subst z;simp[List.lookup,bb,ry]
    . have zz:(g==f)=false:=beq_eq_false_iff_ne.mpr z
      simp[List.lookup,zz,z,bb]
  . rw[aA zb]at q
    by_cases za:b=a
    . subst za;rw[az]at q;cases q;exact sI ⟨_,tv,h1,hc,rfl,hv⟩
    . rw[aA za]at q
      refine(I.hok b ob q).ll (fun b' u' hb' r=>h3 b' u' ?_ r) (fun b' r=>?_) fun b' xs r=>?_
      . rcases hb' with z|z
        . rw[z];exact za
        . exact na b' _ z (by intro z;cases z)
      . rw[off b' (na b' _ r (by intro z;cases z)) (nb b' _ r)];exact r
      . rw[off b' (na b' _ r (by intro z;cases z)) (nb b' _ r)];exact r
 exact h _ s.heap.objs.size nd (I.call (g':=s.gens) (t':=s.toks+2) (d':=s.drawn) (ch:=[]) un hok I.bare (fun b z=>absurd z (by simp)))
end
theorem bk:builtinKind "BaseException.__getattribute__" = some .slot:=by decide +kernel
theorem bs:splitId "BaseException.__getattribute__" = some ("BaseException","__getattribute__"):=by decide +kernel
section
variable{prog:Program}{w:World}{A:Around}{E:Value->Shared->Prop}{s:Shared}{K:PySem.W.Frag}{x C:Addr}{name:Str}{v:Value}{tk:Tok}
open PySem.W in
theorem ckX{Q:Unit->Shared->Prop}(sub:Looks (model prog w) s.heap (isInstance (.ref x) (.type "BaseException")) true)(q:Q () s):wpAny (model prog w) A (checkBuiltinCall "BaseException.__getattribute__" ⟨.ref x ::[.str name tk],[]⟩) Q E s:=by
 have ha:argsOk "BaseException.__getattribute__" ⟨.ref x ::[.str name tk],[]⟩:=PySem.F.args_bexc_ga (.ref x) (.str name tk)
 exact @check_slot (model prog w) A E s "BaseException.__getattribute__" "BaseException" "__getattribute__" (.ref x) [.str name tk] [] Q bk bs sub ha q
end
section
variable{prog:Program}{w:World}{A:Around}{E:Value->Shared->Prop}{hh:Heap}{g:Array GenState}{d:Drawn}{t:Nat}{os:OsState}{K:PySem.W.Frag}{x C:Addr}{name:Str}{v:Value}{tk:Tok}
open PySem.W in
theorem D9{Q:Fin->Shared->Prop}(L0:Looks (model prog w) hh (typeOf (.ref x)) (.ref C))(L3:Looks (model prog w) hh (Builtin.ObjectAttr.find (.ref x) (.ref C) name) (Builtin.ObjectAttr.Found.value v))(h:Q (.done (.ret v)) ⟨hh,g,d,t,os⟩):
  wpAny (model prog w) A (Builtin.«object.__getattribute__» ⟨[.ref x,.str name tk],[]⟩) Q E ⟨hh,g,d,t,os⟩:=by
 have es:slotArgs "__getattribute__" 1 ⟨[.ref x,.str name tk],[]⟩=pure (.ref x,[.str name tk]):=by rfl
 have ea:Builtin.ObjectAttr.attrName (.str name tk)=pure name:=by rfl
 unfold Builtin.«object.__getattribute__»;rw[es];refine wpAny_bind (wpAny_pure ?_);dsimp only;rw[ea];refine wpAny_bind (wpAny_pure ?_);refine wpAny_bind (L0.at ?_);refine wpAny_bind (L3.at ?_);exact wpAny_pure h
end
section
variable{prog:Program}{w:World}{A:Around}{E:Value->Shared->Prop}{s:Shared}{K:PySem.W.Frag}{x C:Addr}{name:Str}{v:Value}
open PySem.W in
theorem DX{ox od:Obj}{expr:Bool}{Q:Value->Shared->Prop}(X:K.In s.heap)(I:InstAt s.heap x ox C (some od))(c:lM K C name)(hl:lookIn name od=some (some v))(hv:handedIn v=true)(h:Q v { s with toks:=s.toks+1 }):
  wpAny (model prog w) A (getAttr (.ref x) name expr) Q E s:=by
 have SG:=(PySem.F.attr_ValueError).ga;obtain⟨hh,g,d,t,os⟩:=s;obtain⟨cd,hc,ho⟩:=any_some (show(clsIn K C).any (fun cd=>bt cd.mro)=true from c.mr);obtain⟨q1,q2,q3⟩:=iL ho;have L0:=I.type (M:=model prog w);have L1:=looks_findIn (M:=model prog w) X c.ga;have L2:=looks_findIn (M:=model prog w) X c.gt;have L3:=looks_find (M:=model prog w) X I (findObj_own c.hd c.na rfl hl)
 have sub:Looks (model prog w) hh (isInstance (.ref x) (.type "BaseException")) true:=I.type.andThen (looks_mroIn X (by unfold mroIn;rw[hc,Option.bind_some,if_neg (by rw[q3];decide),q2]))
 have hx0:(expr&&onTheHeap (Value.builtin "BaseException.__getattribute__"))=false:=by cases expr<;>rfl
 unfold getAttr getAttrBy;refine wpAny_bind (wpAny_mkText (wpAny_holding (wpAny_bind (L0.at (wpAny_bind (L1.at ?_))))));show wpAny _ _ (getAttrByItsOwn _ _ _ _ _ _) _ _ _;unfold getAttrByItsOwn;refine wpAny_bind (L2.at ?_);have f3:=SG.bind (.ref x);unfold callGetattribute;rw[hx0];unfold boundAndCalled
 repeat (any_goals (first|assumption|wp_step))
 show codeAny _ _ (.call (.builtin "BaseException.__getattribute__") ⟨.ref x ::[.str name t],[]⟩) _ ⟨hh,g,d,t+1,os⟩;refine codeAny_call_builtin SG.plain PySem.F.entry_bexc_ga ?_;refine ckX (s:=⟨hh,g,d,t+1,os⟩) sub ?_;refine D9 L0 L3 ?_
 have e0:handedOut v=pure v:=handedOut_of hv
 dsimp only;rw[e0];exact wpAny_pure h
end
section
variable{X:Cx}{pins:List (Addr×Obj)}{σ:St}{H:Hp}{s:Shared}{a C d:Addr}{f:Str}{A:Around}{E:Value->Shared->Prop}
theorem wD{b:Bool}{fs:List (Str×V)}{v:V}{Q:Value->Shared->Prop}(I:Inv X pins σ H s)(e:H a=some (jb a C (some d)))(hd:H d=some (.xd fs))(c:lM X.K C f)(l:fs.lookup f=some v)
  (h:∀ u s',Inv X pins σ H s'->RelV v u->Q u s'):wpAny (model X.prog X.w) A (getAttr (.ref a) f b) Q E s:=by
 obtain⟨⟨o,vs,ho,hc,hdd,hv,hz⟩,_,_⟩:=I.hok a _ e;obtain⟨mA,n1,r⟩:=I.hok d _ hd;obtain⟨u,hu,ru⟩:=bb.some_of (v:=v) (o:=mA f) (by rw[<- l];exact r f);obtain⟨od,hod,hl⟩:=uk n1
 have J:PySem.W.InstAt s.heap a o C (some od):=⟨ho,hc,by unfold PySem.W.notCls;rw[hv],by rw[hdd];exact hod⟩
 exact DX I.kIn J c (by rw[hl,hu]) (uI ru) (h u _ (I.tok _) ru)
noncomputable def wU(K:PySem.W.Frag)(ta:TE)(f:Str):TE:=fun σ H Q=>ta σ H fun x H1=>∃ a C d fs v,x=.ref a /\ H1 a=some (jb a C (some d)) /\ H1 d=some (.xd fs) /\ lM K C f /\ fs.lookup f=some v /\ Q v H1
theorem xv{e:Expr}{ta:TE}{pos:Pos}(he:PE X e ta)(hb:attributeBase e f X.env (eval e X.env)=eval e X.env:=by rfl):PE X (.Attribute e f pos) (wU X.K ta f):=by
 intro pins s σ H Q I h;refine x6 hb (thn (he pins s σ H _ I h) fun u s1 ⟨x,H1,I1,rx,a,C,d,fs,v,ex,ea,ed,c,l,q⟩=>?_);subst ex
 obtain rfl:u=Value.ref a:=rx
 exact wD I1 ea ed c l fun u' s2 I2 ru=>⟨v,H1,I2,ru,q⟩
noncomputable def wx(K:PySem.W.Frag)(ta tv:TE)(f:Str):TS:=fun D σ H=>tv σ H fun y H1=>ta σ H1 fun x H2=>∃ a C,x=.ref a /\ H2 a=some (eR a C none) /\ lM K C f /\ ∀ d,H2 d=none->D.nx σ (upd (upd H2 a (eR a C (some d))) d (.xd [(f,y)]))
theorem yu{o value:Expr}{ta tv:TE}{pos pos':Pos}(ha:PE X o ta)(hv:PE X value tv)(hs:swapsWith value (some (.Attribute o f pos')) pos.line X.env=pure false:=by rfl):PS X (.Assign [.Attribute o f pos'] value pos) (wx X.K ta tv f):=by
 intro pins s σ H D I h;refine plainObj_wpAny_Assign_Attribute (thn (hv pins s σ H _ I h) fun u s1 ⟨y,H1,I1,ry,q⟩=>thn (ha pins s1 σ H1 _ I1 q) fun ov s2 ⟨x,H2,I2,rx,a,C,ex,ea,c,q2⟩=>?_) hs;subst ex
 obtain rfl:ov=Value.ref a:=rx
 exact uU I2 ea c ry fun s3 d nd I3=>⟨σ,_,I3,q2 d nd⟩
end
noncomputable def kX(C:Addr)(f:Str):Sp:=fun vs H Q _=>∃ a v,vs=[.ref a,v] /\ H a=some (eR a C none) /\ ∀ d,H d=none->Q .non (upd (upd H a (eR a C (some d))) d (.xd [(f,v)]))
section
variable{prog:Program}{w:World}{A:Around}{E:Value->Shared->Prop}{h:Heap}{g:Array GenState}{d:Drawn}{t:Nat}{os:OsState}{K:PySem.W.Frag}
variable{nm q:Str}{C N:Addr}{bs bm bmB:List Value}{hdct:Bool}{sn:List Str}{sub:List Value}{ab:Bool}{col:Option Bool}{dd:Option Addr}{k0 k1 k2 k3 k5:Option Value}{B newId initId:String}
open PySem.W in
theorem Ae(F:ExcBaseFacts B newId initId bmB)(T:OwnTail h bmB bm){rest:List Value}{fI:Addr}{oI:Obj}{Q:Fin->Shared->Prop}(X:K.In h)
  (hC:h.get? C=some (excClassObj nm q C N bs bm hdct sn sub ab col dd k0 k1 k2 k3 k5 newId)) (hi:findIn K (.ref C) "__init__" = some (some (.ref fI)))
  (hfI:h.get? fI=some oI) (hfc:oI.cls=.type "function")
  (hq:∀ h' e,Heap.MadeExcOf h h' e (.ref C) rest ->
    wpAny (model prog w) A (call (.ref fI) (.ref e ::rest)) (fun r s'=>r=.none /\ Q (.done (.ret (.ref e))) s') E ⟨h',g,d,t,os⟩) (hrest:rest.length<=sizeLine):
  wpAny (model prog w) A (Builtin.«type.__call__» ⟨.ref C ::rest,[]⟩) Q E ⟨h,g,d,t,os⟩:=by
 repeat (first|with_reducible refine wpAny_loadPart_at hC ?_|with_reducible refine wpAny_madeBy_exc hC ?_|wp_step)
 refine codeAny_call_builtin_code (Code.quiet_builtin _ F.quiet) (wpAny_check_new_subT F T hC ?_);refine codeAny_exc_new_subT F T hC ?_ hrest;show wpAny _ _ _ _ _ _
 have hC₁:=Heap.get?_push_of_some { cls:=.ref C,data:=.fields #[.ref h.objs.size,.none,.none,.none,.bool false,.none] }
  (Heap.get?_push_of_some { cls:=.type "tuple",data:=.seq rest.toArray } hC)
 have hfI₁:=Heap.get?_push_of_some { cls:=.ref C,data:=.fields #[.ref h.objs.size,.none,.none,.none,.bool false,.none] }
  (Heap.get?_push_of_some { cls:=.type "tuple",data:=.seq rest.toArray } hfI)
 have X₁:K.In ((h.push { cls:=.type "tuple",data:=.seq rest.toArray }).push { cls:=.ref C,data:=.fields #[.ref h.objs.size,.none,.none,.none,.bool false,.none] }):=
  X.keeps fun b o e=>Heap.get?_push_of_some _ (Heap.get?_push_of_some _ e)
 have hget:((h.push { cls:=.type "tuple",data:=.seq rest.toArray }).push
   { cls:=.ref C,data:=.fields #[.ref h.objs.size,.none,.none,.none,.bool false,.none] }).get? (h.objs.size+1)=some
   { cls:=.ref C,data:=.fields #[.ref h.objs.size,.none,.none,.none,.bool false,.none] }:=by heap_get
 have hcC:(Value.ref C ::bm).contains (.ref C)=true:=by simp
 unfold isInstance
 repeat (first|with_reducible refine wpAny_loadPart_at hget ?_|(with_reducible refine wpAny_isSubtype_exc hC₁ ?_;rw[hcC])|wp_step)
 show wpAny _ _ (typeLookup (.ref C) _) _ _ _
 refine(looks_findIn (M:=model prog w) X₁ hi).at ?_
 refine wpAny_holding (wpAny_bind ?_);unfold bindSpecial;refine wpAny_bind (wpAny_typeOf (T:="function") ⟨_,hfI₁,hfc⟩ ?_);rw[if_pos (by decide)];refine wpAny_pure (wpAny_bind (wpAny_mono (hq _ (h.objs.size+1) ⟨fun b o hb=>Heap.get?_push_of_some _ (Heap.get?_push_of_some _ hb),Heap.get?_none_of_le (Nat.le_succ _),h.objs.size,hget,Heap.get?_none_of_le (Nat.le_refl _),?_⟩) (fun r s' hr=>?_) fun _ _ x=>x))
 . exact Heap.get?_push_of_some _ (Heap.get?_push_at rfl rfl)
 . obtain⟨rfl,hQ⟩:=hr
   wp_walk
   exact hQ
open PySem.W in
theorem vJ(F:ExcBaseFacts B newId initId bmB)(T:OwnTail h bmB bm){rest:List Value}{fI:Addr}{oI:Obj}{Q:Value->Shared->Prop}(X:K.In h)
  (hC:h.get? C=some (excClassObj nm q C N bs bm hdct sn sub ab col dd k0 k1 k2 k3 k5 newId)) (hi:findIn K (.ref C) "__init__" = some (some (.ref fI)))
  (hfI:h.get? fI=some oI) (hfc:oI.cls=.type "function")
  (hq:∀ h' e,Heap.MadeExcOf h h' e (.ref C) rest ->
    wpAny (model prog w) (A.under (.builtin "type.__call__" ⟨.ref C ::rest,[]⟩)) (call (.ref fI) (.ref e ::rest)) (fun r s'=>r=.none /\ Q (.ref e) s') E ⟨h',g,d,t,os⟩) (hrest:rest.length<=sizeLine):
  wpAny (model prog w) A (call (.ref C) rest) Q E ⟨h,g,d,t,os⟩:=by
 have f1:=tc_lookup;have f2:=tc_bind (.ref C)
 have hT:(⟨h,g,d,t,os⟩:Shared).TypeIs (.ref C) "type":=⟨_,hC,rfl⟩
 refine wpAny_call (codeAny_of_tree ?_);show wpAny _ _ (callAny (.ref C) _) _ _ _
 repeat (any_goals (first|assumption|with_reducible refine wpAny_loadPart_at hC ?_|wp_step))
 refine⟨rfl,?_⟩
 refine codeAny_call_builtin_at (Code.quiet_builtin _ (by decide +kernel)) entry_typeCall (wpAny_check_type_call_sub hC (Ae F T X hC hi hfI hfc (fun h' e hm=>?_) hrest));exact hq h' e hm
theorem rB{M:Model}{env:Env}{s:Shared}{x:Sem Value}{Q:Flow->Shared->Prop}(hbase:bm.contains (.type "BaseException")=true)(hh:A.handled=none)
  (h:wpAny M A x (fun v s₁=>∃ e dct tt sl,v=.ref e /\ s₁.heap.get? C=some (excClassObj nm q C N bs bm hdct sn sub ab col dd k0 k1 k2 k3 k5 newId) /\
    s₁.heap.get? e=some ⟨.ref C,dct,.fields #[.ref tt,.none,.none,.none,.bool false,.none],sl⟩ /\ E (.ref e) s₁) E s):
  wpAny M A (raiseStmt env (some x) none) Q E s:=by
 have hcB:(Value.ref C ::bm).contains (.type "BaseException")=true:=by rw[List.contains_cons,hbase,Bool.or_true]
 unfold raiseStmt;refine wpAny_bind (wpAny_mono h (fun v s₁ h₁=>?_) fun _ _ x=>x);obtain⟨e,dct,tt,sl,rfl,hC,he,hE⟩:=h₁;obtain⟨hp,g,d,tk,os⟩:=s₁
 repeat (first|with_reducible refine wpAny_loadPart_at he ?_|with_reducible refine wpAny_loadPart_at hC ?_|(with_reducible refine wpAny_isSubtype_exc hC ?_;rw[hcB])|wp_step)
 exact wpAny_raiseNew_none hh hE
end
structure XMk(K:PySem.W.Frag)(mg:Str->Option Value)(x:Str)(C fI:Addr)(bm:List Value)(f:Str):Prop where
 m:mg x=some (.ref C)
 lk:∃ nm q N bs hdct sn sub ab col dd k0 k1 k2 k3 k5,K.lookup C=some (excClassObj nm q C N bs bm hdct sn sub ab col dd k0 k1 k2 k3 k5 "ValueError.__new__")
 bx:bm.contains (.type "BaseException")=true
 tl:∀ h:Heap,K.In h->OwnTail h bq bm
 ini:PySem.W.findIn K (.ref C) "__init__" = some (some (.ref fI))
 fn:∃ o,K.lookup fI=some o /\ o.cls=.type "function"
 xc:lM K C f
section
variable{X:Cx}{x f:Str}{np cpos pos:Pos}{e₀:Expr}{t:TA}{W:XW}{C fI:Addr}{bm:List Value}{k:Nat}{fd:FuncData}{ps:List Str}
noncomputable def oh(C:Addr)(f:Str)(W:XW)(t:TA):TS:=fun D σ H=>t σ H fun vs H1=>∃ v,vs=[v] /\ ∀ a d H2,au H1 H2->H2 a=some (jb a C (some d))->H2 d=some (.xd [(f,v)])->W (.ref C) (some a) σ H2
theorem DG{X:Cx}{pins:List (Addr×Obj)}{σ:St}{H:Hp}{s:Shared}{h':Heap}{e C:Addr}{us:List Value}(I:Inv X pins σ H s)(hm:Heap.MadeExcOf s.heap h' e (.ref C) us):
  H e=none /\ Inv X pins σ (upd H e (eR e C none)) { s with heap:=h' }:=by
 obtain⟨t,he,_,_⟩:=hm.there
 exact⟨tR I hm.new,BR I hm.keeps hm.new (sI ⟨_,t,he,rfl,rfl,rfl⟩)⟩
theorem tY(M:XMk X.K X.mg x C fI bm f)(F:bH X.prog X.w X.K X.mg X.base (CXE X.prog X.w) k fI fd ps (kX C f))(hb:Binds X.K fd ps [])(hr:dy (k+1) X.A)(hT:Thr X W)(hg:Gl X x)(ha:PA X [e₀] t)
  (he:isStar e₀=false:=by rfl) (hd:(x==("__debug__":Str))=false:=by decide):
  PS X (.Raise (some (.Call (.Name x np) [e₀] [] cpos)) none pos) (oh C f W t):=by
 intro pins s σ H D I h;have FB:=PySem.F.excBase_ValueError;obtain⟨nm,q,N,bs,hdct,sn,sub,ab,col,dd,k0,k1,k2,k3,k5,lk⟩:=M.lk;obtain⟨oI,lI,cI⟩:=M.fn
 have hpl:(backTo cpos (starEach [e₀] X.env)).any (·.1)=false:=by rw[ia he];rfl
 have hsp:=ha cpos pins s σ H _ I h;rw[arm_exec_Raise]
 refine wpAny_bind (wpAny_standAt (rB (C:=C) (nm:=nm) (q:=q) (N:=N) (bs:=bs) (bm:=bm) (hdct:=hdct) (sn:=sn) (sub:=sub) (ab:=ab) (col:=col) (dd:=dd) (k0:=k0) (k1:=k1) (k2:=k2) (k3:=k3) (k5:=k5) (newId:="ValueError.__new__") M.bx hr.hd
  (wpAny_bind (wpAny_mono (wpAny_Call_ofName (kJ I hg M.m ?_ hd)) (fun v s₃ h₃=>wpAny_bind (wpAny_standAt (wpAny_pure h₃))) fun _ _ x=>x))))
 unfold callWith;refine wpAny_bind (wpAny_holding ?_);rw[ia he]at hsp;rw[ia he];refine Calls.evalArgs_plain (wpAny_mono hsp (fun us s2 h2=>wpAny_bind (wpAny_standAt ?_)) fun _ _ y=>y);obtain⟨vs,H2,I2,r,v,rfl,wv⟩:=h2;obtain⟨u,rfl,ru⟩:=vals1 r;obtain⟨hp,g,d,tk,os⟩:=s2
 have hpl':(backTo cpos ((false,eval e₀ X.env) ::starEach [] X.env)).any (·.1)=false:=rfl
 simp only[hpl'];have hC:=I2.kIn _ _ lk;refine wpAny_bind (wpAny_keeperOf_exc hC ?_);refine wpAny_bind (vJ FB (M.tl _ I2.kIn) I2.kIn hC M.ini (I2.kIn _ _ lI) cI (fun h' e hm=>?_) (by show 1<=sizeLine;decide));obtain⟨nE,I3⟩:=DG I2 hm
 have hsp3:kX C f [.ref e,v] (upd H2 e (eR e C none)) (fun z H4=>z=.non /\ ∃ dd,au H2 H4 /\ H4 e=some (eR e C (some dd)) /\ H4 dd=some (.xd [(f,v)])) (fun _ _ _=>False):=by
  refine⟨e,v,rfl,az,fun dd nd=>⟨rfl,dd,?_,?_,az⟩⟩
  . have ne:dd≠e:=fun z=>by rw[z,az]at nd;cases nd
    intro b o hb
    have nb:b≠e:=oZ hb nE
    have nd2:b≠dd:=fun z=>by rw[z]at hb;rw[aA ne,hb]at nd;cases nd
    rw[aA nd2,aA nb,aA nb];exact hb
  . have ne:e≠dd:=fun z=>by rw[<- z,az]at nd;cases nd
    rw[aA ne,az]
 have hl:([Value.ref e,u]++[]).length=ps.length:=by
  have e1:=F.len _ _ _ _ hsp3;rw[<- e1];rfl
 refine wpAny_call (codeAny_mono (F.run _ X.stack _ _ ⟨[Value.ref e,u],[]⟩ ([Value.ref e,u]++[]) [.ref e,v] _ _ (hr.make C [u] []) (I3.B7.make C [u] []) (hb _ [Value.ref e,u] I3.kIn hl) (.cons rfl (.cons ru .nil)) hsp3) fun r s' hq'=>?_)
 cases r with
 | error e'=>
   obtain⟨_,_,_,_,_,_,_,_,_,_,z⟩:=hq';exact z.elim
 | ok fl=>
   cases fl with
   |next=>exact False.elim hq'
   |brk=>exact False.elim hq'
   |cont=>exact False.elim hq'
   | ret u'=>
     obtain⟨z,H4,I4,rz,ez,dd',sm,h4,h5⟩:=I3.after hq';subst ez;obtain⟨⟨o4,tt,g4,c4,d4,f4⟩,_,_⟩:=I4.hok e _ h4
     refine⟨rz,wpAny_bind (wpAny_holding (wpAny_point (wpAny_pure ?_)))⟩
     obtain⟨oc,od,oda,osl⟩:=o4
     dsimp only at c4 d4 f4
     subst c4 d4 f4
     refine⟨e,some dd',tt,osl,rfl,I4.kIn _ _ lk,g4,?_⟩
     obtain⟨hh,gg,d2,t2,o2⟩:=s';have I5:=I4.write (x:=e) (e:=e) (o:=jb e C (some dd')) (t':=t2) (h':=hh) (by rw[h4];trivial) (.inl rfl) (fun b u hb q=>q) ⟨_,g4⟩ (vp (wY.exc ⟨_,tt,g4,rfl,rfl,rfl⟩))
     have ned:dd'≠e:=fun z=>by rw[z,h4]at h5;cases h5
     have sm2:au H2 (upd H4 e (jb e C (some dd'))):=fun b o hb=>by
      have nb:b≠e:=oZ hb nE
      rw[aA nb];exact sm b o hb
     exact hT pins σ _ _ e C (some dd') I5 ⟨az,_,_,g4,rfl,.inl rfl⟩ (wv e dd' _ sm2 az (by rw[aA ned];exact h5))
end
theorem yc{X:Cx}{e:Expr}{ta:TE}{f:Str}{pos:Pos}(he:QE X e ta)(hb:attributeBase e f X.env (eval e X.env)=eval e X.env:=by rfl):QE X (.Attribute e f pos) (wU X.K ta f):=⟨xv he.out hb⟩
theorem uP{X:Cx}{x f:Str}{np cpos pos:Pos}{e₀:Expr}{t:TA}{W:XW}{C fI:Addr}{bm:List Value}{k:Nat}{fd:FuncData}{ps:List Str}(M:XMk X.K X.mg x C fI bm f)(F:bH X.prog X.w X.K X.mg X.base (CXE X.prog X.w) k fI fd ps (kX C f))(hb:Binds X.K fd ps [])(hr:dy (k+1) X.A)(hT:Thr X W)(hg:Gl X x)(ha:QA X [e₀] t)
  (he:isStar e₀=false:=by rfl) (hd:(x==("__debug__":Str))=false:=by decide):QS X (.Raise (some (.Call (.Name x np) [e₀] [] cpos)) none pos) (oh C f W t):=⟨tY M F hb hr hT hg ha.out he hd⟩
theorem xJ{K:PySem.W.Frag}{G:Addr}{bm:List Value}(eG:gF K G bm)(q:PySem.W.excIn K G bq "ValueError.__new__" = true):∀ h:Heap,K.In h->OwnTail h bq (.ref G ::bm):=by
 intro h Xh;have O:=xC (mg:=fun _=>some (.ref G)) (x:="") Xh rfl q;obtain⟨tl,N,nm,q',bs,hdct,sn,sub,ab,col,dd,k0,k1,k2,k3,k5,mN,hc,hN,hni,T⟩:=O.obj;obtain⟨_,nm2,q2,N2,bs2,hd2,sn2,sub2,ab2,col2,dd2,j0,j1,j2,j3,j5,nid,lG⟩:=eG;have e:=Xh _ _ lG;rw[hc]at e
 have e1:tl=bm:=by
  have e':=Option.some.inj e
  unfold excClassObj at e';simp only[Obj.mk.injEq,Data.cls.injEq,ClassData.mk.injEq,List.cons.injEq]at e';exact e'.2.2.1.2.2.1.2
 subst e1;exact OwnTail.own hc hN hni T
theorem uM{K:PySem.W.Frag}{nm q:Str}{C N:Addr}{bs bm:List Value}{hdct:Bool}{sn:List Str}{sub:List Value}{ab:Bool}{col:Option Bool}{dd:Option Addr}{k0 k1 k2 k3 k5:Option Value}{newId:String}
  (l:K.lookup C=some (excClassObj nm q C N bs bm hdct sn sub ab col dd k0 k1 k2 k3 k5 newId)) (h:bt (.ref C ::bm)=true):lu K C=true:=by
 unfold lu PySem.W.clsIn;rw[l];exact h
theorem xP{P:Program}{w:World}{K:PySem.W.Frag}{mg:Str->Option Value}{base:Heap}{C fI:Addr}{fd:FuncData}{st:Stmt}{x qual:Str}{n0 n1 f:Str}(F:Fun K x qual st fI fd)(S:aN [n0,n1] [n0,n1] (ay st))(xc:lM K C f)
  (hbody:∀(cdv:Value) (A:Around) (outer:List Env) (s:Shared) (H:Hp) (E:XK),QSs (jI (CXE P w) P w K mg base [n0,n1] qual (ay st) fI cdv A outer s H E) (b4 st) (wx K (jw 0) (jw 1) f)):
  bH P w K mg base (CXE P w) 1 fI fd [n0,n1] (kX C f):=
 okX F S (fun vs H Q E h=>by obtain⟨a,v,rfl,_⟩:=h;rfl) fun cdv A outer s H vs Q E hr h=>by
  obtain⟨a,v,rfl,hH,q⟩:=h
  exact⟨_,(hbody cdv A outer s H E).out,_,rfl,_,rfl,a,C,rfl,hH,xc,fun d nd=>q d nd⟩
theorem wQ{X:Cx}{o value:Expr}{ta tv:TE}{f:Str}{pos pos':Pos}(ha:QE X o ta)(hv:QE X value tv)(hs:swapsWith value (some (.Attribute o f pos')) pos.line X.env=pure false:=by rfl):QSs X [.Assign [.Attribute o f pos'] value pos] (wx X.K ta tv f):=⟨sY (yu ha.out hv.out hs)⟩
end L2.E
namespace L2.P
open PySem PySem.Spec PyProof.Rows L2 L2.E
section
variable{K:PySem.W.Frag}{cls:String->Option Addr}{W:XW}{S H:Hp}
theorem uK{C:Addr}{c:String}{f:Str}{t:TA}{ma:aa->OA}(hc:cls c=some C)(ha:JA K cls W t ma):JS K cls W (oh C f W t) (oJ c f ma):=by
 intro Av G S₀ ρ σ S H D I p
 refine ha.goS I p fun xs vs S1 H1 I1 w1 r1 p1=>?_
 match xs,r1,p1 with
 | [x],r1,p1=>
   obtain⟨v,r,rfl,q1,r2⟩:=r1.cons_inv
   obtain rfl:=r2.nil_inv
   exact⟨v,rfl,fun a d H2 sm h4 h5=>p1 a C σ S1 H2 (I1.same sm) (au.refl _) ⟨hc,some d,h4,.inr ⟨d,[(f,v)],rfl,h5,rfl,.cons q1 .nil⟩⟩⟩
 |[],r1,p1=>exact p1.elim
 |_ ::_ ::_,r1,p1=>exact p1.elim
theorem kT{f:Str}{x:PV}:∀{fs:XF} {us:List (Str×V)},fs.map (·.1)=us.map (·.1)->aL K S (fs.map (·.2)) (us.map (·.2))->fs.lookup f=some x->∃ v,us.lookup f=some v /\ Rep K S x v
 |[],_,_,_,e=>by cases e
 |(k,y) ::fs,[],h,_,_=>by cases h
 | (k,y) ::fs,(k',u) ::us,h,r,e=>by
   simp only[List.map_cons,List.cons.injEq]at h r;obtain⟨h1,h2⟩:=h;obtain⟨v,t,e1,q1,r2⟩:=r.cons_inv;rw[List.cons.injEq]at e1;obtain⟨e1,e2⟩:=e1
   rw[List.lookup_cons]at e ⊢
   rw[<- h1]
   by_cases hk:(f==k)=true
   . rw[hk]at e ⊢
     have:y=x:=Option.some.inj e
     exact⟨u,rfl,by rw[<- this,e1];exact q1⟩
   . have hk':(f==k)=false:=by simpa using hk
     rw[hk']at e ⊢
     exact kT h2 (by rw[e2];exact r2) e
theorem yV{i:Nat}{f:Str}{under:String->Bool}(hX:∀ c C,cls c=some C->under c=true->lM K C f):JE K cls W (wU K (jw i) f) (tQ i f under):=by
 intro Av G S₀ ρ σ S H Q I p;unfold tQ at p;split at p
 . rename_i c fs e;obtain⟨v,e1,a,C,rfl,hc,dx,hx,hf⟩:=I.good i _ e;split at p
   . rename_i hu;split at p
     . rename_i x el
       rcases hf with rfl|⟨d,us,rfl,hd,hk,hr⟩
       . cases el
       . obtain⟨z,ez,rz⟩:=kT hk hr el
         exact⟨_,e1,a,C,d,us,z,rfl,hx,hd,hX c C hc hu,ez,p z S H (aE.refl I.sh) rz⟩
     . exact p.elim
   . exact p.elim
 . exact p.elim
theorem aL.rep{xs:List PV}{vs:List V}(h:aL K S xs vs)(k:Nat):aL K S (List.replicate k xs).flatten (List.replicate k vs).flatten:=by
 induction k with
 |zero=>exact .nil
 |succ k ih=>rw[List.replicate_succ,List.replicate_succ,List.flatten_cons,List.flatten_cons];exact h.append ih
end
end L2.P
namespace L2.P
open PySem
inductive Stp where
 |ix (k:Nat)|fd (f:Str)
noncomputable def nK:List Str->List OV->Str->Option OV
 |k ::ks,t ::ts,f=>if k=f then some t else nK ks ts f
 |_,_,_=>none
noncomputable def vG:List Str->List OV->Str->OV->List OV
 |k ::ks,t ::ts,f,u=>if k=f then u ::ts else t ::vG ks ts f u
 |_,ts,_,_=>ts
noncomputable def OV.at1:OV->Stp->Option OV
 |.ol ts,.ix k=>ts[k]?
 |.ob _ ks ts,.fd f=>nK ks ts f
 |_,_=>none
noncomputable def OV.yI:OV->Stp->OV->OV
 |.ol ts,.ix k,u=>.ol (ts.set k u)
 |.ob c ks ts,.fd f,u=>.ob c ks (vG ks ts f u)
 |t,_,_=>t
noncomputable def OV.get:OV->List Stp->Option OV
 |t,[]=>some t
 |t,s ::π=>(t.at1 s).bind fun u=>u.get π
noncomputable def OV.put:OV->List Stp->OV->OV
 |_,[],u=>u
 | t,s ::π,u=>match t.at1 s with
   |some t'=>t.yI s (t'.put π u)
   |none=>t
noncomputable def slT:Sl->Option OV
 |.tr _ t=>some t
 |.bo t=>some t
 |_=>none
noncomputable def iT(i:Nat)(ρ:aa):Option OV:=match ρ[i]? with
 |some (some s)=>slT s
 |_=>none
abbrev MP:=aa->Option (List Stp)
noncomputable def lD:MP:=fun _=>some []
noncomputable def pIx(i:Nat)(mp:MP)(mk:aa->OE):MP:=fun ρ=>match iT i ρ with
 | some t=>(match mp ρ with
   | some π=>(match t.get π with
     | some (.ol ts)=>(match mk ρ with
       | .ok r=>(match r.pv with
         |.int k=>(ixP ts.length k).map fun j=>π++[.ix j]
         |_=>none)
       |_=>none)
     |_=>none)
   |none=>none)
 |none=>none
noncomputable def subAt(i:Nat)(mp:MP)(ρ:aa):Option OV:=match iT i ρ with
 | some t=>(match mp ρ with
   |some π=>t.get π
   |none=>none)
 |none=>none
noncomputable def s9:List OV->Option (List PV)
 |[]=>some []
 |.sh x ::r=>(s9 r).map (x ::·)
 |_ ::_=>none
@[simp] theorem BD(xs:List PV):s9 (xs.map .sh)=some xs:=by
  induction xs with
  |nil=>rfl
  |cons x xs ih=>show(s9 (xs.map .sh)).map (x ::·)=_;rw[ih];rfl
noncomputable def Em(i:Nat)(mp:MP):aa->OE:=fun ρ=>match subAt i mp ρ with
 |some (.sh x)=>.ok (.sh x)
 | some (.ol ts)=>(match s9 ts with
   |some xs=>.ok (.al xs)
   |none=>.bad)
 |_=>.bad
noncomputable def i7(i:Nat)(mp:MP):aa->OT:=fun ρ=>match subAt i mp ρ with
 |some (.ol ts)=>.ok (!ts.isEmpty)
 |_=>.bad
inductive OD where
 |ok (t:OV)|exc (c:String) (fs:XF)|bad
inductive ODs where
 |ok (ts:List OV)|exc (c:String) (fs:XF)|bad
noncomputable def mD(me:aa->OE):aa->OD:=fun ρ=>match me ρ with
 |.ok (.sh x)=>.ok (.sh x)
 |.ok (.fr xs)=>.ok (.ol (xs.map .sh))
 |.ok (.al _)=>.bad
 |.exc c fs=>.exc c fs
 |.bad=>.bad
noncomputable def mDc(md:aa->OD)(mr:aa->ODs):aa->ODs:=fun ρ=>match md ρ with
 | .ok t=>(match mr ρ with
   |.ok ts=>.ok (t ::ts)
   |.exc c fs=>.exc c fs
   |.bad=>.bad)
 |.exc c fs=>.exc c fs
 |.bad=>.bad
noncomputable def ql(i:Nat)(md:aa->OD):aa->OS:=fun ρ=>match md ρ with
 |.ok t=>.nx (ρ.set i (some (.tr false t)))
 |.exc c fs=>.exc ρ c fs
 |.bad=>.bad
noncomputable def xo(i:Nat)(mp:MP)(ρ:aa)(k:OV->(OV->aa)->OS):OS:=match ρ[i]? with
 | some (some (.tr io t))=>(match mp ρ with
   | some π=>(match t.get π with
     |some u=>k u fun u'=>ρ.set i (some (.tr io (t.put π u')))
     |none=>.bad)
   |none=>.bad)
 |_=>.bad
inductive OX where
 |ok (ρ:aa) (s:Sl)|exc (ρ:aa) (c:String) (fs:XF)|bad
noncomputable def slO:OV->Sl
 |.sh x=>.sh x
 |t=>.tr false t
noncomputable def nC(i:Nat)(mp:MP):aa->OX:=fun ρ=>match ρ[i]? with
 | some (some (.tr io t))=>(match mp ρ with
   | some π=>(match t.get π with
     | some (.ol ts)=>(match ts.getLast? with
       |some x=>.ok (ρ.set i (some (.tr io (t.put π (.ol ts.dropLast))))) (slO x)
       |none=>.bad)
     |_=>.bad)
   |none=>.bad)
 |_=>.bad
noncomputable def nio:Sl->Bool
 |.tr true _=>false
 |.bo _=>false
 |_=>true
noncomputable def qt(i:Nat)(m:aa->OX):aa->OS:=fun ρ=>match m ρ with
 |.ok ρ' s=>if nio s then .nx (ρ'.set i (some s))else .bad
 |.exc ρ' c fs=>.exc ρ' c fs
 |.bad=>.bad
inductive OI where
 |ok (x:PV) (outs:List (Option OV))|exc (c:String) (fs:XF) (outs:List (Option OV))|bad
inductive Arg where
 |e (me:aa->OE)|t (i:Nat) (mp:MP)|b (i:Nat) (mp:MP)
noncomputable def EL(c:String)(f:List Sl->OI):aa->OD:=fun _=>match f [.tr true (.ob c [] [])]with
 |.ok .non (some t ::_)=>.ok t
 |_=>.bad
noncomputable def eC(i j:Nat)(mb:aa->OS):List PV->aa->OS
 |[],ρ=>.nx ρ
 |.tup [x,y] ::xs,ρ=>(mb ((ρ.set i (some (.sh x))).set j (some (.sh y)))).turn (eC i j mb xs)
 |_ ::_,_=>.bad
noncomputable def iu(k:Nat):List PV->List PV
 |[]=>[]
 |x ::xs=>.tup [.int k,x] ::iu (k+1) xs
noncomputable def lp(i j:Nat)(ml:aa->OE)(mb:aa->OS):aa->OS:=fun ρ=>(ml ρ).aP ρ fun r=>match qF r with
 |some xs=>eC i j mb (iu 0 xs) ρ
 |none=>.bad
noncomputable def eW(ml:aa->OE)(ι:List Nat)(me:aa->OE):aa->OE:=fun ρ=>(ml ρ).bind fun r=>match r.pv with
 |.tup xs=>noX (bA me (bU ι ρ) xs)
 |_=>.bad
noncomputable def mH(mc:aa->OT)(me:aa->OE)(ρ:aa):List PV->OA
 |[]=>.ok []
 | x ::xs=>(match mc (ρ++[some (.sh x)])with
   | .ok true=>(me (ρ++[some (.sh x)])).bP fun r=>(match fh r with
     |some y=>(mH mc me ρ xs).bP fun ys=>.ok (y ::ys)
     |none=>.bad)
   |.ok false=>mH mc me ρ xs
   |_=>.bad)
noncomputable def B4(ml:aa->OE)(ι:List Nat)(mc:aa->OT)(me:aa->OE):aa->OE:=fun ρ=>(ml ρ).bind fun r=>match r.pv with
 |.lst xs=>noX (mH mc me (bU ι ρ) xs)
 |_=>.bad
noncomputable def oW:PV->Option RV
 |.lst xs=>some (.sh (.tup xs))
 |.tup xs=>some (.sh (.tup xs))
 |_=>none
noncomputable def zp:PV->PV->Option RV
 |.tup (x ::xs),.tup ys=>if(x ::xs).length+ys.length<=lim then some (.sh (.tup (x ::xs++ys)))else none
 |_,_=>none
mutual
noncomputable def eJ:PV->PV->Bool
 |.non,y=>(match y with|.non=>true|_=>false)
 |.bl a,y=>(match y with|.bl b=>a==b|.int j=>(if a then 1 else 0)==j|_=>false)
 |.int i,y=>(match y with|.bl b=>i==(if b then 1 else 0)|.int j=>i==j|_=>false)
 |.str x,y=>(match y with|.str z=>x==z|_=>false)
 |.lst xs,y=>(match y with|.lst ys=>lW xs ys|_=>false)
 |.tup xs,y=>(match y with|.tup ys=>lW xs ys|_=>false)
noncomputable def lW:List PV->List PV->Bool
 |[],ys=>(match ys with|[]=>true|_ ::_=>false)
 |x ::xs,ys=>(match ys with|y ::ys=>eJ x y&&lW xs ys|[]=>false)
end
mutual
noncomputable def jl:PV->Nat->Bool
 |.str x,_=>x.cps.all (·<0x110000)
 |.lst xs,n=>(match n with|0=>false|n+1=>m8 xs n)
 |.tup xs,n=>(match n with|0=>false|n+1=>m8 xs n)
 |_,_=>true
noncomputable def m8:List PV->Nat->Bool
 |[],_=>true
 |x ::xs,n=>jl x n&&m8 xs n
end
noncomputable def cL:PV->PV->Option RV:=fun x y=>if(jl x 64&&jl y 64)=true then some (.sh (.bl (eJ x y)))else none
noncomputable def dh:PV->Bool
 |.lst _=>false
 |.tup _=>false
 |_=>true
noncomputable def pP:PV->PV->Option Bool
 |x,.tup ys=>if ys.all dh=true then some (ys.any fun y=>eJ y x)else none
 |x,.lst ys=>if ys.all dh=true then some (ys.any fun y=>eJ y x)else none
 |_,_=>none
noncomputable def gIn:PV->PV->Option RV:=fun x y=>(pP x y).map fun b=>.sh (.bl b)
noncomputable def ku:RV->Option (List PV)
 |.sh (.lst xs)=>some xs
 |.sh (.tup xs)=>some xs
 |.fr xs=>some xs
 |_=>none
noncomputable def i0(i:Nat)(ml:aa->OE)(mb:aa->OS):aa->OS:=fun ρ=>(ml ρ).aP ρ fun r=>match ku r with
 |some xs=>cJ i mb xs ρ
 |none=>.bad
end L2.P
namespace L2
open PySem PySem.Spec PyProof.Rows
section
variable{X:Cx}{pins:List (Addr×Obj)}{σ:St}{H:Hp}{s:Shared}{h':Heap}
theorem Inv.uc{t':Nat}{its:List Addr}{a:Addr}{o:HO}(I:Inv X pins σ H s)(k:∀ b u,b∉its->s.heap.get? b=some u->h'.get? b=some u)(hf:∀ b∈its,lP X pins H b)
  (hp:s.heap.objs.size<=a) (new:b0 X.prog X.w (upd H a o) h' a o):Inv X pins σ (upd H a o) { s with heap:=h',toks:=t' }:=by
 have hn:=I.hok.fresh hp
 have nit:∀ b u,H b=some u->b∉its:=fun b u e z=>by rw[(hf b z).1]at e;cases e
 refine I.step (g':=s.gens) (d':=s.drawn) (ch:=its) (fun b hb=>?_) (fun b u _ _ hc e _=>k b u hc e) (fun b u _ _ hc e _=>⟨u.slots,k b u hc e⟩)
  (fun b u _ q n=>by rw[aA (Nat.ne_of_lt (Nat.lt_of_lt_of_le (Heap.lt_size q) hp))];exact n)
  (fun b u hc e=>⟨u,k b u hc e⟩) (fun b xs q=>by rw[aA (aY q hn)];exact q) (fun b u xs q=>by rw[aA (aY q hn)];exact q) (fun b ps q=>⟨#[],by rw[aA (aY q hn),q];simp⟩) (fun m hm=>?_) (fun b u e=>?_) I.bare
 . obtain⟨_,f1,f2,f3,f4,f5⟩:=hf b hb
   exact⟨f3,f1,f4,f5⟩
 . obtain⟨ob,es,ep,ho,r⟩:=hm
   exact⟨ob,es,ep,k _ ob (fun z=>(hf _ z).2.1 rfl) ho,r⟩
 . by_cases hb:b=a
   . subst hb;rw[az]at e;cases e;exact new
   . rw[aA hb]at e
     refine(I.hok b u e).ll (fun c v hc q=>k c v ?_ q) (fun c q=>by rw[aA (aY q hn)];exact q) fun c xs q=>by rw[aA (aY q hn)];exact q
     rcases hc with z|z
     . rw[z];exact nit b u e
     . exact nit c _ z
end
noncomputable def Ite(K:PySem.W.Frag)(a:Addr):It:=
 ⟨fun i H=>∃ xs x,SqL K H a xs /\ xs[i]?=some x,fun i H v H'=>∃ t x,(∀ xs,SqL K H a xs->xs[i]?=some x) /\ H t=none /\ v=.ref t /\ H'=upd H t (.tup [.int i,x]),fun i H=>∃ xs,SqL K H a xs /\ xs.length<=i⟩
theorem uf{P:Program}{w:World}{K:PySem.W.Frag}{elts:List Expr}{k:Nat}{pos:Pos}(a e it:Addr)(hei:e≠it):
  Turn P w K (.Tuple elts k pos) (Ite K a) [e,it] e (fun i h=>(∃ old,IsEnum h e it i old) /\ h.IsListIter it a i) where
 mem:=by simp
 obj:=fun i h st b hb=>by
  obtain⟨⟨old,h1⟩,o,h2,c,d⟩:=st
  rcases List.mem_cons.mp hb with z|z
  . subst z;exact⟨_,h1,fun v z=>by cases z⟩
  . have z':b=it:=by simpa using z
    subst z';exact⟨o,h2,fun v z=>by rw[d]at z;cases z⟩
 keep:=fun i h h' st k=>by
  obtain⟨⟨old,h1⟩,h2⟩:=st
  exact⟨⟨old,k e (by simp) _ h1⟩,h2.at fun o x=>k it (by simp) o x⟩
 item:=by
  intro X hP hw hK hc i pins s σ H E I hf st hg;subst hP hw hK;obtain⟨xs,x,hq,hx⟩:=hg;obtain⟨its,rv,p,hz⟩:=I.list hq;obtain⟨u,hu,ru⟩:=rv.get hx;obtain⟨⟨old,he⟩,hit⟩:=st
  refine wpAny_pyNext_enum_item he hit p.isList (x:=u) (by simpa using hu) hei fun h1 ho hit1 hT hsz hk=>⟨_,rfl,?_⟩
  refine wpAny_letOwnedTupleGo_enum ho fun h2 he2 hs2=>?_
  have hT2:h2.get? s.heap.objs.size=some { cls:=.type "tuple",data:=.seq #[.int i s.toks,u] }:=(hs2.2 _ (Nat.ne_of_gt (Heap.lt_size he))).trans hT
  have nH:H s.heap.objs.size=none:=I.hok.fresh (Nat.le_refl _)
  refine⟨.ref s.heap.objs.size,upd H s.heap.objs.size (.tup [.int i,x]),I.uc (its:=[e,it]) (t':=s.toks+1) (fun b o hb q=>?_) hf (Nat.le_refl _) ?_,rfl,⟨_,x,fun ys hy=>by rw[I.pW hy hq];exact hx,nH,rfl,rfl⟩,⟨⟨u,by simpa using he2⟩,?_⟩,fun b hb=>?_⟩
  . have nb:b≠e /\ b≠it:=by simpa using hb
    exact(hs2.2 b nb.1).trans (hk b o nb.1 nb.2 q)
  . exact⟨⟨by show 2<=sizeLine;decide,.of hT2 rfl⟩,[.int i s.toks,u],.cons ⟨_,rfl⟩ (.cons ru .nil),⟨_,hT2,rfl,_,rfl⟩⟩
  . exact hit1.at fun o y=>(hs2.2 it hei.symm).trans y
  . have:b < s.heap.objs.size:=by
     rcases List.mem_cons.mp hb with z|z
     . subst z;exact Heap.lt_size he
     . have z':b=it:=by simpa using z
       subst z';obtain⟨_,y,_⟩:=hit;exact Heap.lt_size y
    rw[aA (Nat.ne_of_lt this)]
    exact(hf b hb).1
 done:=by
  intro X hP hw hK hc i pins s σ H E I hf st hg;subst hP hw hK;obtain⟨xs,hq,hx⟩:=hg;obtain⟨its,rv,p,hz⟩:=I.list hq;obtain⟨⟨old,he⟩,hit⟩:=st;obtain⟨f0,f1,f2,f3,f4,f5⟩:=hf it (by simp);have hl:=rv.length
  exact wpAny_pyNext_enum_end (I.ok.hd hc) he hit p.isList (by simp;omega) fun h' eb=>⟨rfl,I.turned (t':=s.toks) (fun b o hb e=>eb b o hb e) f0 f1 f3 f4 f5⟩
 self:=fun _ _ _ _ _ st h=>by
  obtain⟨⟨old,he⟩,_⟩:=st;exact wpAny_pyIter_enum he h
section
variable{X:Cx}
noncomputable def xg(K:PySem.W.Frag)(ta:TA):TI:=fun σ H R=>ta σ H fun vs H1=>∃ a,vs=[.ref a] /\ (∃ xs,SqL K H1 a xs) /\ R (Ite K a) H1
theorem yk{elts:List Expr}{k:Nat}{tp:Pos}{a:Expr}{ta:TA}{p pos:Pos}(hg:Gl X "enumerate")(hm:X.mg "enumerate" = none)(ha:PA X [a] ta)(hs:starEach [a] X.env=[(false,eval a X.env)]:=by rfl):
  PI X (.Tuple elts k tp) (.Call (.Name "enumerate" p) [a] [] pos) (xg X.K ta):=by
 intro pins s σ H R I h;refine Call_ (my I hg hm (show bootBuiltins "enumerate" = some (.type "enumerate") by rfl) (PyProof.Rows.callWith_type1 (thn (ha pos pins s σ H _ I h) fun us s1 ⟨vs,H1,I1,r1,q1⟩=>?_) hs rfl));obtain⟨l,e,⟨xs,hq⟩,q⟩:=q1;subst e
 cases r1 with
 | cons r rr=>
   cases rr;cases r;obtain⟨its,rv,p,hz⟩:=I1.list hq
   refine call_enumerate_list p.isList fun h' he hit hsz hk=>?_
   refine wpAny_pyIter_enum he ?_
   have I2:Inv X pins σ H1 { s1 with heap:=h' }:=I1.kept (t':=s1.toks) hk
   refine⟨s1.heap.objs.size+1,[s1.heap.objs.size+1,s1.heap.objs.size],_,_,H1,rfl,I2,uf l _ _ (Nat.succ_ne_self _),⟨⟨.none,he⟩,hit⟩,fun b hb=>?_,q⟩
   have:s1.heap.objs.size<=b:=by
    rcases List.mem_cons.mp hb with z|z
    . subst z;exact Nat.le_succ _
    . have z':b=s1.heap.objs.size:=by simpa using z
      subst z';exact Nat.le_refl _
   exact I1.tU this (I1.hok.fresh this)
end
theorem wd{K:PySem.W.Frag}{a:Addr}{xs:List V}{g:TG}{tb:TS}{D:Ends}{σ:St}{H:Hp}(Pv:Nat->St->Hp->Prop)(h0:Pv 0 σ H)(hl:∀ i σ H,i<=xs.length->Pv i σ H->SqL K H a xs)
  (hs:∀ i x σ H t,xs[i]?=some x->Pv i σ H->H t=none->g (.ref t) σ (upd H t (.tup [.int i,x])) fun σ2 H2=>tb { D with nx:=Pv (i+1),ct:=Pv (i+1),bk:=D.nx } σ2 H2) (hd:∀ σ H,Pv xs.length σ H->D.nx σ H):
  ∃ W:Nat->Nat->St->Hp->Prop,(∃ m,W 0 m σ H) /\ ∀ i m σ H,W i m σ H ->
    ((Ite K a).stop i H /\ D.nx σ H) \/ ((Ite K a).go i H /\ ∃ N:St->Hp->Prop,(∀ σ' H',N σ' H'->∃ m',m'<m /\ W (i+1) m' σ' H') /\ ∀ x H',(Ite K a).yld i H x H'->g x σ H' fun σ2 H2=>tb { D with nx:=N,ct:=N,bk:=D.nx } σ2 H2):=by
 refine⟨fun i m σ H=>m=xs.length - i /\ i<=xs.length /\ Pv i σ H,⟨xs.length,by simp,Nat.zero_le _,h0⟩,?_⟩
 rintro i m σ H ⟨rfl,hi,p⟩
 have q:=hl i σ H hi p
 by_cases hlt:i<xs.length
 . refine .inr ⟨⟨xs,xs[i],q,by simp[hlt]⟩,Pv (i+1),fun σ' H' p'=>⟨xs.length - (i+1),by omega,rfl,hlt,p'⟩,fun x H' y=>?_⟩;obtain⟨t,z,y1,y3,e1,e2⟩:=y;subst e1 e2;exact hs i z σ _ t (y1 xs q) p y3
 . have e:i=xs.length:=by omega
   subst e;exact .inl ⟨⟨xs,q,Nat.le_refl _⟩,hd σ H p⟩
end L2
namespace L2.P
open PySem PySem.Spec PyProof.Rows L2 L2.E PySem.SeqAt
mutual
noncomputable def dOf:PV->PyData
 |.non=>.none
 |.bl b=>.bool b
 |.int i=>.int i
 |.str x=>.str x
 |.lst xs=>.list (ja xs)
 |.tup xs=>.tuple (ja xs)
noncomputable def ja:List PV->List PyData
 |[]=>[]
 |x ::xs=>dOf x ::ja xs
end
mutual
theorem tS:∀ x y:PV,PyData.eqv (dOf x) (dOf y)=eJ x y
 |.non,y=>by cases y<;>simp[dOf,PyData.eqv,eJ]
 |.bl a,y=>by cases y<;>simp[dOf,PyData.eqv,eJ]
 |.int a,y=>by cases y<;>simp[dOf,PyData.eqv,eJ]
 |.str a,y=>by cases y<;>simp[dOf,PyData.eqv,eJ]
 |.lst xs,y=>by cases y<;>simp[dOf,PyData.eqv,eJ,lx xs]
 |.tup xs,y=>by cases y<;>simp[dOf,PyData.eqv,eJ,lx xs]
theorem lx:∀ xs ys:List PV,PyData.eqvAll (ja xs) (ja ys)=lW xs ys
 |[],ys=>by cases ys<;>simp[ja,PyData.eqvAll,lW]
 |x ::xs,ys=>by cases ys<;>simp[ja,PyData.eqvAll,lW,tS x,lx xs]
end
mutual
theorem vn:∀(x:PV) (n:Nat),jl x n=true->(dOf x).canLay0=true /\ (dOf x).depth<=n
 |.non,n,h=>by simp[dOf,PyData.canLay0,PyData.depth]
 |.bl a,n,h=>by simp[dOf,PyData.canLay0,PyData.depth]
 |.int a,n,h=>by simp[dOf,PyData.canLay0,PyData.depth]
 |.str a,n,h=>by simp[dOf,PyData.canLay0,PyData.depth];exact h
 | .lst xs,n,h=>by
   cases n with
   |zero=>simp[jl]at h
   | succ n=>
     have:=o6 xs n (by simpa [jl]using h);simp[dOf,PyData.canLay0,PyData.depth]
     exact⟨this.1,by omega⟩
 | .tup xs,n,h=>by
   cases n with
   |zero=>simp[jl]at h
   | succ n=>
     have:=o6 xs n (by simpa [jl]using h);simp[dOf,PyData.canLay0,PyData.depth]
     exact⟨this.1,by omega⟩
theorem o6:∀(xs:List PV) (n:Nat),m8 xs n=true->PyData.canLayAll0 (ja xs)=true /\ PyData.depthAll (ja xs)<=n
 |[],n,h=>by simp[ja,PyData.canLayAll0,PyData.depthAll]
 | x ::xs,n,h=>by
   simp[m8]at h;have h1:=vn x n h.1;have h2:=o6 xs n h.2;simp[ja,PyData.canLayAll0,PyData.depthAll]
   exact⟨⟨h1.1,h2.1⟩,by omega⟩
end
section
variable{X:Cx}{pins:List (Addr×Obj)}{σ:St}{H:Hp}{s:Shared}
mutual
theorem lA(I:Inv X pins σ H s):∀(x:PV) (v:V) (u:Value),Rep X.K H x v->RelV v u->∃ as,Reads s.heap u (dOf x) as
 |.non,v,u,h,r=>by unfold Rep at h;subst h;cases r;exact⟨_,.none⟩
 |.bl b,v,u,h,r=>by unfold Rep at h;subst h;cases r;exact⟨_,.bool b⟩
 |.int i,v,u,h,r=>by unfold Rep at h;subst h;obtain⟨t,rfl⟩:=r;exact⟨_,.int i t⟩
 |.str x,v,u,h,r=>by unfold Rep at h;subst h;obtain⟨t,rfl⟩:=r;exact⟨_,.str x t⟩
 | .lst xs,v,u,h,r=>by
   unfold Rep at h;obtain⟨p,vs,rfl,hq,hr⟩:=h;cases r;obtain⟨its,rv,pl,hz⟩:=I.list hq;obtain⟨as,ra⟩:=gJ I xs vs its hr rv;obtain⟨o,e,c,n,d⟩:=pl.isList
   exact⟨_,.list (xs:=ja xs) e c d (by simpa using ra)⟩
 | .tup xs,v,u,h,r=>by
   unfold Rep at h;obtain⟨p,vs,rfl,hq,hr⟩:=h;cases r;obtain⟨its,rv,pl,hz⟩:=I.tuple hq;obtain⟨as,ra⟩:=gJ I xs vs its hr rv;obtain⟨o,e,c,n,d⟩:=pl
   exact⟨_,.tuple (xs:=ja xs) e c d (by simpa using ra)⟩
theorem gJ(I:Inv X pins σ H s):∀(xs:List PV) (vs:List V) (us:List Value),aL X.K H xs vs->Vals vs us->∃ as,ReadsAll s.heap us (ja xs) as
 |[],vs,us,h,r=>by rw[h.nil_inv]at r;cases r;exact⟨_,.nil⟩
 | x ::xs,vs,us,h,r=>by
   obtain⟨v,t,rfl,h1,h2⟩:=h.cons_inv
   cases r with
   | cons r1 r2=>
     obtain⟨as,ra⟩:=lA I x _ _ h1 r1;obtain⟨bs,rb⟩:=gJ I xs _ _ h2 r2
     exact⟨_,.cons ra rb⟩
end
noncomputable def BM(K:PySem.W.Frag)(A:Around)(neg:Bool):R2:=fun v u H Q=>∃ x y,Rep K H x v /\ Rep K H y u /\ (jl x 64&&jl y 64)=true /\ A.units+64<cLine /\ Q (.bl (if neg then !eJ x y else eJ x y)) H
theorem nM{x:PV}(h:jl x 64=true):shaped (dOf x)=true:=by
 have:=vn x 64 h;unfold shaped;simp[this]
theorem cu:OpR X (compareOp .Eq) (BM X.K X.A false):=by
 intro pins s σ H v u a b Q I rx ry h;obtain⟨x,y,h1,h2,ok,hu,q⟩:=h;rw[Bool.and_eq_true]at ok;obtain⟨as,ra⟩:=lA I x v a h1 rx;obtain⟨bs,rb⟩:=lA I y u b h2 ry;refine eq_dataH ra rb (nM ok.1) (nM ok.2) hu ⟨.bl _,H,I,rfl,?_⟩;rw[tS];exact q
end
section
variable{K:PySem.W.Frag}{S H:Hp}
theorem RdV.rep{x:PV}{v:V}(h:RdV K S H x v)(s:au S H):Rep K H x v:=by
 cases x with
 |lst xs=>obtain⟨p,vs,e,q,r⟩:=h;unfold Rep;exact⟨p,vs,e,q,r.mono s⟩
 |non=>exact Rep.mono s h
 |bl b=>exact Rep.mono s h
 |int i=>exact Rep.mono s h
 |str x=>exact Rep.mono s h
 |tup xs=>exact Rep.mono s h
theorem cC{A:Around}(hu:A.units+64<cLine):JR K (BM K A false) cL:=by
 intro S H x y v u rr Q I hx hy e k;unfold cL at e;split at e
 . rename_i ok;cases e
   exact⟨x,y,hx.rep I,hy.rep I,ok,hu,k _ S H (aE.refl I) eE⟩
 . cases e
end
section
variable{X:Cx}{K:PySem.W.Frag}{S H:Hp}
theorem qI{x:PV}{v:V}(h:Rep K H x v)(f:dh x=true):iz v=true:=by
 cases x with
 |lst xs=>cases f
 |tup xs=>cases f
 |non=>unfold Rep at h;subst h;rfl
 |bl b=>unfold Rep at h;subst h;rfl
 |int b=>unfold Rep at h;subst h;rfl
 |str b=>unfold Rep at h;subst h;rfl
theorem yj{x y:PV}{v u:V}(h:Rep K H x v)(k:Rep K H y u)(f:dh x=true)(g:dh y=true):eqV u v=eJ y x:=by
 cases x<;>first|(cases f;done)|skip
 all_goals(unfold Rep at h;subst h;cases y<;>first|(cases g;done)|(unfold Rep at k;subst k;simp[eqV,eJ]))
theorem t8{xs:List PV}{vs:List V}(h:aL K H xs vs)(f:xs.all dh=true):vs.all iz=true:=by
 induction xs generalizing vs with
 |nil=>rw[h.nil_inv];rfl
 | cons x xs ih=>
   obtain⟨v,r,rfl,h1,h2⟩:=h.cons_inv
   rw[List.all_cons,Bool.and_eq_true]at f ⊢
   exact⟨qI h1 f.1,ih h2 f.2⟩
theorem vv{x:PV}{v:V}{xs:List PV}{vs:List V}(hx:Rep K H x v)(g:dh x=true)(h:aL K H xs vs)(f:xs.all dh=true):inV v vs=xs.any fun y=>eJ y x:=by
 induction xs generalizing vs with
 |nil=>rw[h.nil_inv];rfl
 | cons y xs ih=>
   obtain⟨u,r,rfl,h1,h2⟩:=h.cons_inv;rw[List.all_cons,Bool.and_eq_true]at f;have:=ih h2 f.2
   unfold inV at this ⊢
   rw[List.any_cons,List.any_cons,this,yj hx h1 g f.1]
theorem uQ{x:PV}{xs:List PV}(g:dh x=false)(f:xs.all dh=true):(xs.any fun y=>eJ y x)=false:=by
 induction xs with
 |nil=>rfl
 | cons y xs ih=>
   rw[List.all_cons,Bool.and_eq_true]at f;rw[List.any_cons,ih f.2,Bool.or_false];have f1:=f.1
   cases y<;>first|(cases f1;done)|(cases x<;>first|(cases g;done)|simp[eJ])
theorem vx{α:Type}(l:List α):(l.any fun _=>false)=false:=by induction l<;>simp_all
theorem p6{A:Around}{s:Shared}{pins:List (Addr×Obj)}{σ:St}(I:Inv X pins σ H s)(hu:A.units<cLine){x:PV}{v:V}{a:Value}(hx:Rep X.K H x v)(ra:RelV v a)(g:dh x=false):
  ∀{xs:List PV} {vs:List V} {us:List Value},aL X.K H xs vs->Vals vs us->xs.all dh=true->∀ u∈us,EqAt A s u a false:=by
 intro xs
 induction xs with
 |nil=>intro vs us h r _ u hu;rw[h.nil_inv]at r;cases r;cases hu
 | cons y xs ih=>
   intro vs us h r f u hm;obtain⟨w,t,rfl,h1,h2⟩:=h.cons_inv;rw[List.all_cons,Bool.and_eq_true]at f
   cases r with
   | cons r1 r2=>
     rcases List.mem_cons.mp hm with rfl|hm
     . cases x with
       |non=>cases g
       |bl b=>cases g
       |int b=>cases g
       |str b=>cases g
       | lst zs=>
         unfold Rep at hx;obtain⟨p,us',rfl,hq,_⟩:=hx;cases ra;obtain⟨its,_,pl,_⟩:=I.list hq
         cases y with
         |non=>unfold Rep at h1;subst h1;cases r1;exact EqAt.none_list pl.isList hu
         |bl b=>unfold Rep at h1;subst h1;cases r1;exact EqAt.bool_list b pl.isList hu
         |int b=>unfold Rep at h1;subst h1;obtain⟨t',rfl⟩:=r1;exact EqAt.int_list b t' pl.isList hu
         |str b=>unfold Rep at h1;subst h1;obtain⟨t',rfl⟩:=r1;exact EqAt.str_list b t' pl.isList hu
         |lst _=>cases f.1
         |tup _=>cases f.1
       | tup zs=>
         unfold Rep at hx;obtain⟨p,us',rfl,hq,_⟩:=hx;cases ra;obtain⟨its,_,pl,_⟩:=I.tuple hq
         cases y with
         |non=>unfold Rep at h1;subst h1;cases r1;exact EqAt.none_tuple pl hu
         |bl b=>unfold Rep at h1;subst h1;cases r1;exact EqAt.bool_tuple b pl hu
         |int b=>unfold Rep at h1;subst h1;obtain⟨t',rfl⟩:=r1;exact EqAt.int_tuple b t' pl hu
         |str b=>unfold Rep at h1;subst h1;obtain⟨t',rfl⟩:=r1;exact EqAt.str_tuple b t' pl hu
         |lst _=>cases f.1
         |tup _=>cases f.1
     . exact ih h2 r2 f.2 u hm
noncomputable def Ba(K:PySem.W.Frag)(A:Around)(neg:Bool):R2:=fun v u H Q=>∃ x ys p vs,Rep K H x v /\ u=.ref p /\ (SqL K H p vs \/ SqT K H p vs) /\ aL K H ys vs /\ ys.all dh=true /\ A.units+64<cLine /\ Q (.bl (if neg then !(ys.any fun y=>eJ y x)else ys.any fun y=>eJ y x)) H
theorem AI:OpR X (compareOp .In) (Ba X.K X.A false):=by
 intro pins s σ H v u a b Q I rx ry h;obtain⟨x,ys,p,vs,hx,rfl,hq,hr,hf,hu,q⟩:=h
 cases g:dh x with
 |true=>exact uE pins s σ H v _ a b Q I rx ry ⟨p,vs,rfl,hq,qI hx g,t8 hr hf,by rw[vv hx g hr hf];exact q⟩
 | false=>
   rw[uQ g hf]at q;cases ry
   rcases hq with hq|hq
   . obtain⟨its,r,pl,hz⟩:=I.list hq;refine SeqAt.in_listAt (fun _=>false) pl.isList (fun w hw=>p6 I (by show X.A.units+1<cLine;omega) hx rx g hr r hf w (by simpa using hw)) ⟨.bl _,H,I,rfl,?_⟩;rw[show(its.toArray.any fun _=>false)=false by simp[vx]];exact q
   . obtain⟨its,r,pl,hz⟩:=I.tuple hq;refine SeqAt.in_tupleAt (fun _=>false) pl (fun w hw=>p6 I (by show X.A.units+1<cLine;omega) hx rx g hr r hf w (by simpa using hw)) ⟨.bl _,H,I,rfl,?_⟩;rw[show(its.toArray.any fun _=>false)=false by simp[vx]];exact q
theorem x8{A:Around}{neg:Bool}{x y:PV}{v u:V}{b:Bool}{Q:VK}(hu:A.units+64<cLine)(I:au S H)(hx:RdV K S H x v)(hy:RdV K S H y u)(e:pP x y=some b)(k:∀ z S' H',aE S H S' H'->eZ K H S' H' (.sh (.bl (if neg then !b else b))) z->Q z H'):Ba K A neg v u H Q:=by
 cases y with
 | tup ys=>
   simp only[pP]at e
   by_cases hf:ys.all dh=true
   . rw[if_pos hf]at e;cases e;obtain⟨p,vs,rfl,hq,hr⟩:=cn hy
     exact⟨x,ys,p,vs,hx.rep I,rfl,.inr (au.tup I hq),hr.mono I,hf,hu,k _ S H (aE.refl I) eE⟩
   . rw[if_neg hf]at e;cases e
 | lst ys=>
   simp only[pP]at e
   by_cases hf:ys.all dh=true
   . rw[if_pos hf]at e;cases e;obtain⟨p,vs,rfl,hq,hr⟩:=dR hy
     exact⟨x,ys,p,vs,hx.rep I,rfl,.inl hq,hr.mono I,hf,hu,k _ S H (aE.refl I) eE⟩
   . rw[if_neg hf]at e;cases e
 |_=>simp only[pP]at e;cases e
theorem B3{A:Around}(hu:A.units+64<cLine):JR K (Ba K A false) gIn:=by
 intro S H x y v u rr Q I hx hy e k;obtain⟨b,e1,e2⟩:=Option.map_eq_some_iff.mp e;subst e2;exact x8 hu I hx hy e1 k
end
end L2.P
namespace L2.P
open PySem PySem.Spec PyProof.Rows L2 L2.E
section
variable{K:PySem.W.Frag}{cls:String->Option Addr}{W:XW}{Av G S₀ S S' H H' B B':Hp}{ρ:aa}{σ:St}{Q:VK}
noncomputable abbrev g2(K:PySem.W.Frag)(i j:Nat):TG:=Bi K 2 (tO (eU i) (tO (eU j) Bs))
theorem qR{mb:aa->OS}{D:Ends}{N:St->Hp->Prop}(hb:JS K cls W tb mb)(I:SR K cls Av G S₀ ρ σ S H)(hx:Rep K S x v)(hy:Rep K S y u)(ht:SqT K H t [v,u])
  (p:b5 K cls W Av G S₀ S D (eC i j mb (.tup [x,y] ::xs) ρ)) (hN:∀ ρ' σ' S' H',SR K cls Av G S₀ ρ' σ' S' H'->au S S'->b5 K cls W Av G S₀ S' D (eC i j mb xs ρ')->N σ' H'):
  g2 K i j (.ref t) σ H fun σ2 H2=>tb { D with nx:=N,ct:=N,bk:=D.nx } σ2 H2:=by
 refine⟨t,_,rfl,ht,rfl,_,_,rfl,_,_,rfl,rfl,?_⟩
 refine hb Av G S₀ _ _ S H _ ((I.qK hx).qK hy) ?_;unfold eC at p
 cases e:mb ((ρ.set i (some (.sh x))).set j (some (.sh y)))with
 |nx ρ'=>rw[e]at p;exact fun σ' S' H' I' s'=>hN ρ' σ' S' H' I' s' (p.back s')
 |ct ρ'=>rw[e]at p;exact fun σ' S' H' I' s'=>hN ρ' σ' S' H' I' s' (p.back s')
 |bk ρ'=>rw[e]at p;exact p
 |rt ρ' r=>rw[e]at p;exact p
 |exc ρ' c fs=>rw[e]at p;exact p
 |bad=>rw[e]at p;exact p
theorem rJ(xs:List PV):∀(k n:Nat) (y:PV),xs[k]?=some y->iu (n+k) (xs.drop k)=.tup [.int ((n+k:Nat):Int),y] ::iu (n+(k+1)) (xs.drop (k+1)):=by
 intro k n y hy
 have hk:k<xs.length:=(List.getElem?_eq_some_iff.mp hy).1
 rw[List.drop_eq_getElem_cons hk]
 have:xs[k]=y:=(List.getElem?_eq_some_iff.mp hy).2
 rw[this];rfl
theorem yw{ml:aa->OE}{mb:aa->OS}(hl:JE K cls W tl ml)(hb:JS K cls W tb mb):JS K cls W (xb (xg K (cK tl gD)) (g2 K i j) tb) (lp i j ml mb):=by
 intro Av G S₀ ρ σ S H D I p;refine hl Av G S₀ ρ σ S H _ I ?_;unfold lp at p
 cases em:ml ρ with
 |exc c fs=>rw[em]at p;exact fun a C S' H' w x=>p a C σ S' H' (I.grow w) w.s x
 |bad=>rw[em]at p;exact p
 | ok r=>
   rw[em]at p;intro v S1 H1 w1 r1;simp only[OE.aP]at p
   cases ei:qF r with
   |none=>rw[ei]at p;exact p.elim
   | some xs=>
     rw[ei]at p
     have es:fh r=some (.lst xs):=by
      cases r with
      |sh y=>cases y<;>cases ei<;>rfl
      |fr ys=>cases ei;rfl
      |al ys=>cases ei
     obtain⟨S2,w2,s2,rx⟩:=r1.share w1 es;have I2:=I.grow w2;unfold Rep at rx;obtain⟨a,vs,rfl,hq,hr⟩:=rx
     show ∃ a',[V.ref a]=[V.ref a'] /\ _
     refine⟨a,rfl,⟨vs,au.seq I2.sh hq⟩,?_⟩
     refine wd (xs:=vs) (fun k σ' H'=>∃ ρ' S',SR K cls Av G S₀ ρ' σ' S' H' /\ au S2 S' /\ b5 K cls W Av G S₀ S' D (eC i j mb (iu (0+k) (xs.drop k)) ρ'))
      ⟨ρ,S2,I2,au.refl _,p.back w2.s⟩ ?_ ?_ ?_
     . rintro k σ' H' _ ⟨ρ',S',I',s',_⟩
       exact au.seq (s'.trans I'.sh) hq
     . rintro k x σ' H' t hx ⟨ρ',S',I',s',p'⟩ ht
       obtain⟨y,hy,ry⟩:=hr.zU hx;rw[rJ xs k 0 y hy]at p'
       have w3:aE S' H' S' (upd H' t (.tup [.int k,x])):=aE.heap I'.sh ht
       refine qR hb (I'.grow w3) (x:=.int ((0+k:Nat):Int)) (v:=.int k) (by unfold Rep;rw[Nat.zero_add]) (Rep.mono s' ry) (SqT.new az) p' fun ρ2 σ2 S3 H3 I3 s3 p3=>⟨ρ2,S3,I3,s'.trans s3,p3⟩
     . rintro σ' H' ⟨ρ',S',I',s',p'⟩
       rw[List.drop_of_length_le (by rw[hr.length];exact Nat.le_refl _)]at p';exact p' σ' S' H' I' (au.refl _)
end
end L2.P
namespace L2.E
open PySem PySem.Spec PyProof.Rows L2
theorem xM{X:Cx}(hg:Gl X "enumerate")(hm:X.mg "enumerate" = none)(ha:QA X [a] ta)(hs:starEach [a] X.env=[(false,eval a X.env)]:=by rfl):
  QI X (.Tuple elts k tp) (.Call (.Name "enumerate" p) [a] [] pos) (xg X.K ta):=⟨yk hg hm ha.out hs⟩
structure QGs(X:Cx)(es:List Expr)(t:TGs):Prop where
 out:PGs X es t
theorem yx:QGs X [] Bs:=⟨yh⟩
theorem qe{X:Cx}(h1:QG X e t)(h2:QGs X es u)
  (hs:(assignEach (e ::es) X.env).map (·.2)=assign e X.env ::(assignEach es X.env).map (·.2):=by rfl):QGs X (e ::es) (tO t u):=⟨wF h1.out h2.out hs⟩
theorem A5{X:Cx}(hc:X.calm=true)(h:QGs X es t)
  (hn:(assignEach es X.env).length=n:=by rfl) (hst:(assignEach es X.env).findIdx? (·.1)=none:=by rfl):QG X (.Tuple es k pos) (Bi X.K n t):=⟨Bm hc h.out hn hst⟩
end L2.E
namespace L2.P
open PySem PySem.Spec PyProof.Rows L2 L2.E
section
variable{K:PySem.W.Frag}{cls:String->Option Addr}{W:XW}{Av G S₀ S S' H H' B B':Hp}{ρ:aa}{σ:St}{Q:VK}{F:Nat->List Addr}
theorem aO.length{ts:List OV}{vs:List V}(h:aO K cls S H ts vs f):vs.length=ts.length:=by
 induction ts generalizing vs f with
 |nil=>unfold aO at h;rw[h.1];rfl
 | cons t ts ih=>
   unfold aO at h;obtain⟨v,r,f1,f2,rfl,_,_,h2⟩:=h;simp[ih h2]
theorem aO.cons_inv(h:aO K cls S H (t ::ts) vs fp):∃ v r f1 f2,vs=v ::r /\ fp=f1++f2 /\ bb K cls S H t v f1 /\ aO K cls S H ts r f2:=by unfold aO at h;exact h
theorem aO.cons(h:bb K cls S H t v f1)(r:aO K cls S H ts vs f2):aO K cls S H (t ::ts) (v ::vs) (f1++f2):=by unfold aO;exact⟨v,vs,f1,f2,rfl,rfl,h,r⟩
theorem aO.nil:aO K cls S H [] [] []:=by unfold aO;exact⟨rfl,rfl⟩
theorem aO.append(h:aO K cls S H ts vs f)(k:aO K cls S H us ws g):aO K cls S H (ts++us) (vs++ws) (f++g):=by
 induction ts generalizing vs f with
 |nil=>unfold aO at h;rw[h.1,h.2];exact k
 | cons t ts ih=>
   obtain⟨v,r,f1,f2,rfl,rfl,h1,h2⟩:=h.cons_inv;have:=aO.cons h1 (ih h2);rw[List.append_assoc];exact this
theorem aO.shs{xs:List PV}(h:aL K S xs vs):aO K cls S H (xs.map .sh) vs []:=by
 induction xs generalizing vs with
 |nil=>rw[h.nil_inv];exact .nil
 | cons x xs ih=>
   obtain⟨v,r,rfl,h1,h2⟩:=h.cons_inv;exact aO.cons (f1:=[]) (by unfold bb;exact⟨rfl,h1⟩) (ih h2)
theorem aO.at{ts:List OV}{vs:List V}{f:List Addr}(h:aO K cls S H ts vs f)(e:ts[k]?=some u):
  ∃ w f1 rest,vs[k]?=some w /\ bb K cls S H u w f1 /\ f.Perm (f1++rest) /\
    ∀ S' H' u' w' f',au S S'->bb K cls S' H' u' w' f'->(∀ a∈rest,∀ o,H a=some o->H' a=some o)->∃ g,aO K cls S' H' (ts.set k u') (vs.set k w') g /\ g.Perm (f'++rest):=by
 induction ts generalizing vs f k with
 |nil=>simp at e
 | cons t ts ih=>
   obtain⟨v,r,f1,f2,rfl,rfl,h1,h2⟩:=h.cons_inv
   cases k with
   | zero=>
     simp at e;subst e
     refine⟨v,f1,f2,rfl,h1,List.Perm.refl _,fun S' H' u' w' f' s r' g=>?_⟩
     exact⟨f'++f2,aO.cons r' (h2.mono s g),List.Perm.refl _⟩
   | succ k=>
     simp at e;obtain⟨w,g1,rest,e1,r1,p1,c1⟩:=ih h2 e
     refine⟨w,g1,f1++rest,by simpa using e1,r1,?_,fun S' H' u' w' f' s r' g=>?_⟩
     . have:(f1++f2).Perm (f1++(g1++rest)):=List.Perm.append_left f1 p1
       refine this.trans ?_;rw[<- List.append_assoc,<- List.append_assoc];exact List.Perm.append_right rest List.perm_append_comm
     . obtain⟨g2,r2,p2⟩:=c1 S' H' u' w' f' s r' fun a ha=>g a (List.mem_append_right _ ha)
       refine⟨f1++g2,aO.cons (h1.mono s fun a ha=>g a (List.mem_append_left _ ha)) r2,?_⟩
       refine(List.Perm.append_left f1 p2).trans ?_
       rw[<- List.append_assoc,<- List.append_assoc];exact List.Perm.append_right rest List.perm_append_comm
theorem xT{ts:List OV}(h:nK ks ts f=some u):∃ k,ts[k]?=some u /\ ks[k]?=some f /\ (∀ u',vG ks ts f u'=ts.set k u') /\ ∀{α:Type} (us:List (Str×α)),us.map (·.1)=ks->us.lookup f=(us.map (·.2))[k]?:=by
 induction ks generalizing ts with
 |nil=>simp[nK]at h
 | cons g ks ih=>
   cases ts with
   |nil=>simp[nK]at h
   | cons t ts=>
     unfold nK at h;split at h
     . rename_i e;subst e;cases h
       refine⟨0,rfl,rfl,fun u'=>by simp[vG],fun us eu=>?_⟩
       cases us with
       |nil=>cases eu
       | cons q us=>
         simp at eu;obtain⟨a,b⟩:=q;simp at eu;rw[<- eu.1];simp[List.lookup]
     . rename_i ne;obtain⟨k,e1,e2,e3,e4⟩:=ih h
       refine⟨k+1,by simpa using e1,by simpa using e2,fun u'=>by simp[vG,ne,e3],fun us eu=>?_⟩
       cases us with
       |nil=>cases eu
       | cons q us=>
         obtain⟨a,b⟩:=q;simp at eu
         have:(f==a)=false:=by rw[eu.1];simpa using Ne.symm ne
         simp[List.lookup,this,e4 us eu.2]
noncomputable def nJ(H:Hp):Stp->V->V->Prop
 |.ix k,v,w=>∃ p vs,v=.ref p /\ H p=some (.lst vs) /\ vs[k]?=some w
 |.fd f,v,w=>∃ p C dx us,v=.ref p /\ H p=some (.ins C dx us) /\ us.lookup f=some w
noncomputable def gB(H:Hp):V->List Stp->V->Prop
 |v,[],w=>w=v
 |v,s ::π,w=>∃ u,nJ H s v u /\ gB H u π w
theorem nJ.inj(h:nJ H s v w)(k:nJ H s v w'):w=w':=by
 cases s with
 | ix n=>
   obtain⟨p,vs,rfl,e1,e2⟩:=h;obtain⟨p',vs',e3,e4,e5⟩:=k;cases e3;rw[e1]at e4;cases e4;rw[e2]at e5;cases e5;rfl
 | fd f=>
   obtain⟨p,C,dx,us,rfl,e1,e2⟩:=h;obtain⟨p',C',dx',us',e3,e4,e5⟩:=k;cases e3;rw[e1]at e4;cases e4;rw[e2]at e5;cases e5;rfl
theorem gB.inj:∀{v w w':V},gB H v π w->gB H v π w'->w=w':=by
 induction π with
 |nil=>intro v w w' h k;rw[h,k]
 | cons s π ih=>
   rintro v w w' ⟨u,h1,h2⟩ ⟨u',k1,k2⟩
   have:=h1.inj k1;subst this;exact ih h2 k2
theorem gB.snoc:∀{v w u:V},gB H v π w->nJ H s w u->gB H v (π++[s]) u:=by
 induction π with
 |nil=>intro v w u h k;rw[h]at k;exact⟨u,k,rfl⟩
 | cons t π ih=>
   rintro v w u ⟨x,h1,h2⟩ k
   exact⟨x,h1,ih h2 k⟩
theorem bb.step{t u:OV}{fp:List Addr}(h:bb K cls S H t v fp)(e:t.at1 s=some u):
  ∃ w f1 rest,nJ H s v w /\ bb K cls S H u w f1 /\ fp.Perm (f1++rest) /\
    ∀ S' H' u' f',au S S'->bb K cls S' H' u' w f'->(∀ a∈rest,∀ o,H a=some o->H' a=some o)->∃ g,bb K cls S' H' (t.yI s u') v g /\ g.Perm (f'++rest):=by
 cases t with
 |sh x=>cases s<;>cases e
 |di x=>cases s<;>cases e
 |dt x=>cases s<;>cases e
 | ol ts=>
   cases s with
   |fd f=>cases e
   | ix k=>
     unfold bb at h;obtain⟨p,vs,f,rfl,hp,rfl,r⟩:=h;obtain⟨w,f1,rest,e1,r1,p1,c1⟩:=r.at e
     refine⟨w,f1,p ::rest,⟨p,vs,rfl,hp,e1⟩,r1,?_,fun S' H' u' f' s r' g=>?_⟩
     . exact(List.Perm.cons p p1).trans (List.perm_middle.symm)
     . obtain⟨g2,r2,p2⟩:=c1 S' H' u' w f' s r' fun a ha=>g a (by simp[ha])
       refine⟨p ::g2,?_,(List.Perm.cons p p2).trans List.perm_middle.symm⟩
       rw[fA e1]at r2;unfold OV.yI bb
       exact⟨p,vs,g2,rfl,g p (by simp) _ hp,rfl,r2⟩
 | ob c ks ts=>
   cases s with
   |ix k=>cases e
   | fd f=>
     unfold bb at h;obtain⟨p,C,dx,us,ff,rfl,hc,hp,hd,hk,rfl,r⟩:=h;obtain⟨k,e1,e2,e3,e4⟩:=xT e;obtain⟨w,f1,rest,q1,r1,p1,c1⟩:=r.at e1
     refine⟨w,f1,p ::dx ::rest,⟨p,C,dx,us,rfl,hp,by rw[e4 us hk];exact q1⟩,r1,?_,fun S' H' u' f' s r' g=>?_⟩
     . exact((List.Perm.cons p ((List.Perm.cons dx p1).trans List.perm_middle.symm))).trans List.perm_middle.symm
     . obtain⟨g2,r2,p2⟩:=c1 S' H' u' w f' s r' fun a ha=>g a (by simp[ha])
       refine⟨p ::dx ::g2,?_,(List.Perm.cons p ((List.Perm.cons dx p2).trans List.perm_middle.symm)).trans List.perm_middle.symm⟩
       rw[fA q1]at r2;unfold OV.yI bb
       exact⟨p,C,dx,us,g2,rfl,hc,g p (by simp) _ hp,g dx (by simp) _ hd,hk,rfl,by rw[e3];exact r2⟩
theorem bb.focus:∀{t u:OV} {v:V} {fp:List Addr},bb K cls S H t v fp->t.get π=some u ->
  ∃ w f1 rest,gB H v π w /\ bb K cls S H u w f1 /\ fp.Perm (f1++rest) /\
    ∀ S' H' u' f',au S S'->bb K cls S' H' u' w f'->(∀ a∈rest,∀ o,H a=some o->H' a=some o)->∃ g,bb K cls S' H' (t.put π u') v g /\ g.Perm (f'++rest):=by
 induction π with
 | nil=>
   intro t u v fp h e;cases e
   exact⟨v,fp,[],rfl,h,by simp,fun S' H' u' f' _ r' _=>⟨f',by unfold OV.put;exact r',by simp⟩⟩
 | cons s π ih=>
   intro t u v fp h e;unfold OV.get at e;obtain⟨t1,e1,e2⟩:=Option.bind_eq_some_iff.mp e;obtain⟨w1,f1,rest1,st,r1,p1,c1⟩:=h.step e1;obtain⟨w,f2,rest2,wk,r2,p2,c2⟩:=ih r1 e2
   refine⟨w,f2,rest2++rest1,⟨w1,st,wk⟩,r2,?_,fun S' H' u' f' s' r' g=>?_⟩
   . rw[<- List.append_assoc];exact p1.trans (List.Perm.append_right rest1 p2)
   . obtain⟨g1,q1,k1⟩:=c2 S' H' u' f' s' r' fun a ha=>g a (List.mem_append_left _ ha)
     obtain⟨g2,q2,k2⟩:=c1 S' H' _ g1 s' q1 fun a ha=>g a (List.mem_append_right _ ha)
     refine⟨g2,?_,?_⟩
     . unfold OV.put;rw[e1];exact q2
     . rw[<- List.append_assoc];exact k2.trans (List.Perm.append_right rest1 k1)
theorem SR.tree(I:SR K cls Av G S₀ ρ σ S H)(e:iT i ρ=some t):∃ v fp,σ[i]?=some (some v) /\ bb K cls S H t v fp:=by
 obtain⟨F,J⟩:=I;unfold iT at e
 cases q:ρ[i]? with
 |none=>rw[q]at e;cases e
 | some o=>
   cases o with
   |none=>rw[q]at e;cases e
   | some s=>
     rw[q]at e;obtain⟨v,e1,r⟩:=J.own i s q
     cases s with
     |tr io t'=>cases e;exact⟨v,_,e1,r.1⟩
     | bo t'=>
       cases e;obtain⟨_,f,r⟩:=r
       exact⟨v,f,e1,r.mono (au.refl _) fun _ _ _ h=>J.gh _ _ h⟩
     |sh x=>cases e
     |ow xs=>cases e
     |ex c fs=>cases e
noncomputable def JP(K:PySem.W.Frag)(cls:String->Option Addr)(te:TE)(i:Nat)(mp:MP):Prop:=∀ Av G S₀ ρ σ S H Q v0 t π,SR K cls Av G S₀ ρ σ S H->iT i ρ=some t->σ[i]?=some (some v0)->mp ρ=some π->(t.get π).isSome=true ->
 (∀ w S' H',aE S H S' H'->gB H' v0 π w->Q w H')->te σ H Q
theorem rW:JP K cls (jw i) i lD:=by
 intro Av G S₀ ρ σ S H Q v0 t π I e ev ep _ k;cases ep
 exact⟨v0,ev,k v0 S H (aE.refl I.sh) rfl⟩
theorem JP.sub(hp:JP K cls te i mp)(I:SR K cls Av G S₀ ρ σ S H)(e:subAt i mp ρ=some u)
  (k:∀ w S' H' f,aE S H S' H'->SR K cls Av G S₀ ρ σ S' H'->bb K cls S' H' u w f->Q w H'):te σ H Q:=by
 unfold subAt at e;split at e
 . rename_i t et;split at e
   . rename_i π eπ;obtain⟨v0,fp0,ev,_⟩:=I.tree et
     refine hp Av G S₀ ρ σ S H _ v0 t π I et ev eπ (by rw[e];rfl) fun w S1 H1 w1 wk=>?_
     obtain⟨v,fp,ev',ro⟩:=(I.grow w1).tree et;rw[ev]at ev';cases ev';obtain⟨w',f1,rest,wk',r',_,_⟩:=ro.focus e;have:=wk.inj wk';subst this;exact k w S1 H1 f1 w1 (I.grow w1) r'
   . cases e
 . cases e
theorem tX(hp:JP K cls te i mp):JT K cls W (fun σ H Q=>te σ H fun x H'=>∃ k,ua K x H' k /\ Q k H') (i7 i mp):=by
 intro Av G S₀ ρ σ S H Q I p;unfold i7 at p;split at p
 . rename_i ts e
   refine hp.sub I e fun w S1 H1 f w1 _ r=>?_
   unfold bb at r;obtain⟨q,vs,ff,rfl,hq,_,rs⟩:=r
   refine⟨_,.inl ⟨vs,SqL.new hq,rfl⟩,?_⟩
   have:vs.isEmpty=ts.isEmpty:=by
    have:=rs.length
    cases vs<;>cases ts<;>simp_all
   rw[this];exact p S1 H1 w1
 . exact p.elim
end
section
variable{K:PySem.W.Frag}{cls:String->Option Addr}{W:XW}{Av G S₀ S S' H H' B B':Hp}{ρ:aa}{σ:St}{Q:VK}{F:Nat->List Addr}
theorem SRF.part{t u:OV}(J:SRF K cls Av G S₀ ρ σ S H F)(hi:ρ[i]?=some (some (.tr io t)))(hv:σ[i]?=some (some v0))(e:t.get π=some u):
  ∃ w f1 rest,gB H v0 π w /\ bb K cls S H u w f1 /\ (F i).Perm (f1++rest) /\ (f1++rest).Nodup /\ (∀ a∈f1,G a=none /\ S a=none) /\
    ∀ S' H' u' f',au S S'->au S' H'->au G H'->(∀ b,S' b≠none->S₀ b≠none \/ G b=none)->bb K cls S' H' u' w f'->f'.Nodup->(∀ a∈f',a∈f1 \/ H a=none)->(∀ a∈f',S' a=none) ->
      (∀ a o,a∉f1->H a=some o->H' a=some o)->(∀ a,S' a≠none->S a≠none \/ H a=none \/ a∈f1) ->
      ∃ g,SRF K cls Av G S₀ (ρ.set i (some (.tr io (t.put π u')))) σ S' H' (iq F i g) /\ g.Perm (f'++rest):=by
 obtain⟨v,ev,ro,nd,gs,hio⟩:=J.own i _ hi;rw[hv]at ev;cases ev;obtain⟨w,f1,rest,wk,r1,p1,c1⟩:=ro.focus e
 have nd1:(f1++rest).Nodup:=p1.nodup_iff.mp nd
 have in1:∀ a,a∈f1->a∈F i:=fun a ha=>p1.mem_iff.mpr (List.mem_append_left _ ha)
 have inr:∀ a,a∈rest->a∈F i:=fun a ha=>p1.mem_iff.mpr (List.mem_append_right _ ha)
 have off1:∀ a,a∈rest->a∉f1:=fun a ha hb=>(List.nodup_append.mp nd1).2.2 a hb a ha rfl
 refine⟨w,f1,rest,wk,r1,p1,nd1,fun a ha=>gs a (in1 a ha),fun S' H' u' f' s sh gh new r' nd' fr nS keep nw=>?_⟩
 obtain⟨g,rg,pg⟩:=c1 S' H' u' f' s r' fun a ha o h=>keep a o (off1 a ha) h
 have noS:∀ j a,a∈F j->a∉f1->S' a=none:=fun j a ha hb=>by
  cases q:S' a with
  |none=>rfl
  | some o=>
    obtain⟨⟨o',h1,_⟩,_,h3⟩:=J.live j a ha
    rcases nw a (by rw[q];simp)with z|z|z
    . exact absurd h3 z
    . rw[h1]at z;cases z
    . exact absurd z hb
 have J1:SRF K cls Av G S₀ (ρ.set i none) (σ.set i none) S H (iq F i []):=J.put (fun t e=>nomatch e) (fun a ha=>nomatch ha) fun j a _ ha=>nomatch ha
 have off:∀ j a,a∈iq F i [] j->a∉f1 /\ j≠i:=fun j a ha=>by
  by_cases ej:j=i
  . subst ej;rw[dE]at ha;cases ha
  . rw[cc ej]at ha
    exact⟨fun hb=>ej (J.apart j i a ha (in1 a hb)),ej⟩
 have J2:=J1.change (S':=S') (H':=H') gh s sh new (fun j a ha o h=>keep a o (off j a ha).1 h)
  (fun b o hx h=>keep b o (fun hb=>by
    obtain⟨⟨o',h1,h2⟩,_⟩:=J.live i b (in1 b hb)
    rw[h]at h1;cases h1;rw[hx]at h2;cases h2) h)
  fun j a ha=>by
   have hj:=off j a ha;rw[cc hj.2]at ha;exact noS j a ha hj.1
 have mem:∀ a,a∈g->a∈f' \/ a∈rest:=fun a ha=>List.mem_append.mp (pg.mem_iff.mp ha)
 have hlive:∀ a∈g,(∃ o,H' a=some o /\ isX o=false) /\ G a=none /\ S' a=none:=fun a ha=>by
  refine⟨rg.live a ha,?_,?_⟩
  . rcases mem a ha with z|z
    . rcases fr a z with y|y
      . exact(gs a (in1 a y)).1
      . exact J.gh.free y
    . exact(gs a (inr a z)).1
  . rcases mem a ha with z|z
    . exact nS a z
    . exact noS i a (inr a z) (off1 a z)
 have ndg:g.Nodup:=pg.nodup_iff.mpr (List.nodup_append.mpr ⟨nd',(List.nodup_append.mp nd1).2.1,fun a ha b hb z=>by
  subst z
  rcases fr a ha with y|y
  . exact off1 a hb y
  . obtain⟨⟨o',h1,_⟩,_⟩:=J.live i a (inr a hb)
    rw[y]at h1;cases h1⟩)
 have J3:=J2.put (i:=i) (s:=some (.tr io (t.put π u'))) (u:=some v0) (fp:=g) (fun t' e=>by
  cases e
  exact⟨v0,rfl,rg,ndg,fun a ha=>⟨(hlive a ha).2.1,(hlive a ha).2.2⟩,hio⟩) hlive fun j a hj ha hz=>by
   rw[cc hj]at hz
   rcases mem a ha with z|z
   . rcases fr a z with y|y
     . exact hj (J.apart j i a hz (in1 a y))
     . obtain⟨⟨o',h1,_⟩,_⟩:=J.live j a hz;rw[y]at h1;cases h1
   . exact hj (J.apart j i a hz (inr a z))
 rw[List.set_set,List.set_set,fA hv]at J3
 have eF:iq (iq F i []) i g=iq F i g:=by
  funext j
  by_cases ej:j=i
  . subst ej;rw[dE,dE]
  . rw[cc ej,cc ej,cc ej]
 rw[eF]at J3
 exact⟨g,J3,pg⟩
theorem SRF.more(I:SRF K cls Av G S₀ ρ σ S H F)(h:∀ t,s=some t->∃ v,u=some v /\ kC K cls Av G S H ρ.length t v fp)
  (hl:∀ a∈fp,(∃ o,H a=some o /\ isX o=false) /\ G a=none /\ S a=none) (ap:∀ j a,j<ρ.length->a∈fp->a∉F j):∃ F',SRF K cls Av G S₀ (ρ++[s]) (σ++[u]) S H F':=by
 refine⟨fun j=>if j<ρ.length then F j else if j=ρ.length then fp else[],I.gh,I.s0,I.sh,I.new,fun j t e=>?_,fun j k a h1 h2=>?_,fun j a ha=>?_,by simp[I.len]⟩
 . by_cases hj:j<ρ.length
   . rw[List.getElem?_append_left hj]at e;rw[List.getElem?_append_left (by rw[<- I.len];exact hj)];simp only[hj,if_true];exact I.own j t e
   . rw[List.getElem?_append_right (Nat.le_of_not_lt hj)]at e
     have h0:j - ρ.length=0:=by
      by_cases h:j - ρ.length=0
      . exact h
      . rw[List.getElem?_eq_none (by simp;omega)]at e;cases e
     rw[h0]at e
     have ej:j=ρ.length:=by omega
     obtain⟨v,e2,r⟩:=h t (Option.some.inj e)
     refine⟨v,?_,?_⟩
     . rw[List.getElem?_append_right (by rw[<- I.len];omega),<- I.len,h0,e2];rfl
     . subst ej;simp only[Nat.lt_irrefl,if_false,if_true];exact r
 . by_cases hj:j<ρ.length
   . simp only[hj,if_true]at h1
     by_cases hk:k<ρ.length
     . simp only[hk,if_true]at h2;exact I.apart j k a h1 h2
     . simp only[hk,if_false]at h2;split at h2
       . exact absurd h1 (ap j a hj h2)
       . cases h2
   . simp only[hj,if_false]at h1;split at h1
     . rename_i ej
       by_cases hk:k<ρ.length
       . simp only[hk,if_true]at h2;exact absurd h2 (ap k a hk h1)
       . simp only[hk,if_false]at h2;split at h2
         . rename_i ek;rw[ej,ek]
         . cases h2
     . cases h1
 . by_cases hj:j<ρ.length
   . simp only[hj,if_true]at ha;exact I.live j a ha
   . simp only[hj,if_false]at ha;split at ha
     . exact hl a ha
     . cases ha
theorem SR.fold(I:SR K cls Av G S₀ (ρ++[some s]) (σ++[some v]) S H)(hs:nio s=true):SR K cls Av G S₀ (ρ.set i (some s)) (σ.set i (some v)) S H:=by
 obtain⟨F,J⟩:=I
 have hlen:ρ.length=σ.length:=by have:=J.len;simpa using this
 obtain⟨v',ev,r⟩:=J.own ρ.length s (by simp)
 have ev':v'=v:=by
  rw[List.getElem?_append_right (by rw[hlen];exact Nat.le_refl _),hlen,Nat.sub_self]at ev
  cases ev;rfl
 subst ev'
 have J1:SRF K cls Av G S₀ ρ σ S H (fun j=>if j<ρ.length then F j else[]):=by
  refine⟨J.gh,J.s0,J.sh,J.new,fun j t e=>?_,fun j k a h1 h2=>?_,fun j a ha=>?_,hlen⟩
  . have hj:j<ρ.length:=(List.getElem?_eq_some_iff.mp e).1
    obtain⟨v2,e2,r2⟩:=J.own j t (by rw[List.getElem?_append_left hj];exact e);rw[List.getElem?_append_left (by rw[<- hlen];exact hj)]at e2;simp only[hj,if_true]
    exact⟨v2,e2,r2⟩
  . split at h1
    . split at h2
      . exact J.apart j k a h1 h2
      . cases h2
    . cases h1
  . split at ha
    . exact J.live j a ha
    . cases ha
 refine⟨_,J1.put (i:=i) (s:=some s) (u:=some v') (fp:=F ρ.length) (fun t e=>?_) (fun a ha=>J.live _ a ha) fun j a hj ha hz=>?_⟩
 . cases e
   refine⟨v',rfl,?_⟩
   cases s with
   |sh x=>exact r
   |ow xs=>exact r
   |ex c fs=>exact r
   | tr io t=>
     cases io with
     |true=>cases hs
     |false=>exact⟨r.1,r.2.1,r.2.2.1,fun z=>nomatch z⟩
   |bo t=>cases hs
 . split at hz
   . rename_i hj';have:=J.apart j ρ.length a hz ha;omega
   . cases hz
noncomputable def Co(K:PySem.W.Frag)(cls:String->Option Addr)(B S H:Hp)(t:OV)(v:V):Prop:=∃ fp,bb K cls S H t v fp /\ fp.Nodup /\ ∀ a∈fp,B a=none /\ S a=none
noncomputable def Cs(K:PySem.W.Frag)(cls:String->Option Addr)(W:XW)(σ:St)(S H:Hp)(Q:VK):OD->Prop
 |.ok t=>∀ v S' H',aE S H S' H'->Co K cls H S' H' t v->Q v H'
 |.exc c fs=>∀ a C S' H',aE S H S' H'->ip K cls S' H' c fs a C->W (.ref C) (some a) σ H'
 |.bad=>False
noncomputable def JD(K:PySem.W.Frag)(cls:String->Option Addr)(W:XW)(te:TE)(m:aa->OD):Prop:=∀ Av G S₀ ρ σ S H Q,SR K cls Av G S₀ ρ σ S H->Cs K cls W σ S H Q (m ρ)->te σ H Q
theorem DJ{me:aa->OE}(h:JE K cls W te me):JD K cls W te (mD me):=by
 intro Av G S₀ ρ σ S H Q I p;refine h Av G S₀ ρ σ S H Q I ?_;unfold mD at p
 cases e:me ρ with
 |exc c fs=>rw[e]at p;exact p
 |bad=>rw[e]at p;exact p
 | ok r=>
   rw[e]at p
   cases r with
   |sh x=>exact fun v S' H' w r=>p v S' H' w ⟨[],by unfold bb;exact⟨rfl,r⟩,List.nodup_nil,fun a ha=>nomatch ha⟩
   |al xs=>exact p.elim
   | fr xs=>
     intro v S' H' w r;obtain⟨q,vs,rfl,hB,hS,hH,hr⟩:=r;refine p _ S' H' w ⟨[q],by unfold bb;exact⟨q,vs,[],rfl,hH,rfl,.shs hr⟩,by simp,fun a ha=>?_⟩
     have z:a=q:=by simpa using ha
     subst z;exact⟨hB,hS⟩
theorem SR.Ce(I:SR K cls Av G S₀ ρ σ S H)(w:aE S H S' H')(h:Co K cls H S' H' t v):SR K cls Av G S₀ (ρ.set i (some (.tr false t))) (σ.set i (some v)) S' H':=by
 obtain⟨F,J⟩:=I;obtain⟨fp,r,nd,g⟩:=h
 refine⟨_,(J.grow w).put (fp:=fp) (fun t' e=>by cases e;exact⟨v,rfl,r,nd,fun a ha=>⟨J.gh.free (g a ha).1,(g a ha).2⟩,fun z=>nomatch z⟩) (fun a ha=>⟨r.live a ha,J.gh.free (g a ha).1,(g a ha).2⟩) fun j a _ ha hz=>?_⟩
 obtain⟨⟨o,h1,_⟩,_⟩:=J.live j a hz;rw[(g a ha).1]at h1;cases h1
theorem xK{md:aa->OD}(h:JD K cls W te md):JS K cls W (rK te (eU i)) (ql i md):=by
 intro Av G S₀ ρ σ S H D I p;refine h Av G S₀ ρ σ S H _ I ?_;unfold ql at p
 cases e:md ρ with
 |exc c fs=>rw[e]at p;exact fun a C S' H' w x=>p a C σ S' H' (I.grow w) w.s x
 |bad=>rw[e]at p;exact p
 |ok t=>rw[e]at p;exact fun v S1 H1 w1 r1=>p _ S1 H1 (I.Ce w1 r1) w1.s
end
section
variable{K:PySem.W.Frag}{cls:String->Option Addr}{W:XW}{Av G S₀ S S' H H' B B':Hp}{ρ:aa}{σ:St}{Q:VK}{F:Nat->List Addr}
theorem bb.zW{ts:List OV}{v:V}{fp:List Addr}(h:bb K cls S H (.ol ts) v fp):∃ p vs f,v=.ref p /\ H p=some (.lst vs) /\ fp=p ::f /\ aO K cls S H ts vs f:=by unfold bb at h;exact h
theorem SRF.tM{i:Nat}{io:Bool}{t:OV}{ts:List OV}{v0:V}{π:List Stp}(J:SRF K cls Av G S₀ ρ σ S H F)(hi:ρ[i]?=some (some (.tr io t)))(hv:σ[i]?=some (some v0))(e:t.get π=some (.ol ts)):
  ∃ q vs ff rest,gB H v0 π (.ref q) /\ H q=some (.lst vs) /\ vs.length=ts.length /\ aO K cls S H ts vs ff /\ (F i).Perm ((q ::ff)++rest) /\ ((q ::ff)++rest).Nodup /\
    ∀ S' H' ts' vs' f',aE S H S' H'->aO K cls S' H' ts' vs' f'->f'.Nodup->(∀ a∈f',a∈ff \/ (H a=none /\ S' a=none)) ->
      ∃ g,SRF K cls Av G S₀ (ρ.set i (some (.tr io (t.put π (.ol ts'))))) σ S' (upd H' q (.lst vs')) (iq F i g) /\ g.Perm ((q ::f')++rest):=by
 obtain⟨w,f1,rest,wk,r1,p1,nd1,gs,c⟩:=J.part hi hv e;obtain⟨q,vs,ff,rfl,hq,rfl,rs⟩:=r1.zW
 refine⟨q,vs,ff,rest,wk,hq,rs.length,rs,p1,nd1,fun S' H' ts' vs' f' wg r' nd' fr=>?_⟩
 have hGq:=(gs q (by simp)).1;have hSq:=(gs q (by simp)).2
 have hS'q:S' q=none:=by
  cases z:S' q with
  |none=>rfl
  | some o=>
    rcases wg.new q (by rw[z];simp)with y|y
    . exact absurd hSq y
    . rw[hq]at y;cases y
 have nq:q∉f':=fun z=>by
  rcases fr q z with y|y
  . exact(List.nodup_cons.mp (List.nodup_append.mp nd1).1).1 y
  . rw[y.1]at hq;cases hq
 have nS:∀ a∈f',S' a=none:=fun a ha=>by
  rcases fr a ha with y|y
  . cases z:S' a with
    |none=>rfl
    | some o=>
      obtain⟨o',h1,_⟩:=rs.live a y
      rcases wg.new a (by rw[z];simp)with k|k
      . exact absurd (gs a (by simp[y])).2 k
      . rw[h1]at k;cases k
  . exact y.2
 refine c S' (upd H' q (.lst vs')) (.ol ts') (q ::f') wg.s (wg.sh.upd hS'q) ((J.gh.trans wg.g).upd hGq) (fun b h=>?_) ?_ (List.nodup_cons.mpr ⟨nq,nd'⟩) (fun a ha=>?_) (fun a ha=>?_) (fun a o hn h=>?_) fun a h=>?_
 . rcases wg.new b h with z|z
   . exact J.new b z
   . exact .inr (J.gh.free z)
 . unfold bb
   exact⟨q,vs',f',rfl,az,rfl,r'.mono (au.refl _) fun a ha o h=>by rw[aA (fun z=>nq (by rw[<- z];exact ha))];exact h⟩
 . rcases List.mem_cons.mp ha with z|z
   . subst z;exact .inl (by simp)
   . rcases fr a z with y|y
     . exact .inl (by simp[y])
     . exact .inr y.1
 . rcases List.mem_cons.mp ha with z|z
   . subst z;exact hS'q
   . exact nS a z
 . rw[aA (fun z=>hn (by rw[z];simp))];exact wg.g _ _ h
 . rcases wg.new a h with z|z
   . exact .inl z
   . exact .inr (.inl z)
theorem JP.at{i:Nat}{te:TE}{mp:MP}{io:Bool}{t u:OV}{v0:V}{π:List Stp}{Q:VK}(hp:JP K cls te i mp)(I:SR K cls Av G S₀ ρ σ S H)(hi:ρ[i]?=some (some (.tr io t)))(hv:σ[i]?=some (some v0))(e0:mp ρ=some π)(e1:t.get π=some u)
  (k:∀ w S' H',aE S H S' H'->SR K cls Av G S₀ ρ σ S' H'->gB H' v0 π w->Q w H'):te σ H Q:=
 hp Av G S₀ ρ σ S H Q v0 t π I (by unfold iT;rw[hi];rfl) hv e0 (by rw[e1];rfl) fun w S1 H1 w1 wk=>k w S1 H1 w1 (I.grow w1) wk
theorem vQ{i:Nat}{mp:MP}{k:OV->(OV->aa)->OS}{D:Ends}(p:b5 K cls W Av G S₀ S D (xo i mp ρ k)):∃ io t π u,ρ[i]?=some (some (.tr io t)) /\ mp ρ=some π /\ t.get π=some u /\ b5 K cls W Av G S₀ S D (k u fun u'=>ρ.set i (some (.tr io (t.put π u')))):=by
 unfold xo at p;split at p
 . rename_i io t hi;split at p
   . rename_i π e0;split at p
     . rename_i u e1
       exact⟨io,t,π,u,hi,e0,e1,p⟩
     . exact p.elim
   . exact p.elim
 . exact p.elim
theorem SR.val{i:Nat}{s:Sl}(I:SR K cls Av G S₀ ρ σ S H)(e:ρ[i]?=some (some s)):∃ v,σ[i]?=some (some v):=let ⟨v,h,_⟩:=I.good i s e;⟨v,h⟩
end
section
variable{K:PySem.W.Frag}{cls:String->Option Addr}{W:XW}{Av G S₀ S S' H H' B B':Hp}{ρ:aa}{σ:St}{Q:VK}{F:Nat->List Addr}
noncomputable def BV(K:PySem.W.Frag)(cls:String->Option Addr)(W:XW)(Av G S₀:Hp)(σ:St)(S:Hp)(Q:VK):OX->Prop
 |.ok ρ' s=>∀ v S' H',SR K cls Av G S₀ (ρ'++[some s]) (σ++[some v]) S' H'->au S S'->Q v H'
 |.exc ρ' c fs=>∀ a C S' H',SR K cls Av G S₀ ρ' σ S' H'->au S S'->ip K cls S' H' c fs a C->W (.ref C) (some a) σ H'
 |.bad=>False
noncomputable def JX(K:PySem.W.Frag)(cls:String->Option Addr)(W:XW)(te:TE)(m:aa->OX):Prop:=∀ Av G S₀ ρ σ S H Q,SR K cls Av G S₀ ρ σ S H->BV K cls W Av G S₀ σ S Q (m ρ)->te σ H Q
theorem yL{i:Nat}{te:TE}{m:aa->OX}(h:JX K cls W te m):JS K cls W (rK te (eU i)) (qt i m):=by
 intro Av G S₀ ρ σ S H D I p;refine h Av G S₀ ρ σ S H _ I ?_;unfold qt at p
 cases e:m ρ with
 |exc ρ' c fs=>rw[e]at p;exact fun a C S' H' I' s' x=>p a C σ S' H' I' s' x
 |bad=>rw[e]at p;exact p
 | ok ρ' s=>
   rw[e]at p
   dsimp only at p
   split at p
   . rename_i hs
     exact fun v S' H' I' s'=>p _ S' H' (I'.fold hs) s'
   . exact p.elim
theorem aO.last{ts:List OV}{vs:List V}{f:List Addr}{x:OV}(h:aO K cls S H ts vs f)(e:ts.getLast?=some x):∃ y f1 f2,vs[vs.length - 1]?=some y /\ aO K cls S H ts.dropLast vs.dropLast f1 /\ bb K cls S H x y f2 /\ f=f1++f2:=by
 induction ts generalizing vs f with
 |nil=>cases e
 | cons t ts ih=>
   obtain⟨v,r,f1,f2,rfl,rfl,h1,h2⟩:=h.cons_inv
   cases ts with
   | nil=>
     unfold aO at h2;obtain⟨rfl,rfl⟩:=h2;simp at e;subst e
     exact⟨v,[],f1,rfl,.nil,h1,by simp⟩
   | cons t2 ts2=>
     rw[List.getLast?_cons_cons]at e;obtain⟨y,g1,g2,e1,r1,r2,rfl⟩:=ih h2 e
     have hr:r≠[]:=by intro z;subst z;have:=h2.length;simp at this
     refine⟨y,f1++g1,g2,?_,?_,r2,by simp⟩
     . cases r with
       |nil=>exact absurd rfl hr
       |cons a r'=>simpa using e1
     . cases r with
       |nil=>exact absurd rfl hr
       |cons a r'=>exact aO.cons h1 r1
theorem yR{x:OV}{v:V}{fp:List Addr}{i:Nat}(h:bb K cls S H x v fp)(nd:fp.Nodup)(g:∀ a∈fp,G a=none /\ S a=none):kC K cls Av G S H i (slO x) v fp:=by
 cases x with
 |sh y=>unfold bb at h;exact h
 |ol ts=>exact⟨h,nd,g,fun z=>nomatch z⟩
 |ob c ks ts=>exact⟨h,nd,g,fun z=>nomatch z⟩
 |di x=>exact⟨h,nd,g,fun z=>nomatch z⟩
 |dt x=>exact⟨h,nd,g,fun z=>nomatch z⟩
theorem yT{i:Nat}{te:TE}{mp:MP}(hp:JP K cls te i mp):JX K cls W (yQ K "list" Cq te) (nC i mp):=by
 intro Av G S₀ ρ σ S H Q I p;unfold nC at p;split at p
 . rename_i io t hi;split at p
   . rename_i π e0;split at p
     . rename_i ts e1;split at p
       . rename_i x ex;obtain⟨v0,hv⟩:=I.val hi
         refine hp.at I hi hv e0 e1 fun w S1 H1 w1 I1 wk=>?_
         obtain⟨F,J1⟩:=id I1;obtain⟨q,vs,ff,rest,wk',hq,hl,rs,pF,nd,c⟩:=J1.tM hi hv e1;have:=wk.inj wk';subst this;obtain⟨y,f1,f2,ey,ri,rx,rfl⟩:=rs.last ex
         have ndf:(f1++f2).Nodup:=(List.nodup_cons.mp (List.nodup_append.mp nd).1).2
         have nq:q∉f1++f2:=(List.nodup_cons.mp (List.nodup_append.mp nd).1).1
         refine⟨.inl ⟨rfl,_,SqL.new hq⟩,q,vs,y,rfl,rfl,hq,ey,?_⟩
         obtain⟨g,J3,pg⟩:=c S1 H1 ts.dropLast vs.dropLast f1 (aE.refl J1.sh) ri (List.nodup_append.mp ndf).1 fun a ha=>.inl (List.mem_append_left _ ha)
         have in2:∀ a∈f2,a∈F i:=fun a ha=>pF.mem_iff.mpr (by simp[ha])
         have rx':bb K cls S1 (upd H1 q (.lst vs.dropLast)) x y f2:=rx.mono (au.refl _) fun a ha o h=>by rw[aA (fun z=>nq (by rw[<- z];simp[ha]))];exact h
         have gs2:∀ a∈f2,G a=none /\ S1 a=none:=fun a ha=>(J1.live i a (in2 a ha)).2
         obtain⟨F',J4⟩:=J3.more (s:=some (slO x)) (u:=some y) (fp:=f2) (fun t' e=>by cases e;exact⟨y,rfl,yR rx' (List.nodup_append.mp ndf).2.1 gs2⟩) (fun a ha=>⟨rx'.live a ha,gs2 a ha⟩) fun j a hj ha hz=>by
          by_cases ej:j=i
          . subst ej;rw[dE]at hz;have hm:=pg.mem_iff.mp hz;have hd:=List.nodup_append.mp nd
            rcases List.mem_append.mp hm with z|z
            . rcases List.mem_cons.mp z with z|z
              . subst z;exact nq (by simp[ha])
              . exact(List.nodup_append.mp ndf).2.2 a z a ha rfl
            . exact hd.2.2 a (by simp[ha]) a z rfl
          . rw[cc ej]at hz;exact ej (J1.apart j i a hz (in2 a ha))
         exact p y S1 _ ⟨F',J4⟩ w1.s
       . exact p.elim
     . exact p.elim
   . exact p.elim
 . exact p.elim
end
open Classical in
section
variable{K:PySem.W.Frag}{cls:String->Option Addr}{W:XW}{Av G S₀ S S' H H' B B':Hp}{ρ:aa}{σ:St}{Q:VK}{F Fc Fc':Nat->List Addr}
noncomputable def oj:List Arg->List Nat
 |[]=>[]
 |.t i _ ::as=>i ::oj as
 |_ ::as=>oj as
noncomputable def q5:List Arg->List Nat
 |[]=>[]
 |.b i _ ::as=>i ::q5 as
 |_ ::as=>q5 as
noncomputable def argsOk(as:List Arg):Bool:=decide (oj as).Nodup&&(q5 as).all fun i=>!(oj as).contains i
end
end L2.P
namespace L2.E
open PySem PySem.Spec PyProof.Rows L2
end L2.E
namespace L2.P
open PySem PySem.Spec PyProof.Rows L2 L2.E
end L2.P
namespace L2.E
open PySem PySem.Spec PyProof.Rows L2
end L2.E
namespace L2.P
open PySem PySem.Spec PyProof.Rows L2 L2.E
section
variable{K:PySem.W.Frag}{cls:String->Option Addr}{W:XW}{Av G S₀ S S' H H' B B':Hp}{ρ:aa}{σ:St}{Q:VK}
theorem jj{ml me:aa->OE}{ι:List Nat}(hι:ι.Nodup)(hl:JE K cls W tl ml)(he:JE K cls (fun _ _ _ _=>False) te me):JE K cls W (qj (zK K tl) ι te) (eW ml ι me):=by
 intro Av G S₀ ρ σ S H Q I p
 refine hl.go I p fun r v S1 H1 I1 w1 r1 p1=>?_
 have ra:=r1.rd I1.sh
 cases e:r.pv with
 | tup xs=>
   rw[e]at p1 ra;obtain⟨a,vs,rfl,hq,hr⟩:=cn ra
   refine⟨a,rfl,⟨vs,au.tup I1.sh hq⟩,?_⟩
   dsimp only at p1
   cases em:bA me (bU ι ρ) xs with
   |exc c fs=>rw[em]at p1;exact p1.elim
   |bad=>rw[em]at p1;exact p1.elim
   | ok ys=>
     rw[em]at p1;simp only[noX]at p1;split at p1
     . rename_i hlen
       refine jX hι he I1 em hlen (fun k H' x g hx=>?_) (fun H' g=>⟨vs,au.tup (I1.sh.trans g) hq,by rw[hr.length];exact Nat.le_refl _⟩) fun D S' H' w nD sD ⟨us,hD,rr⟩=>p1 (.ref D) S' H' w ⟨D,us,rfl,nD,sD,hD,rr⟩
       obtain⟨u,hu,ru⟩:=hr.get hx
       refine⟨⟨vs,u,au.tup (I1.sh.trans g) hq,hu⟩,?_⟩
       rintro v' H2 ⟨rfl,hv⟩
       have:=hv vs (au.tup (I1.sh.trans g) hq);rw[hu]at this;cases this
       exact⟨rfl,ru⟩
     . exact p1.elim
 |_=>rw[e]at p1;exact p1.elim
theorem zO:JU K (fun xs H Q=>∃ p ys,xs=[.ref p] /\ ((SqL K H p ys /\ ∀ l,H l=none->Q (.ref l) (upd H l (.tup ys))) \/ (SqT K H p ys /\ Q (.ref p) H))) oW:=by
 intro S H x v rr Q I hx e k
 cases x with
 | lst xs=>
   cases e;obtain⟨p,vs,rfl,hq,r⟩:=dR hx
   refine⟨p,vs,rfl,.inl ⟨hq,fun l hl=>k _ _ _ (aE.both I hl) ?_⟩⟩
   show Rep K _ _ _;unfold Rep
   exact⟨l,vs,rfl,SqT.new az,r.mono (aE.both (o:=.tup vs) I hl).s⟩
 | tup xs=>
   cases e;obtain⟨p,vs,rfl,hq,r⟩:=cn hx
   refine⟨p,vs,rfl,.inr ⟨au.tup I hq,k _ S H (aE.refl I) ?_⟩⟩
   show Rep K _ _ _;unfold Rep
   exact⟨p,vs,rfl,hq,r⟩
 |_=>cases e
theorem x4:JR K (wm K) zp:=by
 intro S H x y v u rr Q I hx hy e k;unfold zp at e;split at e
 . rename_i x xs ys;split at e
   . rename_i hl;cases e;obtain⟨p,vs,rfl,hq,r⟩:=cn hx;obtain⟨p2,vs2,rfl,hq2,r2⟩:=cn hy;obtain⟨w,t,rfl,h1,h2⟩:=r.cons_inv
     refine⟨p,p2,w ::t,vs2,rfl,rfl,au.tup I hq,au.tup I hq2,by simp,by rw[r.length,r2.length];exact hl,fun z=>?_,fun z l hl'=>?_⟩
     . refine k _ S H (aE.refl I) ?_;show Rep K _ _ _;unfold Rep
       have:ys=[]:=by have:=r2.length;rw[z]at this;simpa using this.symm
       subst this
       exact⟨p,w ::t,rfl,hq,by rw[List.append_nil];exact r⟩
     . refine k _ _ _ (aE.both I hl') ?_;show Rep K _ _ _;unfold Rep
       exact⟨l,_,rfl,SqT.new az,(r.append r2).mono (aE.both (o:=.tup (w ::t++vs2)) I hl').s⟩
   . cases e
 . cases e
end
end L2.P
namespace L2.E
open PySem PySem.Spec PyProof.Rows L2
end L2.E
namespace L2.P
open PySem PySem.Spec PyProof.Rows L2 L2.E
end L2.P
namespace L2.E
open PySem PySem.Spec PyProof.Rows L2
noncomputable def B0(K:PySem.W.Frag)(tl:TE):TI:=fun σ H R=>tl σ H fun x H1=>∃ a,x=.ref a /\ (((∃ xs,SqL K H1 a xs) /\ R (Itl K a) H1) \/ ((∃ xs,SqT K H1 a xs) /\ R (Itt K a) H1))
theorem wR{X:Cx}{tg l:Expr}{tl:TE}(hl:QE X l tl):QI X tg l (B0 X.K tl):=⟨by
 intro pins s σ H R I h
 refine thn (hl.out pins s σ H _ I h) fun v s1 ⟨x,H1,I1,r1,q1⟩=>?_
 obtain⟨a,e,q⟩:=q1;subst e;cases r1
 rcases q with⟨⟨xs,hq⟩,q⟩|⟨⟨xs,hq⟩,q⟩
 . obtain⟨its,rv,p,hz⟩:=I1.list hq;refine wpAny_pyIter_list p.isList ?_
   refine⟨s1.heap.objs.size,[s1.heap.objs.size],_,_,H1,rfl,I1.kept (t':=s1.toks) fun b o e=>Heap.get?_push_of_some _ e,nI a _,⟨_,Heap.get?_push_size _ rfl,rfl,rfl⟩,fun b hb=>?_,q⟩
   have e:b=s1.heap.objs.size:=by simpa using hb
   subst e;exact I1.tU (Nat.le_refl _) (I1.hok.fresh (Nat.le_refl _))
 . obtain⟨its,rv,p,hz⟩:=I1.tuple hq;refine wpAny_pyIter_tuple (show s1.heap.IsTuple a its.toArray from p) ?_
   refine⟨s1.heap.objs.size,[s1.heap.objs.size],_,_,H1,rfl,I1.kept (t':=s1.toks) fun b o e=>Heap.get?_push_of_some _ e,kS a _,⟨_,Heap.get?_push_size _ rfl,rfl,rfl⟩,fun b hb=>?_,q⟩
   have e:b=s1.heap.objs.size:=by simpa using hb
   subst e
   exact I1.tU (Nat.le_refl _) (I1.hok.fresh (Nat.le_refl _))⟩
end L2.E
namespace L2.P
open PySem PySem.Spec PyProof.Rows L2 L2.E
section
variable{K:PySem.W.Frag}{cls:String->Option Addr}{W:XW}{Av G S₀ S S' H H' B B':Hp}{ρ:aa}{σ:St}{Q:VK}
theorem tI{xs:List PV}{k:Nat}{y:PV}(hy:xs[k]?=some y):xs.drop k=y ::xs.drop (k+1):=by
 have hk:k<xs.length:=(List.getElem?_eq_some_iff.mp hy).1
 rw[List.drop_eq_getElem_cons hk]
 congr 1
 have:=List.getElem?_eq_getElem hk;rw[hy]at this
 exact(Option.some.inj this).symm
theorem wC{g:TG}{tb:TS}{D:Ends}{r:RV}{v:V}{xs:List PV}{S1 H1:Hp}(L:List PV->aa->OS)(I:SR K cls Av G S₀ ρ σ S H)(w1:aE S H S1 H1)(r1:eZ K H S1 H1 r v)(ei:ku r=some xs)(p:b5 K cls W Av G S₀ S D (L xs ρ))(nil:∀ ρ,L [] ρ=.nx ρ)
  (turn:∀{ρ σ S H x v ys} {N:St->Hp->Prop},SR K cls Av G S₀ ρ σ S H->Rep K S x v->b5 K cls W Av G S₀ S D (L (x ::ys) ρ)->(∀ ρ' σ' S' H',SR K cls Av G S₀ ρ' σ' S' H'->au S S'->b5 K cls W Av G S₀ S' D (L ys ρ')->N σ' H')->g v σ H fun σ2 H2=>tb { D with nx:=N,ct:=N,bk:=D.nx } σ2 H2):
  ∃ a,v=.ref a /\ (((∃ xs,SqL K H1 a xs) /\ ∃ W:Nat->Nat->St->Hp->Prop,(∃ m,W 0 m σ H1) /\ ∀ i m σ H,W i m σ H ->
    ((Itl K a).stop i H /\ D.nx σ H) \/ ((Itl K a).go i H /\ ∃ N:St->Hp->Prop,(∀ σ' H',N σ' H'->∃ m',m'<m /\ W (i+1) m' σ' H') /\ ∀ x H',(Itl K a).yld i H x H'->g x σ H' fun σ2 H2=>tb { D with nx:=N,ct:=N,bk:=D.nx } σ2 H2)) \/
    ((∃ xs,SqT K H1 a xs) /\ ∃ W:Nat->Nat->St->Hp->Prop,(∃ m,W 0 m σ H1) /\ ∀ i m σ H,W i m σ H ->
    ((Itt K a).stop i H /\ D.nx σ H) \/ ((Itt K a).go i H /\ ∃ N:St->Hp->Prop,(∀ σ' H',N σ' H'->∃ m',m'<m /\ W (i+1) m' σ' H') /\ ∀ x H',(Itt K a).yld i H x H'->g x σ H' fun σ2 H2=>tb { D with nx:=N,ct:=N,bk:=D.nx } σ2 H2))):=by
 have es:fh r=some (.lst xs) \/ fh r=some (.tup xs):=by
  cases r with
  |sh y=>cases y<;>cases ei<;>first|exact .inl rfl|exact .inr rfl
  |fr ys=>cases ei;exact .inl rfl
  |al ys=>cases ei
 rcases es with es|es
 . obtain⟨S2,w2,s2,rx⟩:=r1.share w1 es;have I2:=I.grow w2;unfold Rep at rx;obtain⟨a,vs,rfl,hq,hr⟩:=rx
   refine⟨a,rfl,.inl ⟨⟨vs,au.seq I2.sh hq⟩,?_⟩⟩
   refine xa (xs:=vs) (fun k σ' H'=>∃ ρ' S',SR K cls Av G S₀ ρ' σ' S' H' /\ au S2 S' /\ b5 K cls W Av G S₀ S' D (L (xs.drop k) ρ'))
    ⟨ρ,S2,I2,au.refl _,p.back w2.s⟩ ?_ ?_ ?_
   . rintro k σ' H' _ ⟨ρ',S',I',s',_⟩
     exact au.seq (s'.trans I'.sh) hq
   . rintro k x σ' H' hx ⟨ρ',S',I',s',p'⟩
     obtain⟨y,hy,ry⟩:=hr.zU hx;rw[tI hy]at p'
     exact turn I' (Rep.mono s' ry) p' fun ρ2 σ2 S3 H3 I3 s3 p3=>⟨ρ2,S3,I3,s'.trans s3,p3⟩
   . rintro σ' H' ⟨ρ',S',I',s',p'⟩
     rw[List.drop_of_length_le (by rw[hr.length];exact Nat.le_refl _),nil]at p';exact p' σ' S' H' I' (au.refl _)
 . obtain⟨S2,w2,s2,rx⟩:=r1.share w1 es;have I2:=I.grow w2;unfold Rep at rx;obtain⟨a,vs,rfl,hq,hr⟩:=rx
   refine⟨a,rfl,.inr ⟨⟨vs,au.tup I2.sh hq⟩,?_⟩⟩
   refine xq (xs:=vs) (fun k σ' H'=>∃ ρ' S',SR K cls Av G S₀ ρ' σ' S' H' /\ au S2 S' /\ b5 K cls W Av G S₀ S' D (L (xs.drop k) ρ'))
    ⟨ρ,S2,I2,au.refl _,p.back w2.s⟩ ?_ ?_ ?_
   . rintro k σ' H' _ ⟨ρ',S',I',s',_⟩
     exact au.tup (s'.trans I'.sh) hq
   . rintro k x σ' H' hx ⟨ρ',S',I',s',p'⟩
     obtain⟨y,hy,ry⟩:=hr.zU hx;rw[tI hy]at p'
     exact turn I' (Rep.mono s' ry) p' fun ρ2 σ2 S3 H3 I3 s3 p3=>⟨ρ2,S3,I3,s'.trans s3,p3⟩
   . rintro σ' H' ⟨ρ',S',I',s',p'⟩
     rw[List.drop_of_length_le (by rw[hr.length];exact Nat.le_refl _),nil]at p';exact p' σ' S' H' I' (au.refl _)
theorem sF{i:Nat}{tl:TE}{tb:TS}{ml:aa->OE}{mb:aa->OS}(hl:JE K cls W tl ml)(hb:JS K cls W tb mb):JS K cls W (xb (B0 K tl) (eU i) tb) (i0 i ml mb):=by
 intro Av G S₀ ρ σ S H D I p;refine hl Av G S₀ ρ σ S H _ I ?_;unfold i0 at p
 cases em:ml ρ with
 |exc c fs=>rw[em]at p;exact fun a C S' H' w x=>p a C σ S' H' (I.grow w) w.s x
 |bad=>rw[em]at p;exact p
 | ok r=>
   rw[em]at p;intro v S1 H1 w1 r1;simp only[OE.aP]at p
   cases ei:ku r with
   |none=>rw[ei]at p;exact p.elim
   | some xs=>
     rw[ei]at p
     exact wC (fun xs ρ=>cJ i mb xs ρ) I w1 r1 ei p (fun _=>rfl) fun I' rx p' hN=>nu hb I' rx p' hN
end
end L2.P
namespace L2.P
open PySem
end L2.P
namespace L2.P
open PySem PySem.Spec PyProof.Rows L2 L2.E
end L2.P
namespace L2.P
open PySem
noncomputable def dA:PV->PV->Option RV
 |.tup xs,.tup ys=>if xs.length+ys.length<=lim then some (.sh (.tup (xs++ys)))else none
 |_,_=>none
end L2.P
namespace L2
open PySem PySem.Spec PyProof.Rows
end L2
namespace L2.P
open PySem PySem.Spec PyProof.Rows L2 L2.E
end L2.P
namespace HT
open PySem PyProof.Rows
theorem wI{prog:Program}{w:World}{A:Around}{E:Value->Shared->Prop}{s:Shared}{t b:Addr}{ws:List Value}{Q:Value->Shared->Prop}(ht:IsTup s.heap t ([]:List Value).toArray)(hb:IsTup s.heap b ws.toArray)(h:Q (.ref b) s):wpAny (model prog w) A (binaryOp .Add (.ref t) (.ref b)) Q E s:=by
 obtain⟨⟨cls,dd,data,sl⟩,ho,hc,n,hd⟩:=id ht;obtain⟨⟨cls2,dd2,data2,sl2⟩,ho2,hc2,n2,hd2⟩:=id hb;simp only at hc hd hc2 hd2;subst hc hd hc2 hd2
 exact concat_meets ⟨_,ho,rfl⟩ ⟨_,ho2,rfl⟩ noFill_tuple_add seq_tuple_add PySem.F.slot_tuple_add PySem.F.entry_tuple_add (PySem.F.args_tuple_add_2 _ _)
   (tuple_addW0 t b #[] ws.toArray n n2 dd dd2 sl sl2 rfl) ⟨ho,ho2,h⟩
end HT
namespace L2
open PySem PySem.Spec PyProof.Rows
noncomputable def xl(K:PySem.W.Frag):R2:=fun x y H Q=>(∃ a b ys,x=.ref a /\ y=.ref b /\ SqT K H a [] /\ SqT K H b ys /\ Q (.ref b) H) \/ wm K x y H Q
theorem fE{X:Cx}:OpR X (binaryOp .Add) (xl X.K):=by
 intro pins s σ H x y v u Q I rx ry h
 rcases h with⟨a,b,ys,rfl,rfl,ha,hb,q⟩|h
 . cases rx;cases ry;obtain⟨its,r1,p1,_⟩:=I.tuple ha;obtain⟨its2,r2,p2,_⟩:=I.tuple hb
   have:its=[]:=r1.i8.mpr rfl
   subst this;exact HT.wI p1 p2 ⟨.ref b,H,I,rfl,q⟩
 . exact xY pins s σ H x y v u Q I rx ry h
end L2
namespace L2.P
open PySem PySem.Spec PyProof.Rows L2 L2.E
theorem fz{K:PySem.W.Frag}:JR K (xl K) dA:=by
 intro S H x y v u rr Q I hx hy e k;unfold dA at e;split at e
 . rename_i xs ys;split at e
   . rename_i hl;cases e
     cases xs with
     | nil=>
       obtain⟨p,vs,rfl,hq,r⟩:=cn hx;obtain⟨p2,vs2,rfl,hq2,r2⟩:=cn hy
       have hvs:vs=[]:=by have:=r.length;simpa using this
       subst hvs;refine .inl ⟨p,p2,vs2,rfl,rfl,au.tup I hq,au.tup I hq2,k _ S H (aE.refl I) ?_⟩;show Rep K _ _ _;unfold Rep
       exact⟨p2,vs2,rfl,hq2,by rw[List.nil_append];exact r2⟩
     |cons x xs=>exact .inr (x4 S H (.tup (x ::xs)) (.tup ys) v u _ Q I hx hy (if_pos hl) k)
   . cases e
 . cases e
end L2.P
namespace HT
open PySem PyProof.Rows
open AutoSeq1 (wpAny_loadPart')
end HT
namespace L2
open PySem PySem.Spec PyProof.Rows
end L2
namespace L2.P
open PySem PySem.Spec PyProof.Rows L2 L2.E
end L2.P
namespace L2.P
open PySem
noncomputable def dg:aa->OS:=fun _=>.bad
noncomputable def BZ:List PV->OE:=fun _=>.bad
noncomputable def jg(i:Nat)(mp:MP)(me:aa->OE):aa->OS:=fun ρ=>xo i mp ρ fun u put=>match u with
 | .ol ts=>(me ρ).aP ρ fun r=>(match r with
   |.fr ys=>if ts.length+ys.length<=lim then .nx (put (.ol (ts++ys.map .sh)))else .bad
   |.sh (.lst ys)=>if ts.length+ys.length<=lim then .nx (put (.ol (ts++ys.map .sh)))else .bad
   |_=>.bad)
 |_=>.bad
end L2.P
namespace L2
open PySem PySem.Spec PyProof.Rows
end L2
namespace L2.E
open PySem PySem.Spec PyProof.Rows L2
section
variable{X:Cx}
noncomputable def yZ:TS:=fun _ _ _=>False
theorem cO{e:Stmt}:QS X e yZ:=⟨fun _ _ _ _ _ _ h=>h.elim⟩
end
end L2.E
namespace L2.P
open PySem PySem.Spec PyProof.Rows L2 L2.E
section
variable{K:PySem.W.Frag}{cls:String->Option Addr}{W:XW}{S:Hp}
theorem cQ:JS K cls W yZ dg:=fun _ _ _ _ _ _ _ _ _ p=>p
end
end L2.P
namespace L2.E
open PySem PySem.Spec PyProof.Rows L2
end L2.E
namespace L2.P
open PySem PySem.Spec PyProof.Rows L2 L2.E
end L2.P
namespace L2.E
open PySem PySem.Spec PyProof.Rows L2
end L2.E
namespace L2.P
open PySem PySem.Spec PyProof.Rows L2 L2.E
section
variable{K:PySem.W.Frag}{cls:String->Option Addr}{W:XW}
theorem A4{P:Program}{w:World}{mg:Str->Option Value}{base:Heap}{CX:CXT}{k:Nat}{f:Addr}{fd:FuncData}{ps:List Str}:bH P w K mg base CX k f fd ps (spP K cls BZ) where
 len:=fun vs H Q E h=>by obtain⟨_,_,_,_,h⟩:=h;exact h.elim
 run:=fun A outer s H args us vs Q E hr e0 b r h=>by obtain⟨_,_,_,_,h⟩:=h;exact h.elim
end
end L2.P
namespace L2.E
open PySem PySem.Spec PyProof.Rows L2
end L2.E
namespace L2.P
open PySem PySem.Spec PyProof.Rows L2 L2.E
end L2.P
namespace L2.E
open PySem PySem.Spec PyProof.Rows L2
theorem nX(l:Addr)(items:Array Value)(n:Nat)(b:Addr)(items2:Array Value)(n2:Nat)(dd2:Option Addr)(sl2:Array (Option Value))(hc0:¬(!items.isEmpty&&Builtin.List.listTooLong (items.size+items2.size))=true)(hc1:items.size<=sizeLine)(hs2:items.size+items2.size<=sizeLine+1):
  Meets (Builtin.«list.extend» ⟨[.ref l,.ref b],[]⟩) (fun _ R s=>s.heap.get? l=some { cls:=.type "list",dict:=none,data:=.seq items n,slots:=#[] } /\ s.heap.get? b=some { cls:=.type "list",dict:=dd2,data:=.seq items2 n2,slots:=sl2 } /\ R (.ok (.ret Value.none)) { s with heap:=s.heap.update l (Obj.mapSeq fun x=>x++items2),toks:=s.toks }):=
 .of_wp fun prog w A R s h=>by
  obtain⟨hp,g,d,tk,os⟩:=s;obtain⟨hl,hb,h⟩:=h;have f1:=AutoSeq1.idx_int;have f2:=AutoSeq1.sub_tuple_tuple;have f3:=AutoSeq1.sub_list_list;have f4:=AutoSeq1.sub_tuple_list;have f5:=AutoSeq1.sub_list_tuple
  have hz':(items++items2).size<=sizeLine+1:=by rw[Array.size_append];exact hs2
  wp_walk using (wpAny_updateSeq hl rfl (hz:=hc1) (_hz':=hz')),wpAny_loadPart' hl,wpAny_loadPart' hb;exact⟨_,rfl,h⟩
noncomputable def qN(K:PySem.W.Frag):V->List V->Hp->VK->Prop:=fun x vs H Q=>∃ l b xs zs,x=.ref l /\ vs=[.ref b] /\ H l=some (.lst xs) /\ SqL K H b zs /\ xs.length+zs.length<=sizeLine /\ Q .non (upd H l (.lst (xs++zs)))
theorem rf{X:Cx}:MtM X "list.extend" (qN X.K):=by
 intro pins s σ H x vs v us Q I rx rv h;obtain⟨l,b,xs,zs,rfl,rfl,hH,hB,hz,q⟩:=h;cases rx;obtain⟨u,rfl,ru⟩:=rv.one;cases ru;obtain⟨z,its,n,r,hl,e⟩:=I.wN hH;obtain⟨its2,r2,pl2,z2⟩:=I.list hB;obtain⟨⟨cls2,dd2,data2,sl2⟩,ho2,hc2,n2,hd2⟩:=pl2.isList;simp only at hc2 hd2;subst hc2 hd2;have hl2:=r2.length
 have hsz:its.toArray.size+its2.toArray.size<=sizeLine:=by rw[List.size_toArray,List.size_toArray];omega
 have hlong:¬ (!its.toArray.isEmpty&&Builtin.List.listTooLong (its.toArray.size+its2.toArray.size))=true:=by
  rw[qa hsz,Bool.and_false];exact Bool.false_ne_true
 refine call_meets F.slot_list_extend ⟨_,e,rfl⟩ F.entry_list_extend (F.args_list_extend_2 _ _)
  (nX l its.toArray n b its2.toArray n2 dd2 sl2 hlong (by rw[List.size_toArray];omega) (by omega)) ⟨e,ho2,?_⟩
 refine⟨.non,_,I.xH (its':=its++its2) hH e (by simp) (r.append r2) ?_,rfl,q⟩
 rw[List.length_append];omega
end L2.E
namespace L2.P
open PySem PySem.Spec PyProof.Rows L2 L2.E
section
variable{K:PySem.W.Frag}{cls:String->Option Addr}{W:XW}{Av G S₀ S S' H H' B B':Hp}{ρ:aa}{σ:St}{Q:VK}{F:Nat->List Addr}
theorem r9{i:Nat}{te tx:TE}{mp:MP}{me:aa->OE}(hp:JP K cls te i mp)(hx:JE K cls W tx me):JS K cls W (kj (tBM K "list" (qN K) te (cK tx gD))) (jg i mp me):=by
 intro Av G S₀ ρ σ S H D I p;obtain⟨io,t,π,u,hi,e0,e1,p⟩:=vQ p;obtain⟨v0,hv⟩:=I.val hi
 cases u with
 |sh x=>exact p.elim
 |ob c ks us=>exact p.elim
 |di x=>exact p.elim
 |dt x=>exact p.elim
 | ol ts=>
   dsimp only at p
   refine hp.at I hi hv e0 e1 fun w S1 H1 w1 I1 wk=>?_
   have p1:=p.back w1.s;obtain⟨F,J1⟩:=id I1;obtain⟨q,vs,ff,rest,wk',hq,hl,rs,_,nd,c⟩:=J1.tM hi hv e1;have:=wk.inj wk';subst this
   refine⟨.inl ⟨rfl,_,SqL.new hq⟩,?_⟩
   refine hx.goS I1 p1 fun r v S2 H2 I2 w2 r2 p2=>?_
   have ndf:ff.Nodup:=(List.nodup_cons.mp (List.nodup_append.mp nd).1).2
   cases r with
   |al ys=>exact p2.elim
   | sh x=>
     cases x with
     | lst ys=>
       dsimp only at p2
       split at p2
       . rename_i hlt
         have r3:Rep K S2 (.lst ys) v:=r2
         unfold Rep at r3;obtain⟨b,us,rfl,k3,k4⟩:=r3
         refine⟨q,b,vs,us,rfl,rfl,w2.g _ _ hq,au.seq w2.sh k3,by rw[hl,k4.length];exact hlt,?_⟩
         obtain⟨g,J3,_⟩:=c S2 H2 (ts++ys.map .sh) (vs++us) (ff++[]) w2 ((rs.mono w2.s fun a _ o h=>w2.g _ _ h).append (.shs k4)) (by rw[List.append_nil];exact ndf) fun a ha=>.inl (by simpa using ha)
         exact p2 σ S2 _ ⟨_,J3⟩ (au.refl _)
       . exact p2.elim
     |_=>exact p2.elim
   | fr ys=>
     dsimp only at p2
     split at p2
     . rename_i hlt;obtain⟨b,us,rfl,k1,k2,k3,k4⟩:=r2
       refine⟨q,b,vs,us,rfl,rfl,w2.g _ _ hq,SqL.new k3,by rw[hl,k4.length];exact hlt,?_⟩
       obtain⟨g,J3,_⟩:=c S2 H2 (ts++ys.map .sh) (vs++us) (ff++[]) w2 ((rs.mono w2.s fun a _ o h=>w2.g _ _ h).append (.shs k4)) (by rw[List.append_nil];exact ndf) fun a ha=>.inl (by simpa using ha)
       exact p2 σ S2 _ ⟨_,J3⟩ (au.refl _)
     . exact p2.elim
end
end L2.P
namespace L2.E
open PySem PySem.Spec PyProof.Rows L2
theorem dP{N P:List Str}{sc:Scope}(a:sc.kind=.function:=by rfl)(b:sc.isCoroutine=false:=by rfl)(c:sc.isGenerator=false:=by rfl)(d:N.Nodup:=by decide +kernel)(e:N.take P.length=P:=by rfl)
  (f:∀ x∈P,sc.names.lookup x=some .local \/ sc.names.lookup x=some .cell:=by decide +kernel) (g:∀ y∈sc.names,y.2≠.free:=by decide +kernel):aN N P sc:=⟨a,b,c,d,e,f,g⟩
structure Ent(K:PySem.W.Frag)(mg:Str->Option Value)(x:Str)(st:Stmt)(f:Addr)(d:FuncData)(ps:List Str):Prop where
 F:Fun K x x st f d
 m:mg x=some (.ref f)
 b:Binds K d ps []
structure Fd(K:PySem.W.Frag)(x:Str)(st:Stmt)(f:Addr)(d:FuncData):Prop where
 a:PySem.W.nsIn K mainGlobals x=some (some (.ref f))
 F:Fun K x x st f d
section
variable{K:PySem.W.Frag}{mg:Str->Option Value}{h:Heap}{x:Str}{st:Stmt}{f:Addr}{d:FuncData}
theorem ck{oc:Value}{od an:Option Addr}{osl:Array (Option Value)}{kV doc pm cdv ct:Value}(a:PySem.W.nsIn K mainGlobals x=some (some (.ref f)))
  (l:K.lookup f=some ⟨oc,od,.func (PySem.W.fnOf x x (cP st) (b4 st) (ay st) .none kV doc pm an cdv ct),osl⟩) (c:PySem.W.codeIn K cdv x=true) (k:PySem.W.keepIn K (.ref f)=true):
  Fd K x st f (PySem.W.fnOf x x (cP st) (b4 st) (ay st) .none kV doc pm an cdv ct):=⟨a,qU l c k⟩
theorem Fd.e{ps:List Str}(H:Fd K x st f d)(X:K.In h)(G:h.Ns mainGlobals mg)
  (hb:∀(kV doc pm:Value) (an:Option Addr) (cdv ct:Value) (us:List Value),us.length=ps.length->bindArgs (PySem.W.fnOf x x (cP st) (b4 st) (ay st) .none kV doc pm an cdv ct) ⟨us,[]⟩=pure (ps.zip us)):Ent K mg x st f d ps:=⟨H.F,PySem.W.mg_of X G H.a,H.F.binds hb⟩
theorem Fd.e1{a:Str}(H:Fd K x st f d)(X:K.In h)(G:h.Ns mainGlobals mg)
  (hb:∀(kV doc pm:Value) (an:Option Addr) (cdv ct i:Value),bindArgs (PySem.W.fnOf x x (cP st) (b4 st) (ay st) .none kV doc pm an cdv ct) ⟨[i],[]⟩=pure [(a,i)]:=by intros;rfl):Ent K mg x st f d [a]:=
 H.e X G fun p q r s t u us hl=>match us,hl with|[_],_=>hb p q r s t u _
theorem Fd.e2{a b:Str}(H:Fd K x st f d)(X:K.In h)(G:h.Ns mainGlobals mg)
  (hb:∀(kV doc pm:Value) (an:Option Addr) (cdv ct i j:Value),bindArgs (PySem.W.fnOf x x (cP st) (b4 st) (ay st) .none kV doc pm an cdv ct) ⟨[i,j],[]⟩=pure [(a,i),(b,j)]:=by intros;rfl):Ent K mg x st f d [a,b]:=
 H.e X G fun p q r s t u us hl=>match us,hl with|[_,_],_=>hb p q r s t u _ _
theorem Fd.e3{a b c:Str}(H:Fd K x st f d)(X:K.In h)(G:h.Ns mainGlobals mg)
  (hb:∀(kV doc pm:Value) (an:Option Addr) (cdv ct i j k:Value),bindArgs (PySem.W.fnOf x x (cP st) (b4 st) (ay st) .none kV doc pm an cdv ct) ⟨[i,j,k],[]⟩=pure [(a,i),(b,j),(c,k)]:=by intros;rfl):Ent K mg x st f d [a,b,c]:=
 H.e X G fun p q r s t u us hl=>match us,hl with|[_,_,_],_=>hb p q r s t u _ _ _
end
theorem qz{X:Cx}{pos:Pos}(i:Nat)(h7:X.N.Nodup)(h10:QE X e te)(h8:X.N[i]?=some x:=by rfl)(h9:Loc X.env.scope x:=by first|exact Or.inl rfl|exact Or.inr rfl)
  (h11:autoParam (swapsWith e (some (.Name x pos')) pos.line X.env=pure false) L2.qau._auto_1) (h12:autoParam (X.fn x=true \/ X.env.scope.names.lookup x=some .local) L2.qau._auto_1):QS X (.Assign [.Name x pos'] e pos) (rK te (eU i)):=Be h7 h8 h9 h10 h11 h12
theorem qx{X:Cx}{j k:Nat}{f:Addr}{fd:FuncData}{ps:List Str}{sp:Sp}{W:XW}{x:Str}{st:Stmt}{p pos:Pos}{e:Expr}{es:List Expr}{t:TA}(h15:bH X.prog X.w X.K X.mg X.base (CXE X.prog X.w) j f fd ps sp)(E:Ent X.K X.mg x st f fd ps)(h16:dy k X.A)(h22:Thr X W)(h23:QA X (e ::es) t)
  (hj:j<=k:=by decide) (h17:Gl X x:=by rfl) (h24:autoParam ((x==Str.ofString "__debug__")=false) L2.qau._auto_1) (h25:autoParam (starEach (e ::es) X.env=(false,eval e X.env) ::starEach es X.env) L2.qau._auto_1) (h26:autoParam (((backTo pos (starEach es X.env)).any fun x=>x.1)=false) L2.qau._auto_1):
  QE X (.Call (.Name x p) (e ::es) [] pos) (oA sp [] W t):=i3 (h15.mono hj) h16 h17 E.m E.F.kp E.b .nil h22 h23 h24 h25 h26
theorem m6{X:Cx}(h11:X.mg "len" = none)(h:QE X e te)(h10:Gl X "len":=by rfl)(hs:isStar e=false:=by rfl)(h16:autoParam (starEach [e] X.env=(false,eval e X.env) ::starEach [] X.env) L2.qau._auto_1)(h17:autoParam (((backTo pos (starEach [] X.env)).any fun x=>x.1)=false) L2.qau._auto_1):
  QE X (.Call (.Name "len" p) [e] [] pos) (tCB (fun xs H Q=>∃ p ys,xs=[.ref p] /\ (SqL X.K H p ys \/ SqT X.K H p ys) /\ Q (.int ys.length) H) (cK te gD)):=b6 oB h10 h11 boot_len (ae h ak hs) (by decide) (by decide) h16 h17
theorem qi(h7:IxR X r)(h8:QE X a ta)(h9:QE X b tb)(h10:n9 b:=by exact fun _ _=>rfl):QE X (.Subscript a b pos) (tOp r ta tb):=B9 h7 h8 h9 h10
theorem b1(h8:OpR X (compareOp op) r)(h9:QE X a ta)(h10:QE X b tb)(h11:behindInMarks op b=false:=by exact lr _):QT X (.Compare a [op] [b] pos) (sE (tOp r ta tb)):=tu h8 h9 h10 h11
theorem qap{X:Cx}{apos cpos pos:Pos}{r:V->List V->Hp->VK->Prop}(h15:MtR X "list.append" r)(h16:QE X o to)(h:QE X e te)(hs:isStar e=false:=by rfl)
  (h18:autoParam (attributeBase o "append" X.env (eval o X.env)=eval o X.env) L2.qau._auto_1) (h19:autoParam (((((backTo cpos (starEach [e] X.env)).all fun x=>!x.1)&&(backToKw cpos (keywordEach [] X.env)).all fun x=>x.1.isSome)&&decide (([e].length+([]:List Keyword).length+if([]:List Keyword).isEmpty=true then 0 else 1)<30))=true) L2.qau._auto_1)
  (h20:autoParam ((apos.endLine==cpos.line)=true) L2.qau._auto_1) (h21:autoParam (starEach [e] X.env=(false,eval e X.env) ::starEach [] X.env) L2.qau._auto_1) (h22:autoParam (((backTo cpos (starEach [] X.env)).any fun x=>x.1)=false) L2.qau._auto_1) (h5:autoParam (swapsWith (.Call (.Attribute o "append" apos) [e] [] cpos) none pos.line X.env=pure false) L2.qau._auto_1):
  QS X (.Expr (.Call (.Attribute o "append" apos) [e] [] cpos) pos) (kj (tBM X.K "list" r to (cK te gD))):=pB (zA PySem.F.plainAttrs_list PySem.F.slot_list_append PySem.F.type_list_append h15 h16 (ae h ak hs) h18 h19 h20 h21 h22) h5
theorem qex{X:Cx}{apos cpos pos:Pos}{r:V->List V->Hp->VK->Prop}(h15:MtR X "list.extend" r)(h16:QE X o to)(h:QE X e te)(hs:isStar e=false:=by rfl)
  (h18:autoParam (attributeBase o "extend" X.env (eval o X.env)=eval o X.env) L2.qau._auto_1) (h19:autoParam (((((backTo cpos (starEach [e] X.env)).all fun x=>!x.1)&&(backToKw cpos (keywordEach [] X.env)).all fun x=>x.1.isSome)&&decide (([e].length+([]:List Keyword).length+if([]:List Keyword).isEmpty=true then 0 else 1)<30))=true) L2.qau._auto_1)
  (h20:autoParam ((apos.endLine==cpos.line)=true) L2.qau._auto_1) (h21:autoParam (starEach [e] X.env=(false,eval e X.env) ::starEach [] X.env) L2.qau._auto_1) (h22:autoParam (((backTo cpos (starEach [] X.env)).any fun x=>x.1)=false) L2.qau._auto_1) (h5:autoParam (swapsWith (.Call (.Attribute o "extend" apos) [e] [] cpos) none pos.line X.env=pure false) L2.qau._auto_1):
  QS X (.Expr (.Call (.Attribute o "extend" apos) [e] [] cpos) pos) (kj (tBM X.K "list" r to (cK te gD))):=pB (zA PySem.F.plainAttrs_list PySem.F.slot_list_extend PySem.F.type_list_extend h15 h16 (ae h ak hs) h18 h19 h20 h21 h22) h5
end L2.E
namespace L2.P
open PySem PySem.Spec PyProof.Rows L2 L2.E
end L2.P
namespace L2.P
open PySem
theorem bJ{m n:aa->OS}{ρ ρ':aa}(h:m ρ=.nx ρ'):aM m n ρ=n ρ':=by unfold aM;rw[h];rfl
theorem AF{m n:aa->OS}{ρ ρ':aa}{v:RV}(h:m ρ=.rt ρ' v):aM m n ρ=.rt ρ' v:=by unfold aM;rw[h];rfl
theorem yD(ρ:aa):bg ρ=.nx ρ:=rfl
theorem DS{c:aa->OT}{a b:aa->OS}{ρ:aa}(h:c ρ=.ok true):bL c a b ρ=a ρ:=by unfold bL;rw[h];rfl
theorem DV{c:aa->OT}{a b:aa->OS}{ρ:aa}(h:c ρ=.ok false):bL c a b ρ=b ρ:=by unfold bL;rw[h];rfl
theorem sk{c:aa->OT}{a n:aa->OS}{ρ:aa}(h:c ρ=.ok false):aM (bL c a bg) n ρ=n ρ:=bJ (Eq.trans (DV h) (yD _))
theorem st{c:aa->OT}{a b n:aa->OS}{ρ ρ':aa}{r:RV}(h:c ρ=.ok true)(k:a ρ=.rt ρ' r):aM (bL c a b) n ρ=.rt ρ' r:=AF (Eq.trans (DS h) k)
theorem AJ{X:OS}{ρ:aa}{x:PV}(h:X=.rt ρ (.sh x)):fin X=.ok (.sh x):=by rw[h];rfl
end L2.P
namespace L2.E
open PySem PySem.Spec PyProof.Rows L2
end L2.E
namespace L2.P
open PySem PySem.Spec PyProof.Rows L2 L2.E
end L2.P
namespace L2.E
open PySem PySem.Spec PyProof.Rows L2
end L2.E
namespace L2.P
open PySem PySem.Spec PyProof.Rows L2 L2.E
end L2.P
namespace L2.E
open PySem PySem.Spec PyProof.Rows L2
end L2.E
namespace L2.P
open PySem PySem.Spec PyProof.Rows L2 L2.E
end L2.P
namespace L2.P
open PySem PySem.Spec PyProof.Rows L2 L2.E PySem.SeqAt
end L2.P
namespace L2.P
open PySem
noncomputable def ins(n:Int):List Int->List Int
 |[]=>[n]
 |m ::ms=>if n<=m then n ::m ::ms else m ::ins n ms
end L2.P
namespace L2
open PySem PySem.Spec PyProof.Rows PySem.W
end L2
namespace L2.E
open PySem PySem.Spec PyProof.Rows L2
end L2.E
namespace L2.P
open PySem PySem.Spec PyProof.Rows L2 L2.E
end L2.P
namespace L2.P
open PySem
end L2.P
namespace L2.E
open PySem PySem.Spec PyProof.Rows L2
end L2.E
namespace L2.P
open PySem PySem.Spec PyProof.Rows L2 L2.E
end L2.P
namespace L2.P
open PySem
noncomputable def ui(x:PV)(lo hi:Option Int):Option RV:=match x with
 |.tup xs=>some (.sh (.tup (j6 xs lo hi)))
 |_=>none
noncomputable def fB(ma ml mh:aa->OE):aa->OE:=fun ρ=>(ma ρ).bind fun a=>(ml ρ).bind fun l=>(mh ρ).bind fun h=>oE (ui a.pv (dW l.pv) (dW h.pv))
noncomputable def nR:PV->PV->Option RV
 |.tup xs,.int k=>if(2<=k /\ k<2 ^ 63) /\ xs.isEmpty=false /\ xs.length*k.toNat<=lim then some (.sh (.tup (List.replicate k.toNat xs).flatten))else if k=1 then some (.sh (.tup xs))else none
 |_,_=>none
noncomputable def uL:PV->Option (List Int)
 |.tup xs=>iY xs
 |_=>none
abbrev DT:=List (List Int×PV)
noncomputable def jV:List PV->Option DT
 |[]=>some []
 |.tup [k,v] ::r=>(uL k).bind fun k=>(jV r).map ((k,v) ::·)
 |_ ::_=>none
noncomputable def nN(d:DT)(k:List Int)(v:PV):DT:=if(d.any fun p=>decide (p.1=k))=true then d.map (fun p=>if p.1=k then(p.1,v)else p)else d++[(k,v)]
noncomputable def xi(ps:DT):DT:=ps.foldl (fun d p=>nN d p.1 p.2) []
noncomputable def pb(d:DT):List PV:=d.map fun p=>.tup [.tup (p.1.map .int),p.2]
noncomputable def i4(i:Nat)(c:Str)(me mk mv:aa->OE):aa->OS:=fun ρ=>if i<ρ.length then(me ρ).aP ρ fun r=>(match r.pv with
 | .tup ps=>(match jV ps with
   | some d=>if ps.length+1<=lim then(mv (ρ.set i none)).aP (ρ.set i none) fun v=>(match v with
     | .sh y=>(mk (ρ.set i none)).aP (ρ.set i none) fun k=>(match uL k.pv with
       |some k=>.rt (ρ.set i none) (.sh (.tup [.str c,.tup (pb (nN (xi d) k y))]))
       |none=>.bad)
     |_=>.bad)else .bad
   |none=>.bad)
 |_=>.bad)else .bad
end L2.P
namespace HT
open PySem PyProof.Rows
theorem nG:entryFor table "dict.update.loop" = some Builtin.«dict.update.loop»:=entryFor_of_tree (by kernel_rfl)
theorem ik:plainId "dict.update.loop" = true:=by decide +kernel
structure uy{prog:Program}{w:World}{κ:Type}[DecidableEq κ](kk:KeyKind prog w κ)(h:Heap)(q:List κ×Addr×Value)(u:Value):Prop where
 pr:∃ p,u=.ref p /\ IsTup h p #[.ref q.2.1,q.2.2]
 ky:IsTupleKey kk h q.1 q.2.1
section
variable{prog:Program}{w:World}{κ:Type}[DecidableEq κ]{kk:KeyKind prog w κ}{A:Around}{R:Result->Shared->Prop}
noncomputable def putAll(xs:List (List κ×Addr×Value)):List (List κ×Addr×Value)->List (List κ×Addr×Value)
 |[]=>xs
 |q ::r=>putAll (storedH xs q.1 q.2.1 q.2.2) r
theorem uy.keep{h h':Heap}{q:List κ×Addr×Value}{u:Value}(x:uy kk h q u)(k:∀ b o,o.cls=.type "tuple" -> h.get? b=some o->h'.get? b=some o):uy kk h' q u:=by
 obtain⟨⟨p,e,o,h1,h2,h3⟩,o2,its,n,h4,h5,h6⟩:=x
 exact⟨⟨p,e,o,k _ _ h2 h1,h2,h3⟩,o2,its,n,k _ _ h5 h4,h5,h6⟩
theorem qc(xs:List (List κ×Addr×Value))(k:List κ)(b:Addr)(u:Value):(storedH xs k b u).length<=xs.length+1:=by
 unfold storedH;split
 . rw[List.length_map];omega
 . rw[List.length_append];simp
theorem uz{d it t:Addr}(hu:A.units+1<cLine)(hh:A.handled=none){items:List Value}{qs:List (List κ×Addr×Value)}(hl:qs.length=items.length){h₀:Heap}{g0:Shared}
  (hR:∀ h' tk,h'.DictOfH (tupleKind kk) d (putAll [] qs)->(∀ b o,b≠it->b≠d->h₀.get? b=some o->h'.get? b=some o)->R (.ok (.ret .none)) { g0 with heap:=h',toks:=tk }):
  ∀(n i:Nat) (h:Heap) (tk:Nat) (xs:List (List κ×Addr×Value)),items.length - i=n->i<=items.length->h.IsTupleIter it t i->IsTup h t items.toArray->h.DictOfH (tupleKind kk) d xs->xs.length+n<=sizeLine->it≠d ->
    (∀(j:Nat) q u,qs[j]?=some q->items[j]?=some u->uy kk h q u)->putAll xs (qs.drop i)=putAll [] qs->(∀ b o,b≠it->b≠d->h₀.get? b=some o->h.get? b=some o) ->
    codeAny (model prog w) A (.builtin "dict.update.loop" ⟨[.ref d,.ref it,.int i 0,.none],[]⟩) R { g0 with heap:=h,toks:=tk }:=by
 intro n
 induction n with
 | zero=>
   intro i h tk xs hn hi hit ht hd hz hne hp hq hk
   have hin:i=items.length:=by omega
   refine codeAny_builtin nG ?_;rw[Around.under_plainId ik _];show wpAny _ A.in1 (pyNext (.ref it) >>= _) _ _ _;refine wpAny_bind (wpAny_pyNext_tuple_end (s:={ g0 with heap:=h,toks:=tk }) (A:=A.in1) hh hit ht (by simp;omega) fun h' he=>?_)
   have hqs:putAll xs (qs.drop i)=xs:=by rw[List.drop_eq_nil_of_le (by omega)];rfl
   rw[hqs]at hq;obtain⟨o,es,ep,e1,e2,e3,e4,e5,e6⟩:=hd;refine wpAny_bind (wpAny_pure ?_);refine wpAny_pure (hR h' tk (hq ▸ ⟨o,es,ep,he _ _ (Ne.symm hne) e1,e2,e3,e4,fun x hx=>?_,e6⟩) fun b ob h1 h2 e=>he b ob h1 (hk b ob h1 h2 e));obtain⟨o',its,m,f1,f2,f3⟩:=e5 x hx
   refine⟨o',its,m,he _ _ ?_ f1,f2,f3⟩
   rintro rfl
   obtain⟨oi,g1,g2,_⟩:=hit;rw[f1]at g1;cases g1;rw[f2]at g2;simp at g2
 | succ n ih=>
   intro i h tk xs hn hi hit ht hd hz hne hp hq hk
   have hlt:i<items.length:=by omega
   obtain⟨u,hu1⟩:∃ u,items[i]?=some u:=⟨items[i],List.getElem?_eq_getElem hlt⟩
   obtain⟨q,hq1⟩:∃ q,qs[i]?=some q:=⟨qs[i]'(by omega),List.getElem?_eq_getElem (by omega)⟩
   refine codeAny_builtin nG ?_;rw[Around.under_plainId ik _];show wpAny _ A.in1 (pyNext (.ref it) >>= _) _ _ _;refine wpAny_bind (wpAny_pyNext_tuple_item (s:={ g0 with heap:=h,toks:=tk }) (A:=A.in1) hit ht (by simpa using hu1) fun h1 hit1 hs1=>?_)
   have nit:∀ b o,o.cls=.type "tuple" -> h.get? b=some o->b≠it:=by
    rintro b o hc hb rfl
    obtain⟨oi,g1,g2,_⟩:=hit;rw[hb]at g1;cases g1;rw[hc]at g2;simp at g2
   have k1:∀ b o,o.cls=.type "tuple" -> h.get? b=some o->h1.get? b=some o:=fun b o hc hb=>(hs1.2 b (nit b o hc hb)).trans hb
   have pa:=(hp i q u hq1 hu1).keep k1
   have hd1:h1.DictOfH (tupleKind kk) d xs:=by
    obtain⟨o,es,ep,e1,e2,e3,e4,e5,e6⟩:=hd
    refine⟨o,es,ep,(hs1.2 d (Ne.symm hne)).trans e1,e2,e3,e4,fun x hx=>?_,e6⟩
    obtain⟨o',its,m,f1,f2,f3⟩:=e5 x hx
    exact⟨o',its,m,k1 _ _ f2 f1,f2,f3⟩
   obtain⟨⟨p,rfl,o,o1,o2,m,o3⟩,hky⟩:=id pa;refine wpAny_bind (wpAny_holding ?_);refine wpAny_bind (wpAny_tryCatch ?_);unfold Builtin.Dict.pairItems;refine wpAny_bind (wpAny_typeOf (T:="tuple") ⟨o,o1,o2⟩ ?_);rw[if_pos (by decide)];refine wpAny_bind (wpAny_seqItems o1 o3 (wpAny_pure ?_));refine wpAny_holding (wpAny_dictSet_heap (knd:=tupleKind kk) (tupleKind_room_in1 hu) hky hd1 (fun h2 hd2 hs2=>?_) (by omega));refine wpAny_pure ⟨plainId_quiet ik _,?_⟩;obtain⟨od,_,_,d1,d2,_⟩:=id hd1
   have k2:∀ b o,o.cls=.type "tuple" -> h1.get? b=some o->h2.get? b=some o:=fun b o hc hb=>(hs2.2 b (by
    rintro rfl
    rw[d1]at hb;cases hb
    rw[d2.1]at hc;simp at hc)).trans hb
   have k3:∀ b o,o.cls=.type "tuple" -> h.get? b=some o->h2.get? b=some o:=fun b o hc hb=>k2 b o hc (k1 b o hc hb)
   refine ih (i+1) h2 _ (storedH xs q.1 q.2.1 q.2.2) (by omega) (by omega) ?_ ?_ hd2 (by have:=qc xs q.1 q.2.1 q.2.2;omega) hne (fun j q' u' e1 e2=>(hp j q' u' e1 e2).keep k3) ?_ ?_
   . obtain⟨oi,g1,g2⟩:=hit1
     exact⟨oi,(hs2.2 it hne).trans g1,g2⟩
   . obtain⟨ot,g1,g2,g3⟩:=ht
     exact⟨ot,k3 _ _ g2 g1,g2,g3⟩
   . have e:qs.drop i = q ::qs.drop (i + 1):=by
      have hi':i<qs.length:=by omega
      rw[List.drop_eq_getElem_cons hi'];rw[List.getElem?_eq_getElem hi']at hq1;rw[Option.some.inj hq1]
     rw[e]at hq;exact hq
   . intro b ob h1' h2' e
     exact(hs2.2 b h2').trans ((hs1.2 b h1').trans (hk b ob h1' h2' e))
end
section
variable{prog:Program}{w:World}{κ:Type}[DecidableEq κ]{kk:KeyKind prog w κ}{A:Around}{E:Value->Shared->Prop}{s:Shared}
theorem uq:typeLookup (.type "tuple") "keys" = pure none:=by rw[typeLookup_type,builtinLookup_eq_fast];kernel_rfl
theorem yO{t:Addr}{items:Array Value}{n:Nat}{sl:Array (Option Value)}{Q:Option Value->Shared->Prop}(ht:s.heap.get? t=some ⟨.type "tuple",none,.seq items n,sl⟩)(hh:A.handled=none)(h:∀ h' tk,(∀ b o,s.heap.get? b=some o->h'.get? b=some o)->Q none { s with heap:=h',toks:=tk }):wpAny (model prog w) A (getAttr? (.ref t) "keys") Q E s:=by
 obtain⟨hp,g,d,tk,os⟩:=s
 have hT:∀ tk',(⟨hp,g,d,tk',os⟩:Shared).TypeIs (.ref t) "tuple":=fun _=>⟨_,ht,rfl⟩
 have f1:=sub_AttributeError;have f3:=F.slot_tuple_getattribute.lookup;have f4:=F.slot_tuple_getattribute.bind (.ref t);have f5:=am_tuple_getattr_none;unfold getAttr? getAttrBy? getAttrBy
 repeat (any_goals (first|assumption|exact hT _|((with_reducible show wpAny _ _ (call (Value.builtin "tuple.__getattribute__") _ _) _ _ _);refine call_meets F.slot_tuple_getattribute (hT _) am_entry_tuple_getattribute (F.args_tuple_getattribute_2 _ _) (meets_getattribute_miss_tuple t items n sl "keys" _ uq (by decide)) ⟨ht,hh,fun h' tk' e hx=>?_⟩)|wp_step))
 obtain⟨t',u',he⟩:=hx.there;show wpAny _ _ (getattributeRaised _ _ _ _ _ _ _) _ _ _;unfold getattributeRaised
 repeat (any_goals (first|assumption|wp_step))
 exact h _ _ hx.keeps
theorem uo{t:Addr}{items:List Value}{n:Nat}{sl:Array (Option Value)}{qs:List (List κ×Addr×Value)}{Q:Value->Shared->Prop}(hu:A.units+2<cLine)(hh:A.handled=none)
  (ht:s.heap.get? t=some ⟨.type "tuple",none,.seq items.toArray n,sl⟩) (hl:qs.length=items.length) (hz:items.length<=sizeLine) (hp:∀(j:Nat) q u,qs[j]?=some q->items[j]?=some u->uy kk s.heap q u)
  (h:∀ d h' tk,s.heap.objs.size<=d->h'.DictOfH (tupleKind kk) d (putAll [] qs)->(∀ b o,s.heap.get? b=some o->h'.get? b=some o)->Q (.ref d) { s with heap:=h',toks:=tk }):
  wpAny (model prog w) A (call (.type "dict") [.ref t]) Q E s:=by
 refine callType_codes (Q₁:=fun obj s₁=>obj=.ref s.heap.objs.size /\ s₁={ s with heap:=s.heap.push { cls:=.type "dict",data:=.dict #[] } }) F.kt_called_dict (F.kt_typeCall_dict_1 _) F.entry_dict_init (kt_code_dict_new _ ⟨rfl,rfl⟩) ?_
 rintro obj s₁ ⟨rfl,rfl⟩
 have hnew:(s.heap.push { cls:=.type "dict",data:=.dict #[] }).DictOfH (tupleKind kk) s.heap.objs.size []:=Heap.DictOfH.new s.heap
 refine⟨hnew.typeIs,F.args_dict_init_2 _ _,?_⟩
 unfold Builtin.«dict.__init__»;refine wpAny_bind ?_;unfold Builtin.Dict.selfAndRest;refine wpAny_bind (wpAny_notOrdered_dict hnew.typeIs ?_);show wpAny _ _ (pure (s.heap.objs.size,[Value.ref t])) _ _ _;refine wpAny_pure ?_;show wpAny _ _ (Builtin.Dict.updateFrom "dict.__init__" s.heap.objs.size (.ref t) [] .none) _ _ _
 have ht1:(s.heap.push { cls:=.type "dict",data:=.dict #[] }).get? t=some ⟨.type "tuple",none,.seq items.toArray n,sl⟩:=Heap.get?_push_of_some _ ht
 unfold Builtin.Dict.updateFrom;refine wpAny_bind (wpAny_typeOf (T:="tuple") ⟨_,ht1,rfl⟩ ?_);rw[if_pos (by decide)];refine wpAny_bind (yO (A:=A.in1.in1) ht1 hh fun h1 tk1 k1=>?_);refine wpAny_ite_split (fun _=>?_) (fun z=>absurd rfl z);refine wpAny_bind (wpAny_rule ?_);have ht2:=k1 _ _ ht1;refine wpAny_bind (wpAny_pyIter_tuple (items:=items.toArray) ⟨_,ht2,rfl,_,rfl⟩ ?_);refine wpAny_pure ⟨plainId_quiet ik _,?_⟩;have hd0:=k1 _ _ (Heap.get?_push_size s.heap (o:={ cls:=.type "dict",data:=.dict #[] }) rfl)
 have hlt:s.heap.objs.size<h1.objs.size:=Heap.lt_size hd0
 have k2:∀ b o,s.heap.get? b=some o->(h1.push { cls:=.type "tuple_iterator",data:=.fields #[.ref t,.int 0 0] }).get? b=some o:=fun b o e=>Heap.get?_push_of_some _ (k1 b o (Heap.get?_push_of_some _ e))
 refine uz (kk:=kk) (A:=A.in1) (d:=s.heap.objs.size) (it:=h1.objs.size) (t:=t) (items:=items) (qs:=qs) (h₀:=s.heap) (g0:=s) hu hh hl (fun h' tk hd hk=>⟨rfl,h _ h' tk (Nat.le_refl _) hd fun b o e=>hk b o ?_ ?_ e⟩) items.length 0 _ _ [] (by omega) (Nat.zero_le _) ⟨_,Heap.get?_push_size _ rfl,rfl,rfl⟩ ⟨_,Heap.get?_push_of_some _ ht2,rfl,_,rfl⟩ ⟨_,#[],0,Heap.get?_push_of_some _ hd0,⟨rfl,rfl,rfl⟩,rfl,rfl,fun _ hx=>by simp at hx,List.nodup_nil⟩ (by simpa using hz) (Nat.ne_of_gt hlt) (fun j q u e1 e2=>(hp j q u e1 e2).keep fun b o _ e=>k2 b o e) (by simp) (fun b o _ _ e=>k2 b o e)
 . exact Nat.ne_of_lt (Nat.lt_trans (Heap.lt_size e) hlt)
 . exact Nat.ne_of_lt (Heap.lt_size e)
end
section
variable{prog:Program}{w:World}{A:Around}{E:Value->Shared->Prop}{s:Shared}
noncomputable abbrev ItI(h:Heap)(it d:Addr)(i n ep:Nat)(a f x y:Value):Prop:=h.get? it=some { cls:=.type "dict_itemiterator",dict:=none,data:=.fields #[a,f,.ref d,.int i 0,.int n 0,.int ep 0,x,y],slots:=#[] }
theorem fH{h:Heap}{it:Addr}{c:Value}{dd:Option Addr}{xs:Array Value}{sl:Array (Option Value)}(e:h.get? it=some ⟨c,dd,.fields xs,sl⟩)(k:Nat)(v:Value):(h.update it (Obj.mapFields fun x=>x.setIfInBounds k v)).get? it=some ⟨c,dd,.fields (xs.setIfInBounds k v),sl⟩:=Heap.get?_update_self _ e rfl
theorem zl:Builtin.Dict_items.ownsTuple ((Manifest.find? "dict_itemiterator").elim "dict_itemiterator" fun x=>x.tpName)=true:=by decide +kernel
theorem yG{it d:Addr}{i ep:Nat}{oc:Value}{dd:Option Addr}{sl:Array (Option Value)}{es:Array DictEntry}{x y:Value}{e:DictEntry}{Q:Option Value->Shared->Prop}(hit:ItI s.heap it d i es.size ep .none (.bool false) x y)(hod:s.heap.get? d=some ⟨oc,dd,.dict es ep,sl⟩)(hx:es[i]?=some e)
  (hQ:∀ h' p,s.heap.objs.size<=p->ItI h' it d (i+1) es.size ep (.int p 0) (.bool false) e.key e.val->h'.get? p=some { cls:=.type "tuple",data:=.seq #[e.key,e.val] }->(∀ b o,b≠it->s.heap.get? b=some o->h'.get? b=some o)->Q (some (.ref p)) { s with heap:=h' }):wpAny (model prog w) A (pyNext (.ref it)) Q E s:=by
 obtain⟨hp,g,dr,tk,os⟩:=s
 have hT:Shared.TypeIs ⟨hp,g,dr,tk,os⟩ (.ref it) "dict_itemiterator":=⟨_,hit,rfl⟩
 unfold pyNext;refine wpAny_bind (wpAny_attempt (wpAny_callSpecial?_slot (name:=Str.ofString "__next__") hT F.slot_dict_itemiterator_next (wpAny_call_entry F.slot_dict_itemiterator_next hT F.entry_dict_itemiterator_next ?_ (F.args_dict_itemiterator_next_1 _))));have m1:=mroOf_itemiter
 have hne:((es.size:Int) != (es.size:Int))=false:=by simp
 have hne2:((ep:Int) != (ep:Int))=false:=by simp
 have hi0:¬ ((i:Int)<0):=by omega
 unfold Builtin.«dict_itemiterator.__next__»
 repeat (any_goals (first|assumption|wp_step))
 all_goals(try simp only[hne,hne2,Bool.false_eq_true,if_false,hi0,Int.toNat_natCast,hx])
 repeat (any_goals (first|assumption|wp_step))
 simp only[zl,if_true];rw[if_neg (by decide)]
 have hil:it<hp.objs.size:=Heap.lt_size hit
 have e0:=fH hit (2+1) (rawInt ((i:Int)+1))
 generalize hh1:hp.update it (Obj.mapFields fun x=>x.setIfInBounds (2+1) (rawInt ((i:Int)+1)))=h1 at e0 ⊢
 have z1:h1.objs.size=hp.objs.size:=by rw[<- hh1,Heap.size_update]
 have k1:∀ b o,b≠it->hp.get? b=some o->h1.get? b=some o:=fun b o hb q=>by rw[<- hh1];exact(Heap.get?_update_other _ _ (Ne.symm hb)).trans q
 refine⟨_,rfl,wpAny_pure (hQ _ _ (Nat.le_of_eq z1.symm) (fH (fH (fH (fH (Heap.get?_push_of_some _ e0) _ _) _ _) _ _) _ _) ?_ ?_)⟩
 . have q:=Heap.get?_push_size h1 (o:={ cls:=.type "tuple",data:=.seq #[e.key,e.val] }) rfl
   have ne:it≠h1.objs.size:=by rw[z1];exact Nat.ne_of_lt hil
   exact(Heap.get?_update_other _ _ ne).trans ((Heap.get?_update_other _ _ ne).trans ((Heap.get?_update_other _ _ ne).trans ((Heap.get?_update_other _ _ ne).trans q)))
 . intro b o hb q
   have ne:it≠b:=Ne.symm hb
   exact(Heap.get?_update_other _ _ ne).trans ((Heap.get?_update_other _ _ ne).trans ((Heap.get?_update_other _ _ ne).trans ((Heap.get?_update_other _ _ ne).trans (Heap.get?_push_of_some _ (k1 b o hb q)))))
end
section
variable{prog:Program}{w:World}{A:Around}{E:Value->Shared->Prop}{s:Shared}
theorem xV{it d p:Addr}{i ep:Nat}{oc:Value}{dd:Option Addr}{sl:Array (Option Value)}{es:Array DictEntry}{f:Bool}{x y:Value}{oa:Obj}{e:DictEntry}{Q:Option Value->Shared->Prop}(hit:ItI s.heap it d i es.size ep (.int p 0) (.bool f) x y)(ha:s.heap.get? p=some oa)(hpi:p≠it)
  (hod:s.heap.get? d=some ⟨oc,dd,.dict es ep,sl⟩) (hx:es[i]?=some e)
  (hQ:∀ h' q,s.heap.objs.size<=q->ItI h' it d (i+1) es.size ep (.int p 0) (.bool true) x y->h'.get? q=some { cls:=.type "tuple",data:=.seq #[e.key,e.val] }->(∀ b o,b≠it->s.heap.get? b=some o->h'.get? b=some o)->Q (some (.ref q)) { s with heap:=h' }):wpAny (model prog w) A (pyNext (.ref it)) Q E s:=by
 obtain⟨hp,g,dr,tk,os⟩:=s
 have hT:Shared.TypeIs ⟨hp,g,dr,tk,os⟩ (.ref it) "dict_itemiterator":=⟨_,hit,rfl⟩
 unfold pyNext;refine wpAny_bind (wpAny_attempt (wpAny_callSpecial?_slot (name:=Str.ofString "__next__") hT F.slot_dict_itemiterator_next (wpAny_call_entry F.slot_dict_itemiterator_next hT F.entry_dict_itemiterator_next ?_ (F.args_dict_itemiterator_next_1 _))));have m1:=mroOf_itemiter
 have hne:((es.size:Int) != (es.size:Int))=false:=by simp
 have hne2:((ep:Int) != (ep:Int))=false:=by simp
 have hi0:¬ ((i:Int)<0):=by omega
 unfold Builtin.«dict_itemiterator.__next__»
 repeat (any_goals (first|assumption|wp_step))
 all_goals(try simp only[hne,hne2,Bool.false_eq_true,if_false,hi0,Int.toNat_natCast,hx])
 repeat (any_goals (first|assumption|wp_step))
 simp only[zl,if_true];rw[if_neg (by decide)]
 have hil:it<hp.objs.size:=Heap.lt_size hit
 have e0:=fH hit (2+1) (rawInt ((i:Int)+1))
 generalize hh1:hp.update it (Obj.mapFields fun x=>x.setIfInBounds (2+1) (rawInt ((i:Int)+1)))=h1 at e0 ⊢
 have z1:h1.objs.size=hp.objs.size:=by rw[<- hh1,Heap.size_update]
 have k1:∀ b o,b≠it->hp.get? b=some o->h1.get? b=some o:=fun b o hb q=>by rw[<- hh1];exact(Heap.get?_update_other _ _ (Ne.symm hb)).trans q
 have q:=Heap.get?_push_size h1 (o:={ cls:=.type "tuple",data:=.seq #[e.key,e.val] }) rfl
 have ne:it≠h1.objs.size:=by rw[z1];exact Nat.ne_of_lt hil
 have e1:=Heap.get?_push_of_some { cls:=.type "tuple",data:=.seq #[e.key,e.val] } e0;rw[Int.toNat_natCast];refine PySem.W.kdx_alive (o:=oa) (Heap.get?_push_of_some _ (k1 p oa hpi ha)) ?_;simp only[Option.isNone_some,Bool.false_eq_true,if_false];refine wpAny_bind (wpAny_field e1 rfl (x:=.bool f) rfl ?_)
 cases f with
 | true=>
   rw[if_neg (show ¬ ((Value.bool true != Value.bool true)=true) from Bool.false_ne_true)]
   repeat (any_goals (first|assumption|wp_step))
   try simp only[Bool.false_eq_true,if_false]
   repeat (any_goals (first|assumption|wp_step))
   exact⟨_,rfl,wpAny_pure (hQ _ _ (Nat.le_of_eq z1.symm) e1 q fun b o hb z=>Heap.get?_push_of_some _ (k1 b o hb z))⟩
 | false=>
   rw[if_pos (show(Value.bool false != Value.bool true)=true from rfl)]
   repeat (any_goals (first|assumption|wp_step))
   try simp only[Bool.false_eq_true,if_false]
   repeat (any_goals (first|assumption|wp_step))
   exact⟨_,rfl,wpAny_pure (hQ _ _ (Nat.le_of_eq z1.symm) (fH e1 _ _) ((Heap.get?_update_other _ _ ne).trans q) fun b o hb z=>(Heap.get?_update_other _ _ (Ne.symm hb)).trans (Heap.get?_push_of_some _ (k1 b o hb z)))⟩
theorem wJ{it d:Addr}{i ep:Nat}{oc:Value}{dd:Option Addr}{sl:Array (Option Value)}{es:Array DictEntry}{a f x y:Value}{Q:Option Value->Shared->Prop}(hh:A.handled=none)(hit:ItI s.heap it d i es.size ep a f x y)
  (hod:s.heap.get? d=some ⟨oc,dd,.dict es ep,sl⟩) (hx:es[i]?=none)
  (hQ:∀ h',(∀ b o,b≠it->s.heap.get? b=some o->h'.get? b=some o)->Q none { s with heap:=h' }):wpAny (model prog w) A (pyNext (.ref it)) Q E s:=by
 obtain⟨hp,g,dr,tk,os⟩:=s
 have hT:Shared.TypeIs ⟨hp,g,dr,tk,os⟩ (.ref it) "dict_itemiterator":=⟨_,hit,rfl⟩
 unfold pyNext;refine wpAny_bind (wpAny_attempt (wpAny_callSpecial?_slot (name:=Str.ofString "__next__") hT F.slot_dict_itemiterator_next (wpAny_call_entry F.slot_dict_itemiterator_next hT F.entry_dict_itemiterator_next ?_ (F.args_dict_itemiterator_next_1 _))));have m1:=mroOf_itemiter
 have hne:((es.size:Int) != (es.size:Int))=false:=by simp
 have hne2:((ep:Int) != (ep:Int))=false:=by simp
 have hi0:¬ ((i:Int)<0):=by omega
 unfold Builtin.«dict_itemiterator.__next__»
 repeat (any_goals (first|assumption|wp_step))
 all_goals(try simp only[hne,hne2,Bool.false_eq_true,if_false,hi0,Int.toNat_natCast,hx])
 repeat (any_goals (first|assumption|wp_step))
 unfold raiseNew;refine wpAny_bind (wpAny_handled ?_);rw[show A.in1.handled=none from hh];refine wpAny_bind (wpAny_pure (wpAny_throw ?_));refine wpAny_bind (wpAny_isInstance (T:="StopIteration") (b:=true) ⟨_,Heap.get?_push_size _ rfl,rfl⟩ isSubtype_stop ?_);refine wpAny_pure (hQ _ fun b o hb z=>Heap.get?_push_of_some _ (Heap.get?_push_of_some _ ?_))
 exact(Heap.get?_update_other _ _ (Ne.symm hb)).trans z
end
noncomputable def ItS(h:Heap)(it d S:Addr)(i n ep:Nat):Prop:=(∃ x y,ItI h it d i n ep .none (.bool false) x y) \/ ∃ p f x y oa,ItI h it d i n ep (.int (p:Nat) 0) (.bool f) x y /\ h.get? p=some oa /\ p≠it /\ p≠S
noncomputable abbrev y7(e:DictEntry):Obj:={ cls:=.type "tuple",data:=.seq #[e.key,e.val] }
structure Got(lo:Nat)(es:Array DictEntry)(h:Heap)(as:List Addr):Prop where
 rise:as.Pairwise (·<·)
 low:∀ a∈as,lo<=a /\ a<h.objs.size
 holds:∀(j:Nat) a,as[j]?=some a->∃ e,es[j]?=some e /\ h.get? a=some (y7 e)
section
variable{prog:Program}{w:World}{A:Around}{R:Result->Shared->Prop}
theorem sf{S it d:Addr}{ep:Nat}{oc:Value}{dd:Option Addr}{sl:Array (Option Value)}{es:Array DictEntry}(hh:A.handled=none)(hSi:S≠it)(hSd:d≠S)(hdi:d≠it)(hn:es.size<=sizeLine)(res:Value){h₀:Heap}{g0:Shared}(lo:Nat)(hlo:S<lo /\ it<lo)
  (hR:∀ h' tk acc c as,(∀ b o,b≠S->b≠it->h₀.get? b=some o->h'.get? b=some o)->h'.get? S=some { cls:=.type "list",dict:=none,data:=.seq acc c,slots:=#[] }->acc.toList=as.map Value.ref->as.length=es.size->Got lo es h' as->R (.ok (.ret res)) { g0 with heap:=h',toks:=tk }):
  ∀(k i:Nat) (h:Heap) (tk c:Nat) (acc:Array Value) (as:List Addr),es.size - i=k->i<=es.size->ItS h it d S i es.size ep->h.get? d=some ⟨oc,dd,.dict es ep,sl⟩->(∀ b o,b≠S->b≠it->h₀.get? b=some o->h.get? b=some o) ->
    h.get? S=some { cls:=.type "list",dict:=none,data:=.seq acc c,slots:=#[] }->acc.toList=as.map Value.ref->as.length=i->lo<=h.objs.size->Got lo es h as ->
    codeAny (model prog w) A (.builtin "list.extend.loop" ⟨[.ref S,.ref it,res],[]⟩) R { g0 with heap:=h,toks:=tk }:=by
 have neI:∀ a:Nat,lo<=a->a≠it:=fun a l=>Nat.ne_of_gt (Nat.lt_of_lt_of_le hlo.2 l)
 have neS:∀ a:Nat,lo<=a->a≠S:=fun a l=>Nat.ne_of_gt (Nat.lt_of_lt_of_le hlo.1 l)
 intro k
 induction k with
 | zero=>
   intro i h tk c acc as hk hi hst hD hkp hS hacc hal hl G
   have hx:es[i]?=none:=Array.getElem?_eq_none (by omega)
   refine codeAny_builtin F.entry_extend_loop ?_;rw[Around.under_plainId F.plain_extend_loop _];show wpAny _ A.in1 (pyNext (.ref it) >>= _) _ _ _
   have fin:∀ h',(∀ b o,b≠it->h.get? b=some o->h'.get? b=some o)->wpAny (model prog w) A.in1 (ret res) (fun fin s'=>match fin with|.done f=>R (.ok f) s'|.again c'=>c'.quiet=true /\ codeAny (model prog w) A c' R s') (fun e s'=>R (.error e) s') { g0 with heap:=h',toks:=tk }:=fun h' hk'=>
    wpAny_pure (hR h' tk acc c as (fun b o h1 h2 e=>hk' b o h2 (hkp b o h1 h2 e)) (hk' S _ hSi hS) hacc (by omega) ⟨G.rise,fun a ha=>⟨(G.low a ha).1,by
     obtain⟨j,hj⟩:=List.mem_iff_getElem?.mp ha;obtain⟨e,_,e2⟩:=G.holds j a hj
     exact Heap.lt_size (hk' a _ (neI a (G.low a ha).1) e2)⟩,fun j a hj=>by
     obtain⟨e,e1,e2⟩:=G.holds j a hj
     exact⟨e,e1,hk' a _ (neI a (G.low a (List.mem_of_getElem? hj)).1) e2⟩⟩)
   rcases hst with⟨x,y,hit⟩|⟨p,f,x,y,oa,hit,ha,hpi,hpS⟩
   . exact wpAny_bind (wJ (s:={ g0 with heap:=h,toks:=tk }) (A:=A.in1) hh hit hD hx fin)
   . exact wpAny_bind (wJ (s:={ g0 with heap:=h,toks:=tk }) (A:=A.in1) hh hit hD hx fin)
 | succ k ih=>
   intro i h tk c acc as hk hi hst hD hkp hS hacc hal hl G
   have hlt:i<es.size:=by omega
   have hx:es[i]?=some es[i]:=Array.getElem?_eq_getElem hlt
   have hsz:acc.size=i:=by rw[<- Array.length_toList,hacc,List.length_map,hal]
   refine codeAny_builtin F.entry_extend_loop ?_;rw[Around.under_plainId F.plain_extend_loop _];show wpAny _ A.in1 (pyNext (.ref it) >>= _) _ _ _
   have go:∀ h' p,h.objs.size<=p->ItS h' it d S (i+1) es.size ep->h'.get? p=some (y7 es[i])->(∀ b o,b≠it->h.get? b=some o->h'.get? b=some o) ->
     wpAny (model prog w) A.in1 (updateSeq S (·.push (.ref p)) >>= fun _=>again (.builtin "list.extend.loop" ⟨[.ref S,.ref it,res],[]⟩)) (fun fin s'=>match fin with|.done f=>R (.ok f) s'|.again c'=>c'.quiet=true /\ codeAny (model prog w) A c' R s') (fun e s'=>R (.error e) s') { g0 with heap:=h',toks:=tk }:=by
    intro h' p hp hst' hpo hk'
    have hS':=hk' S _ hSi hS
    have hpl:p<h'.objs.size:=Heap.lt_size hpo
    have hSp:S≠p:=(neS p (Nat.le_trans hl hp)).symm
    have up:∀ b o,b≠S->h'.get? b=some o->(h'.update S (Obj.mapSeq (·.push (Value.ref p)))).get? b=some o:=fun b o hb e=>(Heap.get?_update_other _ _ (Ne.symm hb)).trans e
    refine wpAny_bind (wpAny_updateSeq (s:={ g0 with heap:=h',toks:=tk }) hS' rfl (wpAny_pure ⟨plainId_quiet F.plain_extend_loop _,ih (i+1) _ tk _ (acc.push (.ref p)) (as++[p]) (by omega) (by omega) ?_ (up d _ hSd (hk' d _ hdi hD)) (fun b o h1 h2 e=>up b o h1 (hk' b o h2 (hkp b o h1 h2 e))) (Heap.get?_update_self _ hS' rfl) (by rw[Array.toList_push,hacc,List.map_append];rfl) (by rw[List.length_append,hal];rfl) (by rw[Heap.size_update];exact Nat.le_trans (Nat.le_trans hl hp) (Nat.le_of_lt hpl)) ⟨?_,?_,?_⟩⟩) (by rw[hsz];omega))
    . rcases hst' with⟨x,y,hit⟩|⟨p',f,x,y,oa,hit,ha,hpi,hpS⟩
      . exact .inl ⟨x,y,up it _ (Ne.symm hSi) hit⟩
      . exact .inr ⟨p',f,x,y,oa,up it _ (Ne.symm hSi) hit,up p' _ hpS ha,hpi,hpS⟩
    . refine List.pairwise_append.mpr ⟨G.rise,List.pairwise_singleton _ _,fun a ha b hb=>?_⟩;rw[List.mem_singleton.mp hb];exact Nat.lt_of_lt_of_le (G.low a ha).2 hp
    . intro a ha;rw[Heap.size_update]
      rcases List.mem_append.mp ha with ha|ha
      . obtain⟨j,hj⟩:=List.mem_iff_getElem?.mp ha;obtain⟨e,_,e2⟩:=G.holds j a hj;have l:=(G.low a ha).1
        exact⟨l,Heap.lt_size (hk' a _ (neI a l) e2)⟩
      . rw[List.mem_singleton.mp ha];exact⟨Nat.le_trans hl hp,hpl⟩
    . intro j a hj
      rcases Nat.lt_or_ge j as.length with h1|h1
      . rw[List.getElem?_append_left h1]at hj;obtain⟨e,e1,e2⟩:=G.holds j a hj;have l:=(G.low a (List.mem_of_getElem? hj)).1
        exact⟨e,e1,up a _ (neS a l) (hk' a _ (neI a l) e2)⟩
      . rw[List.getElem?_append_right h1]at hj
        have hj0:j - as.length=0:=by
         cases q:j - as.length with
         |zero=>rfl
         |succ m=>rw[q]at hj;simp at hj
        rw[hj0]at hj
        have:p=a:=by simpa using hj
        subst this
        have ej:j=i:=by omega
        exact⟨es[i],by rw[ej];exact hx,up p _ (Ne.symm hSp) hpo⟩
   rcases hst with⟨x,y,hit⟩|⟨p,f,x,y,oa,hit,ha,hpi,hpS⟩
   . refine wpAny_bind (yG (s:={ g0 with heap:=h,toks:=tk }) (A:=A.in1) hit hD hx fun h' p hp hit' hpo hk'=>?_);exact go h' p hp (.inr ⟨p,false,_,_,_,hit',hpo,Nat.ne_of_gt (Nat.lt_of_lt_of_le (Heap.lt_size hit) hp),Nat.ne_of_gt (Nat.lt_of_lt_of_le (Heap.lt_size hS) hp)⟩) hpo hk'
   . refine wpAny_bind (xV (s:={ g0 with heap:=h,toks:=tk }) (A:=A.in1) hit ha hpi hD hx fun h' q hq hit' hpo hk'=>?_);exact go h' q hq (.inr ⟨p,true,_,_,_,hit',hk' p oa hpi ha,hpi,hpS⟩) hpo hk'
end
section
variable{prog:Program}{w:World}{A:Around}{E:Value->Shared->Prop}{s:Shared}
noncomputable abbrev kx(d:Addr):Obj:={ cls:=.type "dict_items",data:=.fields #[.ref d] }
theorem qQ{v d:Addr}{oc:Value}{dd:Option Addr}{sl:Array (Option Value)}{es:Array DictEntry}{ep:Nat}{Q:Value->Shared->Prop}(hv:s.heap.get? v=some (kx d))(hd:s.heap.get? d=some ⟨oc,dd,.dict es ep,sl⟩)
  (h:Q (.ref s.heap.objs.size) { s with heap:=s.heap.push { cls:=.type "dict_itemiterator",data:=.fields #[.none,.bool false,.ref d,.int 0 0,.int es.size 0,.int ep 0,.none,.none] } }):wpAny (model prog w) A (pyIter (.ref v)) Q E s:=by
 have hT:s.TypeIs (.ref v) "dict_items":=⟨_,hv,rfl⟩
 refine wpAny_pyIter_slot hT F.slot_dict_items_iter (wpAny_call_entry F.slot_dict_items_iter hT F.entry_dict_items_iter ?_ (F.args_dict_items_iter_1 _));unfold Builtin.«dict_items.__iter__»;obtain⟨hp,g,dr,tk,os⟩:=s
 repeat (any_goals (first|assumption|wp_step))
 have hown:Builtin.Dict_items.ownsTuple "dict_itemiterator" = true:=by decide
 simp only[hown,if_true,Bool.false_eq_true,if_false]
 exact⟨_,rfl,"dict_itemiterator",_,⟨_,Heap.get?_push_size _ rfl,rfl⟩,F.slot_dict_itemiterator_next.lookup,by simpa [rawInt,Builtin.Dict_items.ownedTupleFields]using h⟩
theorem mU{v d:Addr}{oc:Value}{dd:Option Addr}{sl:Array (Option Value)}{es:Array DictEntry}{ep:Nat}{R:List Value->Shared->Prop}(hh:A.handled=none)(hv:s.heap.get? v=some (kx d))(hd:s.heap.get? d=some ⟨oc,dd,.dict es ep,sl⟩)(hn:es.size<=sizeLine)
  (h:∀ h' tk as,s.heap.objs.size<=h'.objs.size->(∀ b o,s.heap.get? b=some o->h'.get? b=some o)->as.length=es.size->Got (s.heap.objs.size+1) es h' as->R (as.map Value.ref) { s with heap:=h',toks:=tk }):wpAny (model prog w) A (collect (.ref v)) R E s:=by
 have hvl:v<s.heap.objs.size:=Heap.lt_size hv
 have hdl:d<s.heap.objs.size:=Heap.lt_size hd
 unfold collect;refine wpAny_bind (wpAny_runValue (codeAny_builtin F.entry_proto_collect ?_));rw[Around.under_plainId F.plain_proto_collect _];show wpAny _ A.in1 (newList [] >>= fun l=>again (.builtin "list.__iadd__" ⟨[l,.ref v],[]⟩)) _ _ s;refine wpAny_bind (wpAny_newObj_type ?_);refine wpAny_pure ⟨plainId_quiet F.plain_list_iadd _,codeAny_builtin F.entry_list_iadd ?_⟩;rw[Around.under_plainId F.plain_list_iadd _];show wpAny _ A.in1 (Builtin.List.listExtendWith (.ref s.heap.objs.size) (.ref v) (.ref s.heap.objs.size)) _ _ _;unfold Builtin.List.listExtendWith;have hv1:=Heap.get?_push_of_some { cls:=.type "list",data:=.seq ([]:List Value).toArray } hv;have hd1:=Heap.get?_push_of_some { cls:=.type "list",data:=.seq ([]:List Value).toArray } hd;refine wpAny_bind (wpAny_typeOf (T:="dict_items") ⟨_,hv1,rfl⟩ ?_)
 have h1:Builtin.List.listSameRef (.ref s.heap.objs.size) (.ref v)=false:=by simp[Builtin.List.listSameRef];exact Nat.ne_of_gt hvl
 rw[if_neg (by rw[h1];decide)];refine wpAny_bind (qQ hv1 hd1 ?_);refine wpAny_bind (wpAny_holding (PySem.W.kdx_hint ⟨_,Heap.get?_push_of_some _ hv1,rfl⟩ ?_));rw[if_pos (by decide)];refine wpAny_bind (wpAny_rule ?_)
 have zS:(s.heap.push { cls:=.type "list",data:=.seq ([]:List Value).toArray }).objs.size=s.heap.objs.size+1:=by rw[Heap.size_push]
 have hS1:=Heap.get?_push_of_some { cls:=.type "dict_itemiterator",data:=.fields #[.none,.bool false,.ref d,.int 0 0,.int es.size 0,.int ep 0,.none,.none] } (Heap.get?_push_size s.heap (o:={ cls:=.type "list",data:=.seq ([]:List Value).toArray }) rfl);refine wpAny_bind ?_;show wpAny _ _ (updateSeq s.heap.objs.size (·.push .none) >>= fun _=>updateSeq s.heap.objs.size (·.pop)) _ _ _;refine wpAny_bind (wpAny_updateSeq hS1 rfl ?_);have hS2:=Heap.get?_update_self (Obj.mapSeq (·.push Value.none)) hS1 rfl;refine wpAny_updateSeq (hz:=by seq_fits) hS2 rfl ?_;have hS3:=Heap.get?_update_self (Obj.mapSeq (·.pop)) hS2 rfl;refine wpAny_pure ⟨plainId_quiet F.plain_extend_loop _,?_⟩
 have up:∀ b o,b≠s.heap.objs.size->((s.heap.push { cls:=.type "list",data:=.seq ([]:List Value).toArray }).push { cls:=.type "dict_itemiterator",data:=.fields #[.none,.bool false,.ref d,.int 0 0,.int es.size 0,.int ep 0,.none,.none] }).get? b=some o->((((s.heap.push { cls:=.type "list",data:=.seq ([]:List Value).toArray }).push { cls:=.type "dict_itemiterator",data:=.fields #[.none,.bool false,.ref d,.int 0 0,.int es.size 0,.int ep 0,.none,.none] }).update s.heap.objs.size (Obj.mapSeq (·.push Value.none))).update s.heap.objs.size (Obj.mapSeq (·.pop))).get? b=some o:=fun b o hb e=>(Heap.get?_update_other _ _ (Ne.symm hb)).trans ((Heap.get?_update_other _ _ (Ne.symm hb)).trans e)
 refine sf (A:=A) (S:=s.heap.objs.size) (it:=(s.heap.push { cls:=.type "list",data:=.seq ([]:List Value).toArray }).objs.size) (d:=d) (ep:=ep) (es:=es) hh (by rw[zS];exact Nat.ne_of_lt (Nat.lt_succ_self _)) (Nat.ne_of_lt hdl) (by rw[zS];exact Nat.ne_of_lt (Nat.lt_succ_of_lt hdl)) hn (.ref s.heap.objs.size) (h₀:=s.heap) (g0:=s) (s.heap.objs.size+2) ⟨Nat.lt_succ_of_lt (Nat.lt_succ_self _),by rw[zS];exact Nat.lt_succ_self _⟩ (fun h' tk acc c as hk hS' hacc hl G=>?_)
  es.size 0 _ _ _ _ [] (by omega) (Nat.zero_le _) (.inl ⟨_,_,up _ _ (by rw[zS];exact Nat.ne_of_gt (Nat.lt_succ_self _)) (Heap.get?_push_size _ rfl)⟩) (up _ _ (Nat.ne_of_lt hdl) (Heap.get?_push_of_some _ hd1)) (fun b o hb _ e=>up b o hb (Heap.get?_push_of_some _ (Heap.get?_push_of_some _ e))) hS3 rfl rfl (by rw[Heap.size_update,Heap.size_update,Heap.size_push,zS];exact Nat.le_refl _) ⟨List.Pairwise.nil,fun a ha=>(nomatch ha),fun j a hj=>by simp at hj⟩
 show wpAny _ A (load s.heap.objs.size >>= _) _ _ _;refine wpAny_bind (wpAny_load hS' ?_);refine wpAny_pure ?_;show R acc.toList _;rw[hacc];exact h h' tk as (Nat.le_of_lt (Heap.lt_size hS')) (fun b o e=>hk b o (Nat.ne_of_lt (Heap.lt_size e)) (by rw[zS];exact Nat.ne_of_lt (Nat.lt_succ_of_lt (Heap.lt_size e))) e) hl ⟨G.rise,fun a ha=>⟨Nat.le_trans (Nat.le_succ _) (G.low a ha).1,(G.low a ha).2⟩,G.holds⟩
theorem jY{v d:Addr}{oc:Value}{dd:Option Addr}{sl:Array (Option Value)}{es:Array DictEntry}{ep:Nat}{Q:Value->Shared->Prop}(hh:A.handled=none)(hv:s.heap.get? v=some (kx d))(hd:s.heap.get? d=some ⟨oc,dd,.dict es ep,sl⟩)(hn:es.size<=sizeLine)
  (h:∀ h' tk as,s.heap.objs.size<=h'.objs.size->(∀ b o,s.heap.get? b=some o->h'.get? b=some o)->as.length=es.size->Got (s.heap.objs.size+1) es h' as->Q (.ref h'.objs.size) { s with heap:=h'.push { cls:=.type "tuple",data:=.seq (as.map Value.ref).toArray },toks:=tk }):wpAny (model prog w) A (call (.type "tuple") [.ref v]) Q E s:=by
 refine callType_newIn F.called_tuple (by decide) (F.typeCall_tuple_1 _) (F.newCall_tuple_1 _) (fun obj=>F.args_object_init_2 obj _) F.entry_tuple_new (S:=fun A R s=>A.handled=none /\ s.heap.get? v=some (kx d) /\ s.heap.get? d=some ⟨oc,dd,.dict es ep,sl⟩ /\ ∀ h' tk as,s.heap.objs.size<=h'.objs.size->(∀ b o,s.heap.get? b=some o->h'.get? b=some o)->as.length=es.size->Got (s.heap.objs.size+1) es h' as->R (.ok (.ret (.ref h'.objs.size))) { s with heap:=h'.push { cls:=.type "tuple",data:=.seq (as.map Value.ref).toArray },toks:=tk }) (.of_wp fun A R s z=>?_) ⟨hh,hv,hd,fun h' tk as gz k l G=>⟨⟨_,Heap.get?_push_size _ rfl,rfl⟩,h h' tk as gz k l G⟩⟩;obtain⟨hp,g,d',tk,os⟩:=s;obtain⟨hh,hv,hd,z⟩:=z;have hsub:=sub_tuple_self;have hinit:=init_tuple_lookup;have hmh:=madeHere_tuple
 have hT:Shared.TypeIs ⟨hp,g,d',tk,os⟩ (.ref v) "dict_items":=⟨_,hv,rfl⟩
 wp_walk using wpAny_typeOf hT,mU (s:=⟨hp,g,d',tk,os⟩) (A:=A.in1) hh hv hd hn
 intro h' tk' as gz k l G;show wpAny _ _ (Builtin.Tuple.tupleExact (as.map Value.ref).toArray >>= fun v=>ret v) _ _ _;unfold Builtin.Tuple.tupleExact;refine wpAny_bind (wpAny_newObj_type ?_ (by show(as.map Value.ref).toArray.size<=sizeLine;simpa [l]using hn));exact wpAny_pure ⟨_,rfl,z h' tk' as gz k l G⟩
end
end HT
namespace L2
open PySem PySem.Spec PyProof.Rows
abbrev E3:=List Key×Addr×V
noncomputable def R3(p:E3)(q:List Key×Addr×Value):Prop:=p.1=q.1 /\ p.2.1=q.2.1 /\ RelV p.2.2 q.2.2
noncomputable def mm(xs:List E3)(k:List Key)(b:Addr)(v:V):List E3:=if(xs.any fun p=>decide (p.1=k))=true then xs.map (fun p=>if p.1=k then(p.1,p.2.1,v)else p)else xs++[(k,b,v)]
noncomputable def dU(xs:List E3):List E3->List E3
 |[]=>xs
 |p ::r=>dU (mm xs p.1 p.2.1 p.2.2) r
noncomputable def sJ(K:PySem.W.Frag)(H:Hp)(xs:List E3):Prop:=∀ p∈xs,SqT K H p.2.1 (p.1.map kV)
theorem pS(xs:List E3)(k:List Key)(b:Addr)(v:V):(mm xs k b v).length<=xs.length+1:=by
 unfold mm;split
 . rw[List.length_map];omega
 . rw[List.length_append];simp
theorem jS:∀(ps xs:List E3),(dU xs ps).length<=xs.length+ps.length
 |[],xs=>by simp[dU]
 | p ::r,xs=>by
   have:=jS r (mm xs p.1 p.2.1 p.2.2);have:=pS xs p.1 p.2.1 p.2.2;rw[dU,List.length_cons];omega
theorem R3.any{xs:List E3}{ys:List (List Key×Addr×Value)}(r:Paired R3 xs ys)(k:List Key):(xs.any fun p=>decide (p.1=k))=(atKey ys k).isSome:=by
 induction r with
 |nil=>rfl
 | @cons p q ps qs h t ih=>
   rw[List.any_cons,ih,h.1]
   by_cases e:q.1=k
   . simp[atKey,List.find?_cons,e]
   . simp[atKey,List.find?_cons,e]
theorem R3.put{xs:List E3}{ys:List (List Key×Addr×Value)}(r:Paired R3 xs ys)(k:List Key)(b:Addr){v:V}{u:Value}(rv:RelV v u):Paired R3 (mm xs k b v) (storedH ys k b u):=by
 unfold mm storedH;rw[R3.any r k]
 by_cases q:(atKey ys k).isSome=true
 . rw[if_pos q,if_pos q];clear q
   induction r with
   |nil=>exact .nil
   | @cons p q ps qs h t ih=>
     rw[List.map_cons,List.map_cons];refine .cons ?_ ih;unfold putAt
     by_cases e:p.1=k
     . rw[if_pos e,if_pos (h.1.symm.trans e)];exact⟨h.1,h.2.1,rv⟩
     . rw[if_neg e,if_neg (fun z=>e (h.1.trans z))];exact h
 . rw[if_neg q,if_neg q];exact Paired.snoc r ⟨rfl,rfl,rv⟩
theorem R3.yy:∀{ps:List E3} {qs:List (List Key×Addr×Value)} {xs:List E3} {ys:List (List Key×Addr×Value)},Paired R3 ps qs->Paired R3 xs ys->Paired R3 (dU xs ps) (HT.putAll ys qs)
 |_,_,_,_,.nil,r=>r
 | _,_,_,_,.cons (a:=p) (b:=q) h t,r=>by
   have:=R3.put r p.1 p.2.1 h.2.2;rw[h.1,h.2.1]at this;rw[dU,HT.putAll,h.1,h.2.1];exact R3.yy t this
section
variable{X:Cx}{pins:List (Addr×Obj)}{σ:St}{H:Hp}{s:Shared}{a d:Addr}
theorem Inv.Bh{k:List Key}(I:Inv X pins σ H s)(h:SqT X.K H a (k.map kV)):(tupleKind (cG X.prog X.w)).is s.heap k a:=by
 obtain⟨its,r,⟨o,e,c,n,f⟩,_⟩:=I.tuple h
 exact⟨o,its.toArray,n,e,c,f,by simpa using m9 r⟩
theorem Inv.dT{xs:List E3}(I:Inv X pins σ H s)(e:H d=some (.dT xs))(k:sJ X.K H xs):xs.length<=sizeLine /\ (d==sysModules)=false /\ ∃ ys,Paired R3 xs ys /\ s.heap.DictOfH (tupleKind (cG X.prog X.w)) d ys:=by
 obtain⟨z,y,ys,r,o,es,ep,h1,h2,h3,h4,h5⟩:=(show b0 X.prog X.w H s.heap d (.dT xs) from I.hok d _ e)
 refine⟨z,y,ys,r,o,es,ep,h1,h2,h3,h4,fun q hq=>?_,h5⟩
 have all:∀{l:List E3} {m:List (List Key×Addr×Value)},Paired R3 l m->sJ X.K H l->∀ x∈m,(tupleKind (cG X.prog X.w)).is s.heap x.1 x.2.1:=by
  intro l m r
  induction r with
  |nil=>intro _ x hx;cases hx
  | @cons p q ps qs h t ih=>
    intro kk x hx
    rcases List.mem_cons.mp hx with z|z
    . subst z;have:=kk p (List.mem_cons_self);rw[h.1,h.2.1]at this;exact I.Bh this
    . exact ih (fun p hp=>kk p (List.mem_cons_of_mem _ hp)) x z
 exact all r k q hq
theorem wM{P:Program}{w:World}{H:Hp}{h:Heap}{xs:List E3}{ys:List (List Key×Addr×Value)}(z:xs.length<=sizeLine)(y:(d==sysModules)=false)(r:Paired R3 xs ys)(dd:h.DictOfH (tupleKind (cG P w)) d ys):b0 P w H h d (.dT xs):=by
 obtain⟨o,es,ep,h1,h2,h3,h4,_,h5⟩:=dd
 exact⟨z,y,ys,r,o,es,ep,h1,h2,h3,h4,h5⟩
noncomputable def PrT(K:PySem.W.Frag)(H:Hp)(v:V)(p:E3):Prop:=∃ q,v=.ref q /\ SqT K H q [.ref p.2.1,p.2.2] /\ SqT K H p.2.1 (p.1.map kV)
theorem DW(I:Inv X pins σ H s):∀{vs:List V} {ps:List E3} {its:List Value},Paired (PrT X.K H) vs ps->Vals vs its->∃ qs,Paired R3 ps qs /\ qs.length=its.length /\ ∀(j:Nat) q u,qs[j]?=some q->its[j]?=some u->HT.uy (cG X.prog X.w) s.heap q u:=by
 intro vs ps its h
 induction h generalizing its with
 |nil=>intro r;cases r;exact⟨[],.nil,rfl,fun j q u e=>by simp at e⟩
 | @cons v p vs ps hp t ih=>
   intro r
   cases r with
   | @cons _ u _ us ru rt=>
     obtain⟨qs,r1,l1,h1⟩:=ih rt;obtain⟨q,rfl,s1,s2⟩:=hp;cases ru;obtain⟨its',rv,pt,_⟩:=I.tuple s1
     cases rv with
     | @cons _ u1 _ _ w1 rv=>
       cases w1
       cases rv with
       | @cons _ u2 _ _ w2 rv=>
         cases rv
         refine⟨(p.1,p.2.1,u2) ::qs,.cons ⟨rfl,rfl,w2⟩ r1,by simp[l1],fun j q' u' e1 e2=>?_⟩
         cases j with
         | zero=>
           simp at e1 e2;subst e1 e2
           exact⟨⟨q,rfl,pt⟩,I.Bh s2⟩
         |succ j=>exact h1 j q' u' (by simpa using e1) (by simpa using e2)
noncomputable def u7(K:PySem.W.Frag)(A:Around):List V->Hp->VK->Prop:=fun xs H Q=>∃ a vs ps,xs=[.ref a] /\ SqT K H a vs /\ Paired (PrT K H) vs ps /\ A.handled=none /\ A.units+2<cLine /\ ∀ d,H d=none->Q (.ref d) (upd H d (.dT (dU [] ps)))
theorem rM:gw X (.type "dict") (u7 X.K X.A):=by
 intro pins s σ H xs us Q I r h;obtain⟨a,vs,ps,rfl,ha,hp,hh,hu,q⟩:=h;obtain⟨u,rfl,rx⟩:=vals1 r;cases rx;obtain⟨its,rv,⟨⟨cl,di,da,sl⟩,e1,e2,n,e3⟩,hz⟩:=I.tuple ha;have nd:=I.noD ha _ e1;simp only at e2 e3 nd;subst e2 e3 nd;obtain⟨qs,r1,l1,h1⟩:=DW I hp rv;have hl:=rv.length
 refine HT.uo (kk:=cG X.prog X.w) hu hh e1 l1 (by omega) h1 fun d h' tk hd dd k=>?_
 have hps:ps.length=vs.length:=(Paired.length hp).symm
 have hf:=I.hok.fresh hd
 have hbig:(d==sysModules)=false:=beq_eq_false_iff_ne.mpr (Ne.symm (Nat.ne_of_lt (Nat.lt_of_lt_of_le I.big hd)))
 exact⟨.ref d,_,I.laid (t':=tk) k hd (wM (by have:=jS ps [];simp at this;omega) hbig (R3.yy r1 .nil) dd),rfl,q d hf⟩
end
section
variable{X:Cx}{o i value:Expr}{pos pos':Pos}{td ty tv:TE}
noncomputable def r6(K:PySem.W.Frag)(td ty tv:TE):TS:=fun D σ H=>tv σ H fun v H1=>td σ H1 fun x H2=>ty σ H2 fun y H3=>∃ d b xs k,x=.ref d /\ y=.ref b /\ H3 d=some (.dT xs) /\ sJ K H3 xs /\ SqT K H3 b (k.map kV) /\ xs.length<sizeLine /\ D.nx σ (upd H3 d (.dT (mm xs k b v)))
theorem ve(hu:X.A.units+1<cLine)(ho:PE X o td)(hi:PE X i ty)(hv:PE X value tv)(hs:swapsWith value (some (.Subscript o i pos')) pos.line X.env=pure false):
  PS X (.Assign [.Subscript o i pos'] value pos) (r6 X.K td ty tv):=by
 intro pins s σ H D I h;refine wpAny_Assign_Subscript (thn (hv pins s σ H _ I h) fun r s1 ⟨v,H1,I1,rv,q1⟩=>thn (ho pins s1 σ H1 _ I1 q1) fun u s2 ⟨x,H2,I2,rx,q2⟩=>thn (hi pins s2 σ H2 _ I2 q2) fun iv s3 ⟨y,H3,I3,ry,d,b,xs,k,ex,ey,e,kk,hk,hl,q3⟩=>?_) hs;subst ex ey
 obtain rfl:u=Value.ref d:=rx
 obtain rfl:iv=Value.ref b:=ry
 obtain⟨z,y,ys,r3,dd⟩:=I3.dT e kk
 refine wpAny_setItem_heap (hsz:=by rw[<- Paired.length r3];exact z) (tupleKind_room_in1 hu) (I3.Bh hk) dd fun h' dd' hs'=>?_
 have he:∃ q,h'.get? d=some q:=let ⟨q,_,_,hq,_⟩:=dd';⟨q,hq⟩
 exact⟨σ,_,yM I3 (by rw[e];exact True.intro) hs' he (wM (by have:=pS xs k b v;omega) y (R3.put r3 k b rv) dd'),q3⟩
end
section
variable{X:Cx}{pins:List (Addr×Obj)}{σ:St}{H H':Hp}{s:Shared}{h':Heap}
theorem Inv.BX{t':Nat}(I:Inv X pins σ H s)(k:∀ b u,s.heap.get? b=some u->h'.get? b=some u)(hH:∀ b,H' b=H b \/ (s.heap.objs.size<=b /\ ∃ o,H' b=some o /\ b0 X.prog X.w H' h' b o)):Inv X pins σ H' { s with heap:=h',toks:=t' }:=by
 have old:∀ b,b<s.heap.objs.size->H' b=H b:=fun b hb=>by
  rcases hH b with z|⟨z,_⟩
  . exact z
  . exact absurd hb (Nat.not_lt.mpr z)
 have keep:∀ b o,H b=some o->H' b=some o:=fun b o e=>by rw[old b (I.hok.lt e)];exact e
 refine I.un ⟨fun b u q _ _ _=>k b u q,fun b u q _ _ _=>⟨u.slots,k b u q⟩,fun b u q n _=>by rw[old b (Heap.lt_size q)];exact n,fun b u q _=>⟨u,k b u q⟩,fun b xs q=>keep b _ q,fun b u xs q=>keep b _ q,fun b ps q=>⟨#[],by rw[keep b _ q];simp⟩⟩ fun b o e=>?_
 rcases hH b with z|⟨z,o',e',ok⟩
 . rw[z]at e
   exact(I.hok b o e).ll (fun c v _ q=>k c v q) (fun c q=>keep c _ q) fun c xs q=>keep c _ q
 . rw[e']at e;cases e;exact ok
noncomputable def xO:List E3->Hp->(List Addr->Hp->Prop)->Prop
 |[],H,k=>k [] H
 |x ::xs,H,k=>∀ a,H a=none->xO xs (upd H a (.tup [.ref x.2.1,x.2.2])) fun as H1=>k (a ::as) H1
noncomputable def g8:List E3->List Addr->Hp->Hp
 |x ::xs,a ::as,H=>g8 xs as (upd H a (.tup [.ref x.2.1,x.2.2]))
 |_,_,H=>H
theorem ic:∀(xs:List E3) (as:List Addr) (H:Hp) (b:Addr),b∉as->g8 xs as H b=H b
 |[],_,_,_,_=>by simp[g8]
 |_ ::_,[],_,_,_=>by simp[g8]
 | x ::xs,a ::as,H,b,hb=>by
   rw[g8,ic xs as _ b (fun z=>hb (List.mem_cons_of_mem _ z)),aA (fun z=>hb (by rw[z];exact List.mem_cons_self))]
theorem sx:∀(xs:List E3) (as:List Addr) (H:Hp) (k:List Addr->Hp->Prop),as.length=xs.length->as.Nodup->(∀ a∈as,H a=none)->xO xs H k->k as (g8 xs as H)
 |[],[],H,k,_,_,_,h=>h
 |[],_ ::_,_,_,e,_,_,_=>by cases e
 |_ ::_,[],_,_,e,_,_,_=>by cases e
 | x ::xs,a ::as,H,k,e,n,f,h=>by
   rw[List.nodup_cons]at n
   exact sx xs as _ (fun bs H1=>k (a ::bs) H1) (by simpa using e) n.2 (fun b hb=>by
    rw[aA (fun z=>n.1 (by rw[<- z];exact hb))]
    exact f b (List.mem_cons_of_mem _ hb)) (h a (f a List.mem_cons_self))
theorem nQ:∀(xs:List E3) (as:List Addr) (H:Hp),as.Nodup->as.length=xs.length->∀(j:Nat) (a:Addr),as[j]?=some a->∃ x,xs[j]?=some x /\ g8 xs as H a=some (.tup [.ref x.2.1,x.2.2])
 |_,[],_,_,_,j,a,h=>by simp at h
 |[],_ ::_,_,_,e,_,_,_=>by cases e
 | x ::xs,a ::as,H,n,e,0,b,h=>by
   rw[List.nodup_cons]at n
   have:a=b:=by simpa using h
   subst this
   exact⟨x,rfl,by rw[g8,ic xs as _ a n.1,az]⟩
 | x ::xs,a ::as,H,n,e,j+1,b,h=>by
   rw[List.nodup_cons]at n;obtain⟨y,e1,e2⟩:=nQ xs as (upd H a (.tup [.ref x.2.1,x.2.2])) n.2 (by simpa using e) j b (by simpa using h)
   exact⟨y,by simpa using e1,by rw[g8];exact e2⟩
theorem Paired.at3{α β:Type}{F:α->β->Prop}:∀{xs:List α} {ys:List β} {j:Nat} {x:α} {y:β},Paired F xs ys->xs[j]?=some x->ys[j]?=some y->F x y
 |_,_,0,_,_,.cons h _,e1,e2=>by simp at e1 e2;subst e1 e2;exact h
 |_,_,j+1,_,_,.cons _ t,e1,e2=>Paired.at3 t (by simpa using e1) (by simpa using e2)
 |_,_,_,_,_,.nil,e1,_=>by simp at e1
noncomputable def vwO(v d:Addr):HO:=.ext fun h=>h.get? v=some (HT.kx d)
theorem Cr{P:Program}{w:World}{H:Hp}{h:Heap}{v d:Addr}(e:h.get? v=some (HT.kx d)):b0 P w H h v (vwO v d):=⟨e,⟨_,e⟩,fun _ _ p k=>k _ p⟩
noncomputable def sL:V->List V->Hp->VK->Prop:=fun x vs H Q=>∃ d xs,x=.ref d /\ vs=[] /\ H d=some (.dT xs) /\ ∀ v,H v=none->Q (.ref v) (upd H v (vwO v d))
theorem pV{prog:Program}{w:World}(d:Addr)(hd:(d==sysModules)=false):
  MeetsIn prog w (Builtin.«dict.items» ⟨[.ref d],[]⟩) (fun _ R s=>s.TypeIs (.ref d) "dict" /\ R (.ok (.ret (.ref s.heap.objs.size))) { s with heap:=s.heap.push (HT.kx d) }):=
 .of_wp fun A R s ⟨ht,h⟩=>by
  refine wpAny_bind ?_;unfold Builtin.Dict.noArgs;refine wpAny_bind (wpAny_notOrdered_dict ht ?_);show wpAny _ _ (pure d) _ _ s;refine wpAny_pure ?_;show wpAny _ _ (Builtin.Dict.showsAll d >>= _) _ _ s;unfold Builtin.Dict.showsAll;rw[if_neg (by rw[hd];exact Bool.false_ne_true)];refine wpAny_bind (wpAny_pure ?_);exact wpAny_bind (wpAny_newObj_type (wpAny_pure ⟨_,rfl,h⟩))
theorem vg:MtM X "dict.items" sL:=by
 intro pins s σ H x vs v us Q I rx rv h;obtain⟨d,xs,rfl,rfl,e,q⟩:=h;cases rx;have hus:=rv.zero;subst hus;obtain⟨z,y,ys,r,o,es,ep,h1,h2,h3⟩:=(show b0 X.prog X.w H s.heap d (.dT xs) from I.hok d _ e);refine call_meetsIn F.slot_dict_items ⟨o,h1,h2.1⟩ F.entry_dict_items (F.args_dict_items_1 _) (pV d y) ⟨⟨o,h1,h2.1⟩,?_⟩
 exact⟨.ref s.heap.objs.size,_,I.laid (t':=s.toks) (fun b u z=>Heap.get?_push_of_some _ z) (Nat.le_refl _) (Cr (Heap.get?_push_size _ rfl)),rfl,q _ (I.hok.fresh (Nat.le_refl _))⟩
noncomputable def ze(A:Around):List V->Hp->VK->Prop:=fun ys H Q=>∃ v d xs,ys=[.ref v] /\ H v=some (vwO v d) /\ H d=some (.dT xs) /\ A.handled=none /\ xO xs H fun as H1=>∀ r,H1 r=none->Q (.ref r) (upd H1 r (.tup (as.map .ref)))
theorem pN:gw X (.type "tuple") (ze X.A):=by
 intro pins s σ H ys us Q I r h;obtain⟨v,d,xs,rfl,ev,ed,hh,q⟩:=h;obtain⟨u,rfl,rx⟩:=vals1 r;cases rx;obtain⟨z,y,raw,rr,⟨oc,dd,da,sl⟩,es,ep,h1,h2,h3,h4,h5⟩:=(show b0 X.prog X.w H s.heap d (.dT xs) from I.hok d _ ed);simp only at h3;subst h3
 have hv:s.heap.get? v=some (HT.kx d):=(show b0 X.prog X.w H s.heap v (vwO v d) from I.hok v _ ev).1
 have hes:es.size=xs.length:=by rw[<- Array.length_toList,h4,List.length_map,Paired.length rr]
 refine HT.jY hh hv h1 (by rw[hes];exact z) fun h' tk as gz k l G=>?_
 have nd:as.Nodup:=G.rise.imp fun z=>Nat.ne_of_lt z
 have fresh:∀ a∈as,H a=none:=fun a ha=>I.hok.fresh (Nat.le_trans (Nat.le_succ _) (G.low a ha).1)
 have q1:=sx xs as H _ (by rw[l,hes]) nd fresh q
 have hr:g8 xs as H h'.objs.size=none:=by
  rw[ic xs as H _ (fun z=>Nat.lt_irrefl _ (G.low _ z).2)];exact I.hok.fresh gz
 refine⟨.ref h'.objs.size,upd (g8 xs as H) h'.objs.size (.tup (as.map .ref)),?_,rfl,q1 _ hr⟩
 refine I.BX (fun b u z=>Heap.get?_push_of_some _ (k b u z)) fun b=>?_
 by_cases hb:b=h'.objs.size
 . subst hb;refine .inr ⟨gz,_,az,⟨by rw[List.length_map,l,hes];exact z,.new _ _⟩,as.map Value.ref,?_,IsTup.new _ _⟩;clear q1 fresh nd G l q hr
   induction as with
   |nil=>exact .nil
   |cons a as ih=>exact .cons rfl ih
 . rw[aA hb]
   by_cases hm:b∈as
   . obtain⟨j,hj⟩:=List.mem_iff_getElem?.mp hm;obtain⟨x,e1,e2⟩:=nQ xs as H nd (by rw[l,hes]) j b hj;obtain⟨e,e3,e4⟩:=G.holds j b hj;refine .inr ⟨Nat.le_trans (Nat.le_succ _) (G.low b hm).1,_,e2,⟨by show 2<=sizeLine;decide,.of (Heap.get?_push_of_some _ e4) rfl⟩,[e.key,e.val],?_,⟨_,Heap.get?_push_of_some _ e4,rfl,_,rfl⟩⟩
     have e5:es.toList[j]?=some e:=by rw[Array.getElem?_toList];exact e3
     rw[h4,List.getElem?_map]at e5;obtain⟨y,e6,e7⟩:=Option.map_eq_some_iff.mp e5;have r3:=Paired.at3 rr e1 e6;subst e7;exact .cons (by rw[r3.2.1];rfl) (.cons r3.2.2 .nil)
   . exact .inl (ic xs as H b hm)
end
end L2
namespace L2.E
open PySem PySem.Spec PyProof.Rows L2
theorem wH{X:Cx}{o i value:Expr}{td ty tv:TE}{pos pos':Pos}(hu:X.A.units+1<cLine)(ho:QE X o td)(hi:QE X i ty)(hv:QE X value tv)(hs:swapsWith value (some (.Subscript o i pos')) pos.line X.env=pure false:=by rfl):QS X (.Assign [.Subscript o i pos'] value pos) (r6 X.K td ty tv):=⟨ve hu ho.out hi.out hv.out hs⟩
theorem boot_dict:bootBuiltins "dict" = some (.type "dict"):=by decide +kernel
theorem A8{A:Around}{k:Nat}(hr:dy k A):A.units+2<cLine:=by have:=hr.un;omega
end L2.E
namespace L2.P
open PySem PySem.Spec PyProof.Rows L2 L2.E
section
variable{K:PySem.W.Frag}{cls:String->Option Addr}{W:XW}{Av G S₀ S S' H H' B B':Hp}{ρ:aa}{σ:St}{Q:VK}
theorem nT:∀{ns:List Int} {vs:List V},aL K S (ns.map .int) vs->vs=(ns.map Sum.inl).map kV
 |[],vs,h=>by unfold aL at h;rw[h];rfl
 | n ::ns,vs,h=>by
   obtain⟨v,r,rfl,h1,h2⟩:=h.cons_inv;unfold Rep at h1;rw[h1,nT h2];rfl
theorem rN{x:PV}{v:V}{ns:List Int}(e:uL x=some ns)(h:Rep K S x v):∃ b,v=.ref b /\ SqT K S b ((ns.map Sum.inl).map kV) /\ Rep K S (.tup (ns.map .int)) (.ref b):=by
 cases x with
 | tup xs=>
   have e1:=ux (show iY xs=some ns from e);subst e1;have h0:=h;unfold Rep at h;obtain⟨b,vs,rfl,h1,h2⟩:=h;rw[nT h2]at h1
   exact⟨b,rfl,h1,h0⟩
 |_=>cases e
theorem pairs_at(sh:au S H):∀{ps:List PV} {vs:List V} {d:DT},jV ps=some d->aL K S ps vs->∃ es:List E3,Paired (PrT K H) vs es /\ cg K S d es
 |[],vs,d,e,h=>by cases e;unfold aL at h;subst h;exact⟨[],.nil,.nil⟩
 | .tup [k,y] ::ps,vs,d,e,h=>by
   unfold jV at e;obtain⟨ns,e1,e2⟩:=Option.bind_eq_some_iff.mp e;obtain⟨d',e3,e4⟩:=Option.map_eq_some_iff.mp e2;subst e4;obtain⟨v,r,rfl,h1,h2⟩:=h.cons_inv;obtain⟨es,h3,h4⟩:=pairs_at sh e3 h2;unfold Rep at h1;obtain⟨q,us,rfl,h5,h6⟩:=h1;obtain⟨vk,r1,rfl,hk,h6⟩:=h6.cons_inv;obtain⟨vy,r2,rfl,hy,h6⟩:=h6.cons_inv
   have:r2=[]:=by unfold aL at h6;exact h6
   subst this;obtain⟨b,rfl,hb,hkb⟩:=rN e1 hk
   exact⟨(ns.map Sum.inl,b,vy) ::es,.cons ⟨q,rfl,au.tup sh h5,au.tup sh hb⟩ h3,.cons ⟨rfl,hkb,hy⟩ h4⟩
 |.tup [] ::_,_,_,e,_=>by cases e
 |.tup [_] ::_,_,_,e,_=>by cases e
 |.tup (_ ::_ ::_ ::_) ::_,_,_,e,_=>by cases e
 |.non ::_,_,_,e,_=>by cases e
 |.bl _ ::_,_,_,e,_=>by cases e
 |.str _ ::_,_,_,e,_=>by cases e
 |.int _ ::_,_,_,e,_=>by cases e
 |.lst _ ::_,_,_,e,_=>by cases e
theorem tH:∀{a b:List Int},a.map (Sum.inl:Int->Key)=b.map Sum.inl↔a=b:=by
 intro a b
 refine⟨fun e=>?_,fun e=>by rw[e]⟩
 have:=congrArg (List.map fun k:Key=>match k with|.inl i=>i|.inr _=>0) e
 simpa [List.map_map,Function.comp_def]using this
theorem cg.any{d:DT}{xs:List E3}(r:cg K S d xs)(k:List Int):(d.any fun p=>decide (p.1=k))=xs.any fun p=>decide (p.1=k.map Sum.inl):=by
 induction r with
 |nil=>rfl
 | cons h t ih=>
   rw[List.any_cons,List.any_cons,ih,h.1]
   congr 1
   exact decide_eq_decide.mpr tH.symm
theorem cg.put{d:DT}{xs:List E3}(r:cg K S d xs)(k:List Int){b:Addr}{y:PV}{v:V}(hk:Rep K S (.tup (k.map .int)) (.ref b))(hy:Rep K S y v):cg K S (nN d k y) (mm xs (k.map Sum.inl) b v):=by
 unfold nN mm;rw[r.any k];split
 . rename_i q;clear q
   induction r with
   |nil=>exact .nil
   | @cons p q ps qs h t ih=>
     rw[List.map_cons,List.map_cons];refine .cons ?_ ih
     by_cases e:p.1=k
     . rw[if_pos e,if_pos (by rw[h.1,e])];exact⟨h.1,h.2.1,hy⟩
     . rw[if_neg e,if_neg (fun z=>e (tH.mp (h.1.symm.trans z)))];exact h
 . exact Paired.snoc r ⟨rfl,hk,hy⟩
theorem cg.yy{ps:DT}{es:List E3}(h:cg K S ps es):∀{d:DT} {xs:List E3},cg K S d xs->cg K S (ps.foldl (fun d p=>nN d p.1 p.2) d) (dU xs es):=by
 induction h with
 |nil=>intro d xs r;exact r
 | @cons p q ps qs h t ih=>
   intro d xs r;have:=cg.put r p.1 h.2.1 h.2.2;rw[<- h.1]at this;exact ih this
theorem cg.Ca{d:DT}{xs:List E3}(sh:au S H)(r:cg K S d xs):sJ K H xs:=by
 induction r with
 |nil=>intro p hp;cases hp
 | cons h t ih=>
   intro p hp
   rcases List.mem_cons.mp hp with z|z
   . subst z;obtain⟨b,e,h1,_⟩:=rN (x:=.tup _) (show uL (.tup (List.map PV.int _))=some _ from rl _) h.2.1;cases e;rw[h.1];exact au.tup sh h1
   . exact ih p z
theorem vb:∀{d:DT} {xs:List E3} {S H:Hp} {k:List Addr->Hp->Prop},au S H->cg K S d xs->(∀ as S' H',aE S H S' H'->aL K S' (pb d) (as.map .ref)->k as H')->xO xs H k
 |_,_,S,H,k,sh,.nil,h=>h [] S H (aE.refl sh) (by show aL K S [] [];unfold aL;rfl)
 | _,_,S,H,k,sh,@Paired.cons _ _ _ p q d _ hp t,h=>by
   intro a ha;have g:=aE.both (o:=.tup [.ref q.2.1,q.2.2]) sh ha
   refine vb g.sh (cg.mono g.s t) fun as S' H' w r=>h (a ::as) S' H' (g.trans w) ?_
   show aL K S' (.tup [.tup (p.1.map .int),p.2] ::pb d) (.ref a ::as.map .ref);refine .cons (Rep.mono w.s ?_) r;unfold Rep
   exact⟨a,_,rfl,SqT.new az,.cons (Rep.mono g.s hp.2.1) (.cons (Rep.mono g.s hp.2.2) .nil)⟩
end
section
variable{K:PySem.W.Frag}{cls:String->Option Addr}{W:XW}{Av G S₀ S S' H H' B B':Hp}{ρ:aa}{σ:St}{Q:VK}
theorem rG{A:Around}{i:Nat}{c:Str}{te tk tv:TE}{me mk mv:aa->OE}(hh:A.handled=none)(hu:A.units+2<cLine)(he:JE K cls W te me)(hk:JE K cls W tk mk)(hv:JE K cls W tv mv):
  JS K cls W (vC (rK (tCB (u7 K A) (cK te gD)) (eU i)) (vC (r6 K (jw i) tk tv) (wV (xR (cK (tC (.str c)) (cK (tCB (ze A) (cK (yQ K "dict" sL (jw i)) gD)) gD)))))) (i4 i c me mk mv):=by
 intro Av G S₀ ρ σ S H D I p;unfold i4 at p
 by_cases hi:i<ρ.length
 case neg=>rw[if_neg hi]at p;exact p.elim
 rw[if_pos hi]at p
 refine he.goS I p fun r z S1 H1 I1 w1 r1 p1=>?_
 have ra:=r1.rd I1.sh
 cases er:r.pv with
 | tup ps=>
   rw[er]at p1 ra
   dsimp only at p1
   cases ed:jV ps with
   |none=>rw[ed]at p1;exact p1.elim
   | some d=>
     rw[ed]at p1
     dsimp only at p1
     by_cases hl:ps.length+1<=lim
     case neg=>rw[if_neg hl]at p1;exact p1.elim
     rw[if_pos hl]at p1;obtain⟨q,vs,rfl,hq,hr⟩:=cn ra;obtain⟨es,h1,h2⟩:=pairs_at I1.sh ed hr
     refine⟨q,vs,es,rfl,au.tup I1.sh hq,h1,hh,hu,fun b hb=>?_⟩
     have rD:cg K S1 (xi d) (dU [] es):=cg.yy h2 .nil
     have wb:aE S1 H1 S1 (upd H1 b (.dT (dU [] es))):=aE.heap I1.sh hb
     have I2:SR K cls Av G S₀ (ρ.set i none) (σ.set i (some (.ref b))) S1 (upd H1 b (.dT (dU [] es))):=(I1.grow wb).nU
     have hiσ:(σ.set i (some (.ref b)))[i]?=some (some (.ref b)):=by rw[List.getElem?_set_self (by rw[<- I.len];exact hi)]
     refine hv.goS I2 p1 fun rv v S3 H3 I3 w3 r3 p3=>?_
     cases rv with
     |fr _=>exact p3.elim
     |al _=>exact p3.elim
     | sh y=>
       dsimp only at p3
       refine⟨.ref b,hiσ,hk.goS I3 p3 fun rk x S4 H4 I4 w4 r4 p4=>?_⟩
       cases ek:uL rk.pv with
       |none=>rw[ek]at p4;exact p4.elim
       | some ks=>
         rw[ek]at p4
         dsimp only at p4
         have rk4:=r4.rd I4.sh
         have hrep:Rep K S4 rk.pv x:=by
          cases e5:rk.pv with
          |tup xs=>rw[e5]at rk4;exact rk4
          |_=>rw[e5]at ek;cases ek
         obtain⟨bk,rfl,hbk,hkr⟩:=rN ek hrep;have w34:=w3.trans w4
         have hd4:H4 b=some (.dT (dU [] es)):=w34.g _ _ az
         have rD4:=cg.mono w34.s rD
         have hy:Rep K S4 y v:=Rep.mono w4.s r3
         have hlen:(dU [] es).length<sizeLine:=by
          have a1:=jS es [];have a2:=Paired.length h1;have a3:=hr.length
          have a4:lim=sizeLine:=rfl
          simp at a1;omega
         refine⟨b,bk,dU [] es,ks.map Sum.inl,rfl,rfl,hd4,cg.Ca I4.sh rD4,au.tup I4.sh hbk,hlen,?_⟩
         have rD5:=cg.put rD4 ks hkr hy
         have hS4:S4 b=none:=by
          cases z:S4 b with
          |none=>rfl
          | some o=>
            rcases w34.new b (by rw[z];simp)with y|y
            . exact absurd (I1.sh.free hb) y
            . rw[az]at y;cases y
         have w5:aE S1 H1 S4 (upd H4 b (.dT (mm (dU [] es) (ks.map Sum.inl) bk v))):=⟨w34.s,fun a o ha=>by
           have hab:a≠b:=fun z=>by rw[z,hb]at ha;cases ha
           rw[aA hab]
           exact w34.g _ _ (by rw[aA hab];exact ha),w34.sh.upd hS4,fun a ha=>by
           rcases w34.new a ha with z|z
           . exact .inl z
           . by_cases y:a=b
             . rw[y];exact .inr hb
             . rw[aA y]at z;exact .inr z⟩
         have I5:SR K cls Av G S₀ (ρ.set i none) (σ.set i (some (.ref b))) S4 (upd H4 b (.dT (mm (dU [] es) (ks.map Sum.inl) bk v))):=(I1.grow w5).nU
         refine⟨.ref b,hiσ,.inr (.inr (.inl ⟨rfl,.inr ⟨_,az⟩⟩)),b,_,rfl,rfl,az,fun vw hvw=>?_⟩
         have w6:=aE.heap (o:=vwO vw b) I5.sh hvw
         have hbv:b≠vw:=fun z=>by rw[<- z,az]at hvw;cases hvw
         refine⟨vw,b,_,rfl,az,by rw[aA hbv];exact az,hh,vb w6.sh rD5 fun as S7 H7 w7 r7=>fun t ht=>?_⟩
         have w8:=aE.both (o:=.tup (as.map .ref)) w7.sh ht
         refine⟨by show 2<=sizeLine;decide,fun u hu'=>?_⟩
         have w9:=aE.both (o:=.tup [.str c,.ref t]) w8.sh hu';refine p4 (.ref u) _ _ _ (I5.grow ((w6.trans w7).trans (w8.trans w9))) ((w6.trans w7).trans (w8.trans w9)).s ?_;show Rep K _ _ _;unfold Rep
         refine⟨u,_,rfl,SqT.new az,.cons (by unfold Rep;rfl) (.cons (Rep.mono w9.s ?_) .nil)⟩
         unfold Rep
         exact⟨t,_,rfl,SqT.new az,r7.mono w8.s⟩
 |_=>rw[er]at p1;exact p1.elim
end
end L2.P
namespace HT
open PySem PyProof.Rows
section
open PySem.SeqAt
open PySem.AutoSeq1 (wpAny_loadPart')
variable{prog:Program}{w:World}{A:Around}{E:Value->Shared->Prop}{s:Shared}
theorem i6{t sl:Addr}{items:Array Value}{vl vu:Value}{lo hi:Option Int}{Q:Value->Shared->Prop}(ht:IsTup s.heap t items)(hs:s.heap.IsSliceOf sl vl vu .none)(pl:IsPart vl lo)(pu:IsPart vu hi)
  (hw:sIx items.size 0 lo=0 /\ sIx items.size items.size hi=items.size) (h:Q (.ref t) s):wpAny (model prog w) A (getItem (.ref t) (.ref sl)) Q E s:=by
 obtain⟨os,hos,hcs,hds⟩:=id hs
 have hTs:s.TypeIs (.ref sl) "slice":=⟨os,hos,hcs⟩
 unfold getItem
 try with_reducible refine wpAny_holding ?_
 first|refine wpAny_bind (wpAny_pure ?_)|skip
 refine wpAny_bind (wpAny_sequenceKey ht.typeIs (by decide) ?_);refine wpAny_bind (wpAny_callSpecial?_slot (name:=Str.ofString "__getitem__") ht.typeIs PyProof.Rows.slot_tuple_getitem (wpAny_call_entry PyProof.Rows.slot_tuple_getitem ht.typeIs entry_tuple_getitem ?_ (args_tuple_getitem _ _)));show wpAny _ _ (Builtin.Tuple.tupleItemsOf (.ref t) >>= _) _ _ s;refine wpAny_bind (tupleItemsOf_ ht ?_);refine wpAny_bind (wpAny_typeOf hTs ?_);rw[if_pos (by decide)];refine wpAny_bind (fD hs pl pu ?_)
 have hyes:(((sIx items.size 0 lo:Nat):Int)==0&&(1:Int)==1&&(sIx items.size items.size hi - sIx items.size 0 lo)==items.size)=true:=by rw[hw.1,hw.2];simp
 show wpAny _ _ (if(((sIx items.size 0 lo:Nat):Int)==0&&(1:Int)==1&&(sIx items.size items.size hi - sIx items.size 0 lo)==items.size)=true then _ else _) _ _ s;rw[if_pos hyes];obtain⟨hp,g,d,tk,os'⟩:=s;have hT:=ht.typeIs (s:=⟨hp,g,d,tk,os'⟩);obtain⟨o,ho,hc,n,hd⟩:=ht
 repeat (any_goals (first|assumption|wp_step))
 exact⟨_,rfl,wpAny_pure h⟩
end
end HT
namespace PySem
theorem jQ:fillsNumberSlot (.type "tuple") "mul" = pure false:=fillsNumberSlot_seq (id:="tuple.__mul__") (r:=some (.builtin "tuple.__rmul__")) F.slot_tuple_mul.lookup (by decide +kernel) F.slot_tuple_rmul.lookup (by decide +kernel)
theorem oN:seqRepeat? (.type "tuple")=pure (some (.builtin "tuple.__mul__")):=by
 unfold seqRepeat?;rw[seqSlot_of (T:="tuple") (name:="__mul__") (id:="tuple.__mul__") F.slot_tuple_mul.lookup (by decide +kernel),seqSlot_of (T:="tuple") (name:="__rmul__") (id:="tuple.__rmul__") F.slot_tuple_rmul.lookup (by decide +kernel)];rfl
theorem lU(a:Int)(t:Tok)(l:Addr)(items:Array Value)(n:Nat)(dd:Option Addr)(sl:Array (Option Value)):
  Meets (Builtin.«int.__rmul__» ⟨[.int a t,.ref l],[]⟩) (fun _ R s=>s.heap.get? l=some ⟨.type "tuple",dd,.seq items n,sl⟩ /\ R (.ok (.ret Value.notImplemented)) s):=
 .of_wp fun prog w A R s h=>by obtain⟨hp,g,d,tk,os⟩:=s;obtain⟨hl,h⟩:=h;wp_walk;exact⟨_,rfl,h⟩
theorem mY(l:Addr)(items:Array Value)(n:Nat)(dd:Option Addr)(sl:Array (Option Value))(u:Tok):
  Meets (Builtin.«tuple.__mul__» ⟨[.ref l,.int 1 u],[]⟩) (fun _ R s=>s.heap.get? l=some ⟨.type "tuple",dd,.seq items n,sl⟩ /\ R (.ok (.ret (.ref l))) s):=
 .of_wp fun prog w A R s h=>by
  obtain⟨hp,g,d,tk,os⟩:=s;obtain⟨hl,h⟩:=h;have f1:=AutoSeq1.idx_int;have f2:=AutoSeq1.sub_tuple_tuple
  wp_walk using AutoSeq1.wpAny_loadPart' hl
  exact⟨_,rfl,h⟩
theorem mf(l:Addr)(items:Array Value)(n:Nat)(dd:Option Addr)(sl:Array (Option Value))(x:Int)(u:Tok)(h1:2<=x)(h2:x<2 ^ 63)(hi:items.isEmpty=false)(hz:items.size*x.toNat<=sizeLine):
  Meets (Builtin.«tuple.__mul__» ⟨[.ref l,.int x u],[]⟩) (fun _ R s=>s.heap.get? l=some ⟨.type "tuple",dd,.seq items n,sl⟩ /\ R (.ok (.ret (.ref s.heap.objs.size))) { s with heap:=s.heap.push { cls:=.type "tuple",data:=.seq ((List.replicate x.toNat items).foldl (·++·) #[]) } }):=
 .of_wp fun prog w A R s h=>by
  obtain⟨hp,g,d,tk,os⟩:=s;obtain⟨hl,h⟩:=h;have f1:=AutoSeq1.idx_int;have f2:=AutoSeq1.sub_tuple_tuple
  have e1:(decide (x < -(2 ^ 63))||decide (x≥2 ^ 63))=false:=by simp only[Bool.or_eq_false_iff,decide_eq_false_iff_not];omega
  have e2:(items.isEmpty||x==1)=false:=by rw[hi];simp;omega
  have e3:(decide (x<=0)||items.isEmpty)=false:=by rw[hi];simp;omega
  have e4:¬ ((items.size:Int)*x>(2 ^ 63 - 1)/8):=by
   have a1:((items.size*x.toNat:Nat):Int)=(items.size:Int)*x:=by rw[Int.natCast_mul,Int.toNat_of_nonneg (by omega)]
   have a2:(sizeLine:Nat)<=16777216:=by decide
   omega
  wp_walk using AutoSeq1.wpAny_loadPart' hl
  rw[if_neg (by rw[e1];exact Bool.false_ne_true)]
  wp_walk using AutoSeq1.wpAny_loadPart' hl
  rw[if_neg (by rw[e2];exact Bool.false_ne_true)]
  wp_walk using AutoSeq1.wpAny_loadPart' hl
  rw[if_neg (by rw[e3];exact Bool.false_ne_true)]
  wp_walk using AutoSeq1.wpAny_loadPart' hl
  rw[if_neg e4]
  wp_walk using AutoSeq1.wpAny_loadPart' hl
  have e5:¬ (Builtin.Tuple.tupleTooMany ((items.size:Int)*x)=true):=by
   have a1:((items.size*x.toNat:Nat):Int)=(items.size:Int)*x:=by rw[Int.natCast_mul,Int.toNat_of_nonneg (by omega)]
   unfold Builtin.Tuple.tupleTooMany;rw[<- a1];simp only[decide_eq_true_eq];omega
  rw[if_neg e5];show wpAny _ _ (Builtin.Tuple.tupleExact _ >>= fun v=>ret v) _ _ _;unfold Builtin.Tuple.tupleExact;refine wpAny_bind (wpAny_newObj_type (wpAny_pure ⟨_,rfl,h⟩) ?_);have a3:=L2.foldl_rep items.toList x.toNat [];rw[List.nil_append]at a3
  have a4:(List.replicate x.toNat items.toList.toArray)=List.replicate x.toNat items:=by simp
  show(List.foldl (fun x1 x2=>x1++x2) #[] (List.replicate x.toNat items)).size<=sizeLine
  rw[<- a4,a3,List.size_toArray,L2.len_rep,Nat.mul_comm]
  simpa using hz
end PySem
namespace L2
open PySem PySem.Spec PyProof.Rows
section
variable{X:Cx}
noncomputable def zD(K:PySem.W.Frag):V->Option Int->Option Int->Hp->VK->Prop:=fun x lo hi H Q=>∃ a xs,x=.ref a /\ SqT K H a xs /\
 (HT.sIx xs.length 0 lo=0 /\ HT.sIx xs.length xs.length hi=xs.length->Q (.ref a) H) /\ (¬ (HT.sIx xs.length 0 lo=0 /\ HT.sIx xs.length xs.length hi=xs.length)->∀ p,H p=none->Q (.ref p) (upd H p (.tup (kE xs lo hi))))
theorem fZ:SlR X (zD X.K):=by
 intro pins s σ H x v vl vu lo hi sl Q I rx hs pl pu h;obtain⟨a,xs,rfl,hx,q1,q2⟩:=h
 by_cases hw:HT.sIx xs.length 0 lo=0 /\ HT.sIx xs.length xs.length hi=xs.length
 . cases rx;obtain⟨its,r,ht,hz⟩:=I.tuple hx
   have hlen:its.toArray.size=xs.length:=by rw[List.size_toArray];exact r.length.symm
   exact⟨"tuple",_,PyProof.Rows.slot_tuple_getitem.lookup,ht.typeIs,HT.i6 ht hs pl pu (by rw[hlen];exact hw) ⟨.ref a,H,I,rfl,q1 hw⟩⟩
 . exact Ab pins s σ H _ v vl vu lo hi sl Q I rx hs pl pu ⟨a,xs,rfl,hx,hw,q2 hw⟩
noncomputable def zj(K:PySem.W.Frag):R2:=fun x y H Q=>∃ a k xs,x=.ref a /\ y=.int k /\ SqT K H a xs /\ ((k=1 /\ Q (.ref a) H) \/ (2<=k /\ k<2 ^ 63 /\ xs≠[] /\ xs.length*k.toNat<=sizeLine /\ ∀ p,H p=none->Q (.ref p) (upd H p (.tup (List.replicate k.toNat xs).flatten))))
theorem xZ:OpR X (binaryOp .Mult) (zj X.K):=by
 intro pins s σ H x y v u Q I rx ry h;obtain⟨a,k,xs,rfl,rfl,ha,h⟩:=h;cases rx;obtain⟨t,rfl⟩:=ry;obtain⟨its,r,⟨⟨cl,di,da,sl⟩,e1,e2,n,e3⟩,hz⟩:=I.tuple ha;simp only at e2 e3;subst e2 e3;have hl:=r.length
 refine wpAny_binaryOp_repeat_ref (T:="tuple") (U:="int") (by decide) ⟨_,e1,rfl⟩ (fun s'=>typeIs_int s' k t) jQ F.fills_int_mul F.slot_int_rmul oN F.slot_int_index.lookup
  (call_meets F.slot_int_rmul (typeIs_int s k t) F.entry_int_rmul (F.args_int_rmul_2 _ _) (lU k t a its.toArray n di sl) ⟨e1,rfl,⟨_,e1,rfl⟩,?_⟩)
 rcases h with⟨rfl,q⟩|⟨h1,h2,h3,h4,q⟩
 . exact call_meets F.slot_tuple_mul ⟨_,e1,rfl⟩ F.entry_tuple_mul (F.args_tuple_mul_2 _ _) (mY a its.toArray n di sl t) ⟨e1,.ref a,H,I,rfl,q⟩
 . have hne:its≠[]:=fun z=>h3 (r.i8.mp z)
   refine call_meets F.slot_tuple_mul ⟨_,e1,rfl⟩ F.entry_tuple_mul (F.args_tuple_mul_2 _ _) (mf a its.toArray n di sl k t h1 h2 (by simpa using hne) (by rw[List.size_toArray,<- hl];exact h4)) ⟨e1,?_⟩;have a3:=foldl_rep its k.toNat [];rw[List.nil_append]at a3;rw[a3]
   exact⟨.ref s.heap.objs.size,_,I.laid (t':=s.toks) (o:=.tup (List.replicate k.toNat xs).flatten) (fun b ob z=>Heap.get?_push_of_some _ z) (Nat.le_refl _) ⟨⟨by rw[len_rep,Nat.mul_comm];exact h4,.new _ _⟩,_,r.rep k.toNat,IsTup.new _ _⟩,rfl,q _ (I.hok.fresh (Nat.le_refl _))⟩
end
end L2
namespace L2.P
open PySem PySem.Spec PyProof.Rows L2 L2.E
section
variable{K:PySem.W.Frag}{cls:String->Option Addr}{W:XW}{Av G S₀ S S' H H' B B':Hp}{ρ:aa}{σ:St}{Q:VK}
theorem fJ{te:TE}{tl th:TO}{ma ml mh:aa->OE}(ha:JE K cls W te ma)(hl:JO K cls W tl ml)(hh:JO K cls W th mh):JE K cls W (tSl (zD K) te tl th) (fB ma ml mh):=by
 intro Av G S₀ ρ σ S H Q I p
 refine ha.go I p fun a v S1 H1 I1 w1 r1 p1=>hl.go I1 p1 fun l u S2 H2 I2 w2 r2 p2=>hh.go I2 p2 fun h z S3 H3 I3 w3 r3 p3=>?_
 rw[part_of (r2.rd I2.sh),part_of (r3.rd I3.sh)];have ra:=((r1.rd I1.sh).mono w2.s w2.g).mono w3.s w3.g
 cases e:a.pv with
 | tup xs=>
   rw[e]at p3 ra;obtain⟨q,vs,rfl,hq,hr⟩:=cn ra
   refine⟨q,vs,rfl,au.tup I3.sh hq,fun hw=>?_,fun hw b hb=>?_⟩
   . refine p3 _ S3 H3 (aE.refl I3.sh) ?_;show Rep K _ _ _;unfold Rep;have:=hr.cut (dW l.pv) (dW h.pv)
     have ec:kE vs (dW l.pv) (dW h.pv)=vs:=by unfold kE;rw[hw.1,hw.2];simp
     rw[ec]at this
     exact⟨q,vs,rfl,hq,this⟩
   . have w4:=aE.both (o:=.tup (kE vs (dW l.pv) (dW h.pv))) I3.sh hb;refine p3 _ _ _ w4 ?_;show Rep K _ _ _;unfold Rep
     exact⟨b,_,rfl,SqT.new az,(hr.cut _ _).mono w4.s⟩
 |_=>rw[e]at p3;exact p3.elim
theorem yz:JR K (zj K) nR:=by
 intro S H x y v u rr Q I hx hy e k
 cases x with
 | tup xs=>
   cases y with
   | int n=>
     obtain⟨p,vs,rfl,hq,r⟩:=cn hx;have hu:=bN hy;subst hu;unfold nR at e
     dsimp only at e
     refine⟨p,n,vs,rfl,rfl,au.tup I hq,?_⟩
     split at e
     . rename_i hc;cases e;refine .inr ⟨hc.1.1,hc.1.2,?_,by rw[r.length];exact hc.2.2,fun q hq'=>?_⟩
       . intro z;have:=r.length;rw[z]at this;have h2:=hc.2.1;rw[List.eq_nil_of_length_eq_zero this.symm]at h2;cases h2
       . have w4:=aE.both (o:=.tup (List.replicate n.toNat vs).flatten) I hq';refine k _ _ _ w4 ?_;show Rep K _ _ _;unfold Rep
         exact⟨q,_,rfl,SqT.new az,(r.rep _).mono w4.s⟩
     . split at e
       . rename_i h1;cases e;refine .inl ⟨h1,k _ S H (aE.refl I) ?_⟩;show Rep K _ _ _;unfold Rep
         exact⟨p,vs,rfl,hq,r⟩
       . cases e
   |_=>cases e
 |_=>cases e
end
end L2.P
namespace PG
noncomputable def kD(n:Int):Bool:=(decide (0<=n)&&decide (n<55296))||(decide (57343<n)&&decide (n<=1114111))
noncomputable def cell(ns:List Int)(k:Int):Int:=if ns=[]then 0 else ns.getD (k%(ns.length:Int)).toNat 0
noncomputable def mix(ns:List Int)(k:Int):Int:=
 let a:=(cell ns k+104729*(k+1))%4294967291
 let b:=a*48271%4294967279
 (b/64*69621+b)%4294967231
noncomputable def menu:List Int:=[34,92,47,8,12,10,13,9,0,31,127]
noncomputable def point(n:Int):Int:=
 if n%8<2 then 32+n/8%95 else if n%8<4 then menu.getD (n/8%11).toNat 0 else if n%8=4 then 128+n/8%1920
 else if n%8=5 then 2048+n/8%53248 else if n%8=6 then 57344+n/8%8192 else 65536+n/8%1048576
theorem mz(ns:List Int)(k:Int):0<=mix ns k /\ mix ns k<4294967231:=by unfold mix;dsimp only;omega
end PG
namespace L2.P
open PySem
theorem g7{i:Nat}{mb:aa->OS}{x:PV}{xs:List PV}{ρ ρ':aa}(h:mb (ρ.set i (some (.sh x)))=.nx ρ'):cJ i mb (x ::xs) ρ=cJ i mb xs ρ':=by rw[lZ,h];rfl
@[simp] theorem get_nil(t:OV):t.get []=some t:=by cases t<;>rfl
@[simp] theorem xy(t u:OV):t.put [] u=u:=by cases t<;>rfl
theorem r0{ρ:aa}{i:Nat}{io:Bool}{ts:List OV}(h:ρ[i]?=some (some (.tr io (.ol ts)))):i7 i lD ρ=.ok (!ts.isEmpty):=by
 unfold i7 subAt iT lD;rw[h];simp[slT]
theorem u9{ρ:aa}{i:Nat}{io:Bool}{ts:List OV}{x:OV}(h:ρ[i]?=some (some (.tr io (.ol (ts++[x]))))):nC i lD ρ=.ok (ρ.set i (some (.tr io (.ol ts)))) (slO x):=by
 unfold nC lD;rw[h];simp
@[simp] theorem y6(s:String):(Str.ofString s).cps.all (·<0x110000)=true:=by
  rw[Str.ofString_eq_toList,List.all_toArray,List.all_map];rw[List.all_eq_true];intro c _;have:=c.valid;simp only[Function.comp,decide_eq_true_eq]
  rcases this with h|⟨_,h⟩
  . exact Nat.lt_of_lt_of_le h (by decide)
  . exact h
theorem toNat_inj:∀(xs ys:List Char),xs.map Char.toNat=ys.map Char.toNat->xs=ys
 |[],[],_=>rfl
 |[],_ ::_,h=>by cases h
 |_ ::_,[],h=>by cases h
 | x ::xs,y ::ys,h=>by
   rw[List.map_cons,List.map_cons]at h
   injection h with h1 h2
   have:x=y:=Char.ext (UInt32.toNat_inj.mp h1)
   rw[this,toNat_inj xs ys h2]
theorem oq(a b:String):Str.ofString a=Str.ofString b↔a=b:=by
 constructor
 . intro h;rw[Str.ofString_eq_toList,Str.ofString_eq_toList]at h
   injection h with h
   have h2:a.toList.map Char.toNat=b.toList.map Char.toNat:=by
    have:=congrArg Array.toList h
    simpa using this
   exact String.toList_inj.mp (toNat_inj _ _ h2)
 . intro h;rw[h]
@[simp] theorem yp(a b:String):(Str.ofString a==Str.ofString b)=decide (a=b):=by
  by_cases h:a=b
  . subst h;simp
  . have:Str.ofString a≠Str.ofString b:=fun z=>h ((oq a b).mp z)
    simp[h,this]
@[simp] theorem C7(a b:String):eJ (.str (Str.ofString a)) (.str (Str.ofString b))=decide (a=b):=by simp[eJ]
@[simp] theorem Ef(a:String)(n:Nat):jl (.str (Str.ofString a)) n=true:=by simp[jl]
end L2.P
namespace PJ
open PySem L2.P
inductive JV where
 |lf (x:PV)|row (vs:List JV)|fld (ns:List (List Int)) (vs:List JV)
noncomputable def mem(n:List Int)(x:PV):PV:=.tup [.tup (n.map .int),x]
mutual
noncomputable def enc:JV->PV
 |.lf x=>x
 |.row vs=>.tup [.str "row",.tup (aU vs)]
 |.fld ns vs=>.tup [.str "fields",.tup (List.zipWith mem ns (aU vs))]
noncomputable def aU:List JV->List PV
 |[]=>[]
 |v ::vs=>enc v ::aU vs
end
mutual
noncomputable def size:JV->Nat
 |.lf _=>1
 |.row vs=>1+ba vs
 |.fld _ vs=>1+ba vs
noncomputable def ba:List JV->Nat
 |[]=>0
 |v ::vs=>size v+ba vs
end
mutual
noncomputable def depth:JV->Nat
 |.lf _=>0
 |.row vs=>1+cZ vs
 |.fld _ vs=>1+cZ vs
noncomputable def cZ:List JV->Nat
 |[]=>0
 |v ::vs=>max (depth v) (cZ vs)
end
mutual
noncomputable def Ok(L:PV->Prop):JV->Prop
 |.lf x=>L x
 |.row vs=>Oks L vs
 |.fld ns vs=>ns.length=vs.length /\ (∀ n∈ns,n.all PG.kD=true) /\ Oks L vs
noncomputable def Oks(L:PV->Prop):List JV->Prop
 |[]=>True
 |v ::vs=>Ok L v /\ Oks L vs
end
theorem kW(vs:List JV):aU vs=vs.map enc:=by
 induction vs with
 |nil=>rfl
 |cons v vs ih=>show enc v ::aU vs=_;rw[ih];rfl
theorem dG(vs:List JV):(aU vs).length=vs.length:=by rw[kW];simp
theorem fQ(vs ws:List JV):ba (vs++ws)=ba vs+ba ws:=by
 induction vs with
 |nil=>simp[ba]
 |cons v vs ih=>show size v+ba (vs++ws)=size v+ba vs+ba ws;rw[ih];omega
theorem iI{L:PV->Prop}(vs ws:List JV):Oks L (vs++ws)↔Oks L vs /\ Oks L ws:=by
 induction vs with
 |nil=>simp[Oks]
 |cons v vs ih=>show Ok L v /\ Oks L (vs++ws)↔(Ok L v /\ Oks L vs) /\ Oks L ws;rw[ih];exact and_assoc.symm
theorem size_pos(v:JV):1<=size v:=by cases v<;>simp[size]
theorem jW(vs:List JV):vs.length<=ba vs:=by
 induction vs with
 |nil=>simp[ba]
 |cons v vs ih=>have:=size_pos v;simp[ba];omega
noncomputable def named(n:Int):List Int:=if n<6 then([[],[97],[97,98],[126,47],[48],[233]]:List (List Int)).getD n.toNat []else[98+n]
abbrev Fr:=Bool×List JV
noncomputable def names(k:Nat):List (List Int):=(List.range k).map fun j:Nat=>named (j:Int)
noncomputable def items(f:Fr):List PV:=if f.1 then List.zipWith mem (names f.2.length) (aU f.2)else aU f.2
end PJ
namespace L2.plainglass_k51_sizes_kept
open PySem L2.P PG
noncomputable def df(c:String):Option Bool:=if c = "NotThere" then some true else none
noncomputable def cD(c:String):Option Bool:=if c = "GlassError" then some true else if c = "NoDeed" then some true else if c = "NotThere" then some true else none
noncomputable def gV:aa -> OS:=
    (b2 (mOp bK (ao 0) (mC (.int 0))))
noncomputable def gN:aa -> OS:=
    (aM (bL (aQ (mOp sq (ao 0) (mC (.bl false))))
    (b2 (mC (.str "false")))
    bg)
    gV)
noncomputable def gZ:aa -> OS:=
    (aM (bL (aQ (mOp sq (ao 0) (mC (.bl true))))
    (b2 (mC (.str "true")))
    bg)
    gN)
noncomputable def j4:aa -> OS:=
    (aM (bL (aQ (mOp xn (ao 0) (mC .non)))
    (b2 (mC (.str "null")))
    bg)
    gZ)
noncomputable def bj:List PV->OE:=fnP 1 1 j4
noncomputable def cH:aa -> OE:=
    (mOp bK (ao 0) (mC (.int 1)))
noncomputable def ft:aa -> OS:=
    (b2 (oM aC))
noncomputable def dC:aa -> OS:=
    (aM (bL (aQ (mOp cL (ao 1) (mC (.str "fields"))))
    (b2 (eW (mOp bK (ao 0) (mC (.int 1))) [] cH))
    bg)
    ft)
noncomputable def cE:aa -> OS:=
    (aM (bL (aQ (mOp cL (ao 1) (mC (.str "row"))))
    (b2 (mUn kO (mOp bK (ao 0) (mC (.int 1)))))
    bg)
    dC)
noncomputable def dq:aa -> OS:=
    (aM (b3 1 (aI bj (ah (ao 0) aC)))
    cE)
noncomputable def aD:List PV->OE:=fnP 1 2 dq
noncomputable def bG:aa -> OT:=
    (aQ (mOp gLt (ao 2) (mUn jG (ao 1))))
noncomputable def cM:aa -> OS:=
    (aM (hV 1 (aI aD (ah (mOp pw (ao 1) (ao 2)) aC)))
    (vX 2 dM (mC (.int 1))))
noncomputable def gy:aa -> OS:=
    (dw 1)
noncomputable def gx:aa -> OS:=
    (aM (dD bG
    cM fuel)
    gy)
noncomputable def gC:aa -> OS:=
    (aM (b3 2 (mC (.int 0)))
    gx)
noncomputable def fi:aa -> OS:=
    (aM (b3 1 (oM (ah (ao 0) aC)))
    gC)
noncomputable def bY:List PV->OE:=fnP 1 3 fi
noncomputable def wK:aa -> OS:=
    (b2 (mUn jG (aI bY (ah (ao 0) aC))))
noncomputable def dO:List PV->OE:=fnP 1 1 wK
noncomputable def ke:aa -> OS:=
    (b3 1 (mOp u3 (mOp dM (mOp pk (mC (.int 10)) (ao 1)) (ao 2)) (mC (.int 48))))
noncomputable def kd:aa -> OS:=
    (dw 1)
noncomputable def kv:aa -> OS:=
    (aM (i0 2 (ao 0)
    ke)
    kd)
noncomputable def nv:aa -> OS:=
    (aM (b3 1 (mC (.int 0)))
    kv)
noncomputable def dz:List PV->OE:=fnP 1 3 nv
noncomputable def kh:aa -> OS:=
    (b2 (lV gLe gLe (mC (.int 48)) (ao 0) (mC (.int 57))))
noncomputable def cv:List PV->OE:=fnP 1 1 kh
noncomputable def gi:aa -> OE:=
    (aI cv (ah (ao 0) aC))
noncomputable def jo:aa -> OS:=
    (b2 (aI dz (ah (ao 0) aC)))
noncomputable def i5:aa -> OS:=
    (aM (bL (jq (aQ (mOp gEq (mOp bK (ao 0) (mC (.int 0))) (mC (.int 48)))) (aQ (mOp gGt (mUn jG (ao 0)) (mC (.int 1)))))
    (b2 (mC .non))
    bg)
    jo)
noncomputable def lj:aa -> OS:=
    (aM (bL (m7 (fw (cV (ao 0))) (fw (cV (mUn sg (eW (ao 0) [] gi)))))
    (b2 (mC .non))
    bg)
    i5)
noncomputable def cA:List PV->OE:=fnP 1 1 lj
noncomputable def o8:aa -> OS:=
    dg
noncomputable def jc:aa -> OS:=
    (aM (bL (aQ (mOp cL (ao 2) (mC (.str "row"))))
    (aM (b3 5 (aI cA (ah (ao 1) aC)))
    (bL (jq (aQ (mOp pO (ao 5) (mC .non))) (aQ (mOp gLt (ao 5) (mUn jG (mOp bK (ao 0) (mC (.int 1)))))))
    (dw 5)
    bg))
    bg)
    o8)
noncomputable def jt:aa -> OS:=
    (aM (bL (aQ (mOp cL (ao 2) (mC (.str "fields"))))
    dg
    bg)
    jc)
noncomputable def lL:aa -> OS:=
    (aM (b3 2 (aI bj (ah (ao 0) aC)))
    jt)
noncomputable def cw:List PV->OE:=fnP 2 6 lL
noncomputable def fm:aa -> OS:=
    (b3 0 (mOp pw (aI aD (ah (ao 0) aC)) (aI cw (ah (ao 0) (ah (ao 2) aC)))))
noncomputable def jx:aa -> OS:=
    (aM (i0 2 (ao 1)
    fm)
    (dw 0))
noncomputable def cq:List PV->OE:=fnP 2 3 jx
noncomputable def jB (rec:List PV -> OE):aa -> OS:=
    (b2 (bO (ah (mOp bK (ao 0) (mC (.int 0))) (ah (mOp dA (mOp dA (fB (mOp bK (ao 0) (mC (.int 1))) (mC .non) (jk (ao 3))) (bO (ah (ao 4) aC))) (fB (mOp bK (ao 0) (mC (.int 1))) (jk (mOp dM (ao 3) (mC (.int 1)))) (mC .non))) aC))))
noncomputable def jC (rec:List PV -> OE):aa -> OS:=
    (aM (bL (aQ (mOp cL (mOp bK (ao 0) (mC (.int 0))) (mC (.str "fields"))))
    dg
    bg)
    (jB rec))
noncomputable def jh (rec:List PV -> OE):aa -> OS:=
    (aM (b3 4 (aI rec (ah (mOp pw (aI aD (ah (ao 0) aC)) (ao 3)) (ah (fB (ao 1) (jk (mC (.int 1))) (mC .non)) (ah (ao 2) aC)))))
    (jC rec))
noncomputable def je (rec:List PV -> OE):aa -> OS:=
    (aM (b3 3 (aI cw (ah (ao 0) (ah (mOp bK (ao 1) (mC (.int 0))) aC))))
    (jh rec))
noncomputable def iF (rec:List PV -> OE):aa -> OS:=
    (aM (bL (fw (cV (ao 1)))
    (dw 2)
    bg)
    (je rec))
noncomputable def bS:Nat->List PV->OE
 |0=>BZ
 |k+1=>fnP 3 5 (iF (bS k))
noncomputable def cz:List PV->OE:=bS 20
noncomputable def lq:aa -> OS:=
    dg
noncomputable def g9:aa -> OS:=
    (aM (bL (aQ (mOp cL (aI bj (ah (ao 0) aC)) (mC (.str "row"))))
    (aM (b3 4 (oP (aQ (mOp cL (ao 1) (bO (ah (mC (.int 45)) aC)))) (mUn jG (mOp bK (ao 0) (mC (.int 1)))) (aI cA (ah (ao 1) aC))))
    (bL (jq (aQ (mOp pO (ao 4) (mC .non))) (aQ (mOp gLe (ao 4) (mUn jG (mOp bK (ao 0) (mC (.int 1)))))))
    (b2 (bO (ah (mC (.str "row")) (ah (mOp dA (mOp dA (fB (mOp bK (ao 0) (mC (.int 1))) (mC .non) (jk (ao 4))) (bO (ah (ao 2) aC))) (fB (mOp bK (ao 0) (mC (.int 1))) (jk (ao 4)) (mC .non))) aC))))
    bg))
    bg)
    lq)
noncomputable def fT:aa -> OS:=
    (aM (bL (aQ (mOp cL (aI bj (ah (ao 0) aC)) (mC (.str "fields"))))
    (i4 3 "fields" (mOp bK (ao 0) (mC (.int 1))) (ao 1) (ao 2))
    bg)
    g9)
noncomputable def bI:List PV->OE:=fnP 3 5 fT
noncomputable def j7:aa -> OS:=
    (b2 (aI cz (ah (ao 0) (ah (fB (ao 1) (mC .non) (jk (mUn oK (mC (.int 1))))) (ah (aI bI (ah (ao 3) (ah (mOp bK (ao 1) (mUn oK (mC (.int 1)))) (ah (ao 2) aC)))) aC)))))
noncomputable def jR:aa -> OS:=
    (aM (b3 3 (aI cq (ah (ao 0) (ah (fB (ao 1) (mC .non) (jk (mUn oK (mC (.int 1))))) aC))))
    j7)
noncomputable def om:aa -> OS:=
    (aM (bL (fw (cV (ao 1)))
    (dw 2)
    bg)
    jR)
noncomputable def dF:List PV->OE:=fnP 3 4 om
noncomputable def lN:aa -> OS:=
    dg
noncomputable def mB:aa -> OS:=
    (aM dg
    lN)
noncomputable def mq:aa -> OS:=
    (aM (bL (aQ (mOp cL (mOp bK (ao 1) (mC (.int 0))) (mC (.str "copy"))))
    (b2 (aI dF (ah (ao 0) (ah (mOp bK (ao 1) (mC (.int 2))) (ah (aI cq (ah (ao 0) (ah (mOp bK (ao 1) (mC (.int 1))) aC))) aC)))))
    bg)
    mB)
noncomputable def mL:aa -> OS:=
    (aM (bL (aQ (mOp cL (mOp bK (ao 1) (mC (.int 0))) (mC (.str "move"))))
    dg
    bg)
    mq)
noncomputable def lX:aa -> OS:=
    (aM (bL (aQ (mOp cL (mOp bK (ao 1) (mC (.int 0))) (mC (.str "replace"))))
    dg
    bg)
    mL)
noncomputable def mi:aa -> OS:=
    (aM (bL (aQ (mOp cL (mOp bK (ao 1) (mC (.int 0))) (mC (.str "remove"))))
    dg
    bg)
    lX)
noncomputable def o5:aa -> OS:=
    (aM (bL (aQ (mOp cL (mOp bK (ao 1) (mC (.int 0))) (mC (.str "add"))))
    (b2 (aI dF (ah (ao 0) (ah (mOp bK (ao 1) (mC (.int 1))) (ah (mOp bK (ao 1) (mC (.int 2))) aC)))))
    bg)
    mi)
noncomputable def dN:List PV->OE:=fnP 2 2 o5
noncomputable def mP:aa -> OS:=
    (b2 (kl (mIs "int" (ao 0)) (sC (mIs "bool" (ao 0)))))
noncomputable def cW:List PV->OE:=fnP 1 1 mP
noncomputable def lz:aa -> OS:=
    (b2 (Au (lV gLe gLt (mC (.int 0)) (ao 0) (mC (.int 55296))) (lV gLt gLe (mC (.int 57343)) (ao 0) (mC (.int 1114111)))))
noncomputable def cS:List PV->OE:=fnP 1 1 lz
noncomputable def cY:aa -> OE:=
    (kl (aI cW (ah (ao 0) aC)) (aI cS (ah (ao 0) aC)))
noncomputable def fu:aa -> OS:=
    (b2 (kl (mIs "tuple" (ao 0)) (mUn sg (eW (ao 0) [] cY))))
noncomputable def bB:List PV->OE:=fnP 1 1 fu
noncomputable def eS:aa -> OS:=
    (b2 (kl (mIs "tuple" (ao 0)) (kl (mOp gEq (mUn jG (ao 0)) (mC (.int 2))) (aI bB (ah (mOp bK (ao 0) (mC (.int 0))) aC)))))
noncomputable def bw:List PV->OE:=fnP 1 1 eS
noncomputable def dX:aa -> OE:=
    (aI bw (ah (ao 0) aC))
noncomputable def i9:aa -> OS:=
    (b2 (mOp cL (mOp bK (ao 0) (mC (.int 0))) (mC (.str "row"))))
noncomputable def fV:aa -> OS:=
    (aM (bL (aQ (mOp cL (mOp bK (ao 0) (mC (.int 0))) (mC (.str "fields"))))
    (b2 (mUn sg (eW (mOp bK (ao 0) (mC (.int 1))) [] dX)))
    bg)
    i9)
noncomputable def fG:aa -> OS:=
    (aM (bL (aQ (mOp cL (mOp bK (ao 0) (mC (.int 0))) (mC (.str "text"))))
    dg
    bg)
    fV)
noncomputable def fX:aa -> OS:=
    (aM (bL (m7 (aQ (mOp gNe (mUn jG (ao 0)) (mC (.int 2)))) (fw (cV (mIs "tuple" (mOp bK (ao 0) (mC (.int 1)))))))
    (b2 (mC (.bl false)))
    bg)
    fG)
noncomputable def fM:aa -> OS:=
    (aM (bL (aQ (mOp cL (mOp bK (ao 0) (mC (.int 0))) (mC (.str "number"))))
    dg
    bg)
    fX)
noncomputable def gk:aa -> OS:=
    (aM (bL (m7 (fw (cV (mIs "tuple" (ao 0)))) (aQ (mOp gLt (mUn jG (ao 0)) (mC (.int 2)))))
    (b2 (mC (.bl false)))
    bg)
    fM)
noncomputable def gb:aa -> OS:=
    (aM (bL (m7 (aQ (mOp xn (ao 0) (mC .non))) (m7 (aQ (mOp sq (ao 0) (mC (.bl true)))) (aQ (mOp sq (ao 0) (mC (.bl false))))))
    (b2 (mC (.bl true)))
    bg)
    gk)
noncomputable def bZ:List PV->OE:=fnP 1 1 gb
noncomputable def cF:aa -> OE:=
    (bO (ah (ao 1) (ah (mOp dM (mOp bK (ao 0) (mC (.int 1))) (mC (.int 1))) aC)))
noncomputable def cb:aa -> OT:=
    (i7 1 lD)
noncomputable def bu:aa -> OS:=
    (aM (qt 2 (nC 1 lD))
    (aM (bL (fw (cV (aI bZ (ah (mOp bK (ao 2) (mC (.int 0))) aC))))
    (b2 (mC (.bl false)))
    bg)
    (aM (bL (jq (aQ (mOp gIn (aI bj (ah (mOp bK (ao 2) (mC (.int 0))) aC)) (bO (ah (mC (.str "row")) (ah (mC (.str "fields")) aC))))) (aQ (mOp gEq (mOp bK (ao 2) (mC (.int 1))) (mC (.int 64)))))
    (b2 (mC (.bl false)))
    bg)
    (jg 1 lD (kU (aI aD (ah (mOp bK (ao 2) (mC (.int 0))) aC)) [2] cF)))))
noncomputable def ji:aa -> OS:=
    (b2 (mC (.bl true)))
noncomputable def jD:aa -> OS:=
    (aM (dD cb
    bu fuel)
    ji)
noncomputable def iA:aa -> OS:=
    (aM (ql 1 (mD (oM (ah (bO (ah (ao 0) (ah (mC (.int 0)) aC))) aC))))
    jD)
noncomputable def bX:List PV->OE:=fnP 1 3 iA
noncomputable def cx:aa -> OS:=
    (aM (uJ (b3 0 (aI dN (ah (ao 0) (ah (ao 3) aC)))) df
    dg)
    (bL (m7 (aQ (mOp gGt (aI dO (ah (ao 0) aC)) (mC (.int 300)))) (fw (cV (aI bX (ah (ao 0) aC)))))
    (oJ "NoDeed" "place" (ah (ao 2) aC))
    bg))
noncomputable def fF:aa -> OS:=
    (aM (lp 2 3 (ao 1)
    cx)
    (dw 0))
noncomputable def b7:List PV->OE:=fnP 2 4 fF
noncomputable def eY:aa -> OS:=
    (dw 2)
noncomputable def eX:aa -> OS:=
    (aM (jT 3 (vj (aI b7 (ah (ao 0) (ah (ao 1) aC)))) cD
    (b3 2 (oP (cV (vH 3 fun c=>c == "NoDeed")) (tQ 3 "place" fun c=>c == "NoDeed") (mUn oK (mC (.int 2))))))
    eY)
noncomputable def gS:aa -> OS:=
    (aM (b3 2 (mUn oK (mC (.int 1))))
    eX)
noncomputable def bz:List PV->OE:=fnP 2 4 gS
noncomputable def mE:aa -> OS:=
    (aM (bL (cV (ao 0))
    (b2 (mOp pw (ao 0) (mOp gE (ao 1) (mUn jG (ao 0)))))
    bg)
    (b2 (mC (.int 0))))
noncomputable def dc:List PV->OE:=fnP 2 2 mE
noncomputable def kb:aa -> OS:=
    (b2 (mOp gE (mOp dM (mOp pk (mOp uA (ao 2) (mC (.int 64))) (mC (.int 69621))) (ao 2)) (mC (.int 4294967231))))
noncomputable def ki:aa -> OS:=
    (aM (b3 2 (mOp gE (mOp pk (ao 2) (mC (.int 48271))) (mC (.int 4294967279))))
    kb)
noncomputable def nh:aa -> OS:=
    (aM (b3 2 (mOp gE (mOp dM (aI dc (ah (ao 0) (ah (ao 1) aC))) (mOp pk (mC (.int 104729)) (mOp dM (ao 1) (mC (.int 1))))) (mC (.int 4294967291))))
    ki)
noncomputable def bc:List PV->OE:=fnP 2 3 nh
noncomputable def ka:aa -> OS:=
    (b2 (kl (mIs "int" (ao 0)) (sC (mIs "bool" (ao 0)))))
noncomputable def cy:List PV->OE:=fnP 1 1 ka
noncomputable def jn:aa -> OE:=
    (bO (ah (mC (.str "row")) (ah (mOp nR (bO (ah (mC .non) aC)) (ao 0)) aC)))
noncomputable def ig:aa -> OS:=
    (aM (b3 9 (oP (aQ (mOp gEq (mOp gE (mOp uA (aI bc (ah (ao 0) (ah (mC (.int 4)) aC))) (mOp dM (mC (.int 1)) (ao 8))) (mC (.int 2))) (mC (.int 0)))) (bO aC) (bO (ah (bO (ah (mC (.int 48)) aC)) aC))))
    (aM (kN 6 (bO (ah (mC (.str "copy")) (ah (ao 9) (ah (bO (ah (bO (ah (mC (.int 45)) aC)) aC)) aC)))))
    (aM (b3 4 (mOp dM (ao 4) (oP (fw (cV (ao 9))) (ao 4) (mOp dM (mC (.int 1)) (ao 2)))))
    (bL (jq (aQ (mOp gGt (ao 4) (mC (.int 300)))) (aQ (mOp gLt (ao 7) (mC (.int 0)))))
    (b3 7 (ao 8))
    bg))))
noncomputable def kL:aa -> OS:=
    (b3 11 (bO (ah (mC (.str "row")) (ah (bO (ah (ao 11) aC)) aC))))
noncomputable def kH:aa -> OS:=
    (aM (b3 13 (bO (ah (mC (.str "row")) (ah (bO (ah (ao 13) aC)) aC))))
    (b3 14 (mOp dA (ao 14) (bO (ah (bO (ah (mC (.int 48)) aC)) aC)))))
noncomputable def pG:aa -> OS:=
    (b2 (mOp gEq (aI bz (ah (ao 13) (ah (oM (ah (bO (ah (mC (.str "add")) (ah (mOp dA (ao 14) (bO (ah (bO (ah (mC (.int 97)) aC)) aC))) (ah (ao 11) aC)))) aC)) aC))) (ao 7)))
noncomputable def p9:aa -> OS:=
    (aM (b3 7 (oP (aQ (mOp gGt (mOp dM (ao 10) (ao 12)) (mC (.int 64)))) (mC (.int 0)) (mUn oK (mC (.int 1)))))
    pG)
noncomputable def qy:aa -> OS:=
    (aM (bL (aQ (mOp gGt (ao 10) (mC (.int 64))))
    (b2 (mC (.bl true)))
    bg)
    p9)
noncomputable def qB:aa -> OS:=
    (aM (iw 8 (mOp u3 (ao 12) (mC (.int 1)))
    kH)
    qy)
noncomputable def qp:aa -> OS:=
    (aM (b3 14 (bO aC))
    qB)
noncomputable def qf:aa -> OS:=
    (aM (b3 13 (bO (ah (mC (.str "fields")) (ah (bO aC) aC))))
    qp)
noncomputable def qG:aa -> OS:=
    (aM (b3 12 (mOp dM (mC (.int 1)) (mOp gE (aI bc (ah (ao 0) (ah (mC (.int 4)) aC))) (mC (.int 14)))))
    qf)
noncomputable def qu:aa -> OS:=
    (aM (iw 8 (ao 10)
    kL)
    qG)
noncomputable def tL:aa -> OS:=
    (aM (b3 11 (mC .non))
    qu)
noncomputable def tK:aa -> OS:=
    (aM (b3 10 (mOp dM (mC (.int 50)) (mOp gE (aI bc (ah (ao 0) (ah (mC (.int 3)) aC))) (mC (.int 20)))))
    tL)
noncomputable def fW:aa -> OS:=
    (aM (bL (aQ (mOp gEq (mOp gE (aI bc (ah (ao 0) (ah (mC (.int 2)) aC))) (mC (.int 2))) (mC (.int 0))))
    (aM (b3 6 (oM aC))
    (aM (b3 7 (mUn oK (mC (.int 1))))
    (aM (iw 8 (mOp dM (mC (.int 1)) (mOp gE (aI bc (ah (ao 0) (ah (mC (.int 3)) aC))) (mC (.int 12))))
    ig)
    (jm 6 (b2 (mOp gEq (aI bz (ah (ao 3) (ah (ao 6) aC))) (ao 7)))))))
    bg)
    tK)
noncomputable def tq:aa -> OS:=
    (aM (bL (aQ (mOp gNe (aI dO (ah (bO (ah (mC (.str "fields")) (ah (bO (ah (bO (ah (bO aC) (ah (ao 3) aC))) aC)) aC))) aC)) (mOp dM (ao 4) (mC (.int 1)))))
    (b2 (mC (.bl false)))
    bg)
    fW)
noncomputable def tD:aa -> OS:=
    (aM (bL (m7 (fw (cV (aI cy (ah (ao 5) aC)))) (m7 (aQ (mOp gNe (ao 5) (ao 4))) (aQ (mOp gNe (aI dO (ah (mC .non) aC)) (mC (.int 1))))))
    (b2 (mC (.bl false)))
    bg)
    tq)
noncomputable def sO:aa -> OS:=
    (aM (b3 5 (aI dO (ah (ao 3) aC)))
    tD)
noncomputable def sX:aa -> OS:=
    (aM (b3 4 (mOp dM (mC (.int 1)) (mOp pk (ao 1) (mOp dM (mC (.int 1)) (ao 2)))))
    sO)
noncomputable def sZ:aa -> OS:=
    (aM (b3 3 (bO (ah (mC (.str "row")) (ah (mUn oW (iD (ao 1) [2] jn)) aC))))
    sX)
noncomputable def tG:aa -> OS:=
    (aM (b3 2 (mOp dM (mC (.int 1)) (mOp gE (aI bc (ah (ao 0) (ah (mC (.int 1)) aC))) (mC (.int 9)))))
    sZ)
noncomputable def sA:aa -> OS:=
    (aM (b3 1 (mOp dM (mC (.int 1)) (mOp gE (aI bc (ah (ao 0) (ah (mC (.int 0)) aC))) (mC (.int 9)))))
    tG)
noncomputable def ng:List PV->OE:=fnP 1 15 sA
theorem gd(ns:List Int)(k:Int):dc [.lst (ns.map .int),.int k]=.ok (.sh (.int (PG.cell ns k))):=by
 unfold dc mE PG.cell
 cases ns with
 |nil=>simp
 | cons n r=>
   have hp:(0:Int)<(r.length:Int)+1:=by omega
   have hm:0<=k%((r.length:Int)+1):=Int.emod_nonneg _ (by omega)
   have hm2:k%((r.length:Int)+1)<(r.length:Int)+1:=Int.emod_lt_of_pos _ hp
   have hi:(k%((r.length:Int)+1)).toNat<(n ::r).length:=by rw[List.length_cons];omega
   have ha:atP (PV.int n ::r.map .int) (k%((r.length:Int)+1))=some (.int ((n ::r).getD (k%((r.length:Int)+1)).toNat 0)):=by
    rw[vN _ _ hm]
    have:(PV.int n ::r.map .int)=(n ::r).map .int:=rfl
    rw[this,List.getElem?_map,List.getElem?_eq_getElem hi,List.getD_eq_getElem?_getD,List.getElem?_eq_getElem hi];rfl
   simp[hp,ha]
theorem bp(ns:List Int)(k:Int):bc [.lst (ns.map .int),.int k]=.ok (.sh (.int (PG.mix ns k))):=by
 unfold PG.mix;simp[kb,ki,nh,bc,gd]
theorem fS(n:Int):cW [.int n]=.ok (.sh (.bl true)):=by simp[mP,cW]
theorem gq(n:Int):cS [.int n]=.ok (.sh (.bl (kD n))):=by
 unfold kD
 by_cases h1:0<=n<;>by_cases h2:n<55296<;>by_cases h3:57343<n<;>by_cases h4:n<=1114111<;>simp[lz,cS,h1,h2,h3,h4]
@[simp] theorem BB(xs:List PV):isP "tuple" (.tup xs)=some true:=rfl
theorem B1(cs:List Int)(hl:cs.length<=1000000):bB [.tup (cs.map .int)]=.ok (.sh (.bl (cs.all kD))):=by
 have hel:bA cY [] (cs.map .int)=.ok (cs.map fun c=>.bl (kD c)):=jZ _ fun c _=>by simp[cY,fS,gq]
 have hab:eO (cs.map fun c=>PV.bl (kD c))=some (cs.map kD):=by
  have:=j8 (cs.map kD)
  rwa [List.map_map]at this
 have hall:(cs.map kD).all id=cs.all kD:=by simp[List.all_map]
 have hlim:cs.length<=lim:=bQ hl
 simp -implicitDefEqProofs [bB,fu,eW,bU,hel,sg,hab,hall,hlim]
structure Pf(x:PV)(fo co:Bool)(ys:List PV):Prop where
 form:bZ [x]=.ok (.sh (.bl fo))
 kind:fo=true->∃ k:String,bj [x]=.ok (.sh (.str (Str.ofString k))) /\ (decide (k = "row")||decide (k = "fields"))=co
 inner:fo=true->aD [x]=.ok (.fr ys)
theorem la(k:String)(xs:List PV):bj [.tup (.str (Str.ofString k) ::xs)]=.ok (.sh (.str (Str.ofString k))):=by
 simp[gV,gN,gZ,j4,bj,dI,rn]
theorem vL(x:PV)(k:String)(h:bj [x]=.ok (.sh (.str (Str.ofString k))))(h1:k ≠ "row")(h2:k ≠ "fields"):aD [x]=.ok (.fr []):=by
 simp[aD,dq,cE,dC,ft,h,cL,h1,h2]
theorem r8:Pf .non true false []:=by
 have hk:bj [.non]=.ok (.sh (.str (Str.ofString "null"))):=by simp[gV,gN,gZ,j4,bj,dI]
 exact⟨by simp[bZ,gb,dI],fun _=>⟨"null",hk,by decide⟩,fun _=>vL _ _ hk (by decide) (by decide)⟩
theorem pq(ys:List PV):Pf (.tup [.str "row",.tup ys]) true true ys:=by
 have hk:=la "row" [.tup ys]
 refine⟨?_,fun _=>⟨"row",hk,by decide⟩,fun _=>?_⟩
 . simp[bZ,gb,gk,fM,fX,fG,fV,i9,dI,rn,cL]
 . simp[aD,dq,cE,hk,cL]
theorem sP:∀(ns:List (List Int)) (ys:List PV),ns.length=ys.length->(∀ n∈ns,n.all kD=true /\ n.length<=1000)->bA dX [] (List.zipWith PJ.mem ns ys)=.ok (ys.map fun _=>.bl true)
 |[],[],_,_=>rfl
 |[],_ ::_,h,_=>by cases h
 |_ ::_,[],h,_=>by cases h
 | n ::ns,y ::ys,h,hp=>by
   have ih:=sP ns ys (by simpa using h) fun m hm=>hp m (by simp[hm])
   have hn:=hp n (by simp);have ha:=B1 n (by omega);rw[hn.1]at ha
   have hm:bw [PJ.mem n y]=.ok (.sh (.bl true)):=by simp[eS,bw,PJ.mem,ha]
   rw[List.zipWith_cons_cons]
   have hx:dX ([]++[some (.sh (PJ.mem n y))])=.ok (.sh (.bl true)):=by simp[dX,hm]
   simp only[bA,hx,ih,OE.bP,fh,OA.bP,List.map_cons]
theorem qr:∀(ns:List (List Int)) (ys:List PV),ns.length=ys.length->bA cH [] (List.zipWith PJ.mem ns ys)=.ok ys
 |[],[],_=>rfl
 |[],_ ::_,h=>by cases h
 |_ ::_,[],h=>by cases h
 | n ::ns,y ::ys,h=>by
   have ih:=qr ns ys (by simpa using h);rw[List.zipWith_cons_cons]
   have hx:cH ([]++[some (.sh (PJ.mem n y))])=.ok (.sh y):=by simp[cH,PJ.mem]
   simp only[bA,hx,ih,OE.bP,fh,OA.bP]
theorem rX(ns:List (List Int))(ys:List PV)(hl:ns.length=ys.length)(hp:∀ n∈ns,n.all kD=true /\ n.length<=1000)(hs:ys.length<=1000000):Pf (.tup [.str "fields",.tup (List.zipWith PJ.mem ns ys)]) true true ys:=by
 have hk:=la "fields" [.tup (List.zipWith PJ.mem ns ys)];have h1:=sP ns ys hl hp;have h2:=qr ns ys hl
 have hab:eO (ys.map fun _=>PV.bl true)=some (ys.map fun _=>true):=by
  have:=j8 (ys.map fun _=>true)
  rwa [List.map_map]at this
 have hlim:ys.length<=lim:=bQ hs
 refine⟨?_,fun _=>⟨"fields",hk,by decide⟩,fun _=>?_⟩
 . simp -implicitDefEqProofs [bZ,gb,gk,fM,fX,fG,fV,dI,rn,cL,eW,bU,h1,sg,hab,hlim]
 . simp -implicitDefEqProofs [aD,dq,cE,dC,hk,cL,eW,bU,h2,hlim]
noncomputable def pr(p:PV×Int):PV:=.tup [p.1,.int p.2]
noncomputable abbrev iv(t:PV)(ps:List (PV×Int))(P:Option Sl):aa:=[some (.sh t),some (.tr false (.ol (ps.map fun p=>.sh (pr p)))),P]
theorem qY(t:PV)(ps:List (PV×Int))(p:PV×Int)(P:Option Sl):qt 2 (nC 1 lD) (iv t (ps++[p]) P)=.nx (iv t ps (some (.sh (pr p)))):=by
 have hp:=u9 (ρ:=iv t (ps++[p]) P) (i:=1) (io:=false) (ts:=ps.map fun p=>.sh (pr p)) (x:=.sh (pr p)) (by simp);unfold qt;rw[hp];rfl
theorem pE(t x:PV)(d:Int)(ps:List (PV×Int))(P:Option Sl)(h:Pf x false cont ys):bu (iv t (ps++[(x,d)]) P)=.rt (iv t ps (some (.sh (pr (x,d))))) (.sh (.bl false)):=by
 have h0:=qY t ps (x,d) P;simp only[bu,nW,h0,gm];simp[pr,h.form]
theorem t9(t x:PV)(ps:List (PV×Int))(P:Option Sl)(h:Pf x true true ys):bu (iv t (ps++[(x,64)]) P)=.rt (iv t ps (some (.sh (pr (x,64))))) (.sh (.bl false)):=by
 have h0:=qY t ps (x,64) P;obtain⟨k,hk,hc⟩:=h.kind rfl;simp only[bu,nW,h0,gm]
 have hk':k = "row" \/ k = "fields":=by simpa using hc
 rcases hk' with rfl|rfl<;>simp[pr,h.form,hk,gIn,pP,dh]
theorem yB(t x:PV)(d:Int)(cont:Bool)(ys:List PV)(ps:List (PV×Int))(P:Option Sl)(h:Pf x true cont ys)(hd:cont=true->d≠64)(hl:ps.length+ys.length<=1000000):
  bu (iv t (ps++[(x,d)]) P)=.nx (iv t (ps++ys.map fun y=>(y,d+1)) (some (.sh (pr (x,d))))):=by
 have h0:=qY t ps (x,d) P;obtain⟨k,hk,hc⟩:=h.kind rfl;have hin:=h.inner rfl
 have hel:bA cF [some (.sh (.tup [x,.int d]))] ys=.ok (ys.map fun y=>pr (y,d+1)):=by
  have:=jZ (me:=cF) (ρ:=[some (.sh (.tup [x,.int d]))]) (g:=fun y:PV=>y) (f:=fun y=>pr (y,d+1)) ys fun y _=>by simp[cF,pr]
  rwa [List.map_id']at this
 have hlim:ys.length<=lim:=bQ (by omega)
 have hlim2:ps.length+ys.length<=lim:=bQ hl
 have hcond:(jq (aQ (mOp gIn (aI bj (ah (mOp bK (ao 2) (mC (.int 0))) aC)) (bO (ah (mC (.str "row")) (ah (mC (.str "fields")) aC))))) (aQ (mOp gEq (mOp bK (ao 2) (mC (.int 1))) (mC (.int 64))))) (iv t ps (some (.sh (.tup [x,.int d]))))=.ok false:=by
  have hin2:(k = "row" \/ k = "fields")↔cont=true:=by
   rw[<- hc];simp
  by_cases hcc:cont=true
  . have hd':=hd hcc
    have:=hin2.mpr hcc
    rcases this with rfl|rfl<;>simp[hk,gIn,pP,dh,hd']
  . have h1:¬ "row" = k:=fun z=>hcc (hin2.mp (.inl z.symm))
    have h2:¬ "fields" = k:=fun z=>hcc (hin2.mp (.inr z.symm))
    simp[hk,gIn,pP,dh,h1,h2]
 have hext:jg 1 lD (kU (aI aD (ah (mOp bK (ao 2) (mC (.int 0))) aC)) [2] cF) (iv t ps (some (.sh (.tup [x,.int d]))))=.nx (iv t (ps++ys.map fun y=>(y,d+1)) (some (.sh (.tup [x,.int d])))):=by
  have hcomp:(kU (aI aD (ah (mOp bK (ao 2) (mC (.int 0))) aC)) [2] cF) (iv t ps (some (.sh (.tup [x,.int d]))))=.ok (.fr (ys.map fun y=>pr (y,d+1))):=by
   simp -implicitDefEqProofs [hin,bU,hel,hlim]
  unfold jg xo;simp only[iv,List.getElem?_cons_succ,List.getElem?_cons_zero,lD,get_nil];rw[hcomp];simp[hlim2,xy]
 have hform:bL (fw (cV (aI bZ (ah (mOp bK (ao 2) (mC (.int 0))) aC)))) (b2 (mC (.bl false))) bg (iv t ps (some (.sh (.tup [x,.int d]))))=.nx (iv t ps (some (.sh (.tup [x,.int d])))):=by simp[h.form]
 have hmid:bL (jq (aQ (mOp gIn (aI bj (ah (mOp bK (ao 2) (mC (.int 0))) aC)) (bO (ah (mC (.str "row")) (ah (mC (.str "fields")) aC))))) (aQ (mOp gEq (mOp bK (ao 2) (mC (.int 1))) (mC (.int 64))))) (b2 (mC (.bl false))) bg (iv t ps (some (.sh (.tup [x,.int d]))))=.nx (iv t ps (some (.sh (.tup [x,.int d])))):=by
  unfold bL;rw[hcond];rfl
 simp only[bu,nW,h0,gm,pr,hform,hmid,hext]
noncomputable def R(ps:List (PV×Int))(F:Nat)(b:Bool):Prop:=∀ t P,∃ ρ,(dD cb bu F (iv t ps P)).andThen ji=.rt ρ (.sh (.bl b))
theorem qM(t:PV)(ps:List (PV×Int))(P:Option Sl):cb (iv t ps P)=.ok (!ps.isEmpty):=by
 have:=r0 (ρ:=iv t ps P) (i:=1) (io:=false) (ts:=ps.map fun p=>.sh (pr p)) rfl;unfold cb;rw[this]
 cases ps<;>rfl
theorem yY(F:Nat):R [] (F+1) true:=fun t P=>by
 have h:=qM t [] P
 refine⟨iv t [] P,?_⟩
 unfold dD;rw[h];rfl
theorem iX(t:PV)(ps:List (PV×Int))(p:PV×Int)(P:Option Sl)(F:Nat):dD cb bu (F+1) (iv t (ps++[p]) P)=(bu (iv t (ps++[p]) P)).turn (dD cb bu F):=by
 have h:=qM t (ps++[p]) P
 have he:(ps++[p]).isEmpty=false:=by simp
 rw[he]at h
 show(cb (iv t (ps++[p]) P)).aP _ _=_
 rw[h];rfl
theorem EI{x:PV}{d:Int}{ps:List (PV×Int)}{F:Nat}{co:Bool}{ys:List PV}(h:Pf x false co ys):R (ps++[(x,d)]) (F+1) false:=fun t P=>by
 refine⟨iv t ps (some (.sh (pr (x,d)))),?_⟩
 rw[iX,pE t x d ps P h];rfl
theorem wZ{x:PV}{ps:List (PV×Int)}{F:Nat}{ys:List PV}(h:Pf x true true ys):R (ps++[(x,64)]) (F+1) false:=fun t P=>by
 refine⟨iv t ps (some (.sh (pr (x,64)))),?_⟩
 rw[iX,t9 t x ps P h];rfl
theorem uj{x:PV}{d:Int}{ps:List (PV×Int)}{F:Nat}{co b:Bool}{ys:List PV}(h:Pf x true co ys)(hd:co=true->d≠64)(hl:ps.length+ys.length<=1000000)(r:R (ps++ys.map fun y=>(y,d+1)) F b):R (ps++[(x,d)]) (F+1) b:=fun t P=>by
 obtain⟨ρ,e⟩:=r t (some (.sh (pr (x,d))))
 refine⟨ρ,?_⟩
 rw[iX,yB t x d co ys ps P h hd hl];exact e
noncomputable abbrev LN(x:PV):Prop:=x=.non
mutual
noncomputable def Nm:PJ.JV->Prop
 |.lf _=>True
 |.row vs=>Nms vs
 |.fld ns vs=>(∀ n∈ns,n.length<=1000) /\ Nms vs
noncomputable def Nms:List PJ.JV->Prop
 |[]=>True
 |v ::vs=>Nm v /\ Nms vs
end
mutual
theorem u4:∀(v:PJ.JV),PJ.Ok LN v->Nm v->∀(ps:List (PV×Int)) (d:Int) (F:Nat) (b:Bool),0<=d->d+PJ.depth v<=64->ps.length+PJ.size v<=100000->R ps F b->R (ps++[(PJ.enc v,d)]) (F+PJ.size v) b
 | .lf x,ok,nm,ps,d,F,b,h0,hd,hl,r=>by
   have:=uj (x:=x) (d:=d) (ps:=ps) (F:=F) (b:=b) (show Pf x true false [] from(show x=.non from ok) ▸ r8) (fun z=>(nomatch z)) (by simp[PJ.size]at hl ⊢;omega) (by simpa using r)
   simpa [PJ.enc,PJ.size]using this
 | .row vs,ok,nm,ps,d,F,b,h0,hd,hl,r=>by
   simp[PJ.size]at hl;simp[PJ.depth]at hd;have hv:=PJ.jW vs;have:=nY vs ok nm ps (d+1) F b (by omega) (by omega) (by omega) r;have:=uj (x:=.tup [.str "row",.tup (PJ.aU vs)]) (d:=d) (pq (PJ.aU vs)) (fun _=>by omega) (by rw[PJ.dG];omega) this
   have e:F+PJ.size (.row vs)=F+PJ.ba vs+1:=by simp[PJ.size];omega
   rw[e]
   simpa [PJ.enc]using this
 | .fld ns vs,ok,nm,ps,d,F,b,h0,hd,hl,r=>by
   simp[PJ.size]at hl;simp[PJ.depth]at hd;have hv:=PJ.jW vs;have:=nY vs ok.2.2 nm.2 ps (d+1) F b (by omega) (by omega) (by omega) r;have:=uj (x:=.tup [.str "fields",.tup (List.zipWith PJ.mem ns (PJ.aU vs))]) (d:=d) (rX ns (PJ.aU vs) (by rw[PJ.dG];exact ok.1) (fun n hn=>⟨ok.2.1 n hn,nm.1 n hn⟩) (by rw[PJ.dG];omega)) (fun _=>by omega) (by rw[PJ.dG];omega) this
   have e:F+PJ.size (.fld ns vs)=F+PJ.ba vs+1:=by simp[PJ.size];omega
   rw[e]
   simpa [PJ.enc]using this
theorem nY:∀(vs:List PJ.JV),PJ.Oks LN vs->Nms vs->∀(ps:List (PV×Int)) (d:Int) (F:Nat) (b:Bool),0<=d->d+PJ.cZ vs<=64->ps.length+PJ.ba vs<=100000->R ps F b->R (ps++(PJ.aU vs).map fun y=>(y,d)) (F+PJ.ba vs) b
 |[],ok,nm,ps,d,F,b,h0,hd,hl,r=>by simpa [PJ.aU,PJ.ba]using r
 | v ::vs,ok,nm,ps,d,F,b,h0,hd,hl,r=>by
   simp[PJ.ba]at hl;simp[PJ.cZ]at hd;have hp:=PJ.size_pos v;have r1:=u4 v ok.1 nm.1 ps d F b h0 (by omega) (by omega) r;have r2:=nY vs ok.2 nm.2 (ps++[(PJ.enc v,d)]) d (F+PJ.size v) b h0 (by omega) (by simp;omega) r1
   have e:F+PJ.ba (v ::vs)=F+PJ.size v+PJ.ba vs:=by simp[PJ.ba];omega
   rw[e]
   simpa [PJ.aU]using r2
end
theorem ef(x:PV)(b:Bool)(r:R [(x,0)] fuel b):bX [x]=.ok (.sh (.bl b)):=by
 obtain⟨ρ,e⟩:=r x none
 have hs:ql 1 (mD (oM (ah (bO (ah (ao 0) (ah (mC (.int 0)) aC))) aC))) [some (.sh x),none,none]=.nx (iv x [(x,0)] none):=by simp[ql,mD,pr]
 have e2:iA [some (.sh x),none,none]=.rt ρ (.sh (.bl b)):=by
  simp -implicitDefEqProofs only[iA,jD,nW,hs,gm,e]
 simp -implicitDefEqProofs [bX,e2]
noncomputable def kids:PJ.JV->List PJ.JV
 |.lf _=>[]
 |.row vs=>vs
 |.fld _ vs=>vs
noncomputable def cont:PJ.JV->Bool
 |.lf _=>false
 |_=>true
theorem il(v:PJ.JV):PJ.size v=1+PJ.ba (kids v):=by cases v<;>simp[PJ.size,kids,PJ.ba]
theorem wA(v:PJ.JV)(ok:PJ.Ok LN v)(nm:Nm v)(hs:PJ.size v<=10000):Pf (PJ.enc v) true (cont v) (PJ.aU (kids v)):=by
 cases v with
 |lf x=>have e:x=.non:=ok;subst e;exact r8
 |row vs=>exact pq _
 | fld ns vs=>
   have:=PJ.jW vs;have:=il (.fld ns vs);simp only[kids]at this;exact rX ns _ (by rw[PJ.dG];exact ok.1) (fun n hn=>⟨ok.2.1 n hn,nm.1 n hn⟩) (by rw[PJ.dG];omega)
theorem x5(v:PJ.JV)(ok:PJ.Ok LN v):PJ.Oks LN (kids v):=by
 cases v with
 |lf x=>trivial
 |row vs=>exact ok
 |fld ns vs=>exact ok.2.2
theorem xG(v:PJ.JV)(nm:Nm v):Nms (kids v):=by
 cases v with
 |lf x=>trivial
 |row vs=>exact nm
 |fld ns vs=>exact nm.2
theorem iB(vs ws:List PJ.JV):Nms (vs++ws)↔Nms vs /\ Nms ws:=by
 induction vs with
 |nil=>simp[Nms]
 |cons v vs ih=>show Nm v /\ Nms (vs++ws)↔(Nm v /\ Nms vs) /\ Nms ws;rw[ih];exact and_assoc.symm
theorem kf(vs ws:List PJ.JV):PJ.aU (vs++ws)=PJ.aU vs++PJ.aU ws:=by simp[PJ.kW]
noncomputable abbrev evE(x:PV)(found:List PV)(at_:Nat):aa:=[some (.sh x),some (.ow found),some (.sh (.int (at_:Int)))]
theorem sd(x:PV)(dn:List PV)(w:PJ.JV)(ws:List PJ.JV)(ok:PJ.Ok LN w)(nm:Nm w)(hs:dn.length+PJ.ba (w ::ws)<=10000):
  cM (evE x (dn++PJ.aU (w ::ws)) dn.length)=.nx (evE x ((dn++[PJ.enc w])++PJ.aU (ws++kids w)) (dn++[PJ.enc w]).length):=by
 have hsz:PJ.size w+PJ.ba ws+dn.length<=10000:=by simp[PJ.ba]at hs;omega
 have hin:=(wA w ok nm (by omega)).inner rfl;have hk:=il w;have l1:=PJ.jW (kids w);have l2:=PJ.jW ws
 have ha:atP (dn++PJ.aU (w ::ws)) (dn.length:Int)=some (PJ.enc w):=by
  rw[vN _ _ (by omega)];simp[PJ.aU]
 have hlim:(dn++PJ.aU (w ::ws)).length+(PJ.aU (kids w)).length<=lim:=by
  simp only[List.length_append,PJ.dG,List.length_cons];exact bQ (by omega)
 have e1:hV 1 (aI aD (ah (mOp pw (ao 1) (ao 2)) aC)) (evE x (dn++PJ.aU (w ::ws)) dn.length)=.nx (evE x ((dn++PJ.aU (w ::ws))++PJ.aU (kids w)) dn.length):=by
  have:(aI aD (ah (mOp pw (ao 1) (ao 2)) aC)) (evE x (dn++PJ.aU (w ::ws)) dn.length)=.ok (.fr (PJ.aU (kids w))):=by
   simp[evE,ha,hin]
  unfold hV
  simp only[evE,List.getElem?_cons_succ,List.getElem?_cons_zero]at this ⊢
  rw[this];simp only[rV];rw[if_pos hlim];rfl
 unfold cM;rw[bJ e1]
 have e2:dn++PJ.aU (w ::ws)++PJ.aU (kids w)=(dn++[PJ.enc w])++PJ.aU (ws++kids w):=by
  rw[kf];simp[PJ.aU]
 rw[e2];simp[evE]
theorem si:∀(n:Nat) (x:PV) (dn:List PV) (ws:List PJ.JV) (F:Nat),PJ.ba ws=n->PJ.Oks LN ws->Nms ws->dn.length+n<=10000 ->
  ∃ L:List PV,L.length=dn.length+n /\ dD bG cM (F+n+1) (evE x (dn++PJ.aU ws) dn.length)=.nx (evE x L L.length):=by
 intro n
 induction n with
 | zero=>
   intro x dn ws F hn ok nm hl
   cases ws with
   |cons w ws=>have:=PJ.size_pos w;simp[PJ.ba]at hn;omega
   | nil=>
     refine⟨dn,by simp,?_⟩
     have hc:bG (evE x (dn++PJ.aU []) dn.length)=.ok false:=by simp[bG,evE,PJ.aU]
     unfold dD;rw[hc];simp[PJ.aU]
 | succ n ih=>
   intro x dn ws F hn ok nm hl
   cases ws with
   |nil=>simp[PJ.ba]at hn
   | cons w ws=>
     have hk:=il w;obtain⟨L,h1,h2⟩:=ih x (dn++[PJ.enc w]) (ws++kids w) F (by rw[PJ.fQ];simp[PJ.ba]at hn;omega) ((PJ.iI _ _).mpr ⟨ok.2,x5 w ok.1⟩) ((iB _ _).mpr ⟨nm.2,xG w nm.1⟩) (by simp;omega)
     refine⟨L,by rw[h1];simp;omega,?_⟩
     have hc:bG (evE x (dn++PJ.aU (w ::ws)) dn.length)=.ok true:=by
      have:(dn.length:Int)<(dn.length:Int)+((PJ.aU ws).length+1:Int):=by omega
      simp[bG,evE,PJ.aU];omega
     have e:F+(n+1)+1=(F+n+1)+1:=by omega
     rw[e]
     show(bG _).aP _ _=_
     rw[hc,qT];simp only[if_true];rw[sd x dn w ws ok.1 nm.1 (by rw[hn];omega),sV];exact h2
theorem eh(v:PJ.JV)(ok:PJ.Ok LN v)(nm:Nm v)(hs:PJ.size v<=10000):dO [PJ.enc v]=.ok (.sh (.int (PJ.size v))):=by
 have hf:10001<=fuel:=by decide
 obtain⟨F,hF⟩:∃ F,fuel=F+PJ.size v+1:=⟨fuel - (PJ.size v+1),by omega⟩
 obtain⟨L,h1,h2⟩:=si (PJ.size v) (PJ.enc v) [] [v] F (by simp[PJ.ba]) ⟨ok,trivial⟩ ⟨nm,trivial⟩ (by simp;omega)
 have l1:1<=lim:=bQ (by decide)
 have hev:bY [PJ.enc v]=.ok (.fr L):=by
  have e0:b3 1 (oM (ah (ao 0) aC)) [some (.sh (PJ.enc v)),none,none]=.nx [some (.sh (PJ.enc v)),some (.ow [PJ.enc v]),none]:=by simp -implicitDefEqProofs [l1]
  have e1:fi [some (.sh (PJ.enc v)),none,none]=.rt [some (.sh (PJ.enc v)),none,some (.sh (.int L.length))] (.fr L):=by
   unfold fi;rw[bJ e0];unfold gC;rw[bJ (ρ':=evE (PJ.enc v) ([]++PJ.aU [v]) 0) (by simp[PJ.aU,evE])];unfold gx;rw[hF]
   refine(bJ h2).trans ?_
   simp[gy,evE]
  simp -implicitDefEqProofs [bY,e1]
 have:(L.length:Int)=PJ.size v:=by rw[h1];simp
 simp -implicitDefEqProofs [dO,wK,hev,this]
inductive Tw:Nat->PJ.JV->Prop
 |non:Tw 0 (.lf .non)
 |row {n:Nat} {v:PJ.JV} (h:Tw n v):Tw (n+1) (.row [v])
 |fld {n:Nat} {v:PJ.JV} (h:Tw n v):Tw (n+1) (.fld [[97]] [v])
theorem Tw.ok{n:Nat}{v:PJ.JV}(h:Tw n v):PJ.Ok LN v /\ Nm v /\ PJ.size v=n+1:=by
 induction h with
 |non=>exact⟨rfl,trivial,rfl⟩
 |row _ ih=>exact⟨⟨ih.1,trivial⟩,⟨ih.2.1,trivial⟩,by simp[PJ.size,PJ.ba,ih.2.2];omega⟩
 | fld _ ih=>
   refine⟨⟨rfl,fun n hn=>?_,ih.1,trivial⟩,⟨fun n hn=>?_,ih.2.1,trivial⟩,by simp[PJ.size,PJ.ba,ih.2.2];omega⟩
   . simp at hn;subst hn;decide
   . simp at hn;subst hn;simp
theorem xE{n:Nat}{v:PJ.JV}(h:Tw n v)(hn:n<=1000):∀(d:Int) (F:Nat),0<=d->d<=64->R [(PJ.enc v,d)] (F+n+2) (decide (d+n<=64)):=by
 induction h with
 | non=>
   intro d F h0 h1;have:=uj (x:=.non) (d:=d) (ps:=[]) (F:=F+1) (b:=true) r8 (fun z=>(nomatch z)) (by simp) (by simpa using yY F)
   have e:decide (d+((0:Nat):Int)<=64)=true:=decide_eq_true (by omega)
   rw[e]
   simpa [PJ.enc]using this
 | @row n v hv ih=>
   intro d F h0 h1;have pf:=pq (PJ.aU [v])
   by_cases hd:d=64
   . subst hd;have:=wZ (ps:=[]) (F:=F+(n+1)+1) pf
     have e:decide ((64:Int)+((n+1:Nat):Int)<=64)=false:=decide_eq_false (by omega)
     rw[e]
     simpa [PJ.enc]using this
   . have r:=ih (by omega) (d+1) F (by omega) (by omega);have:=uj (x:=.tup [.str "row",.tup (PJ.aU [v])]) (d:=d) (ps:=[]) (F:=F+n+2) (b:=decide (d+1+n<=64)) pf (fun _=>hd) (by simp[PJ.aU]) (by simpa [PJ.aU]using r)
     have e:decide (d+((n+1:Nat):Int)<=64)=decide (d+1+(n:Int)<=64):=decide_eq_decide.mpr (by omega)
     rw[e,show F+(n+1)+2=F+n+2+1 by omega]
     simpa [PJ.enc]using this
 | @fld n v hv ih=>
   intro d F h0 h1;have pf:=rX [[97]] (PJ.aU [v]) (by simp[PJ.aU]) (fun n hn=>by simp at hn;subst hn;exact⟨by decide,by simp⟩) (by simp[PJ.aU])
   by_cases hd:d=64
   . subst hd;have:=wZ (ps:=[]) (F:=F+(n+1)+1) pf
     have e:decide ((64:Int)+((n+1:Nat):Int)<=64)=false:=decide_eq_false (by omega)
     rw[e]
     simpa [PJ.enc]using this
   . have r:=ih (by omega) (d+1) F (by omega) (by omega);have:=uj (x:=.tup [.str "fields",.tup (List.zipWith PJ.mem [[97]] (PJ.aU [v]))]) (d:=d) (ps:=[]) (F:=F+n+2) (b:=decide (d+1+n<=64)) pf (fun _=>hd) (by simp[PJ.aU]) (by simpa [PJ.aU]using r)
     have e:decide (d+((n+1:Nat):Int)<=64)=decide (d+1+(n:Int)<=64):=decide_eq_decide.mpr (by omega)
     rw[e,show F+(n+1)+2=F+n+2+1 by omega]
     simpa [PJ.enc]using this
theorem uT(c:Nat)(h:c<=10000):∃ F,fuel=F+c:=⟨fuel - c,(Nat.sub_add_cancel (Nat.le_trans h (by decide))).symm⟩
theorem wL{n:Nat}{v:PJ.JV}(h:Tw n v)(hn:n<=1000):bX [PJ.enc v]=.ok (.sh (.bl (decide (n<=64)))):=by
 obtain⟨F,hF⟩:=uT (n+2) (by omega);apply ef;have:=xE h hn 0 F (by omega) (by omega)
 have e:decide ((0:Int)+(n:Int)<=64)=decide (n<=64):=decide_eq_decide.mpr (by omega)
 rw[e]at this;rw[hF,<- Nat.add_assoc];exact this
theorem xx(v:PJ.JV)(ok:PJ.Ok LN v)(nm:Nm v)(hd:PJ.depth v<=64)(hs:PJ.size v<=9000):bX [PJ.enc v]=.ok (.sh (.bl true)):=by
 obtain⟨F,hF⟩:=uT (1+PJ.size v) (by omega);apply ef;rw[hF,<- Nat.add_assoc];exact u4 v ok nm [] 0 (F+1) true (by omega) (by omega) (by simp;omega) (yY F)
theorem eT(c:Int):cv [.int c]=.ok (.sh (.bl (decide (48<=c)&&decide (c<=57)))):=by
 by_cases h1:48<=c<;>by_cases h2:c<=57<;>simp[kh,cv,h1,h2]
theorem o9:cA [.tup [.int 48]]=.ok (.sh (.int 0)):=by
 have l1:1<=lim:=bQ (by decide)
 have e1:(eW (ao 0) [] gi) [some (.sh (.tup [.int 48]))]=.ok (.fr [.bl true]):=by
  simp -implicitDefEqProofs [eW,bU,bA,gi,eT,l1]
 have e2:dz [.tup [.int 48]]=.ok (.sh (.int 0)):=by simp[ke,kd,kv,nv,dz,i0,ku,cJ]
 simp -implicitDefEqProofs [cA,lj,i5,jo,e1,e2,sg,eO]
theorem vA(v:PJ.JV)(vs:List PJ.JV):cw [PJ.enc (.row (v ::vs)),.tup [.int 48]]=.ok (.sh (.int 0)):=by
 have hk:=la "row" [.tup (PJ.aU (v ::vs))]
 have hp:(0:Int)<((PJ.aU vs).length:Int)+1:=by omega
 simp -implicitDefEqProofs [cw,lL,jt,jc,PJ.enc,hk,cL,o9,dI,PJ.aU]at hk ⊢
 try simp -implicitDefEqProofs [hk,hp]
noncomputable def zr:PV:=.tup [.int 48]
theorem lO(v:PJ.JV)(vs:List PJ.JV)(a b:Option Sl)(h:PJ.Ok LN (.row (v ::vs)))(nm:Nm (.row (v ::vs)))(hs:PJ.size (.row (v ::vs))<=10000):
  fm [some (.sh (PJ.enc (.row (v ::vs)))),a,some (.sh zr)]=.nx [some (.sh (PJ.enc v)),a,some (.sh zr)]:=by
 have hin:=(wA _ h nm hs).inner rfl;have hp:=vA v vs
 have ha:(PJ.aU (v ::vs))[0]?=some (PJ.enc v):=rfl
 simp only[kids]at hin;simp -implicitDefEqProofs [fm,hin,hp,zr,ha]
noncomputable def rows:Nat->PJ.JV->PJ.JV
 |0,v=>v
 |n+1,v=>.row [rows n v]
theorem yU(n:Nat)(v:PJ.JV)(h:PJ.Ok LN v /\ Nm v):PJ.Ok LN (rows n v) /\ Nm (rows n v) /\ PJ.size (rows n v)=n+PJ.size v:=by
 induction n with
 |zero=>exact⟨h.1,h.2,by simp[rows]⟩
 |succ n ih=>exact⟨⟨ih.1,trivial⟩,⟨ih.2.1,trivial⟩,by simp[rows,PJ.size,PJ.ba,ih.2.2];omega⟩
theorem rS(n:Nat)(v:PJ.JV)(h:PJ.Ok LN v /\ Nm v)(a:Option Sl):∀(c:Option Sl),n+PJ.size v<=10000->∃ c',cJ 2 fm (List.replicate n zr) [some (.sh (PJ.enc (rows n v))),a,c]=.nx [some (.sh (PJ.enc v)),a,c']:=by
 induction n with
 |zero=>intro c _;exact⟨c,rfl⟩
 | succ n ih=>
   intro c hl;obtain⟨c',e⟩:=ih (some (.sh zr)) (by omega);have r:=yU n v h
   refine⟨c',?_⟩
   rw[List.replicate_succ,g7 (ρ':=[some (.sh (PJ.enc (rows n v))),a,some (.sh zr)]) (lO (rows n v) [] a none ⟨r.1,trivial⟩ ⟨r.2.1,trivial⟩ (by simp[PJ.size,PJ.ba,r.2.2];omega)),e]
theorem jr(n:Nat)(v:PJ.JV)(h:PJ.Ok LN v /\ Nm v)(hl:n+PJ.size v<=10000):cq [PJ.enc (rows n v),.tup (List.replicate n zr)]=.ok (.sh (PJ.enc v)):=by
 obtain⟨c',e⟩:=rS n v h (some (.sh (.tup (List.replicate n zr)))) none hl;simp -implicitDefEqProofs [cq,jx,i0,ku,e]
theorem wX(v:PJ.JV)(vs:List PJ.JV)(h:PJ.Ok LN (.row (v ::vs)))(nm:Nm (.row (v ::vs)))(hs:PJ.size (.row (v ::vs))<=10000):cq [PJ.enc (.row (v ::vs)),.tup [zr]]=.ok (.sh (PJ.enc v)):=by
 have e:=lO v vs (some (.sh (.tup [zr]))) none h nm hs
 have e2:cJ 2 fm [zr] [some (.sh (PJ.enc (.row (v ::vs)))),some (.sh (.tup [zr])),none]=.nx [some (.sh (PJ.enc v)),some (.sh (.tup [zr])),some (.sh zr)]:=by
  rw[g7 (ρ':=[some (.sh (PJ.enc v)),some (.sh (.tup [zr])),some (.sh zr)]) e];rfl
 simp -implicitDefEqProofs [cq,jx,i0,ku,e2]
theorem xu(xs:List PV):j6 xs none (some (xs.length:Int))=xs:=by
 unfold j6 oe
 have:¬ ((xs.length:Int)<0):=by omega
 simp[this]
theorem vI(xs:List PV):j6 xs (some (xs.length:Int)) none=[]:=by
 unfold j6 oe
 have:¬ ((xs.length:Int)<0):=by omega
 simp[this]
theorem wO(vs:List PJ.JV)(w:PJ.JV)(hl:vs.length<=10000):bI [PJ.enc (.row vs),.tup [.int 45],PJ.enc w]=.ok (.sh (PJ.enc (.row (vs++[w])))):=by
 have hk:=la "row" [.tup (PJ.aU vs)]
 have l1:1<=lim:=bQ (by decide)
 have l2:(PJ.aU vs).length+1<=lim:=by rw[PJ.dG];exact bQ (by omega)
 have c1:=xu (PJ.aU vs);have c2:=vI (PJ.aU vs)
 have e:PJ.aU (vs++[w])=PJ.aU vs++[PJ.enc w]:=by rw[kf];rfl
 simp -implicitDefEqProofs [bI,fT,g9,PJ.enc,hk,cL,jl,m8,eJ,lW,dI,fB,ui,dW,dA,c1,c2,l1,l2,e]
theorem yS(w:PJ.JV):bI [PJ.enc (.fld [] []),.tup [.int 97],PJ.enc w]=.ok (.sh (PJ.enc (.fld [[97]] [w]))):=by
 have hk:=la "fields" [.tup []]
 have l1:1<=lim:=bQ (by decide)
 simp -implicitDefEqProofs [bI,fT,PJ.enc,PJ.aU,PJ.mem,hk,cL,i4,uL,iY,jV,nN,xi,pb,l1,fh]
theorem pJ(k:Nat)(x y:PV):bS (k+1) [x,.tup [],y]=.ok (.sh y):=by
 simp[bS,iF]
theorem p8(x:PV)(xs:List PV):j6 (x ::xs) (some 1) none=xs:=by
 unfold j6 oe;simp
theorem wu(xs:List PV):j6 xs none (some 0)=[]:=by
 unfold j6 oe;simp
theorem tZ(k:Nat)(v w:PJ.JV)(ps:List PV)(y:PV)(hr:bS k [PJ.enc v,.tup ps,y]=.ok (.sh (PJ.enc w))):bS (k+1) [PJ.enc (.row [v]),.tup (zr ::ps),y]=.ok (.sh (PJ.enc (.row [w]))):=by
 have hp:=vA v []
 have hin:aD [PJ.enc (.row [v])]=.ok (.fr (PJ.aU [v])):=(pq (PJ.aU [v])).inner rfl
 have l1:1<=lim:=bQ (by decide)
 have l2:1+1<=lim:=bQ (by decide)
 have e0:PJ.enc (.row [v])=.tup [.str "row",.tup [PJ.enc v]]:=rfl
 have e1:PJ.aU [v]=[PJ.enc v]:=rfl
 rw[e0]at hp hin ⊢
 rw[e1]at hin;have c1:=p8 zr ps;have c2:=wu [PJ.enc v];have c3:=p8 (PJ.enc v) []
 have e2:PJ.enc (.row [w])=.tup [.str "row",.tup [PJ.enc w]]:=rfl
 rw[e2]
 simp -implicitDefEqProofs [bS,iF,je,jh,jC,jB,zr,hp,hin,cL,fB,ui,dW,dA,l1]at c1 ⊢
 simp -implicitDefEqProofs [c1,c2,c3,hr,l1,l2,cL,dA,fB,ui,dW]
theorem uF(n:Nat)(v w:PJ.JV):∀ k,n<k->bS k [PJ.enc (rows n v),.tup (List.replicate n zr),PJ.enc w]=.ok (.sh (PJ.enc (rows n w))):=by
 induction n with
 |zero=>intro k hk;obtain⟨j,rfl⟩:∃ j,k=j+1:=⟨k - 1,by omega⟩;exact pJ j _ _
 | succ n ih=>
   intro k hk
   obtain⟨j,rfl⟩:∃ j,k=j+1:=⟨k - 1,by omega⟩
   exact tZ j (rows n v) (rows n w) _ _ (ih j (by omega))
theorem pU(ps:List PV)(p:PV):j6 (ps++[p]) none (some (-1))=ps:=by
 have e:(-1+((ps++[p]).length:Int)).toNat=ps.length:=by simp;omega
 unfold j6 oe;simp only[show(-1:Int)<0 by decide,if_true,e];simp
theorem tN(vs:List PJ.JV)(w:PJ.JV)(hl:vs.length<=10000):dF [PJ.enc (.row vs),.tup [.tup [.int 45]],PJ.enc w]=.ok (.sh (PJ.enc (.row (vs++[w])))):=by
 have c1:=pU [] (.tup [.int 45]);rw[List.nil_append]at c1
 have h1:cq [PJ.enc (.row vs),.tup []]=.ok (.sh (PJ.enc (.row vs))):=by simp[cq,jx,i0,ku,cJ]
 have h2:=wO vs w hl
 have h3:cz [PJ.enc (.row vs),.tup [],PJ.enc (.row (vs++[w]))]=.ok (.sh (PJ.enc (.row (vs++[w])))):=pJ 19 _ _
 have ha:atP [PV.tup [.int 45]] (-1)=some (PV.tup [.int 45]):=rfl
 simp -implicitDefEqProofs [dF,om,jR,j7,fB,ui,dW,c1,h1,h2,h3,ha]
theorem AL(n:Nat)(w:PJ.JV)(hn:n<20):dF [PJ.enc (rows n (.fld [] [])),.tup (List.replicate n zr++[.tup [.int 97]]),PJ.enc w]=.ok (.sh (PJ.enc (rows n (.fld [[97]] [w])))):=by
 have c1:=pU (List.replicate n zr) (.tup [.int 97]);have h1:=jr n (.fld [] []) ⟨⟨rfl,fun _ h=>(nomatch h),trivial⟩,fun _ h=>(nomatch h),trivial⟩ (by simp[PJ.size,PJ.ba];omega);have h2:=yS w
 have h3:cz [PJ.enc (rows n (.fld [] [])),.tup (List.replicate n zr),PJ.enc (.fld [[97]] [w])]=.ok (.sh (PJ.enc (rows n (.fld [[97]] [w])))):=uF n _ _ 20 hn
 have ha:atP (List.replicate n zr++[.tup [.int 97]]) (-1)=some (PV.tup [.int 97]):=by
  have e:(-1+((List.replicate n zr++[PV.tup [.int 97]]).length:Int)).toNat=n:=by simp;omega
  have e2:-((List.replicate n zr++[PV.tup [.int 97]]).length:Int) <= -1:=by simp;omega
  unfold atP ixP;simp only[show ¬ (0:Int) <= -1 by decide,if_false,e2,if_true,e,Option.bind_some];simp
 have ht:lb (.tup (List.replicate n zr++[.tup [.int 97]]))=some true:=by simp[lb]
 simp -implicitDefEqProofs [dF,om,jR,j7,fB,ui,dW,c1,h1,h2,h3,ha,ht]
noncomputable def b9(b:Bool):PV:=.tup [.str "copy",.tup (if b then[]else[zr]),.tup [.tup [.int 45]]]
theorem ub(b:Bool)(v:PJ.JV)(vs:List PJ.JV)(h:PJ.Ok LN (.row (v ::vs)))(nm:Nm (.row (v ::vs)))(hs:PJ.size (.row (v ::vs))<=1000):
  dN [PJ.enc (.row (v ::vs)),b9 b]=.ok (.sh (PJ.enc (.row ((v ::vs)++[if b then .row (v ::vs)else v])))):=by
 have hl:(v ::vs).length<=10000:=by
  have:=PJ.jW (v ::vs);have:=il (.row (v ::vs));simp only[kids]at this;omega
 cases b with
 | true=>
   have h1:cq [PJ.enc (.row (v ::vs)),.tup []]=.ok (.sh (PJ.enc (.row (v ::vs)))):=by simp[cq,jx,i0,ku,cJ]
   have h2:=tN (v ::vs) (.row (v ::vs)) hl;simp -implicitDefEqProofs [lN,mB,mq,mL,lX,mi,o5,dN,b9,cL,h1,h2]
 | false=>
   have h1:=wX v vs h nm (by omega);have h2:=tN (v ::vs) v hl;simp -implicitDefEqProofs [lN,mB,mq,mL,lX,mi,o5,dN,b9,cL,h1,h2]
theorem yJ(n:Nat)(w:PJ.JV)(hn:n<20):dN [PJ.enc (rows n (.fld [] [])),.tup [.str "add",.tup (List.replicate n zr++[.tup [.int 97]]),PJ.enc w]]=.ok (.sh (PJ.enc (rows n (.fld [[97]] [w])))):=by
 have h:=AL n w hn;simp -implicitDefEqProofs [dN,o5,cL,h]
theorem mF(x d y:PV)(ds:Option Sl)(j:Int)(n:Nat)(b:Bool)(hd:dN [x,d]=.ok (.sh y))(hs:dO [y]=.ok (.sh (.int n)))(hv:bX [y]=.ok (.sh (.bl b))):
  cx [some (.sh x),ds,some (.sh (.int j)),some (.sh d)]=(if n<=300 /\ b=true then .nx [some (.sh y),ds,some (.sh (.int j)),some (.sh d)]else .exc [some (.sh y),ds,some (.sh (.int j)),some (.sh d)] "NoDeed" [("place",.int j)]):=by
 have e1:uJ (b3 0 (aI dN (ah (ao 0) (ah (ao 3) aC)))) df dg [some (.sh x),ds,some (.sh (.int j)),some (.sh d)]=.nx [some (.sh y),ds,some (.sh (.int j)),some (.sh d)]:=by
  simp[uJ,hd]
 unfold cx;rw[bJ e1]
 by_cases h:n<=300
 . have h1:¬ (300<(n:Int)):=by omega
   cases b<;>simp[hs,hv,h,h1]
 . have h1:300<(n:Int):=by omega
   simp[hs,h,h1]
section
variable(wide long:Nat)(wh:Nat->Bool)
noncomputable def gj:PJ.JV:=.row (List.replicate long (.lf .non))
noncomputable def Vs:Nat->List PJ.JV
 |0=>List.replicate wide (gj long)
 |k+1=>Vs k++[if wh k then .row (Vs k)else gj long]
noncomputable def Ms:Nat->Nat
 |0=>1+wide*(1+long)
 |k+1=>Ms k+if wh k then Ms k else 1+long
theorem wB(n:Nat)(v:PJ.JV)(h:PJ.Ok LN v /\ Nm v):PJ.Oks LN (List.replicate n v) /\ Nms (List.replicate n v) /\ PJ.ba (List.replicate n v)=n*PJ.size v /\ PJ.cZ (List.replicate n v)<=PJ.depth v:=by
 induction n with
 |zero=>exact⟨trivial,trivial,by simp[PJ.ba],by simp[PJ.cZ]⟩
 | succ n ih=>
   refine⟨⟨h.1,ih.1⟩,⟨h.2,ih.2.1⟩,?_,?_⟩
   . rw[List.replicate_succ,PJ.ba,ih.2.2.1,Nat.succ_mul];omega
   . rw[List.replicate_succ,PJ.cZ];have:=ih.2.2.2;omega
theorem xS:(PJ.Ok LN (gj long) /\ Nm (gj long)) /\ PJ.size (gj long)=1+long /\ PJ.depth (gj long)<=1:=by
 have h:=wB long (.lf .non) ⟨rfl,trivial⟩
 refine⟨⟨h.1,h.2.1⟩,?_,?_⟩
 . simp[gj,PJ.size,h.2.2.1]
 . have:=h.2.2.2
   simp only[gj,PJ.depth]at this ⊢
   omega
theorem iy(vs ws:List PJ.JV):PJ.cZ (vs++ws)=max (PJ.cZ vs) (PJ.cZ ws):=by
 induction vs with
 |nil=>simp[PJ.cZ]
 |cons v vs ih=>simp only[List.cons_append,PJ.cZ,ih];omega
theorem vK(k:Nat):(PJ.Ok LN (.row (Vs wide long wh k)) /\ Nm (.row (Vs wide long wh k))) /\ PJ.size (.row (Vs wide long wh k))=Ms wide long wh k /\ PJ.depth (.row (Vs wide long wh k))<=k+2:=by
 have r:=xS long
 induction k with
 | zero=>
   have h:=wB wide (gj long) r.1
   refine⟨⟨h.1,h.2.1⟩,?_,?_⟩
   . simp[Vs,Ms,PJ.size,h.2.2.1,r.2.1]
   . have:=h.2.2.2;simp only[Vs,PJ.depth];omega
 | succ k ih=>
   have hs:=ih.2.1;have hd:=ih.2.2;simp only[PJ.size]at hs;simp only[PJ.depth]at hd
   by_cases hw:wh k=true
   . refine⟨⟨(PJ.iI _ _).mpr ⟨ih.1.1,?_,trivial⟩,(iB _ _).mpr ⟨ih.1.2,?_,trivial⟩⟩,?_,?_⟩
     . rw[if_pos hw];exact ih.1.1
     . rw[if_pos hw];exact ih.1.2
     . simp only[Vs,Ms,PJ.size,PJ.fQ,PJ.ba,hw,if_true];omega
     . simp only[Vs,PJ.depth,iy,PJ.cZ,hw,if_true];omega
   . refine⟨⟨(PJ.iI _ _).mpr ⟨ih.1.1,?_,trivial⟩,(iB _ _).mpr ⟨ih.1.2,?_,trivial⟩⟩,?_,?_⟩
     . rw[if_neg hw];exact r.1.1
     . rw[if_neg hw];exact r.1.2
     . simp only[Vs,Ms,PJ.size,PJ.fQ,PJ.ba,hw,if_false,r.2.1,Bool.false_eq_true];omega
     . have:=r.2.2;simp only[Vs,PJ.depth,iy,PJ.cZ,hw,if_false,Bool.false_eq_true];omega
theorem yW(hw:0<wide)(k:Nat):∃ r,Vs wide long wh k=gj long ::r:=by
 induction k with
 |zero=>obtain⟨j,rfl⟩:∃ j,wide=j+1:=⟨wide - 1,by omega⟩;exact⟨_,List.replicate_succ⟩
 |succ k ih=>obtain⟨r,e⟩:=ih;exact⟨_,by rw[Vs,e,List.cons_append]⟩
noncomputable def first:Nat->Nat->Option Nat
 |0,_=>none
 |n+1,j=>if Ms wide long wh (j+1)<=300 then first n (j+1)else some j
theorem CC(k:Nat):Ms wide long wh k<=Ms wide long wh (k+1):=by simp only[Ms];omega
theorem sr(hw:0<wide)(hl:long<=100)(ds:Option Sl):∀(n j:Nat) (p d:Option Sl),j+n<=60->Ms wide long wh j<=300->∃ ρ,
  eC 2 3 cx (iu j ((List.range' j n).map fun i=>b9 (wh i))) [some (.sh (PJ.enc (.row (Vs wide long wh j)))),ds,p,d] =
   (match first wide long wh n j with|none=>.nx (some (.sh (PJ.enc (.row (Vs wide long wh (j+n))))) ::ρ)|some i=>.exc ρ "NoDeed" [("place",.int i)]):=by
 intro n
 induction n with
 |zero=>intro j p d _ _;exact⟨[ds,p,d],rfl⟩
 | succ n ih=>
   intro j p d hj hm;obtain⟨r,e⟩:=yW wide long wh hw j;have o:=vK wide long wh j;have o2:=vK wide long wh (j+1)
   have hm2:Ms wide long wh (j+1)<=700:=by simp only[Ms];split<;>omega
   have e2:Vs wide long wh (j+1)=(gj long ::r)++[if wh j then .row (gj long ::r)else gj long]:=by rw[Vs,e]
   have hd:=ub (wh j) (gj long) r (by rw[<- e];exact o.1.1) (by rw[<- e];exact o.1.2) (by rw[<- e,o.2.1];omega);rw[<- e2,<- e]at hd;have hs:=eh _ o2.1.1 o2.1.2 (by rw[o2.2.1];omega);rw[o2.2.1]at hs;have hv:=xx _ o2.1.1 o2.1.2 (by have:=o2.2.2;omega) (by rw[o2.2.1];omega);have ht:=mF _ _ _ ds (j:Int) _ _ hd hs hv;rw[List.range'_succ,List.map_cons]
   have e0:eC 2 3 cx (iu j (b9 (wh j) ::(List.range' (j+1) n).map fun i=>b9 (wh i))) [some (.sh (PJ.enc (.row (Vs wide long wh j)))),ds,p,d] =
     (cx [some (.sh (PJ.enc (.row (Vs wide long wh j)))),ds,some (.sh (.int j)),some (.sh (b9 (wh j)))]).turn (eC 2 3 cx (iu (j+1) ((List.range' (j+1) n).map fun i=>b9 (wh i)))):=rfl
   rw[e0,ht]
   by_cases h3:Ms wide long wh (j+1)<=300
   . obtain⟨ρ,h⟩:=ih (j+1) (some (.sh (.int j))) (some (.sh (b9 (wh j)))) (by omega) h3
     refine⟨ρ,?_⟩
     rw[if_pos ⟨h3,rfl⟩,sV,h]
     have:first wide long wh (n+1) j=first wide long wh n (j+1):=if_pos h3
     rw[this,show j+(n+1)=j+1+n by omega]
   . refine⟨[some (.sh (PJ.enc (.row (Vs wide long wh (j+1))))),ds,some (.sh (.int j)),some (.sh (b9 (wh j)))],?_⟩
     rw[if_neg (fun z=>h3 z.1)]
     have:first wide long wh (n+1) j=some j:=if_neg h3
     rw[this];rfl
end
theorem qq(x ds:PV)(r:RV)(h:b7 [x,ds]=.ok r):bz [x,ds]=.ok (.sh (.int (-1))):=by
 simp[eY,eX,gS,bz,jT,h]
theorem nA(x ds:PV)(i:Int)(h:b7 [x,ds]=.exc "NoDeed" [("place",.int i)]):bz [x,ds]=.ok (.sh (.int i)):=by
 simp[eY,eX,gS,bz,jT,h,cD,vH,nz,Bg,List.lookup]
noncomputable def due(o:Option Nat):Int:=match o with
 |some i=>i
 |none=>-1
theorem oY(wide long:Nat)(wh:Nat->Bool)(hw:0<wide)(hl:long<=100)(n:Nat)(hn:n<=60)(hm:Ms wide long wh 0<=300):
  bz [PJ.enc (.row (Vs wide long wh 0)),.lst ((List.range n).map fun i=>b9 (wh i))]=.ok (.sh (.int (due (first wide long wh n 0)))):=by
 obtain⟨ρ,h⟩:=sr wide long wh hw hl (some (.sh (.lst ((List.range n).map fun i=>b9 (wh i))))) n 0 none none (by omega) hm;rw[<- List.range_eq_range']at h
 cases e:first wide long wh n 0 with
 | none=>
   rw[e]at h;refine qq _ _ (.sh (PJ.enc (.row (Vs wide long wh (0+n))))) ?_;simp -implicitDefEqProofs [b7,fF,lp,qF,h]
 | some i=>
   rw[e]at h;refine nA _ _ (i:Int) ?_;simp -implicitDefEqProofs [b7,fF,lp,qF,h]
theorem rC(wide long:Nat)(wh:Nat->Bool):∀ n j,first wide long wh (n+1) j=(match first wide long wh n j with|some i=>some i|none=>if Ms wide long wh (j+n+1)<=300 then none else some (j+n)):=by
 intro n
 induction n with
 |zero=>intro j;simp[first]
 | succ n ih=>
   intro j;rw[first,ih (j+1)]
   by_cases h:Ms wide long wh (j+1)<=300
   . have e:first wide long wh (n+1) j=first wide long wh n (j+1):=if_pos h
     rw[if_pos h,e,show j+1+n+1=j+(n+1)+1 by omega,show j+1+n=j+(n+1) by omega]
   . have e:first wide long wh (n+1) j=some j:=if_neg h
     rw[if_neg h,e]
theorem we(wide long:Nat)(wh:Nat->Bool)(k:Nat):due (first wide long wh (k+1) 0)=if 300<Ms wide long wh (k+1) /\ due (first wide long wh k 0)<0 then(k:Int)else due (first wide long wh k 0):=by
 rw[rC]
 cases e:first wide long wh k 0 with
 | some i=>
   have:¬ ((i:Int)<0):=by omega
   simp[due,this]
 | none=>
   by_cases h:Ms wide long wh (k+1)<=300
   . have:¬ 300<Ms wide long wh (k+1):=by omega
     simp[due,h,this]
   . have:300<Ms wide long wh (k+1):=by omega
     simp[due,h,this]
noncomputable abbrev lE(ns:List Int)(w l:Int)(t f:PV)(many:Int)(ds:List PV)(du:Int)(k p:Option Sl):aa:=
 [some (.sh (.lst (ns.map .int))),some (.sh (.int w)),some (.sh (.int l)),some (.sh t),some (.sh (.int many)),some (.sh f),some (.ow ds),some (.sh (.int du)),k,p,none,none,none,none,none]
theorem vm(ns:List Int)(w l:Int)(t f:PV)(many:Int)(ds:List PV)(du:Int)(k0 p:Option Sl)(k:Nat)(hk:k<=100)(hd:ds.length<=100):
  ∃ p',ig (lE ns w l t f many ds du (some (.sh (.int k))) p)=.nx (lE ns w l t f (many+if decide (PG.mix ns 4/(1+(k:Int))%2=0)then many else 1+l) (ds++[b9 (decide (PG.mix ns 4/(1+(k:Int))%2=0))])
    (if 300<(many+if decide (PG.mix ns 4/(1+(k:Int))%2=0)then many else 1+l) /\ du<0 then(k:Int)else du) (some (.sh (.int k))) p'):=by
 have hm:=bp ns 4
 have h1:(0:Int)<1+(k:Int) /\ 1+(k:Int)<1073741824:=by omega
 have hl:ds.length<lim:=Bn (by omega)
 have l1:1<=lim:=bQ (by decide)
 by_cases h:PG.mix ns 4/(1+(k:Int))%2=0
 . refine⟨some (.sh (.tup [])),?_⟩
   have e1:b3 9 (oP (aQ (mOp gEq (mOp gE (mOp uA (aI bc (ah (ao 0) (ah (mC (.int 4)) aC))) (mOp dM (mC (.int 1)) (ao 8))) (mC (.int 2))) (mC (.int 0)))) (bO aC) (bO (ah (bO (ah (mC (.int 48)) aC)) aC))) (lE ns w l t f many ds du (some (.sh (.int k))) p)=.nx (lE ns w l t f many ds du (some (.sh (.int k))) (some (.sh (.tup [])))):=by
    simp -implicitDefEqProofs [lE,hm,h1,h]
   unfold ig;rw[bJ e1]
   by_cases h2:300<many+many<;>by_cases h3:du<0<;>simp -implicitDefEqProofs [lE,h,hl,h2,h3,b9]
 . refine⟨some (.sh (.tup [zr])),?_⟩
   have e1:b3 9 (oP (aQ (mOp gEq (mOp gE (mOp uA (aI bc (ah (ao 0) (ah (mC (.int 4)) aC))) (mOp dM (mC (.int 1)) (ao 8))) (mC (.int 2))) (mC (.int 0)))) (bO aC) (bO (ah (bO (ah (mC (.int 48)) aC)) aC))) (lE ns w l t f many ds du (some (.sh (.int k))) p)=.nx (lE ns w l t f many ds du (some (.sh (.int k))) (some (.sh (.tup [zr])))):=by
    simp -implicitDefEqProofs [lE,hm,h1,h,zr,l1]
   unfold ig;rw[bJ e1]
   by_cases h2:300<many+(1+l)<;>by_cases h3:du<0<;>simp -implicitDefEqProofs [lE,h,hl,h2,h3,b9]
theorem pA{ρ:aa}{i:Nat}{me:aa->OE}{P:aa->OS}{j:Int}(h1:me ρ=.ok (.sh (.int j)))(hi:-4611686018427387904<=j /\ j<4611686018427387904):iw i me P ρ=cJ i P (bR j.toNat) ρ:=by
 simp -implicitDefEqProofs [iw,h1,hi]
theorem wy{ρ:aa}{ι:List Nat}{mn me:aa->OE}{j:Int}(h1:mn ρ=.ok (.sh (.int j)))(hi:-4611686018427387904<=j /\ j<4611686018427387904):iD mn ι me ρ=noX (bA me (bU ι ρ) (bR j.toNat)):=by
 simp -implicitDefEqProofs [iD,h1,hi]
theorem jU(n:Nat):bR n=(List.range' 0 n).map fun k:Nat=>.int k:=by simp[bR,List.range_eq_range']
theorem p0(ns:List Int)(wide long:Nat)(t f:PV)(wh:Nat->Bool)(hwh:wh=fun k:Nat=>decide (PG.mix ns 4/(1+(k:Int))%2=0)):∀(n j:Nat) (k p:Option Sl),j+n<=60->∃ k' p',
  cJ 8 ig ((List.range' j n).map fun k:Nat=>.int k) (lE ns wide long t f (Ms wide long wh j) ((List.range j).map fun i=>b9 (wh i)) (due (first wide long wh j 0)) k p) =
   .nx (lE ns wide long t f (Ms wide long wh (j+n)) ((List.range (j+n)).map fun i=>b9 (wh i)) (due (first wide long wh (j+n) 0)) k' p'):=by
 intro n
 induction n with
 |zero=>intro j k p _;exact⟨k,p,rfl⟩
 | succ n ih=>
   intro j k p hj;obtain⟨p1,h⟩:=vm ns wide long t f (Ms wide long wh j) ((List.range j).map fun i=>b9 (wh i)) (due (first wide long wh j 0)) k p j (by omega) (by simp;omega);obtain⟨k',p',h2⟩:=ih (j+1) (some (.sh (.int j))) p1 (by omega)
   refine⟨k',p',?_⟩
   have ew:decide (PG.mix ns 4/(1+(j:Int))%2=0)=wh j:=by rw[hwh]
   rw[ew]at h
   have eM:((Ms wide long wh j:Int)+if wh j=true then(Ms wide long wh j:Int)else 1+(long:Int))=(Ms wide long wh (j+1):Nat):=by
    simp only[Ms]
    split<;>simp
   have eD:(if 300<((Ms wide long wh (j+1):Nat):Int) /\ due (first wide long wh j 0)<0 then(j:Int)else due (first wide long wh j 0))=due (first wide long wh (j+1) 0):=by
    rw[we]
    have:(300<((Ms wide long wh (j+1):Nat):Int))↔300<Ms wide long wh (j+1):=by omega
    simp only[this]
   rw[eM,eD]at h
   have eL:((List.range j).map fun i=>b9 (wh i))++[b9 (wh j)]=(List.range (j+1)).map fun i=>b9 (wh i):=by simp[List.range_succ]
   rw[eL]at h;rw[List.range'_succ,List.map_cons,g7 (ρ':=lE ns wide long t f (Ms wide long wh (j+1)) ((List.range (j+1)).map fun i=>b9 (wh i)) (due (first wide long wh (j+1) 0)) (some (.sh (.int j))) p1) h,h2,show j+1+n=j+(n+1) by omega]
theorem yf(l:Nat)(h1:1<=l)(h2:l<=100):nR (.tup [.non]) (.int l)=some (.sh (.tup (PJ.aU (List.replicate l (.lf .non))))):=by
 have e:∀ n:Nat,PJ.aU (List.replicate n (.lf .non))=(List.replicate n [PV.non]).flatten:=by
  intro n
  induction n with
  |zero=>rfl
  |succ n ih=>rw[List.replicate_succ,PJ.aU,ih,List.replicate_succ];rfl
 rw[e]
 by_cases h:l=1
 . subst h
   have hn:¬ (((2:Int)<=((1:Nat):Int) /\ ((1:Nat):Int)<2 ^ 63) /\ [PV.non].isEmpty=false /\ [PV.non].length*((1:Nat):Int).toNat<=lim):=fun z=>absurd z.1.1 (by decide)
   unfold nR;dsimp only;rw[if_neg hn,if_pos (by decide)];rfl
 . have hl:[PV.non].length*(l:Int).toNat<=lim:=bQ (by simp;omega)
   have h3:(2:Int)<=l /\ (l:Int)<2 ^ 63:=⟨by omega,by omega⟩
   unfold nR;dsimp only;rw[if_pos ⟨h3,rfl,hl⟩,Int.toNat_natCast]
theorem yr(wide long:Nat)(h1:1<=long)(h2:long<=100)(hw:wide<=100)(ρ:aa)(e1:ao 1 ρ=.ok (.sh (.int wide)))(e2:(ρ[2]?).join=some (.sh (.int long))):
  (bO (ah (mC (.str "row")) (ah (mUn oW (iD (ao 1) [2] jn)) aC))) ρ=.ok (.sh (PJ.enc (.row (Vs wide long (fun _=>true) 0)))):=by
 have l2:2<=lim:=bQ (by decide)
 have hel:bA jn [some (.sh (.int long))] (bR wide)=.ok ((List.range wide).map fun _=>PJ.enc (gj long)):=by
  refine jZ _ fun a _=>?_
  have hr:=yf long h1 h2;simp -implicitDefEqProofs [jn,hr,l2,gj,PJ.enc]
 have hp:bU [2] ρ=[some (.sh (.int long))]:=by simp[bU,e2]
 have hl:((List.range wide).map fun _=>PJ.enc (gj long)).length<=lim:=by simp;exact bQ (by omega)
 have hc:(iD (ao 1) [2] jn) ρ=.ok (.fr ((List.range wide).map fun _=>PJ.enc (gj long))):=by
  rw[wy e1 (by omega),hp,Int.toNat_natCast,hel,noX,if_pos hl]
 have ee:(List.range wide).map (fun _=>PJ.enc (gj long))=PJ.aU (Vs wide long (fun _=>true) 0):=by
  simp[Vs,PJ.kW,List.map_const']
 rw[ee]at hc
 simp -implicitDefEqProofs only[bO,ah,mC,mUn,hc,OE.bind,OE.bP,fh,RV.pv,oW,oE,aC,OA.bP,OA.bind,List.length_cons,List.length_nil]
 rw[if_pos l2];rfl
theorem yE(n:Int):cy [.int n]=.ok (.sh (.bl true)):=by simp[ka,cy]
theorem Bk(i j:Int)(h:-1000<i)(h2:i<1000):pk (.int i) (.int j)=some (.sh (.int (i*j))):=by
 have:(decide (-(2 ^ 64)<i)&&decide (i<2 ^ 64))=true:=by simp only[Bool.and_eq_true,decide_eq_true_eq];omega
 unfold pk gI;simp only[this,Bool.true_or,if_true]
theorem lR(n m:Nat)(v:PJ.JV)(h:Tw m v):Tw (n+m) (rows n v):=by
 induction n with
 |zero=>simpa [rows]using h
 |succ n ih=>rw[Nat.succ_add];exact .row ih
theorem qo(g d:Nat)(hg:g<20)(hd:d<=100):bz [PJ.enc (rows g (.fld [] [])),.lst [.tup [.str "add",.tup (List.replicate g zr++[.tup [.int 97]]),PJ.enc (rows d (.lf .non))]]]=.ok (.sh (.int (if 64<d+(g+1)then 0 else -1))):=by
 have tw:Tw (g+(d+1)) (rows g (.fld [[97]] [rows d (.lf .non)])):=lR g (d+1) _ (.fld (by simpa using lR d 0 _ .non))
 have hd1:=yJ g (rows d (.lf .non)) hg;have hs:=eh _ tw.ok.1 tw.ok.2.1 (by rw[tw.ok.2.2];omega);rw[tw.ok.2.2]at hs;have hv:=wL tw (by omega)
 have ht:=fun ds=>mF _ _ _ ds ((0:Nat):Int) _ _ hd1 hs hv
 by_cases h:64<d+(g+1)
 . rw[if_pos h]
   have hb:decide (g+(d+1)<=64)=false:=decide_eq_false (by omega)
   refine nA _ _ 0 ?_;have h2:=ht (some (.sh (.lst [.tup [.str "add",.tup (List.replicate g zr++[.tup [.int 97]]),PJ.enc (rows d (.lf .non))]])));rw[hb,if_neg (fun z=>(nomatch z.2))]at h2
   simp -implicitDefEqProofs [b7,fF,lp,qF,iu,eC]at h2 ⊢
   simp -implicitDefEqProofs [h2]
 . rw[if_neg h]
   have hb:decide (g+(d+1)<=64)=true:=decide_eq_true (by omega)
   refine qq _ _ (.sh (PJ.enc (rows g (.fld [[97]] [rows d (.lf .non)])))) ?_;have h2:=ht (some (.sh (.lst [.tup [.str "add",.tup (List.replicate g zr++[.tup [.int 97]]),PJ.enc (rows d (.lf .non))]])));rw[hb,if_pos ⟨by omega,rfl⟩]at h2
   simp -implicitDefEqProofs [b7,fF,lp,qF,iu,eC]at h2 ⊢
   simp -implicitDefEqProofs [h2]
noncomputable abbrev tE(s:PV)(w l t m f:Option Sl)(du k:Option Sl)(deep ins goal out nm:Option Sl):aa:=[some (.sh s),w,l,t,m,f,none,du,k,none,deep,ins,goal,out,nm]
theorem qP(s:PV)(w l t m f du deep goal out nm:Option Sl):∀(n j:Nat) (k:Option Sl),j+n<=100->∃ k',cJ 8 kL ((List.range' j n).map fun k:Nat=>.int k) (tE s w l t m f du k deep (some (.sh (PJ.enc (rows j (.lf .non))))) goal out nm)=.nx (tE s w l t m f du k' deep (some (.sh (PJ.enc (rows (j+n) (.lf .non))))) goal out nm):=by
 intro n
 induction n with
 |zero=>intro j k _;exact⟨k,rfl⟩
 | succ n ih=>
   intro j k hj;obtain⟨k',h⟩:=ih (j+1) (some (.sh (.int j))) (by omega)
   have l1:1<=lim:=bQ (by decide)
   refine⟨k',?_⟩
   rw[List.range'_succ,List.map_cons,g7 (ρ':=tE s w l t m f du (some (.sh (.int j))) deep (some (.sh (PJ.enc (rows (j+1) (.lf .non))))) goal out nm) (by simp -implicitDefEqProofs [kL,tE,l1,rows,PJ.enc,PJ.aU]),h,show j+1+n=j+(n+1) by omega]
theorem rF(s:PV)(w l t m f du deep ins goal:Option Sl):∀(n j:Nat) (k:Option Sl),j+n<=100->∃ k',cJ 8 kH ((List.range' j n).map fun k:Nat=>.int k) (tE s w l t m f du k deep ins goal (some (.sh (PJ.enc (rows j (.fld [] []))))) (some (.sh (.tup (List.replicate j zr)))))=.nx (tE s w l t m f du k' deep ins goal (some (.sh (PJ.enc (rows (j+n) (.fld [] []))))) (some (.sh (.tup (List.replicate (j+n) zr))))):=by
 intro n
 induction n with
 |zero=>intro j k _;exact⟨k,rfl⟩
 | succ n ih=>
   intro j k hj;obtain⟨k',h⟩:=ih (j+1) (some (.sh (.int j))) (by omega)
   have l1:1<=lim:=bQ (by decide)
   have l2:j+1<=lim:=bQ (by omega)
   have e:List.replicate (j+1) zr=List.replicate j zr++[PV.tup [.int 48]]:=List.replicate_succ'
   refine⟨k',?_⟩
   rw[List.range'_succ,List.map_cons,g7 (ρ':=tE s w l t m f du (some (.sh (.int j))) deep ins goal (some (.sh (PJ.enc (rows (j+1) (.fld [] []))))) (some (.sh (.tup (List.replicate (j+1) zr))))) (by rw[e];simp -implicitDefEqProofs [kH,tE,l1,l2,rows,PJ.enc,PJ.aU,dA]),h,show j+1+n=j+(n+1) by omega]
theorem qS(ns:List Int)(wide long:Nat)(hw:1<=wide /\ wide<=9)(hl:1<=long /\ long<=9)(f:PV)(h2:PG.mix ns 2%2=0):
  ∃ ρ,fW [some (.sh (.lst (ns.map .int))),some (.sh (.int wide)),some (.sh (.int long)),some (.sh (PJ.enc (.row (Vs wide long (fun _=>true) 0)))),some (.sh (.int (1+wide*(1+long):Nat))),some (.sh f),none,none,none,none,none,none,none,none,none]=.rt ρ (.sh (.bl true)):=by
 let wh:Nat->Bool:=fun k:Nat=>decide (PG.mix ns 4/(1+(k:Int))%2=0)
 have m3:=mz ns 3
 obtain⟨n,hn⟩:∃ n:Nat,(n:Int)=1+PG.mix ns 3%12:=⟨(1+PG.mix ns 3%12).toNat,by omega⟩
 have hn2:n<=12:=by omega
 have hv0:Vs wide long (fun _=>true) 0=Vs wide long wh 0:=rfl
 have hM:Ms wide long wh 0<=300:=by
  have:wide*(1+long)<=9*10:=Nat.mul_le_mul hw.2 (by omega)
  simp only[Ms];omega
 obtain⟨k',p',hloop⟩:=p0 ns wide long (PJ.enc (.row (Vs wide long wh 0))) f wh rfl n 0 none none (by omega);rw[Nat.zero_add]at hloop;have hpl:=oY wide long wh (by omega) (by omega) n (by omega) hM;have hmix2:=bp ns 2;have hmix3:=bp ns 3
 have hc:(aQ (mOp gEq (mOp gE (aI bc (ah (ao 0) (ah (mC (.int 2)) aC))) (mC (.int 2))) (mC (.int 0)))) [some (.sh (.lst (ns.map .int))),some (.sh (.int wide)),some (.sh (.int long)),some (.sh (PJ.enc (.row (Vs wide long (fun _=>true) 0)))),some (.sh (.int (1+wide*(1+long):Nat))),some (.sh f),none,none,none,none,none,none,none,none,none]=.ok true:=by
  simp[hmix2,h2]
 rw[hv0]at hc ⊢
 refine⟨(lE ns wide long (PJ.enc (.row (Vs wide long wh 0))) f (Ms wide long wh n) ((List.range n).map fun i=>b9 (wh i)) (due (first wide long wh n 0)) k' p').set 6 (some (.sh (.lst ((List.range n).map fun i=>b9 (wh i))))),?_⟩
 unfold fW;refine st hc ?_
 refine(bJ (ρ':=[some (.sh (.lst (ns.map .int))),some (.sh (.int wide)),some (.sh (.int long)),some (.sh (PJ.enc (.row (Vs wide long wh 0)))),some (.sh (.int (1+wide*(1+long):Nat))),some (.sh f),some (.ow []),none,none,none,none,none,none,none,none]) (by simp)).trans ?_
 refine(bJ (ρ':=lE ns wide long (PJ.enc (.row (Vs wide long wh 0))) f (Ms wide long wh 0) ((List.range 0).map fun i=>b9 (wh i)) (due (first wide long wh 0 0)) none none) (by simp[lE,Ms,due,first])).trans ?_
 have hf:iw 8 (mOp dM (mC (.int 1)) (mOp gE (aI bc (ah (ao 0) (ah (mC (.int 3)) aC))) (mC (.int 12)))) ig (lE ns wide long (PJ.enc (.row (Vs wide long wh 0))) f (Ms wide long wh 0) ((List.range 0).map fun i=>b9 (wh i)) (due (first wide long wh 0 0)) none none)=.nx (lE ns wide long (PJ.enc (.row (Vs wide long wh 0))) f (Ms wide long wh n) ((List.range n).map fun i=>b9 (wh i)) (due (first wide long wh n 0)) k' p'):=by
  rw[pA (j:=(n:Int)) (by simp[lE,hmix3,hn]) (by omega),Int.toNat_natCast,jU];exact hloop
 refine(bJ hf).trans ?_
 simp -implicitDefEqProofs [lE,jm,kF,hpl]
theorem rA(ns:List Int)(wide long:Nat)(t m f:Option Sl)(h2:¬ PG.mix ns 2%2=0):
  ∃ ρ,fW [some (.sh (.lst (ns.map .int))),some (.sh (.int wide)),some (.sh (.int long)),t,m,f,none,none,none,none,none,none,none,none,none]=.rt ρ (.sh (.bl true)):=by
 have m3:=mz ns 3;have m4:=mz ns 4
 obtain⟨d,hd⟩:∃ d:Nat,(d:Int)=50+PG.mix ns 3%20:=⟨(50+PG.mix ns 3%20).toNat,by omega⟩
 obtain⟨g,hg⟩:∃ g:Nat,(g:Int)+1=1+PG.mix ns 4%14:=⟨(PG.mix ns 4%14).toNat,by omega⟩
 have hmix2:=bp ns 2;have hmix3:=bp ns 3;have hmix4:=bp ns 4
 have hc:(aQ (mOp gEq (mOp gE (aI bc (ah (ao 0) (ah (mC (.int 2)) aC))) (mC (.int 2))) (mC (.int 0)))) [some (.sh (.lst (ns.map .int))),some (.sh (.int wide)),some (.sh (.int long)),t,m,f,none,none,none,none,none,none,none,none,none]=.ok false:=by
  simp[hmix2,h2]
 let s:PV:=.lst (ns.map .int)
 let w:Option Sl:=some (.sh (.int wide))
 let l:Option Sl:=some (.sh (.int long))
 obtain⟨k1,hl1⟩:=qP s w l t m f none (some (.sh (.int d))) none none none d 0 none (by omega);rw[Nat.zero_add]at hl1;obtain⟨k2,hl2⟩:=rF s w l t m f none (some (.sh (.int d))) (some (.sh (PJ.enc (rows d (.lf .non))))) (some (.sh (.int ((g:Int)+1)))) g 0 k1 (by omega);rw[Nat.zero_add]at hl2;unfold fW;rw[sk hc];unfold tK;rw[bJ (ρ':=tE s w l t m f none none (some (.sh (.int d))) none none none none) (by simp[tE,hmix3,hd,s,w,l])];unfold tL;rw[bJ (ρ':=tE s w l t m f none none (some (.sh (.int d))) (some (.sh (PJ.enc (rows 0 (.lf .non))))) none none none) (by simp[tE,rows,PJ.enc])];unfold qu
 have hf1:iw 8 (ao 10) kL (tE s w l t m f none none (some (.sh (.int d))) (some (.sh (PJ.enc (rows 0 (.lf .non))))) none none none)=.nx (tE s w l t m f none k1 (some (.sh (.int d))) (some (.sh (PJ.enc (rows d (.lf .non))))) none none none):=by
  rw[pA (j:=(d:Int)) (by simp[tE]) (by omega),Int.toNat_natCast,jU];exact hl1
 rw[bJ hf1];unfold qG;rw[bJ (ρ':=tE s w l t m f none k1 (some (.sh (.int d))) (some (.sh (PJ.enc (rows d (.lf .non))))) (some (.sh (.int ((g:Int)+1)))) none none) (by simp[tE,hmix4,hg,s])];unfold qf;rw[bJ (ρ':=tE s w l t m f none k1 (some (.sh (.int d))) (some (.sh (PJ.enc (rows d (.lf .non))))) (some (.sh (.int ((g:Int)+1)))) (some (.sh (PJ.enc (rows 0 (.fld [] []))))) none) (by simp[tE,rows,PJ.enc,PJ.aU])];unfold qp;rw[bJ (ρ':=tE s w l t m f none k1 (some (.sh (.int d))) (some (.sh (PJ.enc (rows d (.lf .non))))) (some (.sh (.int ((g:Int)+1)))) (some (.sh (PJ.enc (rows 0 (.fld [] []))))) (some (.sh (.tup (List.replicate 0 zr))))) (by simp[tE])];unfold qB
 have hf2:iw 8 (mOp u3 (ao 12) (mC (.int 1))) kH (tE s w l t m f none k1 (some (.sh (.int d))) (some (.sh (PJ.enc (rows d (.lf .non))))) (some (.sh (.int ((g:Int)+1)))) (some (.sh (PJ.enc (rows 0 (.fld [] []))))) (some (.sh (.tup (List.replicate 0 zr)))))=.nx (tE s w l t m f none k2 (some (.sh (.int d))) (some (.sh (PJ.enc (rows d (.lf .non))))) (some (.sh (.int ((g:Int)+1)))) (some (.sh (PJ.enc (rows g (.fld [] []))))) (some (.sh (.tup (List.replicate g zr))))):=by
  rw[pA (j:=(g:Int)) (by simp[tE]) (by omega),Int.toNat_natCast,jU];exact hl2
 rw[bJ hf2];unfold qy
 by_cases h64:64<(d:Int)
 . exact⟨_,st (ρ':=tE s w l t m f none k2 (some (.sh (.int d))) (some (.sh (PJ.enc (rows d (.lf .non))))) (some (.sh (.int ((g:Int)+1)))) (some (.sh (PJ.enc (rows g (.fld [] []))))) (some (.sh (.tup (List.replicate g zr))))) (by simp[tE,h64]) (by simp)⟩
 . rw[sk (by simp[tE,h64])];unfold p9;have hpl:=qo g d (by omega) (by omega)
   have l1:g+1<=lim:=bQ (by omega)
   have l2:1<=lim:=bQ (by decide)
   refine⟨tE s w l t m f (some (.sh (.int (if 64<d+(g+1)then 0 else -1)))) k2 (some (.sh (.int d))) (some (.sh (PJ.enc (rows d (.lf .non))))) (some (.sh (.int ((g:Int)+1)))) (some (.sh (PJ.enc (rows g (.fld [] []))))) (some (.sh (.tup (List.replicate g zr)))),?_⟩
   rw[bJ (ρ':=tE s w l t m f (some (.sh (.int (if 64<d+(g+1)then 0 else -1)))) k2 (some (.sh (.int d))) (some (.sh (PJ.enc (rows d (.lf .non))))) (some (.sh (.int ((g:Int)+1)))) (some (.sh (PJ.enc (rows g (.fld [] []))))) (some (.sh (.tup (List.replicate g zr))))) (by
    by_cases hh:64<d+(g+1)
    . have:(64:Int)<d+(g+1):=by omega
      simp[tE,hh,this]
    . have:¬ (64:Int)<d+(g+1):=by omega
      simp[tE,hh,this])]
   unfold pG;simp -implicitDefEqProofs [tE,dA,l1,l2,hpl]
theorem vM(ns:List Int)(_:ns.length<=63):ng [.lst (ns.map .int)]=.ok (.sh (.bl true)):=by
 have m0:=mz ns 0;have m1:=mz ns 1
 obtain⟨w,hw⟩:∃ w:Nat,(w:Int)=1+PG.mix ns 0%9:=⟨(1+PG.mix ns 0%9).toNat,by omega⟩
 obtain⟨l,hl⟩:∃ l:Nat,(l:Int)=1+PG.mix ns 1%9:=⟨(1+PG.mix ns 1%9).toNat,by omega⟩
 have hmix0:=bp ns 0;have hmix1:=bp ns 1;have o:=vK w l (fun _=>true) 0
 have hM:Ms w l (fun _=>true) 0=1+w*(1+l):=rfl
 have hb:w*(1+l)<=9*10:=Nat.mul_le_mul (by omega) (by omega)
 have hs:=eh _ o.1.1 o.1.2 (by rw[o.2.1,hM];omega);rw[o.2.1,hM]at hs
 have hs1:dO [.non]=.ok (.sh (.int 1)):=by
  have:=eh (.lf .non) rfl trivial (by simp[PJ.size])
  simpa [PJ.enc,PJ.size]using this
 have hs2:=eh (.fld [[]] [.row (Vs w l (fun _=>true) 0)]) ⟨rfl,fun n hn=>by simp at hn;subst hn;rfl,o.1.1,trivial⟩ ⟨fun n hn=>by simp at hn;subst hn;simp,o.1.2,trivial⟩ (by simp only[PJ.size,PJ.ba]at o ⊢;rw[hM]at o;omega)
 have hs3:PJ.size (.fld [[]] [.row (Vs w l (fun _=>true) 0)])=1+w*(1+l)+1:=by
  have:=o.2.1
  simp only[PJ.size,PJ.ba]at this ⊢
  rw[hM]at this;omega
 rw[hs3]at hs2
 let T:PV:=PJ.enc (.row (Vs w l (fun _=>true) 0))
 let ρ3:aa:=[some (.sh (.lst (ns.map .int))),some (.sh (.int w)),some (.sh (.int l)),some (.sh T),none,none,none,none,none,none,none,none,none,none,none]
 let ρ5:aa:=[some (.sh (.lst (ns.map .int))),some (.sh (.int w)),some (.sh (.int l)),some (.sh T),some (.sh (.int (1+w*(1+l):Nat))),some (.sh (.int (1+w*(1+l):Nat))),none,none,none,none,none,none,none,none,none]
 have hml:sA (eg 15 [.lst (ns.map .int)])=fW ρ5:=by
  unfold sA;rw[bJ (ρ':=[some (.sh (.lst (ns.map .int))),some (.sh (.int w)),none,none,none,none,none,none,none,none,none,none,none,none,none]) (by simp -implicitDefEqProofs [eg,hmix0,hw])];unfold tG;rw[bJ (ρ':=[some (.sh (.lst (ns.map .int))),some (.sh (.int w)),some (.sh (.int l)),none,none,none,none,none,none,none,none,none,none,none,none]) (by simp -implicitDefEqProofs [hmix1,hl])];unfold sZ
  rw[bJ (ρ':=ρ3) (by
   have:=yr w l (by omega) (by omega) (by omega) [some (.sh (.lst (ns.map .int))),some (.sh (.int w)),some (.sh (.int l)),none,none,none,none,none,none,none,none,none,none,none,none] (by simp) (by simp);rw[Ag,this]
   rfl)]
  unfold sX;have hmul:=Bk (w:Int) (1+(l:Int)) (by omega) (by omega);rw[bJ (ρ':=ρ3.set 4 (some (.sh (.int (1+w*(1+l):Nat))))) (by simp -implicitDefEqProofs [ρ3,hmul,-zN])];unfold sO;rw[bJ (ρ':=ρ5) (by simp -implicitDefEqProofs [ρ3,ρ5,T,hs])];unfold tD;rw[sk (by simp -implicitDefEqProofs [ρ5,yE,hs1])];unfold tq
  rw[sk (by
   have e:PJ.enc (.fld [[]] [.row (Vs w l (fun _=>true) 0)])=.tup [.str "fields",.tup [.tup [.tup [],T]]]:=rfl
   rw[e]at hs2
   have l1:1<=lim:=bQ (by decide)
   simp -implicitDefEqProofs [ρ5,hs2,l1])]
 have fin7:∃ ρ,fW ρ5=.rt ρ (.sh (.bl true)):=by
  by_cases h2:PG.mix ns 2%2=0
  . exact qS ns w l (by omega) (by omega) _ h2
  . exact rA ns w l _ _ _ h2
 obtain⟨ρ,h7⟩:=fin7
 have:ng [.lst (ns.map .int)]=fin (sA (eg 15 [.lst (ns.map .int)])):=rfl
 rw[this,hml];exact AJ h7
end L2.plainglass_k51_sizes_kept
namespace L2.plainglass_k51_sizes_kept
open PySem PySem.Spec PyProof.Rows L2.E L2.P PG
def top(i:Nat):Stmt:=PySem.Challenge.pw_plainglass_k51_sizes_kept.main.body.getD i (.Pass ⟨0,0,0,0⟩)
abbrev iQ:Stmt:=top 8
abbrev gH:List Str:=["point"]
theorem pZ:aN ["point"] gH (ay iQ):=dP
abbrev gR:Stmt:=top 13
abbrev gp:List Str:=["byte"]
theorem pz:aN ["byte"] gp (ay gR):=dP
abbrev jO:Stmt:=top 15
abbrev iV:List Str:=["figures"]
theorem fO:aN ["figures","number","figure"] iV (ay jO):=dP
abbrev jM:Stmt:=top 18
abbrev iJ:List Str:=["thing"]
theorem se:aN ["thing"] iJ (ay jM):=dP
abbrev eN:Stmt:=top 19
abbrev dS:List Str:=["thing"]
theorem gA:aN ["thing","kind"] dS (ay eN):=dP
abbrev e9:Stmt:=top 20
abbrev eB:List Str:=["thing"]
theorem dm:aN ["thing","found","at"] eB (ay e9):=dP
abbrev iE:Stmt:=top 21
abbrev gL:List Str:=["thing"]
theorem gT:aN ["thing","pending","pair"] gL (ay iE):=dP
abbrev iN:Stmt:=top 22
abbrev gO:List Str:=["thing"]
theorem qA:aN ["thing"] gO (ay iN):=dP
abbrev dv:Stmt:=top 23
abbrev cU:List Str:=["thing"]
theorem iU:aN ["thing"] cU (ay dv):=dP
abbrev dB:Stmt:=top 24
abbrev dj:List Str:=["thing"]
theorem js:aN ["thing"] dj (ay dB):=dP
abbrev iH:Stmt:=top 25
abbrev gX:List Str:=["thing"]
theorem qk:aN ["thing"] gX (ay iH):=dP
abbrev iR:Stmt:=top 31
abbrev gP:List Str:=["part"]
theorem qh:aN ["part"] gP (ay iR):=dP
abbrev iK:Stmt:=top 32
abbrev hJ:List Str:=["thing","part"]
theorem gW:aN ["thing","part","kind","k","pair","place"] hJ (ay iK):=dP
abbrev oV:Stmt:=top 33
abbrev mM:List Str:=["thing","names"]
theorem mG:aN ["thing","names","part"] mM (ay oV):=dP
abbrev jK:Stmt:=top 36
abbrev iM:List Str:=["thing","deeds"]
theorem gu:aN ["thing","deeds","place","deed"] iM (ay jK):=dP
abbrev rO:Stmt:=top 37
abbrev oC:List Str:=["thing"]
theorem yA:aN ["thing"] oC (ay rO):=dP
abbrev q8:Stmt:=top 38
abbrev oS:List Str:=["thing","deed"]
theorem xw:aN ["thing","deed"] oS (ay q8):=dP
abbrev n6:Stmt:=top 39
abbrev kY:List Str:=["thing","parts","new"]
theorem pM:aN ["thing","parts","new","around"] kY (ay n6):=dP
abbrev gr:Stmt:=top 40
abbrev fg:List Str:=["around","part","new"]
theorem eV:aN ["around","part","new","members","place"] fg (ay gr):=dP
abbrev iG:Stmt:=top 42
abbrev kq:List Str:=["thing","parts","new"]
theorem gM:aN ["thing","parts","new","place","within"] kq (ay iG):=dP
abbrev iW:Stmt:=top 45
abbrev gK:List Str:=["_law_script","_law_k"]
theorem qJ:aN ["_law_script","_law_k"] gK (ay iW):=dP
abbrev jJ:Stmt:=top 46
abbrev iZ:List Str:=["_law_script","_law_k"]
theorem iS:aN ["_law_script","_law_k","_law_number"] iZ (ay jJ):=dP
abbrev gQ:Stmt:=top 47
abbrev fK:List Str:=["_law_found"]
theorem n4:aN ["_law_found"] fK (ay gQ):=dP
abbrev g6:Stmt:=top 49
abbrev gn:List Str:=["_law_thing","_law_deeds"]
theorem dY:aN ["_law_thing","_law_deeds","_law_place_here","e"] gn (ay g6):=dP
abbrev qE:Stmt:=top 50
abbrev rL:List Str:=["_law_script"]
theorem bM:aN ["_law_script","_law_wide","_law_long","_law_thing","_law_many_here","_law_found","_law_deeds","_law_due","_law_k","_law_part","_law_deep","_law_inside","_law_goal","_law_outer","_law_names"] rL (ay qE):=dP
abbrev bW:Stmt:=inClass (top 2) 0
theorem mS:aN ["self","place"] ["self","place"] (ay bW):=⟨rfl,rfl,rfl,by decide +kernel,rfl,by decide +kernel,by decide +kernel⟩
set_option genInjectivity false in
set_option genSizeOf false in
structure Adr where
 cS:Addr
 d_is_point:FuncData
 cv:Addr
 d_is_figure:FuncData
 dz:Addr
 d_counted:FuncData
 bj:Addr
 d_kind_of:FuncData
 aD:Addr
 d_inner_values:FuncData
 bY:Addr
 d_every_value:FuncData
 bX:Addr
 d_is_value:FuncData
 bZ:Addr
 d_has_form:FuncData
 bw:Addr
 d_has_member_form:FuncData
 bB:Addr
 d_are_characters:FuncData
 cW:Addr
 d_is_whole:FuncData
 cA:Addr
 d_place_of:FuncData
 cw:Addr
 d_place_in:FuncData
 cq:Addr
 d_there:FuncData
 b7:Addr
 d_patched:FuncData
 dO:Addr
 d_size:FuncData
 dN:Addr
 d_done:FuncData
 dF:Addr
 d_added:FuncData
 bI:Addr
 d_with_added:FuncData
 cz:Addr
 d_replaced:FuncData
 dc:Addr
 d_law_cell:FuncData
 bc:Addr
 d_law_mix:FuncData
 cy:Addr
 d_law_whole:FuncData
 bz:Addr
 d_law_place:FuncData
 ng:Addr
 d_law:FuncData
 C_GlassError:Addr
 C_NoDeed:Addr
 f_NoDeed_init:Addr
 d_NoDeed_init:FuncData
 C_NotThere:Addr
 v_LAST_POINT:Value
 v_FIRST_PAIRED:Value
 v_LAST_PAIRED:Value
 v_MINUS:Value
 v_NOUGHT:Value
 v_NINE:Value
 v_MOST_BRACKETS:Value
 v_MOST_VALUES:Value
structure Txt(K:PySem.W.Frag)(mg:Str->Option Value)(t:Adr):Prop where
 gq:Ent K mg "is_point" iQ t.cS t.d_is_point gH
 eT:Ent K mg "is_figure" gR t.cv t.d_is_figure gp
 e_counted:Ent K mg "counted" jO t.dz t.d_counted iV
 e_kind_of:Ent K mg "kind_of" jM t.bj t.d_kind_of iJ
 e_inner_values:Ent K mg "inner_values" eN t.aD t.d_inner_values dS
 e_every_value:Ent K mg "every_value" e9 t.bY t.d_every_value eB
 ef:Ent K mg "is_value" iE t.bX t.d_is_value gL
 e_has_form:Ent K mg "has_form" iN t.bZ t.d_has_form gO
 e_has_member_form:Ent K mg "has_member_form" dv t.bw t.d_has_member_form cU
 e_are_characters:Ent K mg "are_characters" dB t.bB t.d_are_characters dj
 fS:Ent K mg "is_whole" iH t.cW t.d_is_whole gX
 e_place_of:Ent K mg "place_of" iR t.cA t.d_place_of gP
 e_place_in:Ent K mg "place_in" iK t.cw t.d_place_in hJ
 jr:Ent K mg "there" oV t.cq t.d_there mM
 e_patched:Ent K mg "patched" jK t.b7 t.d_patched iM
 eh:Ent K mg "size" rO t.dO t.d_size oC
 e_done:Ent K mg "done" q8 t.dN t.d_done oS
 e_added:Ent K mg "added" n6 t.dF t.d_added kY
 e_with_added:Ent K mg "with_added" gr t.bI t.d_with_added fg
 e_replaced:Ent K mg "replaced" iG t.cz t.d_replaced kq
 gd:Ent K mg "_law_cell" iW t.dc t.d_law_cell gK
 bp:Ent K mg "_law_mix" jJ t.bc t.d_law_mix iZ
 e_law_whole:Ent K mg "_law_whole" gQ t.cy t.d_law_whole fK
 e_law_place:Ent K mg "_law_place" g6 t.bz t.d_law_place gn
 vM:Ent K mg "law" qE t.ng t.d_law rL
 n_list:mg "list" = none
 n_len:mg "len" = none
 n_all:mg "all" = none
 n_isinstance:mg "isinstance" = none
 n_tuple:mg "tuple" = none
 n_int:mg "int" = none
 n_bool:mg "bool" = none
 n_enumerate:mg "enumerate" = none
 n_dict:mg "dict" = none
 n_range:mg "range" = none
 n_ValueError:mg "ValueError" = none
 m_GlassError:mg "GlassError" = some (.ref t.C_GlassError)
 e_GlassError:gF K t.C_GlassError [.type "ValueError",.type "Exception",.type "BaseException",.type "object"]
 x_GlassError:PySem.W.excIn K t.C_GlassError [.type "ValueError",.type "Exception",.type "BaseException",.type "object"] "ValueError.__new__" = true
 m_NoDeed:mg "NoDeed" = some (.ref t.C_NoDeed)
 e_NoDeed:gF K t.C_NoDeed [.ref t.C_GlassError,.type "ValueError",.type "Exception",.type "BaseException",.type "object"]
 F_NoDeed_init:Fun K "__init__" "NoDeed.__init__" bW t.f_NoDeed_init t.d_NoDeed_init
 b_NoDeed_init:Binds K t.d_NoDeed_init ["self","place"] []
 k_NoDeed:XMk K mg "NoDeed" t.C_NoDeed t.f_NoDeed_init [.ref t.C_GlassError,.type "ValueError",.type "Exception",.type "BaseException",.type "object"] "place"
 m_NotThere:mg "NotThere" = some (.ref t.C_NotThere)
 e_NotThere:gF K t.C_NotThere [.ref t.C_GlassError,.type "ValueError",.type "Exception",.type "BaseException",.type "object"]
 x_NotThere:PySem.W.excIn K t.C_NotThere [.type "ValueError",.type "Exception",.type "BaseException",.type "object"] "ValueError.__new__" = true
 m_LAST_POINT:mg "LAST_POINT" = some t.v_LAST_POINT
 r_LAST_POINT:RelV (.int 1114111) t.v_LAST_POINT
 m_FIRST_PAIRED:mg "FIRST_PAIRED" = some t.v_FIRST_PAIRED
 r_FIRST_PAIRED:RelV (.int 55296) t.v_FIRST_PAIRED
 m_LAST_PAIRED:mg "LAST_PAIRED" = some t.v_LAST_PAIRED
 r_LAST_PAIRED:RelV (.int 57343) t.v_LAST_PAIRED
 m_MINUS:mg "MINUS" = some t.v_MINUS
 r_MINUS:RelV (.int 45) t.v_MINUS
 m_NOUGHT:mg "NOUGHT" = some t.v_NOUGHT
 r_NOUGHT:RelV (.int 48) t.v_NOUGHT
 m_NINE:mg "NINE" = some t.v_NINE
 r_NINE:RelV (.int 57) t.v_NINE
 m_MOST_BRACKETS:mg "MOST_BRACKETS" = some t.v_MOST_BRACKETS
 r_MOST_BRACKETS:RelV (.int 64) t.v_MOST_BRACKETS
 m_MOST_VALUES:mg "MOST_VALUES" = some t.v_MOST_VALUES
 r_MOST_VALUES:RelV (.int 300) t.v_MOST_VALUES
noncomputable def bF(t:Adr)(c:String):Option Addr:=if c = "GlassError" then some t.C_GlassError else if c = "NoDeed" then some t.C_NoDeed else if c = "NotThere" then some t.C_NotThere else none
theorem jf{K:PySem.W.Frag}{mg:Str->Option Value}{t:Adr}(T:Txt K mg t):∀ c C b,bF t c=some C->df c=some b->km K t.C_NotThere C b:=by
 intro c C b h1 h2;unfold bF at h1;unfold df at h2
 by_cases e:c = "GlassError"
 . subst e;simp at h2
 rw[if_neg e]at h1
 by_cases e:c = "NoDeed"
 . subst e;simp at h2
 rw[if_neg e]at h1
 by_cases e:c = "NotThere"
 . subst e;simp at h1 h2;subst h1;subst h2;exact takes T.e_NotThere T.e_NotThere (by simp)
 rw[if_neg e]at h1;cases h1
theorem ir{K:PySem.W.Frag}{mg:Str->Option Value}{t:Adr}(T:Txt K mg t):∀ c C b,bF t c=some C->cD c=some b->km K t.C_GlassError C b:=by
 intro c C b h1 h2;unfold bF at h1;unfold cD at h2
 by_cases e:c = "GlassError"
 . subst e;simp at h1 h2;subst h1;subst h2;exact takes T.e_GlassError T.e_GlassError (by simp)
 rw[if_neg e]at h1
 by_cases e:c = "NoDeed"
 . subst e;simp at h1 h2;subst h1;subst h2;exact takes T.e_NoDeed T.e_GlassError (by simp)
 rw[if_neg e]at h1
 by_cases e:c = "NotThere"
 . subst e;simp at h1 h2;subst h1;subst h2;exact takes T.e_NotThere T.e_GlassError (by simp)
 rw[if_neg e]at h1;cases h1
theorem rH{K:PySem.W.Frag}{mg:Str->Option Value}{t:Adr}(T:Txt K mg t):∀ c C,bF t c=some C->(c == "NoDeed")=true->∃ bm,gF K C bm /\ ((∃ B bmB,(.ref t.C_NoDeed:V)=.ref B /\ gF K B bmB /\ (Value.ref C ::bm).contains (.ref B)=true) \/ ((.ref t.C_NoDeed:V)=.ty "ValueError" /\ bm.contains (.type "ValueError")=true)):=by
 intro c C h1 h2;unfold bF at h1
 by_cases e:c = "GlassError"
 . subst e;simp at h2
 rw[if_neg e]at h1
 by_cases e:c = "NoDeed"
 . subst e;simp at h1;subst h1;exact⟨_,T.e_NoDeed,.inl ⟨_,_,rfl,T.e_NoDeed,by simp⟩⟩
 rw[if_neg e]at h1
 by_cases e:c = "NotThere"
 . subst e;simp at h2
 rw[if_neg e]at h1;cases h1
theorem vD{K:PySem.W.Frag}{mg:Str->Option Value}{t:Adr}(T:Txt K mg t):∀ c C,bF t c=some C->(c == "NoDeed")=true->lM K C "place":=by
 intro c C h1 h2;unfold bF at h1
 by_cases e:c = "GlassError"
 . subst e;simp at h2
 rw[if_neg e]at h1
 by_cases e:c = "NoDeed"
 . subst e;simp at h1;subst h1;exact T.k_NoDeed.xc
 rw[if_neg e]at h1
 by_cases e:c = "NotThere"
 . subst e;simp at h2
 rw[if_neg e]at h1;cases h1
section
variable{P:Program}{w:World}{K:PySem.W.Frag}{mg:Str->Option Value}{base:Heap}{t:Adr}
theorem kR(T:Txt K mg t):bH P w K mg base (CXE P w) 1 t.f_NoDeed_init t.d_NoDeed_init ["self","place"] (kX t.C_NoDeed "place"):=xP T.F_NoDeed_init mS T.k_NoDeed.xc fun _ _ _ _ _ _=>wQ (qv 0) (qv 1)
theorem eI(T:Txt K mg t):bH P w K mg base (CXE P w) 1 t.bj t.d_kind_of iJ (spP K (bF t) bj):=
 dQ T.e_kind_of.F se fun _ _ _ _ _ _ hr=>⟨_,(ai (bE (b1 vo (qv 0) fR) (av (aH bh)) aJ)
   (ai (bE (b1 oH (qv 0) fk) (av (aH bh)) aJ)
   (ai (bE (b1 oH (qv 0) fk) (av (aH bh)) aJ)
   (av (aH (qi aS (qv 0) aq)))))),
  (ax (bD (aG (ar vz af fU)) (aT br) aK)
    (ax (bD (aG (ar nV af fj)) (aT br) aK)
    (ax (bD (aG (ar nV af fj)) (aT br) aK)
    (aT (ar aR af aj)))))⟩
theorem cN(T:Txt K mg t):bH P w K mg base (CXE P w) 2 t.aD t.d_inner_values dS (spP K (bF t) aD):=
 dQ T.e_inner_values.F gA fun _ _ _ _ _ _ hr=>⟨_,(ai (qz 1 gA.nd (qx (eI T) T.e_kind_of hr aF (ae (qv 0) ak)))
   (ai (bE (b1 cu (qv 1) bh) (av (aH (ij oo rfl T.n_list L2.E.boot_list (ae (qi aS (qv 0) aq) ak)))) aJ)
   (ai (bE (b1 cu (qv 1) bh) (av (aH (ie (M:=[]) (ι:=[]) (x:="pair") ⟨rfl,rfl,rfl,rfl,rfl,rfl,rfl,rfl,rfl,rfl,rfl,by decide +kernel⟩ rfl (pd (qi aS (qv 0) aq)) fun _ _ _ _=>(qi aS (qv 0) aq)))) aJ)
   (av (aH (lh ak)))))),
  (ax (aV (aB (ag af aw)))
    (ax (bD (aG (ar (cC hr.units) af br)) (aT (cR su (ar aR af aj))) aK)
    (ax (bD (aG (ar (cC hr.units) af br)) (aT (jj (by decide) (ar aR af aj) (ar aR af aj))) aK)
    (aT (mj aw)))))⟩
theorem mQ(T:Txt K mg t):bH P w K mg base (CXE P w) 3 t.bY t.d_every_value eB (spP K (bF t) bY):=
 dQ T.e_every_value.F dm fun _ _ _ _ _ _ hr=>⟨_,(ai (qz 1 dm.nd (lh (ae (qv 0) ak)))
   (ai (qz 2 dm.nd aq)
   (ai (pL eQ (b1 nO (qv 2) (m6 T.n_len (qv 1))) (ai (qex uD (qv 1) (qx (cN T) T.e_inner_values hr aF (ae (qi kM (qv 1) (qv 2)) ak)))
   (av (Ay (i:=2) dm.nd rfl (Or.inl rfl) aq AK))))
   (av (aH (qv 1)))))),
  (ax (aV (mj (ag af aw)))
    (ax (aV aj)
    (ax (pI (aG (ar nk af (cR fe af))) (ax (uO (aB (ag (ar og af af) aw)))
    (qV aj)))
    de)))⟩
theorem kI(T:Txt K mg t):bH P w K mg base (CXE P w) 4 t.dO t.d_size oC (spP K (bF t) dO):=
 dQ T.eh.F yA fun _ _ _ _ _ _ hr=>⟨_,(av (aH (m6 T.n_len (qx (mQ T) T.e_every_value hr aF (ae (qv 0) ak))))),
  (aT (cR fe (aB (ag af aw))))⟩
theorem rY(T:Txt K mg t):bH P w K mg base (CXE P w) 1 t.dz t.d_counted iV (spP K (bF t) dz):=
 dQ T.e_counted.F fO fun _ _ _ _ _ _ hr=>⟨_,(ai (qz 1 fO.nd aq)
   (ai (jL eQ rfl (wR (qv 0)) (fY (i:=2) fO.nd rfl (by first|exact Or.inl rfl|exact Or.inr rfl)) (av (qz 1 fO.nd (aX uZ (aX cm (aX lF aq (qv 1)) (qv 2)) (dk rfl T.m_NOUGHT T.r_NOUGHT)))))
   (av (aH (qv 1))))),
  (ax (aV aj)
    (ax (sF af (aV (ar v9 (ar cp (ar lY aj af) af) aj)))
    de))⟩
theorem pe(T:Txt K mg t):bH P w K mg base (CXE P w) 1 t.cv t.d_is_figure gp (spP K (bF t) cv):=
 dQ T.eT.F pz fun _ _ _ _ _ _ hr=>⟨_,(av (aH (mR p5 p5 (dk rfl T.m_NOUGHT T.r_NOUGHT) (qv 0) (dk rfl T.m_NINE T.r_NINE)))),
  (aT (mI p7 p7 aj af aj))⟩
theorem kz(T:Txt K mg t):bH P w K mg base (CXE P w) 2 t.cA t.d_place_of gP (spP K (bF t) cA):=
 dQ T.e_place_of.F qh fun _ _ _ _ _ _ hr=>⟨_,(ai (bE (gU (kg (fc (b8 (qv 0) (fun _=>rfl))) (jH (fc (b8 (b6 jF rfl T.n_all L2.E.boot_all (ae (ie (M:=[]) (ι:=[]) (x:="sign") ⟨rfl,rfl,rfl,rfl,rfl,rfl,rfl,rfl,rfl,rfl,rfl,by decide +kernel⟩ rfl (pd (qv 0)) fun _ _ _ _=>(qx (pe T) T.eT hr oU (ae (qv 0) ak))) ak)) (fun _=>rfl)))))) (av (aH fR)) aJ)
   (ai (bE (gU (mK (b1 mx (qi aS (qv 0) aq) (dk rfl T.m_NOUGHT T.r_NOUGHT)) (jz (b1 qb (m6 T.n_len (qv 0)) aq)))) (av (aH fR)) aJ)
   (av (aH (qx (rY T) T.e_counted hr aF (ae (qv 0) ak)))))),
  (ax (bD (ko (fb (cj af)) (fb (cj (cR (rQ hr.hd) (jj (by decide) af (aB (ag af aw))))))) (aT fU) aK)
    (ax (bD (mO (aG (ar ly (ar aR af aj) aj)) (aG (ar pH (cR fe af) aj))) (aT fU) aK)
    (aT (aB (ag af aw)))))⟩
theorem kr(T:Txt K mg t):bH P w K mg base (CXE P w) 3 t.cw t.d_place_in hJ (spP K (bF t) cw):=
 dQ T.e_place_in.F gW fun _ _ _ _ _ _ hr=>⟨_,(ai (qz 2 gW.nd (qx (eI T) T.e_kind_of hr aF (ae (qv 0) ak)))
   (ai (bE (b1 cu (qv 2) bh) (av cO) aJ)
   (ai (bE (b1 cu (qv 2) bh) (ai (qz 5 gW.nd (qx (kz T) T.e_place_of hr aF (ae (qv 1) ak)))
   (av (bE (gU (mK (b1 sW (qv 5) fR) (jz (b1 nO (qv 5) (m6 T.n_len (qi aS (qv 0) aq)))))) (av (aH (qv 5))) aJ))) aJ)
   (av cO)))),
  (ax (aV (aB (ag af aw)))
    (ax (bD (aG (ar (cC hr.units) af br)) cQ aK)
    (ax (bD (aG (ar (cC hr.units) af br)) (ax (aV (aB (ag af aw)))
    (bD (mO (aG (ar sM af fU)) (aG (ar nk af (cR fe (ar aR af aj))))) de aK)) aK)
    cQ)))⟩
theorem pY(T:Txt K mg t):bH P w K mg base (CXE P w) 4 t.cq t.d_there mM (spP K (bF t) cq):=
 dQ T.jr.F mG fun _ _ _ _ _ _ hr=>⟨_,(ai (jL eQ rfl (wR (qv 1)) (fY (i:=2) mG.nd rfl (by first|exact Or.inl rfl|exact Or.inr rfl)) (av (qz 0 mG.nd (qi kM (qx (cN T) T.e_inner_values hr aF (ae (qv 0) ak)) (qx (kr T) T.e_place_in hr aF (ae (qv 0) (ae (qv 2) ak)))))))
   (av (aH (qv 0)))),
  (ax (sF af (aV (ar og (aB (ag af aw)) (aB (ag af (ag af aw))))))
    de)⟩
theorem jy(T:Txt K mg t):∀ n,bH P w K mg base (CXE P w) (3+n) t.cz t.d_replaced ["thing","parts","new"] (spP K (bF t) (bS n))
 |0=>A4
 | n+1=>have ih:=jy T n
   dQ T.e_replaced.F gM fun _ _ _ _ _ _ hr=>⟨_,(ai (bE (fc (b8 (qv 1) (fun _=>rfl))) (av (aH (qv 2))) aJ)
    (ai (qz 3 gM.nd (i3 ((kr T).mono (by show _<=3+n;omega)) hr rfl T.e_place_in.m T.e_place_in.F.kp T.e_place_in.b .nil aF (ae (qv 0) (ae (qi aS (qv 1) aq) ak))))
    (ai (qz 4 gM.nd (i3 ih hr rfl T.e_replaced.m T.e_replaced.F.kp T.e_replaced.b .nil aF (ae (qi kM (i3 ((cN T).mono (by show _<=3+n;omega)) hr rfl T.e_inner_values.m T.e_inner_values.F.kp T.e_inner_values.b .nil aF (ae (qv 0) ak)) (qv 3)) (ae (eA fZ (qv 1) (fN aq) fL) (ae (qv 2) ak)))))
    (ai (bE (b1 cu (qi aS (qv 0) aq) bh) (av cO) aJ)
    (av (aH (aW (ae (qi aS (qv 0) aq) (ae (aX fE (aX fE (eA fZ (qi aS (qv 0) aq) fL (fN (qv 3))) (aW (ae (qv 4) ak))) (eA fZ (qi aS (qv 0) aq) (fN (aX cm (qv 3) aq)) fL)) ak))))))))),
   (ax (bD (fb (cj af)) de aK)
     (ax (aV (aB (ag af (ag (ar aR af aj) aw))))
     (ax (aV (aB (ag (ar og (aB (ag af aw)) af) (ag (fJ af (fP aj) gf) (ag af aw)))))
     (ax (bD (aG (ar (cC hr.units) (ar aR af aj) br)) cQ aK)
     (aT (aZ (ag (ar aR af aj) (ag (ar fz (ar fz (fJ (ar aR af aj) gf (fP af)) (aZ (ag af aw))) (fJ (ar aR af aj) (fP (ar cp af aj)) gf)) aw))))))))⟩
theorem qw(T:Txt K mg t):bH P w K mg base (CXE P w) 24 t.cz t.d_replaced ["thing","parts","new"] (spP K (bF t) cz):=(jy T 20).mono (by decide)
theorem mV(T:Txt K mg t):bH P w K mg base (CXE P w) 3 t.bI t.d_with_added fg (spP K (bF t) bI):=
 dQ T.e_with_added.F eV fun _ _ _ _ _ _ hr=>⟨_,(ai (bE (b1 cu (qx (eI T) T.e_kind_of hr aF (ae (qv 0) ak)) bh) (ai (qz 3 eV.nd (ij rM rfl T.n_dict L2.E.boot_dict (ae (qi aS (qv 0) aq) ak))) (ai (wH (Ck hr) (qv 3) (qv 1) (qv 2)) (av (aH (aW (ae bh (ae (ij pN rfl T.n_tuple L2.E.boot_tuple (ae (u6 PySem.F.plainAttrs_dict PySem.F.slot_dict_items PySem.F.type_dict_items vg (qv 3)) ak)) ak))))))) aJ)
   (ai (bE (b1 cu (qx (eI T) T.e_kind_of hr aF (ae (qv 0) ak)) bh) (ai (qz 4 eV.nd (gG (by exact(b1 cu (qv 1) (aW (ae (dk rfl T.m_MINUS T.r_MINUS) ak)))) (m6 T.n_len (qi aS (qv 0) aq)) (qx (kz T) T.e_place_of hr aF (ae (qv 1) ak))))
   (av (bE (gU (mK (b1 sW (qv 4) fR) (jz (b1 p5 (qv 4) (m6 T.n_len (qi aS (qv 0) aq)))))) (av (aH (aW (ae bh (ae (aX fE (aX fE (eA fZ (qi aS (qv 0) aq) fL (fN (qv 4))) (aW (ae (qv 2) ak))) (eA fZ (qi aS (qv 0) aq) (fN (qv 4)) fL)) ak))))) aJ))) aJ)
   (av cO))),
  (ax (bD (aG (ar (cC hr.units) (aB (ag af aw)) br)) (rG hr.hd (A8 hr) (ar aR af aj) af af) aK)
    (ax (bD (aG (ar (cC hr.units) (aB (ag af aw)) br)) (ax (aV (qm (aG (ar (cC hr.units) af (aZ (ag aj aw)))) (cR fe (ar aR af aj)) (aB (ag af aw))))
    (bD (mO (aG (ar sM af fU)) (aG (ar p7 af (cR fe (ar aR af aj))))) (aT (aZ (ag br (ag (ar fz (ar fz (fJ (ar aR af aj) gf (fP af)) (aZ (ag af aw))) (fJ (ar aR af aj) (fP af) gf)) aw)))) aK)) aK)
    cQ))⟩
theorem qL(T:Txt K mg t):bH P w K mg base (CXE P w) 25 t.dF t.d_added kY (spP K (bF t) dF):=
 dQ T.e_added.F pM fun _ _ _ _ _ _ hr=>⟨_,(ai (bE (fc (b8 (qv 1) (fun _=>rfl))) (av (aH (qv 2))) aJ)
   (ai (qz 3 pM.nd (qx (pY T) T.jr hr aF (ae (qv 0) (ae (eA fZ (qv 1) fL (fN (lH iP aq))) ak))))
   (av (aH (qx (qw T) T.e_replaced hr aF (ae (qv 0) (ae (eA fZ (qv 1) fL (fN (lH iP aq))) (ae (qx (mV T) T.e_with_added hr aF (ae (qv 3) (ae (qi aS (qv 1) (lH iP aq)) (ae (qv 2) ak)))) ak)))))))),
  (ax (bD (fb (cj af)) de aK)
    (ax (aV (aB (ag af (ag (fJ af gf (fP (mw iC aj))) aw))))
    (aT (aB (ag af (ag (fJ af gf (fP (mw iC aj))) (ag (aB (ag af (ag (ar aR af (mw iC aj)) (ag af aw)))) aw)))))))⟩
theorem xU(T:Txt K mg t):bH P w K mg base (CXE P w) 26 t.dN t.d_done oS (spP K (bF t) dN):=
 dQ T.e_done.F xw fun _ _ _ _ _ _ hr=>⟨_,(ai (bE (b1 cu (qi aS (qv 1) aq) bh) (av (aH (qx (qL T) T.e_added hr aF (ae (qv 0) (ae (qi aS (qv 1) aq) (ae (qi aS (qv 1) aq) ak)))))) aJ)
   (ai (bE (b1 cu (qi aS (qv 1) aq) bh) (av cO) aJ)
   (ai (bE (b1 cu (qi aS (qv 1) aq) bh) (av cO) aJ)
   (ai (bE (b1 cu (qi aS (qv 1) aq) bh) (av cO) aJ)
   (ai (bE (b1 cu (qi aS (qv 1) aq) bh) (av (aH (qx (qL T) T.e_added hr aF (ae (qv 0) (ae (qi aS (qv 1) aq) (ae (qx (pY T) T.jr hr aF (ae (qv 0) (ae (qi aS (qv 1) aq) ak))) ak)))))) aJ)
   (ai cO
   (av cO))))))),
  (ax (bD (aG (ar (cC hr.units) (ar aR af aj) br)) (aT (aB (ag af (ag (ar aR af aj) (ag (ar aR af aj) aw))))) aK)
    (ax (bD (aG (ar (cC hr.units) (ar aR af aj) br)) cQ aK)
    (ax (bD (aG (ar (cC hr.units) (ar aR af aj) br)) cQ aK)
    (ax (bD (aG (ar (cC hr.units) (ar aR af aj) br)) cQ aK)
    (ax (bD (aG (ar (cC hr.units) (ar aR af aj) br)) (aT (aB (ag af (ag (ar aR af aj) (ag (aB (ag af (ag (ar aR af aj) aw))) aw))))) aK)
    (ax cQ
    cQ))))))⟩
theorem qD(T:Txt K mg t):bH P w K mg base (CXE P w) 1 t.cW t.d_is_whole gX (spP K (bF t) cW):=
 dQ T.fS.F qk fun _ _ _ _ _ _ hr=>⟨_,(av (aH (jP (b6 dH rfl T.n_isinstance L2.E.boot_isinstance (ae (qv 0) (ae (eP (v:=.ty _) rfl T.n_int L2.E.boot_int rfl) ak))) (jN (vS (b6 dH rfl T.n_isinstance L2.E.boot_isinstance (ae (qv 0) (ae (eP (v:=.ty _) rfl T.n_bool L2.E.boot_bool rfl) ak)))))))),
  (aT (jE (g5 af) (vO (g5 af))))⟩
theorem pD(T:Txt K mg t):bH P w K mg base (CXE P w) 1 t.cS t.d_is_point gH (spP K (bF t) cS):=
 dQ T.gq.F pZ fun _ _ _ _ _ _ hr=>⟨_,(av (aH (Cn (mR p5 nO aq (qv 0) (dk rfl T.m_FIRST_PAIRED T.r_FIRST_PAIRED)) (jN (mR nO p5 (dk rfl T.m_LAST_PAIRED T.r_LAST_PAIRED) (qv 0) (dk rfl T.m_LAST_POINT T.r_LAST_POINT)))))),
  (aT (Ct (mI p7 nk aj af aj) (mI nk p7 aj af aj)))⟩
theorem i1(T:Txt K mg t):bH P w K mg base (CXE P w) 2 t.bB t.d_are_characters dj (spP K (bF t) bB):=
 dQ T.e_are_characters.F js fun _ _ _ _ _ _ hr=>⟨_,(av (aH (jP (b6 dH rfl T.n_isinstance L2.E.boot_isinstance (ae (qv 0) (ae (eP (v:=.ty _) rfl T.n_tuple L2.E.boot_tuple rfl) ak))) (jN (b6 jF rfl T.n_all L2.E.boot_all (ae (ie (M:=[]) (ι:=[]) (x:="point") ⟨rfl,rfl,rfl,rfl,rfl,rfl,rfl,rfl,rfl,rfl,rfl,by decide +kernel⟩ rfl (pd (qv 0)) fun _ _ _ _=>(jP (qx (qD T) T.fS hr oU (ae (qv 0) ak)) (jN (qx (pD T) T.gq hr oU (ae (qv 0) ak))))) ak)))))),
  (aT (jE (g5 af) (cR (rQ hr.hd) (jj (by decide) af (jE (aB (ag af aw)) (aB (ag af aw)))))))⟩
theorem iO(T:Txt K mg t):bH P w K mg base (CXE P w) 3 t.bw t.d_has_member_form cU (spP K (bF t) bw):=
 dQ T.e_has_member_form.F iU fun _ _ _ _ _ _ hr=>⟨_,(av (aH (jP (b6 dH rfl T.n_isinstance L2.E.boot_isinstance (ae (qv 0) (ae (eP (v:=.ty _) rfl T.n_tuple L2.E.boot_tuple rfl) ak))) (jP (kG mx (m6 T.n_len (qv 0)) aq (lr _)) (jN (qx (i1 T) T.e_are_characters hr aF (ae (qi aS (qv 0) aq) ak))))))),
  (aT (jE (g5 af) (jE (ar ly (cR fe af) aj) (aB (ag (ar aR af aj) aw)))))⟩
theorem qC(T:Txt K mg t):bH P w K mg base (CXE P w) 4 t.bZ t.d_has_form gO (spP K (bF t) bZ):=
 dQ T.e_has_form.F qA fun _ _ _ _ _ _ hr=>⟨_,(ai (bE (gU (kg (b1 vo (qv 0) fR) (kg (b1 oH (qv 0) fk) (jH (b1 oH (qv 0) fk))))) (av (aH fk)) aJ)
   (ai (bE (gU (kg (fc (b8 (b6 dH rfl T.n_isinstance L2.E.boot_isinstance (ae (qv 0) (ae (eP (v:=.ty _) rfl T.n_tuple L2.E.boot_tuple rfl) ak))) (fun _=>rfl))) (jH (b1 nO (m6 T.n_len (qv 0)) aq)))) (av (aH fk)) aJ)
   (ai (bE (b1 cu (qi aS (qv 0) aq) bh) (av cO) aJ)
   (ai (bE (gU (kg (b1 tf (m6 T.n_len (qv 0)) aq) (jH (fc (b8 (b6 dH rfl T.n_isinstance L2.E.boot_isinstance (ae (qi aS (qv 0) aq) (ae (eP (v:=.ty _) rfl T.n_tuple L2.E.boot_tuple rfl) ak))) (fun _=>rfl)))))) (av (aH fk)) aJ)
   (ai (bE (b1 cu (qi aS (qv 0) aq) bh) (av cO) aJ)
   (ai (bE (b1 cu (qi aS (qv 0) aq) bh) (av (aH (b6 jF rfl T.n_all L2.E.boot_all (ae (ie (M:=[]) (ι:=[]) (x:="pair") ⟨rfl,rfl,rfl,rfl,rfl,rfl,rfl,rfl,rfl,rfl,rfl,by decide +kernel⟩ rfl (pd (qi aS (qv 0) aq)) fun _ _ _ _=>(qx (iO T) T.e_has_member_form hr oU (ae (qv 0) ak))) ak)))) aJ)
   (av (aH (kG cu (qi aS (qv 0) aq) bh (lr _)))))))))),
  (ax (bD (ko (aG (ar vz af fU)) (ko (aG (ar nV af fj)) (aG (ar nV af fj)))) (aT fj) aK)
    (ax (bD (ko (fb (cj (g5 af))) (aG (ar nk (cR fe af) aj))) (aT fj) aK)
    (ax (bD (aG (ar (cC hr.units) (ar aR af aj) br)) cQ aK)
    (ax (bD (ko (aG (ar sR (cR fe af) aj)) (fb (cj (g5 (ar aR af aj))))) (aT fj) aK)
    (ax (bD (aG (ar (cC hr.units) (ar aR af aj) br)) cQ aK)
    (ax (bD (aG (ar (cC hr.units) (ar aR af aj) br)) (aT (cR (rQ hr.hd) (jj (by decide) (ar aR af aj) (aB (ag af aw))))) aK)
    (aT (ar (cC hr.units) (ar aR af aj) br))))))))⟩
theorem qg(T:Txt K mg t):bH P w K mg base (CXE P w) 5 t.bX t.d_is_value gL (spP K (bF t) bX):=
 dQ T.ef.F gT fun _ _ _ _ _ _ hr=>⟨_,(ai (qz 1 gT.nd (lh (ae (aW (ae (qv 0) (ae aq ak))) ak)))
   (ai (pL eQ (b8 (qv 1) (fun _=>rfl)) (ai (qz 2 gT.nd (u6 PySem.F.plainAttrs_list PySem.F.slot_list_pop PySem.F.type_list_pop A3 (qv 1)))
   (ai (bE (fc (b8 (qx (qC T) T.e_has_form hr aF (ae (qi aS (qv 2) aq) ak)) (fun _=>rfl))) (av (aH fk)) aJ)
   (ai (bE (gU (mK (tu AI (qx (eI T) T.e_kind_of hr aF (ae (qi aS (qv 2) aq) ak)) (aW (ae bh (ae bh ak))) rfl) (jz (b1 mx (qi aS (qv 2) aq) (dk rfl T.m_MOST_BRACKETS T.r_MOST_BRACKETS))))) (av (aH fk)) aJ)
   (av (qex rf (qv 1) (ie (M:=["pair"]) (ι:=[2]) (x:="within") ⟨rfl,rfl,rfl,rfl,rfl,rfl,rfl,rfl,rfl,rfl,rfl,by decide +kernel⟩ rfl (yC (qx (cN T) T.e_inner_values hr aF (ae (qi aS (qv 2) aq) ak))) fun _ _ _ _=>(aW (ae (qv 1) (ae (aX cm (qi aS (qv 0) aq) aq) ak))))))))))
   (av (aH fk)))),
  (ax (xK (DJ (mj (ag (aZ (ag af (ag aj aw))) aw))))
    (ax (pI (tX rW) (ax (yL (yT rW))
    (ax (bD (fb (cj (aB (ag (ar aR af aj) aw)))) (aT fj) aK)
    (ax (bD (mO (aG (ar (B3 hr.units) (aB (ag (ar aR af aj) aw)) (aZ (ag br (ag br aw))))) (aG (ar ly (ar aR af aj) aj))) (aT fj) aK)
    (r9 rW (u0 (by decide) (aB (ag (ar aR af aj) aw)) (aZ (ag af (ag (ar cp (ar aR af aj) aj) aw)))))))))
    (aT fj)))⟩
theorem rp(T:Txt K mg t):bH P w K mg base (CXE P w) 27 t.b7 t.d_patched iM (spP K (bF t) b7):=
 dQ T.e_patched.F gu fun _ _ _ _ _ _ hr=>⟨_,(ai (jL eQ rfl (xM rfl T.n_enumerate (ae (qv 1) ak)) (A5 rfl (qe (fY (i:=2) gu.nd rfl (by first|exact Or.inl rfl|exact Or.inr rfl)) (qe (fY (i:=3) gu.nd rfl (by first|exact Or.inl rfl|exact Or.inr rfl)) yx))) (ai (zJ ⟨rfl,rfl⟩ (fun _ _ _ hW hO=>(av (qz 0 gu.nd (qx (xU T) T.e_done hr hW (ae (qv 0) (ae (qv 3) ak)))))) rfl T.m_NotThere (fun _=>(av cO)) aF)
   (av (bE (gU (kg (b1 qb (qx (kI T) T.eh hr aF (ae (qv 0) ak)) (dk rfl T.m_MOST_VALUES T.r_MOST_VALUES)) (jH (fc (b8 (qx (qg T) T.ef hr aF (ae (qv 0) ak)) (fun _=>rfl)))))) (av (uP T.k_NoDeed (kR T) T.b_NoDeed_init (hr.mono (by decide)) aF rfl (ae (qv 2) ak))) aJ))))
   (av (aH (qv 0)))),
  (ax (yw af (ax (zP (fun _=>(aV (aB (ag af (ag af aw))))) cQ (jf T))
    (bD (ko (aG (ar pH (aB (ag af aw)) aj)) (fb (cj (aB (ag af aw))))) (uK rfl (ag af aw)) aK)))
    de)⟩
theorem jd(T:Txt K mg t):bH P w K mg base (CXE P w) 28 t.bz t.d_law_place gn (spP K (bF t) bz):=
 dQ T.e_law_place.F dY fun _ _ _ _ _ _ hr=>⟨_,(ai (qz 2 dY.nd (lH iP aq))
   (ai (vF (i:=3) ⟨rfl,rfl⟩ dY.nd rfl rfl (fun _ _ _ hW hO=>(av (pB (qx (rp T) T.e_patched hr hW (ae (qv 0) (ae (qv 1) ak)))))) rfl T.m_GlassError (fun _=>(av (qz 2 dY.nd (gG (by exact(b8 (b6 vt rfl T.n_isinstance L2.E.boot_isinstance (ae (qv 3) (ae (dk (v:=.ref _) rfl T.m_NoDeed rfl) ak))) (fun _=>rfl))) (yc (qv 3)) (lH iP aq))))) aF)
   (av (aH (qv 2))))),
  (ax (aV (mw iC aj))
    (ax (xm (fun _=>(xQ (aB (ag af (ag af aw))))) (aV (qm (cj (AD (rH T))) (yV (vD T)) (mw iC aj))) (ir T))
    de))⟩
theorem pT(T:Txt K mg t):bH P w K mg base (CXE P w) 1 t.dc t.d_law_cell gK (spP K (bF t) dc):=
 dQ T.gd.F qJ fun _ _ _ _ _ _ hr=>⟨_,(ai (bE (b8 (qv 0) (fun _=>rfl)) (av (aH (qi kM (qv 0) (aX eK (qv 1) (m6 T.n_len (qv 0)))))) aJ)
   (av (aH aq))),
  (ax (bD (cj af) (aT (ar og af (ar eH af (cR fe af)))) aK)
    (aT aj))⟩
theorem cX(T:Txt K mg t):bH P w K mg base (CXE P w) 2 t.bc t.d_law_mix iZ (spP K (bF t) bc):=
 dQ T.bp.F iS fun _ _ _ _ _ _ hr=>⟨_,(ai (qz 2 iS.nd (aX eK (aX cm (qx (pT T) T.gd hr aF (ae (qv 0) (ae (qv 1) ak))) (aX lF aq (aX cm (qv 1) aq))) aq))
   (ai (qz 2 iS.nd (aX eK (aX lF (qv 2) aq) aq))
   (av (aH (aX eK (aX cm (aX lF (aX tP (qv 2) aq) aq) (qv 2)) aq))))),
  (ax (aV (ar eH (ar cp (aB (ag af (ag af aw))) (ar lY aj (ar cp af aj))) aj))
    (ax (aV (ar eH (ar lY af aj) aj))
    (aT (ar eH (ar cp (ar lY (ar sU af aj) aj) af) aj))))⟩
theorem ou(T:Txt K mg t):bH P w K mg base (CXE P w) 1 t.cy t.d_law_whole fK (spP K (bF t) cy):=
 dQ T.e_law_whole.F n4 fun _ _ _ _ _ _ hr=>⟨_,(av (aH (jP (b6 dH rfl T.n_isinstance L2.E.boot_isinstance (ae (qv 0) (ae (eP (v:=.ty _) rfl T.n_int L2.E.boot_int rfl) ak))) (jN (vS (b6 dH rfl T.n_isinstance L2.E.boot_isinstance (ae (qv 0) (ae (eP (v:=.ty _) rfl T.n_bool L2.E.boot_bool rfl) ak)))))))),
  (aT (jE (g5 af) (vO (g5 af))))⟩
theorem zX(T:Txt K mg t):bH P w K mg base (CXE P w) 29 t.ng t.d_law rL (spP K (bF t) ng):=
 dQ T.vM.F bM fun _ _ _ _ _ _ hr=>⟨_,(ai (qz 1 bM.nd (aX cm aq (aX eK (qx (cX T) T.bp hr aF (ae (qv 0) (ae aq ak))) aq)))
   (ai (qz 2 bM.nd (aX cm aq (aX eK (qx (cX T) T.bp hr aF (ae (qv 0) (ae aq ak))) aq)))
   (ai (qz 3 bM.nd (aW (ae bh (ae (ij mX rfl T.n_tuple L2.E.boot_tuple (ae (ie (M:=["_law_long"]) (ι:=[2]) (x:="_law_k") ⟨rfl,rfl,rfl,rfl,rfl,rfl,rfl,rfl,rfl,rfl,rfl,by decide +kernel⟩ rfl (hZ rfl T.n_range (ae (qv 1) ak)) fun _ _ _ _=>(aW (ae bh (ae (aX xZ (aW (ae fR ak)) (qv 0)) ak)))) ak)) ak))))
   (ai (qz 4 bM.nd (aX cm aq (aX lF (qv 1) (aX cm aq (qv 2)))))
   (ai (qz 5 bM.nd (qx (kI T) T.eh hr aF (ae (qv 3) ak)))
   (ai (bE (gU (kg (fc (b8 (qx (ou T) T.e_law_whole hr aF (ae (qv 5) ak)) (fun _=>rfl))) (kg (b1 tf (qv 5) (qv 4)) (jH (b1 tf (qx (kI T) T.eh hr aF (ae fR ak)) aq))))) (av (aH fk)) aJ)
   (ai (bE (b1 tf (qx (kI T) T.eh hr aF (ae (aW (ae bh (ae (aW (ae (aW (ae (aW ak) (ae (qv 3) ak))) ak)) ak))) ak)) (aX cm (qv 4) aq)) (av (aH fk)) aJ)
   (ai (bE (b1 mx (aX eK (qx (cX T) T.bp hr aF (ae (qv 0) (ae aq ak))) aq) aq) (ai (qz 6 bM.nd (lh ak))
   (ai (qz 7 bM.nd (lH iP aq))
   (ai (jL eQ rfl (hZ rfl T.n_range (ae (aX cm aq (aX eK (qx (cX T) T.bp hr aF (ae (qv 0) (ae aq ak))) aq)) ak)) (fY (i:=8) bM.nd rfl (by first|exact Or.inl rfl|exact Or.inr rfl)) (ai (qz 9 bM.nd (gG (by exact(b1 mx (aX eK (aX tP (qx (cX T) T.bp hr aF (ae (qv 0) (ae aq ak))) (aX cm aq (qv 8))) aq) aq)) (aW ak) (aW (ae (aW (ae aq ak)) ak))))
   (ai (qap nB (qv 6) (aW (ae bh (ae (qv 9) (ae (aW (ae (aW (ae aq ak)) ak)) ak)))))
   (ai (qz 4 bM.nd (aX cm (qv 4) (gG (by exact(fc (b8 (qv 9) (fun _=>rfl)))) (qv 4) (aX cm aq (qv 2)))))
   (av (bE (gU (mK (b1 qb (qv 4) aq) (jz (b1 nO (qv 7) aq)))) (av (qz 7 bM.nd (qv 8))) aJ))))))
   (av (aH (kG mx (qx (jd T) T.e_law_place hr aF (ae (qv 3) (ae (qv 6) ak))) (qv 7) (lr _))))))) aJ)
   (ai (qz 10 bM.nd (aX cm aq (aX eK (qx (cX T) T.bp hr aF (ae (qv 0) (ae aq ak))) aq)))
   (ai (qz 11 bM.nd fR)
   (ai (jL eQ rfl (hZ rfl T.n_range (ae (qv 10) ak)) (fY (i:=8) bM.nd rfl (by first|exact Or.inl rfl|exact Or.inr rfl)) (av (qz 11 bM.nd (aW (ae bh (ae (aW (ae (qv 11) ak)) ak))))))
   (ai (qz 12 bM.nd (aX cm aq (aX eK (qx (cX T) T.bp hr aF (ae (qv 0) (ae aq ak))) aq)))
   (ai (qz 13 bM.nd (aW (ae bh (ae (aW ak) ak))))
   (ai (qz 14 bM.nd (aW ak))
   (ai (jL eQ rfl (hZ rfl T.n_range (ae (aX uZ (qv 12) aq) ak)) (fY (i:=8) bM.nd rfl (by first|exact Or.inl rfl|exact Or.inr rfl)) (ai (qz 13 bM.nd (aW (ae bh (ae (aW (ae (qv 13) ak)) ak))))
   (av (qz 14 bM.nd (aX fE (qv 14) (aW (ae (aW (ae aq ak)) ak)))))))
   (ai (bE (b1 qb (qv 10) aq) (av (aH fk)) aJ)
   (ai (qz 7 bM.nd (gG (by exact(b1 qb (aX cm (qv 10) (qv 12)) aq)) aq (lH iP aq)))
   (av (aH (kG mx (qx (jd T) T.e_law_place hr aF (ae (qv 13) (ae (lh (ae (aW (ae bh (ae (aX fE (qv 14) (aW (ae (aW (ae aq ak)) ak))) (ae (qv 11) ak)))) ak)) ak))) (qv 7) (lr _))))))))))))))))))))),
  (ax (aV (ar cp aj (ar eH (aB (ag af (ag aj aw))) aj)))
    (ax (aV (ar cp aj (ar eH (aB (ag af (ag aj aw))) aj)))
    (ax (aV (aZ (ag br (ag (cR zO (v8 (by decide) af (aZ (ag br (ag (ar yz (aZ (ag fU aw)) af) aw))))) aw))))
    (ax (aV (ar cp aj (ar lY af (ar cp aj af))))
    (ax (aV (aB (ag af aw)))
    (ax (bD (ko (fb (cj (aB (ag af aw)))) (ko (aG (ar sR af af)) (aG (ar sR (aB (ag fU aw)) aj)))) (aT fj) aK)
    (ax (bD (aG (ar sR (aB (ag (aZ (ag br (ag (aZ (ag (aZ (ag (aZ aw) (ag af aw))) aw)) aw))) aw)) (ar cp af aj))) (aT fj) aK)
    (ax (bD (aG (ar ly (ar eH (aB (ag af (ag aj aw))) aj) aj)) (ax (aV (mj aw))
    (ax (aV (mw iC aj))
    (ax (oF (ar cp aj (ar eH (aB (ag af (ag aj aw))) aj)) (ax (aV (qm (aG (ar ly (ar eH (ar sU (aB (ag af (ag aj aw))) (ar cp aj af)) aj) aj)) (aZ aw) (aZ (ag (aZ (ag aj aw)) aw))))
    (ax (uu (aZ (ag br (ag af (ag (aZ (ag (aZ (ag aj aw)) aw)) aw)))))
    (ax (aV (ar cp af (qm (fb (cj af)) af (ar cp aj af))))
    (bD (mO (aG (ar pH af aj)) (aG (ar nk af aj))) (aV af) aK)))))
    (uB (i:=6) (aT (ar ly (aB (ag af (ag af aw))) af)))))) aK)
    (ax (aV (ar cp aj (ar eH (aB (ag af (ag aj aw))) aj)))
    (ax (aV fU)
    (ax (oF af (aV (aZ (ag br (ag (aZ (ag af aw)) aw)))))
    (ax (aV (ar cp aj (ar eH (aB (ag af (ag aj aw))) aj)))
    (ax (aV (aZ (ag br (ag (aZ aw) aw))))
    (ax (aV (aZ aw))
    (ax (oF (ar v9 af aj) (ax (aV (aZ (ag br (ag (aZ (ag af aw)) aw))))
    (aV (ar fz af (aZ (ag (aZ (ag aj aw)) aw))))))
    (ax (bD (aG (ar pH af aj)) (aT fj) aK)
    (ax (aV (qm (aG (ar pH (ar cp af af) aj)) aj (mw iC aj)))
    (aT (ar ly (aB (ag af (ag (mj (ag (aZ (ag br (ag (ar fz af (aZ (ag (aZ (ag aj aw)) aw))) (ag af aw)))) aw)) aw))) af)))))))))))))))))))⟩
end
open PySem.W in
theorem all_mk{l:PySem.W.OpenLaw}{w:World}{K:PySem.W.Frag}{h:Heap}{mg:Str->Option Value}{fa:Addr}(X:K.In h)(G:h.Ns mainGlobals mg)(hfa:mg "law" = some (.ref fa))
  (h0:Fd K "is_point" iQ f0 d0)
  (h1:Fd K "is_figure" gR f1 d1)
  (h2:Fd K "counted" jO f2 d2)
  (h3:Fd K "kind_of" jM f3 d3)
  (h4:Fd K "inner_values" eN f4 d4)
  (h5:Fd K "every_value" e9 f5 d5)
  (h6:Fd K "is_value" iE f6 d6)
  (h7:Fd K "has_form" iN f7 d7)
  (h8:Fd K "has_member_form" dv f8 d8)
  (h9:Fd K "are_characters" dB f9 d9)
  (h10:Fd K "is_whole" iH f10 d10)
  (h11:Fd K "place_of" iR f11 d11)
  (h12:Fd K "place_in" iK f12 d12)
  (h13:Fd K "there" oV f13 d13)
  (h14:Fd K "patched" jK f14 d14)
  (h15:Fd K "size" rO f15 d15)
  (h16:Fd K "done" q8 f16 d16)
  (h17:Fd K "added" n6 f17 d17)
  (h18:Fd K "with_added" gr f18 d18)
  (h19:Fd K "replaced" iG f19 d19)
  (h20:Fd K "_law_cell" iW f20 d20)
  (h21:Fd K "_law_mix" jJ f21 d21)
  (h22:Fd K "_law_whole" gQ f22 d22)
  (h23:Fd K "_law_place" g6 f23 d23)
  (a24:nsIn K mainGlobals "law" = some (some (.ref f24))) (l24:K.lookup f24=some ⟨oc24,od24,.func (fnOf "law" "law" (cP qE) (b4 qE) (ay qE) .none kV24 dc24 pm24 an24 cd24 ct24),sl24⟩) (c24:codeIn K cd24 "law" = true) (k24:keepIn K (.ref f24)=true)
  (z0:nsIn K mainGlobals "list" = some none)
  (z1:nsIn K mainGlobals "len" = some none)
  (z2:nsIn K mainGlobals "all" = some none)
  (z3:nsIn K mainGlobals "isinstance" = some none)
  (z4:nsIn K mainGlobals "tuple" = some none)
  (z5:nsIn K mainGlobals "int" = some none)
  (z6:nsIn K mainGlobals "bool" = some none)
  (z7:nsIn K mainGlobals "enumerate" = some none)
  (z8:nsIn K mainGlobals "dict" = some none)
  (z9:nsIn K mainGlobals "range" = some none)
  (z10:nsIn K mainGlobals "ValueError" = some none)
  (ca0:nsIn K mainGlobals "GlassError" = some (some (.ref C0))) (cl0:K.lookup C0=some (excClassObj nm0 qn0 C0 N0 bs0 [.type "ValueError",.type "Exception",.type "BaseException",.type "object"] hd0 sn0 sub0 ab0 co0 dd0 p00 p10 p20 p30 p50 id0))
  (cx0:excIn K C0 [.type "ValueError",.type "Exception",.type "BaseException",.type "object"] "ValueError.__new__" = true)
  (ca1:nsIn K mainGlobals "NoDeed" = some (some (.ref C1))) (cl1:K.lookup C1=some (excClassObj nm1 qn1 C1 N1 bs1 [.ref C0,.type "ValueError",.type "Exception",.type "BaseException",.type "object"] hd1 sn1 sub1 ab1 co1 dd1 p01 p11 p21 p31 p51 "ValueError.__new__"))
  (ii1:findIn K (.ref C1) "__init__" = some (some (.ref fi1))) (il1:K.lookup fi1=some ⟨.type "function",oi1,.func (fnOf "__init__" "NoDeed.__init__" (cP bW) (b4 bW) (ay bW) .none kI1 dI1 pI1 ai1 cI1 tI1),si1⟩) (ic1:codeIn K cI1 "NoDeed.__init__" = true) (ik1:keepIn K (.ref fi1)=true)
  (xa1:hasDictIn K C1=true) (xc1:findIn K (.ref C1) "__setattr__" = some (some (.builtin "object.__setattr__"))) (xd1:findIn K (.ref C1) "__getattribute__" = some (some (.builtin "BaseException.__getattribute__"))) (xe1:findIn K (.ref C1) "__getattr__" = some none) (xf1:findIn K (.ref C1) "place" = some none)
  (ca2:nsIn K mainGlobals "NotThere" = some (some (.ref C2))) (cl2:K.lookup C2=some (excClassObj nm2 qn2 C2 N2 bs2 [.ref C0,.type "ValueError",.type "Exception",.type "BaseException",.type "object"] hd2 sn2 sub2 ab2 co2 dd2 p02 p12 p22 p32 p52 id2))
  (cx2:excIn K C2 [.type "ValueError",.type "Exception",.type "BaseException",.type "object"] "ValueError.__new__" = true)
  (va0:nsIn K mainGlobals "LAST_POINT" = some (some (.int 1114111 t0)))
  (va1:nsIn K mainGlobals "FIRST_PAIRED" = some (some (.int 55296 t1)))
  (va2:nsIn K mainGlobals "LAST_PAIRED" = some (some (.int 57343 t2)))
  (va3:nsIn K mainGlobals "MINUS" = some (some (.int 45 t3)))
  (va4:nsIn K mainGlobals "NOUGHT" = some (some (.int 48 t4)))
  (va5:nsIn K mainGlobals "NINE" = some (some (.int 57 t5)))
  (va6:nsIn K mainGlobals "MOST_BRACKETS" = some (some (.int 64 t6)))
  (va7:nsIn K mainGlobals "MOST_VALUES" = some (some (.int 300 t7))):
  ∃ fd:FuncData,(∀(s:Shared) (v:Value),BindsTo s fd ⟨[v],[]⟩ [("_law_script",v)]) /\ ∀ base:Heap,K.In base->base.Ns mainGlobals mg->bH l.prog w K mg base (CXE l.prog w) 29 fa fd ["_law_script"] (o7 K):=by
 have e:=hfa.symm.trans (PySem.W.mg_of X G a24);cases e
 have T:Txt K mg ⟨f0,d0,f1,d1,f2,d2,f3,d3,f4,d4,f5,d5,f6,d6,f7,d7,f8,d8,f9,d9,f10,d10,f11,d11,f12,d12,f13,d13,f14,d14,f15,d15,f16,d16,f17,d17,f18,d18,f19,d19,f20,d20,f21,d21,f22,d22,f23,d23,f24,_,C0,C1,fi1,_,C2,_,_,_,_,_,_,_,_⟩:=⟨h0.e1 X G,
  h1.e1 X G,
  h2.e1 X G,
  h3.e1 X G,
  h4.e1 X G,
  h5.e1 X G,
  h6.e1 X G,
  h7.e1 X G,
  h8.e1 X G,
  h9.e1 X G,
  h10.e1 X G,
  h11.e1 X G,
  h12.e2 X G,
  h13.e2 X G,
  h14.e2 X G,
  h15.e1 X G,
  h16.e2 X G,
  h17.e3 X G,
  h18.e3 X G,
  h19.e3 X G,
  h20.e2 X G,
  h21.e2 X G,
  h22.e1 X G,
  h23.e2 X G,
  (ck a24 l24 c24 k24).e1 X G,
  PySem.W.mg_none_of X G z0,
  PySem.W.mg_none_of X G z1,
  PySem.W.mg_none_of X G z2,
  PySem.W.mg_none_of X G z3,
  PySem.W.mg_none_of X G z4,
  PySem.W.mg_none_of X G z5,
  PySem.W.mg_none_of X G z6,
  PySem.W.mg_none_of X G z7,
  PySem.W.mg_none_of X G z8,
  PySem.W.mg_none_of X G z9,
  PySem.W.mg_none_of X G z10,
  PySem.W.mg_of X G ca0,⟨by simp,_,_,_,_,_,_,_,_,_,_,_,_,_,_,_,_,cl0⟩,
  cx0,
  PySem.W.mg_of X G ca1,⟨by simp,_,_,_,_,_,_,_,_,_,_,_,_,_,_,_,_,cl1⟩,
  qU (st:=bW) il1 ic1 ik1,(qU (st:=bW) il1 ic1 ik1).binds (ps:=["self","place"]) fun _ _ _ _ _ _ us hl=>match us,hl with|[_,_],_=>rfl,
  ⟨PySem.W.mg_of X G ca1,⟨_,_,_,_,_,_,_,_,_,_,_,_,_,_,_,cl1⟩,by simp,xJ ⟨by simp,_,_,_,_,_,_,_,_,_,_,_,_,_,_,_,_,cl0⟩ cx0,ii1,⟨_,il1,rfl⟩,⟨xa1,uM cl1 (by rw[gv,gv];decide),xc1,xd1,xe1,xf1⟩⟩,
  PySem.W.mg_of X G ca2,⟨by simp,_,_,_,_,_,_,_,_,_,_,_,_,_,_,_,_,cl2⟩,
  cx2,
  PySem.W.mg_of X G va0,⟨t0,rfl⟩,
  PySem.W.mg_of X G va1,⟨t1,rfl⟩,
  PySem.W.mg_of X G va2,⟨t2,rfl⟩,
  PySem.W.mg_of X G va3,⟨t3,rfl⟩,
  PySem.W.mg_of X G va4,⟨t4,rfl⟩,
  PySem.W.mg_of X G va5,⟨t5,rfl⟩,
  PySem.W.mg_of X G va6,⟨t6,rfl⟩,
  PySem.W.mg_of X G va7,⟨t7,rfl⟩⟩
 exact⟨_,fun s v=>.of_eq rfl,fun base _ _=>(zX T).imp (xt fun ns h=>vM ns h)⟩
theorem walk{l:PySem.W.OpenLaw}{q:Program}{loose:List Str}{XP:(Str->Option Value)->Heap->Prop}{YP:World->Heap->Prop}{d:DefRec}{K:Params->PySem.W.Frag}(hn:l.most=some 63)(hdf:d.params.defaults=[])
  (hY:∀(w:World) (h:Heap),YP w h->(K w.params).In h)
  (F:∀(w:World) (mg:Str->Option Value) (fa:Addr) (h:Heap),(K w.params).In h->h.Ns mainGlobals mg->mg d.name=some (.ref fa) ->
    ∃ fd:FuncData,(∀(s:Shared) (u:Value),BindsTo s fd ⟨[u],[]⟩ [("_law_script",u)]) /\ ∀ base:Heap,(K w.params).In base->base.Ns mainGlobals mg->bH l.prog w (K w.params) mg base (CXE l.prog w) 29 fa fd ["_law_script"] (o7 (K w.params))):
  PySem.W.WalkO q loose XP YP l.row.toRowW d [] (fun f vs=>PySem.call f vs):=
 L2.x3 (n:=63) (k:=29) (x:="_law_script") (CX:=fun w=>CXE l.prog w) (sp:=fun w=>o7 (K w.params)) hn (by decide) hdf ⟨rfl,by decide,by decide⟩ hY F (fun _ _ a ns hl _ hS=>⟨a,ns,rfl,hS,hl,fun _=>rfl⟩) fun _ _ _ _ _ z=>let ⟨_,_,_,_,_,_,_,_,_,_,f⟩:=z;f
end L2.plainglass_k51_sizes_kept
open PySem PySem.W PyProof.Rows
namespace PySem.W.Fast
def tw841006122091908048:=0
def tw14797588958420575122:=0
def tw17060225028996053608:=0
def tw11106494714296727249:=0
def tw13184296815882193251:=0
def tw17771395609627923382:=0
def tw17740081219946131546:=0
def tw8182239626686594041:=0
def tw13143400968814674357:=0
def tw5050254179425002319:=0
def tw6469163189571920763:=0
def tw4900133173937605105:=0
def tw6900486254280387951:=0
def tw4836123736917191418:=0
def tw4981191403419815139:=0
def tw501629125371840332:=0
def tw14153316232881284285:=0
def tw12533830775622861179:=0
def tw8088197729641687909:=0
def tw6107041532164548381:=0
def tw5809286305122777925:=0
def tw4410795962697655050:=0
def tw4266403874919401884:=0
def tw4774637250495431278:=0
def tw892226220307051316:=0
def tw7079741368171720809:=0
def tw9758766436150947048:=0
def tw532599669516671903:=0
def tw17618161793372545764:=0
def tw2786711602339381576:=0
def tw9724411642051512404:=0
def tw6200511299337215648:=0
def tw6272750158344425615:=0
def tw7547683406944465834:=0
def tw17862554791254641759:=0
def tw18314700655518157955:=0
def tw5906385152595715948:=0
def tw11957398013502798503:=0
def tw15508290740033593658:=0
def tw10240986840772133066:=0
def tw3908518479620685515:=0
def tw7673746745205900825:=0
def tw7583363939033297637:=0
def tw14695019907060839450:=0
def tw15523820231346468709:=0
def tw942360586484105116:=0
def tw1054108709971082308:=0
def tw13073008617882155297:=0
def tw4662937629612833011:=0
def tw1509971319794807742:=0
def tw3756873139040337467:=0
def tw1544996827249743736:=0
def tw6988411434184145436:=0
def tw17821841788820171296:=0
def tw4510832253471134276:=0
def tw15111141003707706121:=0
def tw18401759606581495315:=0
def tw14784148059149990922:=0
def tw4747243318023179510:=0
def tw7806018505519614522:=0
def tw16824537051294952787:=0
def tw9637714380356175700:=0
def tw18387597666003128685:=0
def tw15110842153341358010:=0
def tw11944191117482190621:=0
def tw3683561201849914563:=0
def tw15629170317251208545:=0
def tw1591885016198223396:=0
def tw4871466080488144645:=0
def tw2177291288857438157:=0
def tw13883714476174282599:=0
def tw11090467893581046432:=0
def tw9521503504407924835:=0
def tw9962946393751886607:=0
def tw15889778356480283141:=0
def tw1000410985386985015:=0
def tw1912091285349417051:=0
def tw7863938803389171806:=0
def tw5610219459713992604:=0
end PySem.W.Fast
set_option maxRecDepth 100000 in
set_option maxHeartbeats 0 in
theorem PySem.Challenge.cw_plainglass_k51_sizes_kept_holds : PySem.Challenge.rw_plainglass_k51_sizes_kept.Holds := by
 w_on;o_law;k_head;(case hw=>w_witness2)
 k_fill
 refine L2.plainglass_k51_sizes_kept.walk (l:=PySem.Challenge.rw_plainglass_k51_sizes_kept) rfl rfl (fun w h Y=>PySem.W.kIn_of Y) ?F
 case F=>
  intro w mg fa h KX G hmg
  refine' L2.plainglass_k51_sizes_kept.all_mk KX G hmg (L2.E.ck ?a0 ?l0 ?c0 ?k0) (L2.E.ck ?a1 ?l1 ?c1 ?k1) (L2.E.ck ?a2 ?l2 ?c2 ?k2) (L2.E.ck ?a3 ?l3 ?c3 ?k3) (L2.E.ck ?a4 ?l4 ?c4 ?k4) (L2.E.ck ?a5 ?l5 ?c5 ?k5) (L2.E.ck ?a6 ?l6 ?c6 ?k6) (L2.E.ck ?a7 ?l7 ?c7 ?k7) (L2.E.ck ?a8 ?l8 ?c8 ?k8) (L2.E.ck ?a9 ?l9 ?c9 ?k9) (L2.E.ck ?a10 ?l10 ?c10 ?k10) (L2.E.ck ?a11 ?l11 ?c11 ?k11) (L2.E.ck ?a12 ?l12 ?c12 ?k12) (L2.E.ck ?a13 ?l13 ?c13 ?k13) (L2.E.ck ?a14 ?l14 ?c14 ?k14) (L2.E.ck ?a15 ?l15 ?c15 ?k15) (L2.E.ck ?a16 ?l16 ?c16 ?k16) (L2.E.ck ?a17 ?l17 ?c17 ?k17) (L2.E.ck ?a18 ?l18 ?c18 ?k18) (L2.E.ck ?a19 ?l19 ?c19 ?k19) (L2.E.ck ?a20 ?l20 ?c20 ?k20) (L2.E.ck ?a21 ?l21 ?c21 ?k21) (L2.E.ck ?a22 ?l22 ?c22 ?k22) (L2.E.ck ?a23 ?l23 ?c23 ?k23) ?a24 ?l24 ?c24 ?k24 ?z0 ?z1 ?z2 ?z3 ?z4 ?z5 ?z6 ?z7 ?z8 ?z9 ?z10 ?ca0 ?cl0 ?cx0 ?ca1 ?cl1 ?ii1 ?il1 ?ic1 ?ik1 ?xa1 ?xc1 ?xd1 ?xe1 ?xf1 ?ca2 ?cl2 ?cx2 ?va0 ?va1 ?va2 ?va3 ?va4 ?va5 ?va6 ?va7
  (case a0|l0|c0|k0|a1|l1|c1|k1|a2|l2|c2|k2|a3|l3|c3|k3|a4|l4|c4|k4|a5|l5|c5|k5|a6|l6|c6|k6|a7|l7|c7|k7|a8|l8|c8|k8|a9|l9|c9|k9|a10|l10|c10|k10|a11|l11|c11|k11|a12|l12|c12|k12|a13|l13|c13|k13|a14|l14|c14|k14|a15|l15|c15|k15|a16|l16|c16|k16|a17|l17|c17|k17|a18|l18|c18|k18|a19|l19|c19|k19|a20|l20|c20|k20|a21|l21|c21|k21|a22|l22|c22|k22|a23|l23|c23|k23|a24|l24|c24|k24|z0|z1|z2|z3|z4|z5|z6|z7|z8|z9|z10|ca0|cl0=>k_is)
  (case cx0=>k_exc)
  (case ca1|cl1|ii1|il1|ic1|ik1|xa1|xc1|xd1|xe1|xf1|ca2|cl2=>k_is)
  (case cx2=>k_exc)
  (case va0|va1|va2|va3|va4|va5|va6|va7=>k_is)
