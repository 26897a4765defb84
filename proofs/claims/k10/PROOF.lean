import PyProof.Rows.All
import Wide.All
import OpenK.AllK
import Wide.FinOn
import Lean
import PyProof.EqAt
import PyProof.EqKinds
import PyProof.TupleCall
import PySem.Challenge.RW_plainglass_k10_endings_in_tokens
set_option Elab.async false
set_option linter.all false
set_option compiler.extract_closed false
set_option maxRecDepth 100000
namespace L2
open PySem PySem.Spec PyProof.Rows
abbrev Key:=Sum Int Str
noncomputable def sW:Key->Value->Bool
 |.inl k,v=>Value.isInt k v
 |.inr x,v=>Value.isStrOf x v
noncomputable def Jg(w:World):Key->Int
 |.inl k=>hashInt k
 |.inr x=>hashStr w x
theorem eC:∀{k:Key} {v:Value},sW k v=true->(∃ i t,k=Sum.inl i /\ v=Value.int i t) \/ (∃ x t,k=Sum.inr x /\ v=Value.str x t)
 | .inl i,v,h=>by
   obtain⟨t,e⟩:=Value.isInt_shape (k:=i) (v:=v) h;exact .inl ⟨i,t,rfl,e⟩
 | .inr x,v,h=>by
   obtain⟨t,e⟩:=Value.isStrOf_shape (x:=x) (v:=v) h;exact .inr ⟨x,t,rfl,e⟩
theorem zg(i:Int)(t:Tok):sW (.inl i) (.int i t)=true:=by simp[sW,Value.isInt]
theorem zy(x:Str)(t:Tok):sW (.inr x) (.str x t)=true:=by simp[sW,Value.isStrOf]
theorem F4(a b:Int):decide ((Sum.inl a:Key)=Sum.inl b)=(a==b):=by
 by_cases e:a=b
 . subst e;simp
 . have h:¬ (Sum.inl a:Key)=Sum.inl b:=fun q=>e (Sum.inl.inj q)
   rw[decide_eq_false h]
   exact(beq_eq_false_iff_ne.mpr e).symm
theorem EI(a b:Str):decide ((Sum.inr a:Key)=Sum.inr b)=decide (a=b):=by
 by_cases e:a=b
 . subst e;simp
 . have h:¬ (Sum.inr a:Key)=Sum.inr b:=fun q=>e (Sum.inr.inj q)
   rw[decide_eq_false h,decide_eq_false e]
theorem EV(a:Int)(b:Str):decide ((Sum.inl a:Key)=Sum.inr b)=false:=decide_eq_false (fun q=>nomatch q)
theorem FW(a:Str)(b:Int):decide ((Sum.inr a:Key)=Sum.inl b)=false:=decide_eq_false (fun q=>nomatch q)
noncomputable def ez(prog:Program)(w:World):PySem.KeyKind prog w Key where
 is:=sW
 hash:=Jg w
 inj:=fun v a b ha hb=>by
  rcases eC ha with⟨i,t,rfl,rfl⟩|⟨x,t,rfl,rfl⟩
  . rcases eC hb with⟨j,u,rfl,e⟩|⟨y,u,rfl,e⟩
    . injection e with e1 _;rw[e1]
    . exact nomatch e
  . rcases eC hb with⟨j,u,rfl,e⟩|⟨y,u,rfl,e⟩
    . exact nomatch e
    . injection e with e1 _;rw[e1]
 byValue:=fun k v h=>by
  rcases eC h with⟨i,t,rfl,rfl⟩|⟨x,t,rfl,rfl⟩<;>rfl
 pyHash:=fun hv h=>by
  rcases eC hv with⟨i,t,rfl,rfl⟩|⟨x,t,rfl,rfl⟩
  . exact wpAny_pyHash_int h
  . exact wpAny_pyHash_str h
 eqBool:=fun hu hv h=>by
  rcases eC hu with⟨i,t,rfl,rfl⟩|⟨x,t,rfl,rfl⟩
  . rcases eC hv with⟨j,u,rfl,rfl⟩|⟨y,u,rfl,rfl⟩
    . rw[F4]at h;exact wpAny_eqBool_int h
    . rw[EV]at h;exact SeqAt.EqAt.int_str i t y u _ _ _ _ h
  . rcases eC hv with⟨j,u,rfl,rfl⟩|⟨y,u,rfl,rfl⟩
    . rw[FW]at h;exact SeqAt.EqAt.str_int x t j u _ _ _ _ h
    . rw[EI]at h;exact wpAny_eqBool_str h
 «strs»:=fun k x t v h=>by
  rcases eC h with⟨i,u,rfl,e⟩|⟨y,u,rfl,e⟩
  . exact nomatch e
  . injection e with e1 _
    subst e1
    cases v<;>rfl
theorem u7(prog:Program)(w:World)(i:Int)(t:Tok):(ez prog w).is (.inl i) (.int i t)=true:=zg i t
theorem vx(prog:Program)(w:World)(x:Str)(t:Tok):(ez prog w).is (.inr x) (.str x t)=true:=zy x t
inductive V where
 |non|bl (b:Bool)|int (i:Int)|str (x:Str)|byt (b:Array UInt8)|flt (b:UInt64)|ref (a:Addr)|ty (n:String)
 deriving DecidableEq
noncomputable def RelV:V->Value->Prop
 |.non,u=>u=Value.none
 |.bl b,u=>u=Value.bool b
 |.int i,u=>∃ t,u=Value.int i t
 |.str x,u=>∃ t,u=Value.str x t
 |.byt b,u=>∃ t,u=Value.bytes b t
 |.flt b,u=>∃ t,u=Value.float b t
 |.ref a,u=>u=Value.ref a
 |.ty n,u=>u=Value.type n
abbrev Vals:List V->List Value->Prop:=Paired RelV
theorem Vals.length{xs:List V}{us:List Value}(r:Vals xs us):xs.length=us.length:=Paired.length r
theorem Vals.get:∀{xs:List V} {us:List Value} {i:Nat} {x:V},Vals xs us->xs[i]?=some x->∃ u,us[i]?=some u /\ RelV x u
 |_,_,_,_,.nil,e=>by simp at e
 |_,_,0,_,.cons r _,e=>by simp at e;subst e;exact⟨_,rfl,r⟩
 | _,_,i+1,x,.cons _ t,e=>by
   obtain⟨u,h1,h2⟩:=Vals.get (i:=i) (x:=x) t (by simpa using e)
   exact⟨u,by simpa using h1,h2⟩
theorem Vals.append:∀{xs ys:List V} {us ws:List Value},Vals xs us->Vals ys ws->Vals (xs++ys) (us++ws)
 |_,_,_,_,.nil,s=>s
 |_,_,_,_,.cons r t,s=>.cons r (Vals.append t s)
theorem Vals.take:∀{xs:List V} {us:List Value} (n:Nat),Vals xs us->Vals (xs.take n) (us.take n)
 |_,_,0,_=>.nil
 |_,_,_+1,.nil=>.nil
 |_,_,n+1,.cons r t=>.cons r (Vals.take n t)
theorem Vals.drop:∀{xs:List V} {us:List Value} (n:Nat),Vals xs us->Vals (xs.drop n) (us.drop n)
 |_,_,0,r=>r
 |_,_,_+1,.nil=>.nil
 |_,_,n+1,.cons _ t=>Vals.drop n t
noncomputable def bu:Option V->Option Value->Prop
 |some v,some u=>RelV v u
 |none,none=>True
 |_,_=>False
noncomputable def KV{κ:Type}:List (κ×V)->List (κ×Value)->Prop:=Paired fun (p:κ×V) (q:κ×Value)=>p.1=q.1 /\ RelV p.2 q.2
noncomputable def kV:Key->V
 |.inl i=>.int i
 |.inr x=>.str x
inductive HO where
  |lst (xs:List V)
  |tup (xs:List V)
  |dK (kvs:List (Key×V))|dT (kvs:List (List Key×V))
  |set (S:Int->Bool) (n:Nat)
  |ins (C dx:Addr) (fs:List (Str×V))
  |own (x:Addr)
  |xd (fs:List (Str×V))
  |met (f x:Addr)
  |rng (lo hi:Int)
  |frz (o:Obj) (u:HO)
  |tbl (ps:Array Value)
  |ext (φ:Heap->Prop)
abbrev Hp:=Addr->Option HO
noncomputable def upd(H:Hp)(a:Addr)(o:HO):Hp:=fun b=>if b=a then some o else H b
theorem bw{H:Hp}{a:Addr}{o:HO}:upd H a o a=some o:=by unfold upd;rw[if_pos rfl]
theorem bB{H:Hp}{a b:Addr}{o:HO}(h:b≠a):upd H a o b=H b:=by unfold upd;rw[if_neg h]
theorem yc{H:Hp}{a:Addr}{o u:HO}:upd (upd H a o) a u=upd H a u:=by
 funext b;unfold upd;split<;>rfl
theorem dS{H:Hp}{a b:Addr}{o:HO}(h:H a=some o)(h':H b=none):a≠b:=by
 intro e;subst e;rw[h]at h';cases h'
section
variable(P:Program)(w:World)
noncomputable def gc(H:Hp)(h:Heap)(a:Addr):HO->Prop
 |.lst xs=>xs.length<=sizeLine /\ ∃(its:List Value) (n:Nat),Vals xs its /\ h.get? a=some { cls:=.type "list",data:=.seq its.toArray n }
 |.tup xs=>xs.length<=sizeLine /\ ∃ its:List Value,Vals xs its /\ IsTup h a its.toArray
 |.dK kvs=>kvs.length<=sizeLine /\ (a==sysModules)=false /\ ∃ vs,KV kvs vs /\ h.DictOf (ez P w) a vs
 | .dT kvs=>kvs.length <= sizeLine /\ (a == sysModules) = false /\ ∃ xs:List (List Key × Addr × Value),
    Paired (fun (p:List Key×V) (q:List Key×Addr×Value)=>p.1=q.1 /\ H q.2.1=some (.tup (p.1.map kV)) /\ RelV p.2 q.2.2) kvs xs /\
    ∃ o es ep,h.get? a=some o /\ o.ExactDict /\ o.data=.dict es ep /\ es.toList=xs.map (entryOfKey (tupleKind (ez P w))) /\ (xs.map (·.1)).Nodup
 |.set S n=>h.SetOf (intKind P w) a S n
 | .ins C dx fs=>H dx = some (.own a) /\ fs.length <= 1000 /\ dx ≠ a /\ h.get? a = some (PySem.W.instObj C dx) /\
    ∃ mA,h.Ns1 dx mA /\ (∀ f,bu (fs.lookup f) (mA f)) /\ PySem.Within mA (fs.map (·.1))
 |.own _=>∃ o,h.get? a=some o
 |.xd fs=>∃ mA,h.Ns1 a mA /\ ∀ f,bu (fs.lookup f) (mA f)
 |.rng lo hi=>∃ t u v,h.get? a=some { cls:=.type "range",data:=.fields #[.int lo t,.int hi u,.int 1 v] }
 |.frz o u=>h.get? a=some o /\ gc H h a u
 |.tbl ps=>h.get? a=some { cls:=.none,data:=.fields ps }
 |.met f x=>h.get? a=some (PySem.W.methodObj (.ref f) (.ref x))
 |.ext φ=>φ h /\ (∃ o,h.get? a=some o) /\ ∀ h1 h2:Heap,φ h1->(∀ o,h1.get? a=some o->h2.get? a=some o)->φ h2
noncomputable def HOk(H:Hp)(h:Heap):Prop:=∀ a o,H a=some o->gc P w H h a o
end
section
variable{P:Program}{w:World}{H H':Hp}{h h':Heap}{a:Addr}{o:HO}
theorem gc.lt(x:gc P w H h a o):a<h.objs.size:=by
 cases o with
 |lst xs=>obtain⟨_,_,_,_,e⟩:=x;exact Heap.lt_size e
 |tup xs=>obtain⟨_,_,_,p⟩:=x;exact p.lt
 |dK kvs=>obtain⟨_,_,_,_,o,_,_,e,_⟩:=x;exact Heap.lt_size e
 |dT kvs=>obtain⟨_,_,_,_,o,_,_,e,_⟩:=x;exact Heap.lt_size e
 |set S n=>obtain⟨o,_,_,_,e,_⟩:=x;exact Heap.lt_size e
 |ins C dx fs=>obtain⟨_,_,_,e,_⟩:=x;exact Heap.lt_size e
 |own y=>obtain⟨_,e⟩:=x;exact Heap.lt_size e
 |xd fs=>obtain⟨_,⟨_,_,_,e,_⟩,_⟩:=x;exact Heap.lt_size e
 |rng lo hi=>obtain⟨_,_,_,e⟩:=x;exact Heap.lt_size e
 |frz ob u=>obtain⟨e,_⟩:=x;exact Heap.lt_size e
 |tbl ps=>exact Heap.lt_size (show h.get? a=some _ from x)
 |met f y=>exact Heap.lt_size (show h.get? a=some _ from x)
 |ext φ=>obtain⟨_,⟨_,e⟩,_⟩:=x;exact Heap.lt_size e
theorem Paired.Ft{α β:Type}{F G:α->β->Prop}:∀{l₁:List α} {l₂:List β},Paired F l₁ l₂->(∀ a b,F a b->G a b)->Paired G l₁ l₂
 |_,_,.nil,_=>.nil
 |_,_,.cons r t,f=>.cons (f _ _ r) (Paired.Ft t f)
theorem gc.qk(x:gc P w H h a o)(k:∀ b u,(b=a \/ H b=some (.own a))->h.get? b=some u->h'.get? b=some u)
  (ho:∀ b,H b=some (.own a)->H' b=some (.own a)) (ht:∀ b xs,H b=some (.tup xs)->H' b=some (.tup xs)):gc P w H' h' a o:=by
 induction o with
 |lst xs=>obtain⟨z,its,n,r,e⟩:=x;exact⟨z,its,n,r,k _ _ (.inl rfl) e⟩
 |tup xs=>obtain⟨z,its,r,ob,e,c⟩:=x;exact⟨z,its,r,ob,k _ _ (.inl rfl) e,c⟩
 |dK kvs=>obtain⟨z,y,vs,r,ob,es,ep,e,c⟩:=x;exact⟨z,y,vs,r,ob,es,ep,k _ _ (.inl rfl) e,c⟩
 | dT kvs=>
   obtain⟨z,y,xs,r,ob,es,ep,e,c⟩:=x
   exact⟨z,y,xs,Paired.Ft r fun p q z=>⟨z.1,ht _ _ z.2.1,z.2.2⟩,ob,es,ep,k _ _ (.inl rfl) e,c⟩
 |set S n=>obtain⟨ob,es,ep,t,e,c⟩:=x;exact⟨ob,es,ep,t,k _ _ (.inl rfl) e,c⟩
 | ins C dx fs=>
   obtain⟨d,z,ne,e,mA,⟨od,es,ep,e2,c⟩,r⟩:=x
   exact⟨ho _ d,z,ne,k _ _ (.inl rfl) e,mA,⟨od,es,ep,k _ _ (.inr d) e2,c⟩,r⟩
 |own y=>obtain⟨ob,e⟩:=x;exact⟨ob,k _ _ (.inl rfl) e⟩
 |xd fs=>obtain⟨mA,⟨od,es,ep,e,c⟩,r⟩:=x;exact⟨mA,⟨od,es,ep,k _ _ (.inl rfl) e,c⟩,r⟩
 |rng lo hi=>obtain⟨t,u,v,e⟩:=x;exact⟨t,u,v,k _ _ (.inl rfl) e⟩
 |frz ob u ih=>obtain⟨e,q⟩:=x;exact⟨k _ _ (.inl rfl) e,ih q⟩
 | tbl ps=>
   have e:h.get? a=some { cls:=.none,data:=.fields ps }:=x
   show h'.get? a=some { cls:=.none,data:=.fields ps };exact k a _ (.inl rfl) e
 | met f y=>
   have e:h.get? a=some (PySem.W.methodObj (.ref f) (.ref y)):=x
   show h'.get? a=some (PySem.W.methodObj (.ref f) (.ref y));exact k a _ (.inl rfl) e
 |ext φ=>obtain⟨p,⟨o,e⟩,st⟩:=x;exact⟨st _ _ p fun o q=>k _ _ (.inl rfl) q,⟨o,k _ _ (.inl rfl) e⟩,st⟩
theorem HOk.lt(x:HOk P w H h)(e:H a=some o):a<h.objs.size:=(x a o e).lt
theorem HOk.fresh(x:HOk P w H h)(e:h.objs.size<=a):H a=none:=by
 cases q:H a with
 |none=>rfl
 |some u=>exact absurd (Nat.lt_of_lt_of_le (x.lt q) e) (Nat.lt_irrefl _)
theorem HOk.kept(x:HOk P w H h)(k:∀ b u,h.get? b=some u->h'.get? b=some u):HOk P w H h':=fun a o e=>
 (x a o e).qk (fun b u _ q=>k b u q) (fun _ q=>q) fun _ _ q=>q
theorem HOk.laid(x:HOk P w H h)(k:∀ b u,h.get? b=some u->h'.get? b=some u)(hp:h.objs.size<=a)(new:gc P w (upd H a o) h' a o):HOk P w (upd H a o) h':=fun b u e=>by
 have hn:=x.fresh hp
 by_cases hb:b=a
 . subst hb;rw[bw]at e;cases e;exact new
 . rw[bB hb]at e
   exact(x b u e).qk (fun c v _ q=>k c v q) (fun c q=>by rw[bB (dS q hn)];exact q) fun c xs q=>by rw[bB (dS q hn)];exact q
end
noncomputable def Rd(H:Hp)(a:Addr)(u:HO):Prop:=H a=some u \/ ∃ o,H a=some (.frz o u)
theorem Rd.ok{P:Program}{w:World}{H:Hp}{h:Heap}{a:Addr}{u:HO}(r:Rd H a u)(x:HOk P w H h):gc P w H h a u:=by
 rcases r with r|⟨o,r⟩
 . exact x a u r
 . obtain⟨_,q⟩:=x a _ r;exact q
noncomputable def Mut:Option HO->Prop
 |some (.lst _)=>True
 |some (.dK _)=>True
 |some (.dT _)=>True
 |some (.set _ _)=>True
 |some (.ins _ _ _)=>True
 |some (.ext _)=>True
 |_=>False
section
variable{P:Program}{w:World}{H:Hp}{h h':Heap}{x e:Addr}{o':HO}
theorem HOk.write(ok:HOk P w H h)(mu:Mut (H x))(he:e=x \/ H e=some (.own x))(k:∀ b u,b≠e->h.get? b=some u->h'.get? b=some u)(heo:∃ u,h'.get? e=some u)
  (new:gc P w (upd H x o') h' x o'):HOk P w (upd H x o') h':=fun b u q=>by
 have nown:∀ c y,H c=some (.own y)->c≠x:=fun c y r z=>by subst z;rw[r]at mu;exact mu
 have ntup:∀ c xs,H c=some (.tup xs)->c≠x:=fun c xs r z=>by subst z;rw[r]at mu;exact mu
 by_cases hb:b=x
 . subst hb;rw[bw]at q;cases q;exact new
 . rw[bB hb]at q
   by_cases hbe:b=e
   . have q':H b = some (.own x):=by
      rcases he with z|z
      . exact absurd (hbe.trans z) hb
      . rw[hbe];exact z
     rw[q]at q';cases q';obtain⟨v,hv⟩:=heo
     exact⟨v,by rw[hbe];exact hv⟩
   . refine(ok b u q).qk (fun c v hc r=>k c v ?_ r) (fun c r=>by rw[bB (nown c b r)];exact r) fun c xs r=>by rw[bB (ntup c xs r)];exact r
     rcases hc with rfl|hc
     . exact hbe
     . rintro rfl
       rcases he with z|z
       . exact nown c b hc z
       . rw[hc]at z;cases z;exact hb rfl
end
structure Un(fs ex:List Addr)(H H':Hp)(h h':Heap):Prop where
 keep:∀ b o,h.get? b=some o->H b=none->b∉fs->b∉ex->h'.get? b=some o
 slot:∀ b o,h.get? b=some o->H b=none->b∈fs->b∉ex->∃ sl,h'.get? b=some { o with slots:=sl }
 free:∀ b o,h.get? b=some o->H b=none->b∉ex->H' b=none
 there:∀ b o,h.get? b=some o->b∉ex->∃ o',h'.get? b=some o'
 tups:∀ b xs,H b=some (.tup xs)->H' b=some (.tup xs)
 frzs:∀ b o u,H b=some (.frz o u)->H' b=some (.frz o u)
 tbls:∀ b ps,H b=some (.tbl ps)->∃ more,H' b=some (.tbl (ps++more))
section
variable{fs fs' ex ex':List Addr}{H H1 H2:Hp}{h h1 h2 h':Heap}{a x e:Addr}{o:HO}
theorem Un.any(u:Un fs ex H H1 h h1){b:Addr}{ob:Obj}(q:h.get? b=some ob)(n:H b=none)(hx:b∉ex):∃ sl,h1.get? b=some { ob with slots:=sl }:=by
 by_cases hb:b∈fs
 . exact u.slot b ob q n hb hx
 . exact⟨ob.slots,u.keep b ob q n hb hx⟩
theorem Un.kept(k:∀ b u,h.get? b=some u->h'.get? b=some u):Un fs ex H H h h':=
 ⟨fun b ob q _ _ _=>k b ob q,fun b ob q _ _ _=>⟨ob.slots,k b ob q⟩,fun _ _ _ n _=>n,fun b ob q _=>⟨ob,k b ob q⟩,fun _ _ q=>q,fun _ _ _ q=>q,fun _ ps q=>⟨#[],by rw[q];simp⟩⟩
theorem Un.refl:Un fs ex H H h h:=Un.kept fun _ _ q=>q
theorem Un.laid(k:∀ b u,h.get? b=some u->h'.get? b=some u)(hp:h.objs.size<=a)(hn:H a=none):Un fs ex H (upd H a o) h h' where
 keep:=fun b u q _ _ _=>k b u q
 slot:=fun b u q _ _ _=>⟨u.slots,k b u q⟩
 free:=fun b u q n _=>by rw[bB (Nat.ne_of_lt (Nat.lt_of_lt_of_le (Heap.lt_size q) hp))];exact n
 there:=fun b u q _=>⟨u,k b u q⟩
 tups:=fun b xs q=>by rw[bB (dS q hn)];exact q
 frzs:=fun b u xs q=>by rw[bB (dS q hn)];exact q
 tbls:=fun b ps q=>⟨#[],by rw[bB (dS q hn),q];simp⟩
theorem Un.write(mu:Mut (H x))(he:e=x \/ H e=some (.own x))(k:∀ b u,b≠e->h.get? b=some u->h'.get? b=some u)(heo:∃ u,h'.get? e=some u):Un fs ex H (upd H x o) h h':=by
 have hx:∀ b,H b=none->b≠x:=fun b n z=>by subst z;rw[n]at mu;exact mu
 have hb:∀ b,H b=none->b≠e:=fun b n z=>by
  subst z
  rcases he with r|r
  . exact hx b n r
  . rw[n]at r;cases r
 have hm:∀ b u,H b=some u->¬ Mut (some u)->b≠x:=fun b u q nm z=>by subst z;rw[q]at mu;exact nm mu
 refine⟨fun b u q n _ _=>k b u (hb b n) q,fun b u q n _ _=>⟨u.slots,k b u (hb b n) q⟩,fun b u q n _=>by rw[bB (hx b n)];exact n,fun b u q _=>?_,
  fun b xs q=>by rw[bB (hm b _ q fun z=>z)];exact q,fun b u xs q=>by rw[bB (hm b _ q fun z=>z)];exact q,fun b ps q=>⟨#[],by rw[bB (hm b _ q fun z=>z),q];simp⟩⟩
 by_cases hbe:b=e
 . subst hbe;exact heo
 . exact⟨u,k b u hbe q⟩
end
noncomputable def trk(h:Heap)(H:Hp):List Addr:=(List.range h.objs.size).filter fun a=>(H a).isSome
noncomputable def uu(h:Heap)(H:Hp):Heap:=PySem.W.hideAll h (trk h H)
theorem zp(h:Heap)(H:Hp):(uu h H).objs.size=h.objs.size:=PySem.W.hideAll_size _ _
theorem AY{h:Heap}{H:Hp}{b:Addr}{o:Obj}(e:h.get? b=some o)(n:H b=none):(uu h H).get? b=some o:=
 PySem.W.hideAll_get _ e fun hm=>by
  have q:(H b).isSome=true:=(List.mem_filter.mp hm).2
  rw[n]at q;simp at q
theorem CU{h:Heap}{H:Hp}{b:Addr}{o:Obj}(e:(uu h H).get? b=some o):h.get? b=some o /\ H b=none:=by
 have e':h.get? b=some o:=PySem.W.of_hideAll (trk h H) e
 refine⟨e',?_⟩
 cases q:H b with
 |none=>rfl
 | some x=>
   have hm:b∈trk h H:=List.mem_filter.mpr ⟨List.mem_range.mpr (Heap.lt_size e'),by simp[q]⟩
   have z:(uu h H).get? b=none:=PySem.W.hideAll_none (trk h H) hm
   rw[z]at e;cases e
noncomputable def DG(g h:Heap)(L:Addr):List (Addr×Obj):=(List.range h.objs.size).filterMap fun a=>if a=L \/ (g.get? a).isSome=true then none else(h.get? a).map fun o=>(a,o)
noncomputable def rest(g h:Heap)(L d:Addr):List (Addr×Obj):=(DG g h L).filter fun p=>decide (p.1≠d)
structure Mod(K:PySem.W.Frag)(mg:Str->Option Value)(base:Heap):Prop where
 kin:K.In base
 glob:base.Ns mainGlobals mg
 blt:∃ mb,base.Ns builtinsNs mb /\ ∀ x:Str,x ≠ "__name__" -> mb x=bootBuiltins x
 nolimit:base.NoLimit
structure Cx where
 prog:Program
 w:World
 K:PySem.W.Frag
 mg:Str->Option Value
 base:Heap
 A:Around
 N:List Str
 s₀:Shared
 H₀:Hp
 env:Env
 outer:List Env
 stack:List Env
 ex:List Addr
 fn:Str->Bool
 calm:Bool
 pn:List (Addr×Obj)
 xe:Value->Shared->Prop
noncomputable def frs(l:List Env):List Addr:=l.filterMap (·.frame)
noncomputable abbrev Cx.fs(X:Cx):List Addr:=frs X.outer
noncomputable def Vis(sc:Scope)(x:Str):Prop:=sc.names.lookup x=some .local \/ sc.names.lookup x=some .cell \/ sc.names.lookup x=some .free
noncomputable def Loc(sc:Scope)(x:Str):Prop:=sc.names.lookup x=some .local \/ sc.names.lookup x=some .cell
noncomputable def Look(env:Env)(h:Heap)(m:Str->Option Value)(x:Str)(u:Value):Prop:=
 (env.kindOf x=some .local /\ m x=some u) \/ ((env.kindOf x=some .cell \/ env.kindOf x=some .free) /\ ∃ c,env.cells.lookup x=some c /\ h.IsCell c (some u))
structure Cx.Ok(X:Cx):Prop where
 mod:Mod X.K X.mg X.base
 kind:X.env.scope.kind=.function
 glob:X.env.globals=mainGlobals
 blt:X.env.builtins=builtinsNs
 above:X.s₀.heap.objs.size<=X.env.locals
 inj:∀ x y c,X.env.cells.lookup x=some c->X.env.cells.lookup y=some c->x=y
 has:∀ x,(X.env.kindOf x=some .cell \/ X.env.kindOf x=some .free)->∃ c,X.env.cells.lookup x=some c
 cab:∀ x c,X.fn x=true->X.env.cells.lookup x=some c->X.s₀.heap.objs.size<=c
 hd:X.calm=true->X.A.handled=none
 frames:X.A.frames=some X.stack
 stk:X.stack=X.outer \/ (X.stack=X.env ::X.outer /\ X.env.frame=some X.env.locals)
 exf:∀ b∈X.ex,b≠X.env.locals /\ ∀ x c,X.env.cells.lookup x=some c->c≠b
 bs:∀ b o,X.base.get? b=some o->X.s₀.heap.get? b=some o /\ X.H₀ b=none
 bsz:X.base.objs.size<=X.s₀.heap.objs.size
 noex:∀ b o,X.base.get? b=some o->b∉X.ex
 exfs:∀ b∈X.ex,b∉X.fs
 sF:X.s₀.heap.FunFrames X.base X.outer
 frf:∀ b∈X.fs,X.H₀ b=none
structure Inv(X:Cx)(pins:List (Addr×Obj))(σ:List (Option V))(H:Hp)(s:Shared):Prop where
 ok:X.Ok
 os:s.os=X.s₀.os
 bare:AllBare s.gens
 base:Un X.fs X.ex X.H₀ H X.s₀.heap s.heap
 loc:∃ m,s.heap.Ns X.env.locals m /\ ∀(i:Nat) (x:Str) (v:V),X.N[i]?=some x->σ[i]?=some (some v)->Vis X.env.scope x->∃ u,RelV v u /\ Look X.env s.heap m x u
 cell:∀ x c,X.env.cells.lookup x=some c->∃ v,s.heap.IsCell c v
 free:H X.env.locals=none
 freeC:∀ x c,X.env.cells.lookup x=some c->H c=none
 pin:∀ p∈X.pn++pins,s.heap.get? p.1=some p.2 /\ H p.1=none /\ p.1≠X.env.locals /\ p.1∉X.fs /\ ∀ v,p.2.data≠.cell v
 hok:HOk X.prog X.w H s.heap
 len:σ.length=X.N.length
section
variable{X:Cx}{pins:List (Addr×Obj)}{σ:List (Option V)}{H H':Hp}{s:Shared}{h':Heap}
theorem Cx.Ok.Kg(ok:X.Ok){b:Addr}{o:Obj}(e:X.base.get? b=some o):b∉X.fs:=fun hb=>by
 have:=(ok.sF.mem hb).1;rw[e]at this;cases this
theorem Inv.bs(I:Inv X pins σ H s):∀ b o,X.base.get? b=some o->s.heap.get? b=some o /\ H b=none:=fun b o e=>
 ⟨I.base.keep b o (I.ok.bs b o e).1 (I.ok.bs b o e).2 (I.ok.Kg e) (I.ok.noex b o e),I.base.free b o (I.ok.bs b o e).1 (I.ok.bs b o e).2 (I.ok.noex b o e)⟩
theorem Inv.bk(I:Inv X pins σ H s):∀ b o,X.base.get? b=some o->s.heap.get? b=some o:=fun b o e=>(I.bs b o e).1
theorem Inv.mod(I:Inv X pins σ H s):Mod X.K X.mg X.base:=I.ok.mod
theorem Inv.kIn(I:Inv X pins σ H s):X.K.In s.heap:=I.ok.mod.kin.keeps I.bk
theorem Inv.nolimit(I:Inv X pins σ H s):s.heap.NoLimit:=I.ok.mod.nolimit.keeps I.bk
theorem Inv.lt(I:Inv X pins σ H s):X.env.locals<s.heap.objs.size:=let ⟨_,hn,_⟩:=I.loc;hn.lt
theorem Inv.sz(I:Inv X pins σ H s):X.s₀.heap.objs.size<=s.heap.objs.size:=Nat.le_trans I.ok.above (Nat.le_of_lt I.lt)
theorem Inv.Jh(I:Inv X pins σ H s){a:Addr}(h:s.heap.objs.size<=a):a∉X.fs:=fun hb=>by
 obtain⟨_,o,ho,_⟩:=I.ok.sF.mem hb;exact absurd (Nat.lt_of_lt_of_le (Heap.lt_size ho) (Nat.le_trans I.sz h)) (Nat.lt_irrefl _)
theorem Inv.cne(I:Inv X pins σ H s):∀ x c,X.env.cells.lookup x=some c->c≠X.env.locals:=fun x c e z=>by
 obtain⟨v,o,ho,hd⟩:=I.cell x c e;obtain⟨m,⟨o',es,ep,ho',hd',_⟩,_⟩:=I.loc;rw[z,ho']at ho;cases ho;rw[hd']at hd;cases hd
theorem Inv.sF(I:Inv X pins σ H s):s.heap.FunFrames X.base X.outer:=by
 have all:∀(l:List Env),(∀ b∈frs l,b∈X.fs)->X.s₀.heap.FunFrames X.base l->s.heap.FunFrames X.base l:=by
  intro l
  induction l with
  |nil=>intro _ _;trivial
  | cons env r ih=>
    intro hs hl;obtain⟨hk,⟨L,o,hf,hn,ho,hd⟩,hr⟩:=hl
    have hL:L∈X.fs:=hs L (by unfold frs;rw[List.filterMap_cons,hf];exact List.mem_cons_self)
    obtain⟨sl,e⟩:=I.base.slot L o ho (I.ok.frf L hL) hL fun z=>I.ok.exfs L z hL
    exact⟨hk,⟨L,_,hf,hn,e,hd⟩,ih (fun b hb=>hs b (by unfold frs;rw[List.filterMap_cons,hf];exact List.mem_cons_of_mem _ hb)) hr⟩
 exact all X.outer (fun _ hb=>hb) I.ok.sF
theorem Inv.stack(I:Inv X pins σ H s):s.heap.FunFrames X.base X.stack:=by
 rcases I.ok.stk with e|⟨e,hf⟩
 . rw[e];exact I.sF
 . rw[e];obtain⟨m,hn,_⟩:=I.loc;refine .cons (by rw[I.ok.kind];decide) hf hn ?_ I.sF;exact Heap.get?_none_of_le (Nat.le_trans I.ok.bsz I.ok.above)
theorem Inv.xO(I:Inv X pins σ H s):∀ b∈frs X.stack,b∈X.env.locals ::X.fs:=fun b hb=>by
 rcases I.ok.stk with e|⟨e,hf⟩
 . rw[e]at hb;exact List.mem_cons_of_mem _ hb
 . rw[e]at hb;unfold frs at hb;rw[List.filterMap_cons,hf]at hb;exact hb
theorem Inv.uT(I:Inv X pins σ H s):∀ b∈frs X.stack,H b=none:=fun b hb=>by
 rcases List.mem_cons.mp (I.xO b hb)with e|hb
 . rw[e];exact I.free
 . obtain⟨_,o,ho,_⟩:=I.ok.sF.mem hb
   exact I.base.free b o ho (I.ok.frf b hb) fun z=>I.ok.exfs b z hb
theorem Inv.step{g':Array GenState}{t':Nat}{d':Drawn}{ch:List Addr}(I:Inv X pins σ H s)
  (hch:∀ b∈ch,(b∈X.ex \/ X.s₀.heap.objs.size<=b) /\ b≠X.env.locals /\ (∀ x c,X.env.cells.lookup x=some c->c≠b) /\ ∀ p∈X.pn++pins,p.1≠b)
  (keep:∀ b o,b≠X.env.locals->b∉X.fs->b∉ch->s.heap.get? b=some o->H b=none->h'.get? b=some o)
  (slot:∀ b o,b≠X.env.locals->b∈X.fs->b∉ch->s.heap.get? b=some o->H b=none->∃ sl,h'.get? b=some { o with slots:=sl }) (free:∀ b o,b∉ch->s.heap.get? b=some o->H b=none->H' b=none)
  (there:∀ b o,b∉ch->s.heap.get? b=some o->∃ o',h'.get? b=some o')
  (tups:∀ b xs,H b=some (.tup xs)->H' b=some (.tup xs)) (frzs:∀ b o u,H b=some (.frz o u)->H' b=some (.frz o u)) (tbls:∀ b ps,H b=some (.tbl ps)->∃ more,H' b=some (.tbl (ps++more)))
  (ns:∀ m,s.heap.Ns X.env.locals m->h'.Ns X.env.locals m) (hok:HOk X.prog X.w H' h') (hg:AllBare g'):
  Inv X pins σ H' { s with heap:=h',gens:=g',drawn:=d',toks:=t' }:=by
 have neL:∀ b o,X.s₀.heap.get? b=some o->b≠X.env.locals:=fun b o e=>Nat.ne_of_lt (Nat.lt_of_lt_of_le (Heap.lt_size e) I.ok.above)
 have neC:∀ b o,X.s₀.heap.get? b=some o->b∉X.ex->b∉ch:=fun b o e hx hb=>by
  rcases(hch b hb).1 with z|z
  . exact hx z
  . exact absurd (Nat.lt_of_lt_of_le (Heap.lt_size e) z) (Nat.lt_irrefl _)
 have cellK:∀ x c,X.env.cells.lookup x=some c->∀ v,s.heap.IsCell c v->h'.IsCell c v:=fun x c e v ⟨o,ho,hd⟩=>by
  have nch:c∉ch:=fun z=>(hch c z).2.2.1 x c e rfl
  by_cases hc:c∈X.fs
  . obtain⟨sl,q⟩:=slot c o (I.cne x c e) hc nch ho (I.freeC x c e)
    exact⟨_,q,hd⟩
  . exact⟨o,keep c o (I.cne x c e) hc nch ho (I.freeC x c e),hd⟩
 refine⟨I.ok,I.os,hg,⟨fun b o e n hb hx=>?_,fun b o e n hb hx=>?_,fun b o e n hx=>?_,fun b o e hx=>?_,fun b xs e=>tups b xs (I.base.tups b xs e),fun b o xs e=>frzs b o xs (I.base.frzs b o xs e),fun b ps e=>?_⟩,?_,fun x c e=>?_,?_,fun x c e=>?_,fun p hp=>?_,hok,I.len⟩
 . exact keep b o (neL b o e) hb (neC b o e hx) (I.base.keep b o e n hb hx) (I.base.free b o e n hx)
 . obtain⟨sl,e1⟩:=I.base.slot b o e n hb hx;obtain⟨sl',e2⟩:=slot b _ (neL b o e) hb (neC b o e hx) e1 (I.base.free b o e n hx)
   exact⟨sl',e2⟩
 . obtain⟨o',e1⟩:=I.base.there b o e hx;exact free b o' (neC b o e hx) e1 (I.base.free b o e n hx)
 . obtain⟨o',e1⟩:=I.base.there b o e hx;exact there b o' (neC b o e hx) e1
 . obtain⟨m1,e1⟩:=I.base.tbls b ps e;obtain⟨m2,e2⟩:=tbls b _ e1
   exact⟨m1++m2,by rw[e2,Array.append_assoc]⟩
 . obtain⟨m,hn,hl⟩:=I.loc
   refine⟨m,ns m hn,fun i x v e1 e2 e3=>?_⟩
   obtain⟨u,r,l⟩:=hl i x v e1 e2 e3
   refine⟨u,r,?_⟩
   rcases l with l|⟨k,c,e,z⟩
   . exact .inl l
   . exact .inr ⟨k,c,e,cellK x c e _ z⟩
 . obtain⟨v,z⟩:=I.cell x c e
   exact⟨v,cellK x c e v z⟩
 . obtain⟨m,⟨o,_,_,ho,_⟩,_⟩:=I.loc;exact free _ o (fun z=>(hch _ z).2.1 rfl) ho I.free
 . obtain⟨v,o,ho,hd⟩:=I.cell x c e;exact free c o (fun z=>(hch c z).2.2.1 x c e rfl) ho (I.freeC x c e)
 . obtain⟨e,n,ne,nf,d⟩:=I.pin p hp
   have nch:p.1∉ch:=fun z=>(hch p.1 z).2.2.2 p hp rfl
   exact⟨keep p.1 p.2 ne nf nch e n,free p.1 p.2 nch e n,ne,nf,d⟩
theorem Inv.un{t':Nat}(I:Inv X pins σ H s)(u:Un X.fs [] H H' s.heap h')(hok:HOk X.prog X.w H' h'):Inv X pins σ H' { s with heap:=h',toks:=t' }:=by
 obtain⟨m,⟨o,es,ep,ho,r⟩,_⟩:=id I.loc;obtain⟨sl,hL⟩:=u.any ho I.free (by simp)
 exact I.step (g':=s.gens) (d':=s.drawn) (ch:=[]) (fun _ z=>nomatch z) (fun b o _ hb _ e n=>u.keep b o e n hb (by simp)) (fun b o _ hb _ e n=>u.slot b o e n hb (by simp)) (fun b o _ e n=>u.free b o e n (by simp)) (fun b o _ e=>u.there b o e (by simp)) u.tups u.frzs u.tbls (fun m' hm=>by
  obtain⟨o',es',ep',ho',r'⟩:=hm;rw[ho]at ho';cases ho'
  exact⟨_,es',ep',hL,r'⟩) hok I.bare
theorem Inv.call{g':Array GenState}{t':Nat}{d':Drawn}{ch:List Addr}(I:Inv X pins σ H s)(u:Un (frs X.stack) ch H H' s.heap h')(hok:HOk X.prog X.w H' h')(hg:AllBare g')
  (hch:∀ b∈ch,(b∈X.ex \/ X.s₀.heap.objs.size<=b) /\ b≠X.env.locals /\ (∀ x c,X.env.cells.lookup x=some c->c≠b) /\ ∀ p∈X.pn++pins,p.1≠b):
  Inv X pins σ H' { s with heap:=h',gens:=g',drawn:=d',toks:=t' }:=by
 obtain⟨m,⟨o,es,ep,ho,r⟩,_⟩:=id I.loc
 obtain⟨sl,hL⟩:=u.any ho I.free fun z=>(hch _ z).2.1 rfl
 exact I.step (ch:=ch) hch (fun b o hL hb hc e n=>u.keep b o e n (fun z=>(List.mem_cons.mp (I.xO b z)).elim hL hb) hc) (fun b o _ _ hc e n=>u.any e n hc) (fun b o hc e n=>u.free b o e n hc) (fun b o hc e=>u.there b o e hc) u.tups u.frzs u.tbls (fun m' hm=>by
  obtain⟨o',es',ep',ho',r'⟩:=hm;rw[ho]at ho';cases ho'
  exact⟨_,es',ep',hL,r'⟩) hok hg
theorem Inv.turned{t':Nat}{it:Addr}(I:Inv X pins σ H s)(k:∀ b o,b≠it->s.heap.get? b=some o->h'.get? b=some o)(hn:H it=none)(hL:it≠X.env.locals)
  (h1:it∈X.ex \/ X.s₀.heap.objs.size<=it) (h2:∀ x c,X.env.cells.lookup x=some c->c≠it) (h3:∀ p∈X.pn++pins,p.1≠it):Inv X pins σ H { s with heap:=h',toks:=t' }:=by
 have nit:∀ b u,H b=some u->b≠it:=fun b u e z=>by rw[z,hn]at e;cases e
 refine I.step (g':=s.gens) (d':=s.drawn) (ch:=[it]) (fun b hb=>?_) (fun b o _ _ hc e _=>k b o (fun z=>hc (by simp[z])) e) (fun b o _ _ hc e _=>⟨o.slots,k b o (fun z=>hc (by simp[z])) e⟩) (fun _ _ _ _ n=>n)
  (fun b o hc e=>⟨o,k b o (fun z=>hc (by simp[z])) e⟩) (fun _ _ e=>e) (fun _ _ _ e=>e) (fun b ps e=>⟨#[],by rw[e];simp⟩) (fun m hm=>?_) (fun b u e=>?_) I.bare
 . have e:b=it:=by simpa using hb
   subst e
   exact⟨h1,hL,h2,h3⟩
 . obtain⟨o,es,ep,ho,r⟩:=hm
   exact⟨o,es,ep,k _ o (Ne.symm hL) ho,r⟩
 . refine(I.hok b u e).qk (fun c v hc q=>k c v ?_ q) (fun _ q=>q) fun _ _ q=>q
   rcases hc with z|z
   . rw[z];exact nit b u e
   . exact nit c _ z
theorem Inv.tok(I:Inv X pins σ H s)(t:Nat):Inv X pins σ H { s with toks:=t }:=I.un (h':=s.heap) (t':=t) Un.refl I.hok
theorem Inv.kept{t':Nat}(I:Inv X pins σ H s)(k:∀ b u,s.heap.get? b=some u->h'.get? b=some u):Inv X pins σ H { s with heap:=h',toks:=t' }:=I.un (Un.kept k) (I.hok.kept k)
theorem Inv.laid{a:Addr}{o:HO}{t':Nat}(I:Inv X pins σ H s)(k:∀ b u,s.heap.get? b=some u->h'.get? b=some u)(hp:s.heap.objs.size<=a)(new:gc X.prog X.w (upd H a o) h' a o):
  Inv X pins σ (upd H a o) { s with heap:=h',toks:=t' }:=I.un (Un.laid k hp (I.hok.fresh hp)) (I.hok.laid k hp new)
theorem Inv.write{x e:Addr}{o:HO}{t':Nat}(I:Inv X pins σ H s)(mu:Mut (H x))(he:e=x \/ H e=some (.own x))(k:∀ b u,b≠e->s.heap.get? b=some u->h'.get? b=some u)(heo:∃ u,h'.get? e=some u)
  (new:gc X.prog X.w (upd H x o) h' x o):Inv X pins σ (upd H x o) { s with heap:=h',toks:=t' }:=I.un (Un.write mu he k heo) (I.hok.write mu he k heo new)
theorem Inv.yU{pins':List (Addr×Obj)}(I:Inv X pins σ H s)(h:∀ p∈pins',s.heap.get? p.1=some p.2 /\ H p.1=none /\ p.1≠X.env.locals /\ p.1∉X.fs /\ ∀ v,p.2.data≠.cell v):Inv X pins' σ H s:=
 ⟨I.ok,I.os,I.bare,I.base,I.loc,I.cell,I.free,I.freeC,fun p hp=>(List.mem_append.mp hp).elim (fun z=>I.pin p (List.mem_append_left _ z)) (h p),I.hok,I.len⟩
theorem vm{N:List Str}(hN:N.Nodup){i j:Nat}{x:Str}(a:N[i]?=some x)(b:N[j]?=some x):i=j:=by
 obtain⟨h1,e1⟩:=List.getElem?_eq_some_iff.mp a;obtain⟨h2,e2⟩:=List.getElem?_eq_some_iff.mp b
 exact(List.getElem_inj hN).mp (e1.trans e2.symm)
theorem Am{M:Model}{A:Around}{E:Value->Shared->Prop}{i:Nat}{x:Str}{v:V}{u:Value}{Q:Unit->Shared->Prop}(I:Inv X pins σ H s)(hN:X.N.Nodup)(hi:X.N[i]?=some x)(hx:Loc X.env.scope x)(r:RelV v u)
  (h:∀ s',Inv X pins (σ.set i (some v)) H s'->(∃ a,Heap.SameBut a s.heap s'.heap /\ (a=X.env.locals \/ X.env.cells.lookup x=some a))->Q () s') (hf:X.fn x=true \/ X.env.scope.names.lookup x=some .local:=by first|exact .inl rfl|exact .inr rfl|assumption):wpAny M A (storeName X.env x u) Q E s:=by
 obtain⟨m,hn,hl⟩:=id I.loc
 have hcls:(X.env.scope.kind == .class||(X.env.scope.kind == .module&&X.env.locals != X.env.globals))=false:=by rw[I.ok.kind];rfl
 have hiσ:i<σ.length:=by rw[I.len];exact(List.getElem?_eq_some_iff.mp hi).1
 have cne:=I.cne
 have tracked:∀{a:Addr} {h':Heap},(∃ o,s.heap.get? a=some o /\ H a=none)->Heap.SameBut a s.heap h'->HOk X.prog X.w H h':=fun {a h'} ha hs b ob e=>by
  obtain⟨_,_,hfree⟩:=ha
  refine(I.hok b ob e).qk (fun c w' hc q=>(hs.2 c ?_).trans q) (fun _ q=>q) fun _ _ q=>q
  rintro rfl
  rcases hc with rfl|hc
  . rw[hfree]at e;cases e
  . rw[hfree]at hc;cases hc
 rcases hx with hk|hk
 . refine wpAny_storeName_local hk hn (fun h' hn' hs=>?_) hcls;obtain⟨oL,_,_,hoL,_⟩:=id hn;refine h _ ⟨I.ok,I.os,I.bare,⟨fun b o e n hb hx=>?_,fun b o e n hb hx=>?_,I.base.free,fun b o e hx=>?_,I.base.tups,I.base.frzs,I.base.tbls⟩,⟨_,hn',fun j y v' e1 e2 e3=>?_⟩,fun y c e=>?_,I.free,I.freeC,fun p hp=>?_,tracked ⟨oL,hoL,I.free⟩ hs,by simpa using I.len⟩ ⟨_,hs,.inl rfl⟩
   . exact(hs.2 b (Nat.ne_of_lt (Nat.lt_of_lt_of_le (Heap.lt_size e) I.ok.above))).trans (I.base.keep b o e n hb hx)
   . obtain⟨sl,e1⟩:=I.base.slot b o e n hb hx
     exact⟨sl,(hs.2 b (Nat.ne_of_lt (Nat.lt_of_lt_of_le (Heap.lt_size e) I.ok.above))).trans e1⟩
   . obtain⟨o',e1⟩:=I.base.there b o e hx
     exact⟨o',(hs.2 b (Nat.ne_of_lt (Nat.lt_of_lt_of_le (Heap.lt_size e) I.ok.above))).trans e1⟩
   . by_cases hj:j=i
     . subst hj;rw[hi]at e1;cases e1;rw[List.getElem?_set_self hiσ]at e2;cases e2
       exact⟨u,r,.inl ⟨hk,by simp⟩⟩
     . rw[List.getElem?_set_ne (Ne.symm hj)]at e2;obtain⟨u',r',q⟩:=hl j y v' e1 e2 e3
       refine⟨u',r',?_⟩
       rcases q with⟨k,e⟩|⟨k,c,e,z⟩
       . refine .inl ⟨k,?_⟩
         have:y≠x:=fun e=>hj (vm hN e1 (e ▸ hi))
         simp[this,e]
       . exact .inr ⟨k,c,e,z.sameBut hs (cne y c e)⟩
   . obtain⟨w',z⟩:=I.cell y c e
     exact⟨w',z.sameBut hs (cne y c e)⟩
   . obtain⟨e,n,ne,nf,d⟩:=I.pin p hp
     exact⟨(hs.2 p.1 ne).trans e,n,ne,nf,d⟩
 . have hfn:X.fn x = true:=by
    rcases hf with z|z
    . exact z
    . rw[z]at hk;cases hk
   obtain⟨c,hc⟩:=I.ok.has x (.inl hk);obtain⟨w',z⟩:=I.cell x c hc;refine wpAny_storeName_cell I.ok.kind hk hc z (fun h' hc' hs=>?_);obtain⟨oc,hoc,hocd⟩:=id z;refine h { s with heap:=h' } ⟨I.ok,I.os,I.bare,⟨fun b o e n hb hx=>?_,fun b o e n hb hx=>?_,I.base.free,fun b o e hx=>?_,I.base.tups,I.base.frzs,I.base.tbls⟩,⟨m,hn.sameBut hs (Ne.symm (cne x c hc)),fun j y v' e1 e2 e3=>?_⟩,fun y c' e=>?_,I.free,I.freeC,fun p hp=>?_,tracked ⟨oc,hoc,I.freeC x c hc⟩ hs,by simpa using I.len⟩ ⟨c,hs,.inr hc⟩
   . exact(hs.2 b (Nat.ne_of_lt (Nat.lt_of_lt_of_le (Heap.lt_size e) (I.ok.cab x c hfn hc)))).trans (I.base.keep b o e n hb hx)
   . obtain⟨sl,e1⟩:=I.base.slot b o e n hb hx
     exact⟨sl,(hs.2 b (Nat.ne_of_lt (Nat.lt_of_lt_of_le (Heap.lt_size e) (I.ok.cab x c hfn hc)))).trans e1⟩
   . obtain⟨o',e1⟩:=I.base.there b o e hx
     exact⟨o',(hs.2 b (Nat.ne_of_lt (Nat.lt_of_lt_of_le (Heap.lt_size e) (I.ok.cab x c hfn hc)))).trans e1⟩
   . by_cases hj:j=i
     . subst hj;rw[hi]at e1;cases e1;rw[List.getElem?_set_self hiσ]at e2;cases e2
       exact⟨u,r,.inr ⟨.inl hk,c,hc,hc'⟩⟩
     . rw[List.getElem?_set_ne (Ne.symm hj)]at e2;obtain⟨u',r',q⟩:=hl j y v' e1 e2 e3
       refine⟨u',r',?_⟩
       rcases q with q|⟨k,c',e,z'⟩
       . exact .inl q
       . refine .inr ⟨k,c',e,z'.sameBut hs ?_⟩
         rintro rfl
         exact hj (vm hN e1 (I.ok.inj _ _ _ e hc ▸ hi))
   . by_cases hcc:c'=c
     . subst hcc;exact⟨_,hc'⟩
     . obtain⟨w2,z2⟩:=I.cell y c' e
       exact⟨w2,z2.sameBut hs hcc⟩
   . obtain⟨e,n,ne,nf,d⟩:=I.pin p hp
     refine⟨(hs.2 p.1 ?_).trans e,n,ne,nf,d⟩
     intro q;rw[q,hoc]at e
     have q':oc=p.2:=Option.some.inj e
     exact d w' (by rw[<- q'];exact hocd)
theorem jc{M:Model}{A:Around}{E:Value->Shared->Prop}{i:Nat}{x:Str}{v:V}{u:Value}{Q:Unit->Shared->Prop}(I:Inv X pins σ H s)(hN:X.N.Nodup)(hi:X.N[i]?=some x)(hx:Loc X.env.scope x)(r:RelV v u)
  (h:∀ s',Inv X pins (σ.set i (some v)) H s'->Q () s') (hf:X.fn x=true \/ X.env.scope.names.lookup x=some .local:=by first|exact .inl rfl|exact .inr rfl|assumption):wpAny M A (storeName X.env x u) Q E s:=
 Am I hN hi hx r (fun s' I' _=>h s' I') hf
theorem Inv.Eo{s':Shared}{ch:List Addr}(I:Inv X pins σ H s)(ho:s'.os=s.os)(u:Un (frs X.stack) ch H H' s.heap s'.heap)(hok:HOk X.prog X.w H' s'.heap)(hg:AllBare s'.gens)
  (hch:∀ b∈ch,(b∈X.ex \/ X.s₀.heap.objs.size<=b) /\ b≠X.env.locals /\ (∀ x c,X.env.cells.lookup x=some c->c≠b) /\ ∀ p∈X.pn++pins,p.1≠b):Inv X pins σ H' s':=by
 obtain⟨h',g',d',t',o'⟩:=s'
 have e:o'=s.os:=ho
 subst e;exact I.call (g':=g') (t':=t') (d':=d') u hok hg hch
end
abbrev XK:=Value->Option Addr->Hp->Prop
abbrev St:=List (Option V)
abbrev VK:=V->Hp->Prop
abbrev TE:=St->Hp->VK->Prop
abbrev TT:=St->Hp->(Bool->Hp->Prop)->Prop
abbrev TA:=St->Hp->(List V->Hp->Prop)->Prop
structure Ends where
 nx:St->Hp->Prop
 rt:VK
 bk:St->Hp->Prop:=fun _ _=>False
 ct:St->Hp->Prop:=fun _ _=>False
abbrev TS:=Ends->St->Hp->Prop
noncomputable def EP(X:Cx)(pins:List (Addr×Obj))(σ:St)(Q:VK)(u:Value)(s':Shared):Prop:=∃ v H',Inv X pins σ H' s' /\ RelV v u /\ Q v H'
noncomputable def TP(X:Cx)(pins:List (Addr×Obj))(σ:St)(Q:Bool->Hp->Prop)(b:Bool)(s':Shared):Prop:=∃ H',Inv X pins σ H' s' /\ Q b H'
noncomputable def AP(X:Cx)(pins:List (Addr×Obj))(σ:St)(Q:List V->Hp->Prop)(us:List Value)(s':Shared):Prop:=∃ vs H',Inv X pins σ H' s' /\ Vals vs us /\ Q vs H'
noncomputable def SP(X:Cx)(pins:List (Addr×Obj))(D:Ends)(f:Flow)(s':Shared):Prop:=
 match f with
 |.next=>∃ σ' H',Inv X pins σ' H' s' /\ D.nx σ' H'
 |.brk=>∃ σ' H',Inv X pins σ' H' s' /\ D.bk σ' H'
 |.cont=>∃ σ' H',Inv X pins σ' H' s' /\ D.ct σ' H'
 |.ret u=>∃ v σ' H',Inv X pins σ' H' s' /\ RelV v u /\ D.rt v H'
noncomputable def PE(X:Cx)(e:Expr)(t:TE):Prop:=
 ∀(pins:List (Addr×Obj)) (s:Shared) (σ:St) (H:Hp) (Q:VK),Inv X pins σ H s->t σ H Q->wpAny (model X.prog X.w) X.A (eval e X.env) (EP X pins σ Q) X.xe s
noncomputable def PT(X:Cx)(e:Expr)(t:TT):Prop:=
 ∀(pins:List (Addr×Obj)) (s:Shared) (σ:St) (H:Hp) (Q:Bool->Hp->Prop),Inv X pins σ H s->t σ H Q->wpAny (model X.prog X.w) X.A (isTrue e X.env (eval e X.env)) (TP X pins σ Q) X.xe s
noncomputable def PW(X:Cx)(e:Expr)(t:TT):Prop:=
 ∀(whole:Sem Value) (pins:List (Addr×Obj)) (s:Shared) (σ:St) (H:Hp) (Q:Bool->Hp->Prop),Inv X pins σ H s->t σ H Q->wpAny (model X.prog X.w) X.A (isTrue e X.env whole) (TP X pins σ Q) X.xe s
theorem PW.pt{X:Cx}{e:Expr}{t:TT}(h:PW X e t):PT X e t:=h _
noncomputable def PA(X:Cx)(es:List Expr)(t:TA):Prop:=
 ∀(pos:Pos) (pins:List (Addr×Obj)) (s:Shared) (σ:St) (H:Hp) (Q:List V->Hp->Prop),Inv X pins σ H s->t σ H Q->wpAny (model X.prog X.w) X.A (spliced (backTo pos (starEach es X.env))) (AP X pins σ Q) X.xe s
noncomputable def PS(X:Cx)(st:Stmt)(t:TS):Prop:=
 ∀(pins:List (Addr×Obj)) (s:Shared) (σ:St) (H:Hp) (D:Ends),Inv X pins σ H s->t D σ H->wpAny (model X.prog X.w) X.A (exec st X.env) (SP X pins D) X.xe s
noncomputable def PSs(X:Cx)(st:List Stmt)(t:TS):Prop:=
 ∀(pins:List (Addr×Obj)) (s:Shared) (σ:St) (H:Hp) (D:Ends),Inv X pins σ H s->t D σ H->wpAny (model X.prog X.w) X.A (execs st X.env) (SP X pins D) X.xe s
theorem thn{α:Type}{t:Sem α}{Q Q':α->Shared->Prop}{M:Model}{A:Around}{E:Value->Shared->Prop}{s:Shared}(h:wpAny M A t Q E s)(hQ:∀ a s,Q a s->Q' a s):wpAny M A t Q' E s:=wpAny_mono h hQ fun _ _ x=>x
section
variable{X:Cx}
theorem bin{a b:Expr}{ta tb:TE}(ha:PE X a ta)(hb:PE X b tb){pins:List (Addr×Obj)}{s:Shared}{σ:St}{H:Hp}{R:V->V->Hp->Prop}(I:Inv X pins σ H s)(h:ta σ H fun x H1=>tb σ H1 fun y H2=>R x y H2)
  {α:Type} {Q:α->Shared->Prop} {f:Value->Value->Sem α}
  (hf:∀ v u s2 x y H2,Inv X pins σ H2 s2->RelV x v->RelV y u->R x y H2->wpAny (model X.prog X.w) X.A (f v u) Q X.xe s2):
  wpAny (model X.prog X.w) X.A (eval a X.env) (fun v s₁=>wpAny (model X.prog X.w) X.A (eval b X.env) (fun u s₂=>wpAny (model X.prog X.w) X.A (f v u) Q X.xe s₂) X.xe s₁) X.xe s:=by
 refine thn (ha pins s σ H _ I h) fun v s1 ⟨x,H1,I1,r1,q1⟩=>?_
 refine thn (hb pins s1 σ H1 _ I1 q1) fun u s2 ⟨y,H2,I2,r2,q2⟩=>?_
 exact hf v u s2 x y H2 I2 r1 r2 q2
noncomputable def wU(i:Nat):TE:=fun σ H Q=>∃ v,σ[i]?=some (some v) /\ Q v H
noncomputable def tC(v:V):TE:=fun _ H Q=>Q v H
theorem FO{i:Nat}{x:Str}{pos:Pos}(hN:X.N[i]?=some x)(hv:Vis X.env.scope x)(hd:(x==("__debug__":Str))=false:=by decide)(hcd:(x==("__classdict__":Str))=false:=by decide):PE X (.Name x pos) (wU i):=by
 intro pins s σ H Q I h;obtain⟨v,e,h⟩:=h;obtain⟨m,hn,hl⟩:=I.loc;obtain⟨u,r,l⟩:=hl i x v hN e hv
 have fin:EP X pins σ Q u s:=⟨v,H,I,r,h⟩
 rcases l with⟨hk,hm⟩|⟨hk,c,hc,hcell⟩
 . exact wpAny_Name (wpAny_loadName_local I.ok.kind hk hn hm fin) hd
 . rcases hk with hk|hk
   . exact wpAny_Name (wpAny_loadName_cell I.ok.kind hk hc hcell fin) hd
   . exact wpAny_Name (wpAny_loadName_free I.ok.kind hk hc hcell fin hcd) hd
theorem GW{i j pos}:PE X (.Constant (.int i) j pos) (tC (.int i)):=fun _ _ _ H _ I h=>wpAny_Constant_int ⟨.int i,H,I.tok _,⟨_,rfl⟩,h⟩
theorem HG{b j pos}:PE X (.Constant (.bool b) j pos) (tC (.bl b)):=fun _ _ _ H _ I h=>Constant_bool ⟨.bl b,H,I,rfl,h⟩
theorem GP{j pos}:PE X (.Constant .none j pos) (tC .non):=fun _ _ _ H _ I h=>Constant_none ⟨.non,H,I,rfl,h⟩
theorem FC{x j pos}:PE X (.Constant (.str x) j pos) (tC (.str x)):=fun _ _ _ H _ I h=>Calls.Constant_str ⟨.str x,H,I.tok _,⟨_,rfl⟩,h⟩
noncomputable def Gl(X:Cx)(x:Str):Prop:=X.env.kindOf x=some .globalImplicit
theorem qC{E:Value->Shared->Prop}{pins:List (Addr×Obj)}{s:Shared}{σ:St}{H:Hp}{x:Str}{u:Value}{pos:Pos}{Q:Value->Shared->Prop}(I:Inv X pins σ H s)(hg:Gl X x)(hm:X.mg x=some u)(h:Q u s)
  (hd:(x==("__debug__":Str))=false:=by decide):wpAny (model X.prog X.w) X.A (eval (.Name x pos) X.env) Q E s:=
 Calls.Name_function_global I.ok.kind hg (Calls.loadGlobal_global (by rw[I.ok.glob];exact I.mod.glob.keeps I.bk) hm h) hd
theorem sd{E:Value->Shared->Prop}{pins:List (Addr×Obj)}{s:Shared}{σ:St}{H:Hp}{x:Str}{u:Value}{pos:Pos}{Q:Value->Shared->Prop}(I:Inv X pins σ H s)(hg:Gl X x)(hm:X.mg x=none)(hv:bootBuiltins x=some u)(h:Q u s)
  (hn:x ≠ "__name__":=by decide) (hd:(x==("__debug__":Str))=false:=by decide):wpAny (model X.prog X.w) X.A (eval (.Name x pos) X.env) Q E s:=by
 obtain⟨mb,h1,h2⟩:=I.mod.blt;exact Calls.Name_function_global I.ok.kind hg (Calls.loadGlobal_builtin (by rw[I.ok.glob];exact I.mod.glob.keeps I.bk) hm (by rw[I.ok.blt];exact h1.keeps I.bk) ((h2 x hn).trans hv) h) hd
theorem DI{x:Str}{v:V}{u:Value}{pos:Pos}(hg:Gl X x)(hm:X.mg x=some u)(r:RelV v u)(hd:(x==("__debug__":Str))=false:=by decide):PE X (.Name x pos) (tC v):=
 fun _ _ _ H _ I h=>qC I hg hm ⟨v,H,I,r,h⟩ hd
theorem CG{x:Str}{v:V}{u:Value}{pos:Pos}(hg:Gl X x)(hm:X.mg x=none)(hv:bootBuiltins x=some u)(r:RelV v u)(hn:x ≠ "__name__":=by decide)(hd:(x==("__debug__":Str))=false:=by decide):PE X (.Name x pos) (tC v):=
 fun _ _ _ H _ I h=>sd I hg hm hv ⟨v,H,I,r,h⟩ hn hd
variable{a b:Expr}{ta tb:TE}{pos:Pos}
noncomputable def PC(X:Cx)(op:CmpOp)(a b:Expr)(t:TE):Prop:=
 ∀(pins:List (Addr×Obj)) (s:Shared) (σ:St) (H:Hp) (Q:VK),Inv X pins σ H s->t σ H Q ->
   wpAny (model X.prog X.w) X.A (eval a X.env) (fun v s₁=>wpAny (model X.prog X.w) X.A (eval b X.env) (fun u s₂=>wpAny (model X.prog X.w) X.A (compareOp op v u) (EP X pins σ Q) X.xe s₂) X.xe s₁) X.xe s
theorem vL(b:Expr){op:CmpOp}(h:op≠.In)(h2:op≠.NotIn):behindInMarks op b=false:=by
 have e1:(op==CmpOp.In)=false:=by cases op<;>first|rfl|exact absurd rfl h
 have e2:(op==CmpOp.NotIn)=false:=by cases op<;>first|rfl|exact absurd rfl h2
 cases b<;>simp[behindInMarks,e1,e2]
noncomputable def tB(t:TE):TT:=fun σ H Q=>t σ H fun x H1=>∃ c,x=.bl c /\ Q c H1
theorem Fl{op:CmpOp}{t:TE}(h:PC X op a b t)(h1:behindInMarks op b=false:=by first|exact vL _ (by decide) (by decide)|rfl):PT X (.Compare a [op] [b] pos) (tB t):=by
 intro pins s σ H Q I hw;refine wpAny_isTrue_Compare1 (thn (h pins s σ H _ I hw) fun v s1 h1=>thn h1 fun u s2 h2=>thn h2 fun c s3 ⟨x,H1,I1,r1,q1⟩=>?_) h1;obtain⟨d,rfl,q⟩:=q1;cases r1;exact wpAny_truthy_bool ⟨H1,I1,q⟩
variable{tA tB':TT}{rest:List Expr}
noncomputable def Gh(t u:TT):TT:=fun σ H Q=>t σ H fun c H1=>if c=true then u σ H1 Q else Q false H1
noncomputable def tOr(t u:TT):TT:=fun σ H Q=>t σ H fun c H1=>if c=true then Q true H1 else u σ H1 Q
noncomputable def DJ(t:TT):TT:=fun σ H Q=>t σ H fun c H1=>Q (!c) H1
theorem CQ(ha:PT X a tA):PW X (.BoolOp .And [a] pos) tA:=by
 intro wh pins s σ H Q I h;refine isTrue_and (thn (ha pins s σ H Q I h) fun c s1 e=>?_)
 cases c with
 |true=>exact isTrue_and_nil e
 |false=>exact e
theorem GX(ha:PT X a tA):PW X (.BoolOp .Or [a] pos) tA:=by
 intro wh pins s σ H Q I h;refine isTrue_or (thn (ha pins s σ H Q I h) fun c s1 e=>?_)
 cases c with
 |false=>exact isTrue_or_nil e
 |true=>exact e
theorem Gk(ha:PT X a tA)(hb:PW X (.BoolOp .And (b ::rest) pos) tB'):PW X (.BoolOp .And (a ::b ::rest) pos) (Gh tA tB'):=by
 intro wh pins s σ H Q I h;refine isTrue_and (thn (ha pins s σ H _ I h) fun c s1 ⟨H1,I1,q1⟩=>?_)
 cases c with
 |true=>exact hb wh pins s1 σ H1 Q I1 q1
 |false=>exact⟨H1,I1,q1⟩
theorem HA(ha:PT X a tA)(hb:PW X (.BoolOp .Or (b ::rest) pos) tB'):PW X (.BoolOp .Or (a ::b ::rest) pos) (tOr tA tB'):=by
 intro wh pins s σ H Q I h;refine isTrue_or (thn (ha pins s σ H _ I h) fun c s1 ⟨H1,I1,q1⟩=>?_)
 cases c with
 |true=>exact⟨H1,I1,q1⟩
 |false=>exact hb wh pins s1 σ H1 Q I1 q1
theorem FH(ha:PT X a tA):PT X (.UnaryOp .Not a pos) (DJ tA):=by
 intro pins s σ H Q I h;exact isTrue_not (ha pins s σ H (fun c H1=>Q (!c) H1) I h)
noncomputable def BI(ta tb:TE):TE:=fun σ H Q=>ta σ H fun x H1=>∃ c,x=.bl c /\ if c=true then tb σ H1 Q else Q (.bl false) H1
noncomputable def Ap(ta:TE):TE:=fun σ H Q=>ta σ H fun x H1=>∃ c,x=.bl c /\ Q (.bl (!c)) H1
theorem Gz{op}{t:TE}(h:PE X a t):PE X (.BoolOp op [a] pos) t:=fun pins s σ H Q I hw=>BoolOp_one (h pins s σ H Q I hw)
theorem FX(ha:PE X a ta)(hb:PE X (.BoolOp .And (b ::rest) pos) tb):PE X (.BoolOp .And (a ::b ::rest) pos) (BI ta tb):=by
 intro pins s σ H Q I h;refine BoolOp_and (thn (ha pins s σ H _ I h) fun v s1 ⟨x,H1,I1,r1,q1⟩=>?_);obtain⟨c,rfl,q1⟩:=q1;cases r1;refine wpAny_truthy_bool ?_
 cases c with
 |true=>exact hb pins s1 σ H1 Q I1 q1
 |false=>exact⟨.bl false,H1,I1,rfl,q1⟩
theorem G2(ha:PE X a ta):PE X (.UnaryOp .Not a pos) (Ap ta):=by
 intro pins s σ H Q I h;refine UnaryOp_ (thn (ha pins s σ H _ I h) fun v s1 ⟨x,H1,I1,r1,q1⟩=>?_);obtain⟨c,rfl,q1⟩:=q1;cases r1;exact not_of (wpAny_truthy_bool ⟨.bl (!c),H1,I1,rfl,q1⟩)
noncomputable def tIf(t:TT)(ta tb:TE):TE:=fun σ H Q=>t σ H fun c H1=>if c=true then ta σ H1 Q else tb σ H1 Q
theorem BK{c:Expr}(hc:PT X c tA)(ha:PE X a ta)(hb:PE X b tb):PE X (.IfExp c a b pos) (tIf tA ta tb):=by
 intro pins s σ H Q I h;refine wpAny_IfExp (thn (hc pins s σ H _ I h) fun d s1 ⟨H1,I1,q1⟩=>?_)
 cases d with
 |true=>exact ha pins s1 σ H1 Q I1 q1
 |false=>exact hb pins s1 σ H1 Q I1 q1
end
noncomputable def SqL(K:PySem.W.Frag)(H:Hp)(a:Addr)(xs:List V):Prop:=
 Rd H a (.lst xs) \/
  ∃(o:Obj) (its:Array Value) (n:Nat),K.lookup a=some o /\ o.cls=.type "list" /\ o.dict=none /\ o.data=.seq its n /\ its.size<=sizeLine /\ Vals xs its.toList
noncomputable def SqT(K:PySem.W.Frag)(H:Hp)(a:Addr)(xs:List V):Prop:=
 Rd H a (.tup xs) \/
  ∃(o:Obj) (its:Array Value) (n:Nat),K.lookup a=some o /\ o.cls=.type "tuple" /\ o.data=.seq its n /\ its.size<=sizeLine /\ Vals xs its.toList
noncomputable def Jr:Value->Option V
 |.none=>some .non
 |.bool b=>some (.bl b)
 |.int i _=>some (.int i)
 |.str x _=>some (.str x)
 |.bytes b _=>some (.byt b)
 |.float b _=>some (.flt b)
 |.ref a=>some (.ref a)
 |.type n=>some (.ty n)
 |_=>none
theorem RelV.abs{x:V}{u:Value}(r:RelV x u):Jr u=some x:=by
 cases x with
 |non=>cases r;rfl
 |bl _=>cases r;rfl
 |int _=>obtain⟨t,rfl⟩:=r;rfl
 |str _=>obtain⟨t,rfl⟩:=r;rfl
 |byt _=>obtain⟨t,rfl⟩:=r;rfl
 |flt _=>obtain⟨t,rfl⟩:=r;rfl
 |ref _=>cases r;rfl
 |ty _=>cases r;rfl
theorem RelV.inj{x y:V}{u:Value}(r:RelV x u)(q:RelV y u):x=y:=Option.some.inj (r.abs.symm.trans q.abs)
theorem Vals.inj:∀{xs ys:List V} {us:List Value},Vals xs us->Vals ys us->xs=ys
 |_,_,_,.nil,.nil=>rfl
 |_,_,_,.cons r t,.cons r' t'=>by rw[r.inj r',Vals.inj t t']
section
variable{X:Cx}{pins:List (Addr×Obj)}{σ:St}{H:Hp}{s:Shared}{a:Addr}{xs ys:List V}
theorem Inv.list(I:Inv X pins σ H s)(h:SqL X.K H a xs):∃ its:List Value,Vals xs its /\ PlainL s.heap a its.toArray /\ xs.length<=sizeLine:=by
 rcases h with h|⟨o,its,n,hk,hc,hd,hs,hz,r⟩
 . obtain⟨z,its,n,r,e⟩:=h.ok I.hok
   exact⟨its,r,⟨_,n,e,rfl,rfl,rfl⟩,z⟩
 . refine⟨its.toList,r,⟨o,n,I.kIn a o hk,hc,hd,by simpa using hs⟩,?_⟩
   have e:=r.length;simp only[Array.length_toList]at e;omega
theorem Inv.tuple(I:Inv X pins σ H s)(h:SqT X.K H a xs):∃ its:List Value,Vals xs its /\ IsTup s.heap a its.toArray /\ xs.length<=sizeLine:=by
 rcases h with h|⟨o,its,n,hk,hc,hs,hz,r⟩
 . obtain⟨z,its,r,p⟩:=h.ok I.hok
   exact⟨its,r,p,z⟩
 . refine⟨its.toList,r,⟨o,I.kIn a o hk,hc,n,by simpa using hs⟩,?_⟩
   have e:=r.length;simp only[Array.length_toList]at e;omega
theorem Inv.vK(I:Inv X pins σ H s)(h:SqL X.K H a xs)(h':SqL X.K H a ys):xs=ys:=by
 obtain⟨its,r,⟨o,n,e,_,_,d⟩,_⟩:=I.list h;obtain⟨its',r',⟨o',n',e',_,_,d'⟩,_⟩:=I.list h';rw[e]at e';cases e';rw[d]at d'
 injection d' with d1 _
 have:its=its':=by simpa using congrArg Array.toList d1
 subst this;exact r.inj r'
theorem Inv.zw(I:Inv X pins σ H s)(h:SqT X.K H a xs)(h':SqT X.K H a ys):xs=ys:=by
 obtain⟨its,r,⟨o,e,_,n,d⟩,_⟩:=I.tuple h;obtain⟨its',r',⟨o',e',_,n',d'⟩,_⟩:=I.tuple h';rw[e]at e';cases e';rw[d]at d'
 injection d' with d1 _
 have:its=its':=by simpa using congrArg Array.toList d1
 subst this;exact r.inj r'
end
section
variable{X:Cx}{st:Stmt}{rest:List Stmt}{t u:TS}{e:Expr}{te:TE}{pos:Pos}
noncomputable def Ba:TS:=fun D σ H=>D.nx σ H
noncomputable def GG(t u:TS):TS:=fun D σ H=>t { D with nx:=u D } σ H
theorem DE:PSs X [] Ba:=fun _ _ σ H _ I h=>wpAny_execs_nil ⟨σ,H,I,h⟩
theorem B7(h1:PS X st t)(h2:PSs X rest u):PSs X (st ::rest) (GG t u):=by
 intro pins s σ H D I h;refine wpAny_execs_cons (thn (h1 pins s σ H { D with nx:=u D } I h) fun f s1 q=>?_)
 cases f with
 | next=>
   obtain⟨σ',H',I',q⟩:=q;exact h2 pins s1 σ' H' D I' q
 |ret v=>exact q
 |brk=>exact q
 |cont=>exact q
theorem Co(h1:PS X st t):PSs X [st] t:=by
 intro pins s σ H D I h;refine wpAny_execs_cons (thn (h1 pins s σ H D I h) fun f s1 q=>?_)
 cases f with
 |next=>exact wpAny_execs_nil q
 |ret v=>exact q
 |brk=>exact q
 |cont=>exact q
theorem Inv.quiet{pins:List (Addr×Obj)}{σ:St}{H:Hp}{s:Shared}(I:Inv X pins σ H s):interactive X.env=false:=by simp[interactive,I.ok.kind]
noncomputable def sq(te:TE):TS:=fun D σ H=>te σ H fun _ H1=>D.nx σ H1
theorem CF(he:PE X e te)(hs:swapsWith e none pos.line X.env=pure false:=by rfl):PS X (.Expr e pos) (sq te):=by
 intro pins s σ H D I h;exact wpAny_Expr_any (thn (he pins s σ H _ I h) fun v s1 ⟨x,H1,I1,r1,q1⟩=>⟨σ,H1,I1,q1⟩) I.quiet hs
noncomputable def DB(te:TE):TS:=fun D σ H=>te σ H D.rt
theorem EJ(he:PE X e te):PS X (.Return (some e) pos) (DB te):=by
 intro pins s σ H D I h;exact wpAny_Return_some (thn (he pins s σ H _ I h) fun v s1 ⟨x,H1,I1,r1,q1⟩=>⟨x,σ,H1,I1,r1,q1⟩)
noncomputable def C9(c:TT)(t u:TS):TS:=fun D σ H=>c σ H fun b H1=>if b=true then t D σ H1 else u D σ H1
theorem Hh{c:Expr}{a b:List Stmt}{tc:TT}(hc:PT X c tc)(ha:PSs X a t)(hb:PSs X b u):PS X (.If c a b pos) (C9 tc t u):=by
 intro pins s σ H D I h;refine wpAny_If (thn (hc pins s σ H _ I h) fun d s1 ⟨H1,I1,q1⟩=>?_)
 cases d with
 |true=>exact ha pins s1 σ H1 D I1 q1
 |false=>exact hb pins s1 σ H1 D I1 q1
end
abbrev TG:=V->St->Hp->(St->Hp->Prop)->Prop
abbrev TGs:=List V->St->Hp->(St->Hp->Prop)->Prop
noncomputable def PG(X:Cx)(target:Expr)(t:TG):Prop:=
 ∀(pins:List (Addr×Obj)) (s:Shared) (σ:St) (H:Hp) (v:V) (u:Value) (Q:St->Hp->Prop),Inv X pins σ H s->RelV v u->t v σ H Q ->
   wpAny (model X.prog X.w) X.A (assign target X.env u) (fun _ s'=>∃ σ' H',Inv X pins σ' H' s' /\ Q σ' H') X.xe s
noncomputable def PGs(X:Cx)(ts:List Expr)(t:TGs):Prop:=
 ∀(pins:List (Addr×Obj)) (s:Shared) (σ:St) (H:Hp) (vs:List V) (us:List Value) (Q:St->Hp->Prop),Inv X pins σ H s->Vals vs us->t vs σ H Q ->
   wpAny (model X.prog X.w) X.A (assignInOrder ((assignEach ts X.env).map (·.2)) us) (fun _ s'=>∃ σ' H',Inv X pins σ' H' s' /\ Q σ' H') X.xe s
section
variable{X:Cx}{pos:Pos}
noncomputable def jb(i:Nat):TG:=fun v σ H Q=>Q (σ.set i (some v)) H
theorem Cr{i:Nat}{x:Str}(hN:X.N.Nodup)(hi:X.N[i]?=some x)(hx:Loc X.env.scope x)(hf:X.fn x=true \/ X.env.scope.names.lookup x=some .local:=by first|exact .inl rfl|exact .inr rfl|assumption):PG X (.Name x pos) (jb i):=by
 intro pins s σ H v u Q I r h;exact wpAny_assign_Name (jc I hN hi hx r (fun s' I'=>⟨_,H,I',h⟩) hf)
noncomputable def F3:TGs:=fun vs σ H Q=>vs=[] /\ Q σ H
noncomputable def yn(t:TG)(u:TGs):TGs:=fun vs σ H Q=>∃ v r,vs=v ::r /\ t v σ H fun σ' H'=>u r σ' H' Q
theorem Df:PGs X [] F3:=by
 intro pins s σ H vs us Q I r h;obtain⟨e,h⟩:=h;subst e;cases r;exact assignInOrder_nil ⟨σ,H,I,h⟩
theorem A3{e:Expr}{es:List Expr}{t:TG}{u:TGs}(h1:PG X e t)(h2:PGs X es u)
  (hs:(assignEach (e ::es) X.env).map (·.2)=assign e X.env ::(assignEach es X.env).map (·.2):=by rfl):PGs X (e ::es) (yn t u):=by
 intro pins s σ H vs us Q I r h;obtain⟨v,vr,e1,h⟩:=h;subst e1
 cases r with
 | cons r rr=>
   rw[hs];refine assignInOrder_cons (thn (h1 pins s σ H _ _ _ I r h) fun _ s1 ⟨σ1,H1,I1,q1⟩=>?_);exact h2 pins s1 σ1 H1 _ _ Q I1 rr q1
noncomputable def E4(K:PySem.W.Frag)(n:Nat)(t:TGs):TG:=fun v σ H Q=>∃ a xs,v=.ref a /\ SqT K H a xs /\ xs.length=n /\ t xs σ H Q
theorem Gv{es:List Expr}{k:Nat}{t:TGs}{n:Nat}(hc:X.calm=true)(h:PGs X es t)
  (hn:(assignEach es X.env).length=n:=by rfl) (hst:(assignEach es X.env).findIdx? (·.1)=none:=by rfl):PG X (.Tuple es k pos) (E4 X.K n t):=by
 intro pins s σ H v u Q I r hw;obtain⟨a,xs,e1,hq,hl,hw⟩:=hw;subst e1;cases r;obtain⟨its,rv,ht,hz⟩:=I.tuple hq
 refine assign_Tuple_tuple (I.ok.hd hc) ht (by simp[hn,<- hl,rv.length]) hst fun h' hx=>?_
 have I1:Inv X pins σ H { s with heap:=h' }:=I.kept (t':=s.toks) fun b o e=>hx b o (Nat.ne_of_lt (Heap.lt_size e)) e
 exact h pins _ σ H xs _ Q I1 (by simpa using rv) hw
noncomputable def sN(te:TE)(g:TG):TS:=fun D σ H=>te σ H fun x H1=>g x σ H1 D.nx
theorem EK{i:Nat}{x:Str}{e:Expr}{te:TE}{pos':Pos}(hN:X.N.Nodup)(hi:X.N[i]?=some x)(hx:Loc X.env.scope x)(he:PE X e te)(hs:swapsWith e (some (.Name x pos')) pos.line X.env=pure false:=by rfl)(hf:X.fn x=true \/ X.env.scope.names.lookup x=some .local:=by first|exact .inl rfl|exact .inr rfl|assumption):
  PS X (.Assign [.Name x pos'] e pos) (sN te (jb i)):=by
 intro pins s σ H D I h;refine wpAny_Assign_Name (thn (he pins s σ H _ I h) fun v s1 ⟨y,H1,I1,r1,q1⟩=>?_) hs;exact jc I1 hN hi hx r1 (fun s2 I2=>⟨_,H1,I2,q1⟩) hf
end
section
variable{X:Cx}{pos:Pos}
noncomputable def xH(c:TT)(tb:TS):TS:=fun D σ H=>∃ W:Nat->St->Hp->Prop,(∃ m,W m σ H) /\ ∀ m σ H,W m σ H ->
 c σ H fun b H1=>if b=true then ∃ N:St->Hp->Prop,(∀ σ' H',N σ' H'->∃ m',m'<m /\ W m' σ' H') /\ tb { D with nx:=N,ct:=N,bk:=D.nx } σ H1 else D.nx σ H1
theorem AA{c:Expr}{body:List Stmt}{tc:TT}{tb:TS}(hp:PassesOwn (model X.prog X.w) X.A X.env X.xe)(hc:PT X c tc)(hb:PSs X body tb):PS X (.While c body [] pos) (xH tc tb):=by
 intro pins s σ H D I h;obtain⟨W,⟨m0,w0⟩,turn⟩:=h;refine wpAny_While (codeAny_whileLoop (fun n s'=>∃ σ' H',Inv X pins σ' H' s' /\ W n σ' H') ?_ m0 ⟨σ,H,I,w0⟩)
 rintro n s1 ⟨σ1,H1,I1,w1⟩
 refine wpAny_passesOwn hp (thn (hc pins s1 σ1 H1 _ I1 (turn n σ1 H1 w1)) fun b s2 ⟨H2,I2,q2⟩=>?_)
 cases b with
 | true=>
   obtain⟨N,hN,q2⟩:=q2;rw[if_pos rfl];refine wpAny_passesOwn hp (thn (hb pins s2 σ1 H2 _ I2 q2) fun f s3 q3=>?_)
   cases f with
   | next=>
     obtain⟨σ3,H3,I3,n3⟩:=q3;obtain⟨m',hm,w3⟩:=hN σ3 H3 n3
     exact⟨m',hm,σ3,H3,I3,w3⟩
   | cont=>
     obtain⟨σ3,H3,I3,n3⟩:=q3;obtain⟨m',hm,w3⟩:=hN σ3 H3 n3
     exact⟨m',hm,σ3,H3,I3,w3⟩
   |brk=>exact q3
   |ret v=>exact q3
 | false=>
   rw[if_neg Bool.false_ne_true];exact wpAny_execs_nil ⟨σ1,H2,I2,q2⟩
end
structure It where
 go:Nat->Hp->Prop
 yld:Nat->Hp->V->Hp->Prop
 stop:Nat->Hp->Prop
noncomputable def kI(X:Cx)(pins:List (Addr×Obj))(H:Hp)(b:Addr):Prop:=
 H b=none /\ b≠X.env.locals /\ b∉X.fs /\ (b∈X.ex \/ X.s₀.heap.objs.size<=b) /\ (∀ x c,X.env.cells.lookup x=some c->c≠b) /\ ∀ p∈X.pn++pins,p.1≠b
theorem Inv.wX{X:Cx}{pins:List (Addr×Obj)}{σ:St}{H H':Hp}{s:Shared}{b:Addr}(I:Inv X pins σ H s)(hb:s.heap.objs.size<=b)(hn:H' b=none):kI X pins H' b:=by
 refine⟨hn,Nat.ne_of_gt (Nat.lt_of_lt_of_le I.lt hb),I.Jh hb,.inr (Nat.le_trans I.sz hb),fun x c e z=>?_,fun p hp z=>?_⟩
 . obtain⟨v,q⟩:=I.cell x c e;exact absurd (Nat.lt_of_lt_of_le q.lt (by rw[z];exact hb)) (Nat.lt_irrefl _)
 . exact absurd (Nat.lt_of_lt_of_le (Heap.lt_size (I.pin p hp).1) (by rw[z];exact hb)) (Nat.lt_irrefl _)
structure Turn(P:Program)(w:World)(K:PySem.W.Frag)(tg:Expr)(J:It)(fp:List Addr)(it:Addr)(tn:Nat->Heap->Prop):Prop where
 mem:it∈fp
 obj:∀ i h,tn i h->∀ b∈fp,∃ o,h.get? b=some o /\ ∀ v,o.data≠.cell v
 keep:∀ i h h',tn i h->(∀ b∈fp,∀ o,h.get? b=some o->h'.get? b=some o)->tn i h'
 item:∀(X:Cx),X.prog=P->X.w=w->X.K=K->X.calm=true->∀(i:Nat) (pins:List (Addr×Obj)) (s:Shared) (σ:St) (H:Hp) (E:Value->Shared->Prop),Inv X pins σ H s->(∀ b∈fp,kI X pins H b)->tn i s.heap->J.go i H ->
  wpAny (model P w) X.A (pyNext (.ref it)) (fun r s1=>∃ u,r=some u /\
   wpAny (model P w) X.A (letOwnedTupleGo tg (.ref it) u) (fun _ s2=>∃ x H',Inv X pins σ H' s2 /\ RelV x u /\ J.yld i H x H' /\ tn (i+1) s2.heap /\ ∀ b∈fp,H' b=none) E s1) E s
 done:∀(X:Cx),X.prog=P->X.w=w->X.K=K->X.calm=true->∀(i:Nat) (pins:List (Addr×Obj)) (s:Shared) (σ:St) (H:Hp) (E:Value->Shared->Prop),Inv X pins σ H s->(∀ b∈fp,kI X pins H b)->tn i s.heap->J.stop i H ->
  wpAny (model P w) X.A (pyNext (.ref it)) (fun r s1=>r=none /\ Inv X pins σ H s1) E s
 self:∀(A:Around) (i:Nat) (s:Shared) (Q:Value->Shared->Prop) (E:Value->Shared->Prop),tn i s.heap->Q (.ref it) s->wpAny (model P w) A (pyIter (.ref it)) Q E s
abbrev TI:=St->Hp->(It->Hp->Prop)->Prop
noncomputable def PIE(X:Cx)(pins:List (Addr×Obj))(σ:St)(tg:Expr)(R:It->Hp->Prop)(itv:Value)(s2:Shared):Prop:=
 ∃(it:Addr) (fp:List Addr) (tn:Nat->Heap->Prop) (J:It) (H':Hp),itv=.ref it /\ Inv X pins σ H' s2 /\ Turn X.prog X.w X.K tg J fp it tn /\ tn 0 s2.heap /\ (∀ b∈fp,kI X pins H' b) /\ R J H'
noncomputable def PI(X:Cx)(tg iter:Expr)(wi:TI):Prop:=
 ∀(pins:List (Addr×Obj)) (s:Shared) (σ:St) (H:Hp) (R:It->Hp->Prop),Inv X pins σ H s->wi σ H R ->
   wpAny (model X.prog X.w) X.A (eval iter X.env) (fun v s1=>wpAny (model X.prog X.w) X.A (pyIter v) (PIE X pins σ tg R) X.xe s1) X.xe s
theorem yt{M:Model}{A:Around}{E:Value->Shared->Prop}{s:Shared}{tg:Expr}{it:Addr}{u:Value}{o:Obj}{n:String}{vs:Array Value}{Q:Unit->Shared->Prop}(ho:s.heap.get? it=some o)(hc:o.cls=.type n)(hd:o.data=.fields vs)
  (hn:["enumerate","zip","dict_itemiterator","dict_reverseitemiterator","odict_iterator","itertools.zip_longest","itertools.pairwise"].contains n=false) (hQ:Q () s):wpAny M A (letOwnedTupleGo tg (.ref it) u) Q E s:=by
 unfold letOwnedTupleGo
 cases tg<;>first
  |exact wpAny_pure hQ
  | (cases u <;> first
      |exact wpAny_pure hQ
      | (refine wpAny_bind (wpAny_load ho ?_)
         rw[hc,hd];show wpAny M A (if(["enumerate","zip","dict_itemiterator","dict_reverseitemiterator","odict_iterator","itertools.zip_longest","itertools.pairwise"].contains n&&vs[0]?==some (rawInt _))=true then _ else _) Q E s;rw[if_neg (by intro h;rw[hn,Bool.false_and]at h;cases h)]
         exact wpAny_pure hQ))
noncomputable def Itl(K:PySem.W.Frag)(a:Addr):It:=
 ⟨fun i H=>∃ xs x,SqL K H a xs /\ xs[i]?=some x,fun i H x H'=>H'=H /\ ∀ xs,SqL K H a xs->xs[i]?=some x,fun i H=>∃ xs,SqL K H a xs /\ xs.length<=i⟩
noncomputable def Itt(K:PySem.W.Frag)(a:Addr):It:=
 ⟨fun i H=>∃ xs x,SqT K H a xs /\ xs[i]?=some x,fun i H x H'=>H'=H /\ ∀ xs,SqT K H a xs->xs[i]?=some x,fun i H=>∃ xs,SqT K H a xs /\ xs.length<=i⟩
noncomputable def Itr(lo:Int)(n:Nat):It:=⟨fun i _=>i<n,fun i H x H'=>H'=H /\ x=.int (lo+i),fun i _=>n<=i⟩
theorem zE{P:Program}{w:World}{K:PySem.W.Frag}{tg:Expr}(a it:Addr):Turn P w K tg (Itl K a) [it] it (fun i h=>h.IsListIter it a i) where
 mem:=by simp
 obj:=fun i h st b hb=>by
  have e:b=it:=by simpa using hb
  subst e;obtain⟨o,e,c,d⟩:=st
  exact⟨o,e,fun v z=>by rw[d]at z;cases z⟩
 keep:=fun i h h' st k=>st.at fun o e=>k it (by simp) o e
 item:=by
  intro X hP hw hK hc i pins s σ H E I hf st hg;subst hP hw hK;obtain⟨xs,x,hq,hx⟩:=hg;obtain⟨its,rv,p,hz⟩:=I.list hq;obtain⟨u,hu,ru⟩:=rv.get hx;obtain⟨f0,f1,f2,f3,f4,f5⟩:=hf it (by simp)
  refine wpAny_pyNext_list_item st p.isList (x:=u) (by simpa using hu) fun h' st' sb=>?_
  have I1:Inv X pins σ H { s with heap:=h' }:=I.turned (t':=s.toks) (fun b o hb e=>(sb.2 b hb).trans e) f0 f1 f3 f4 f5
  obtain⟨o,e,c,d⟩:=id st'
  exact⟨u,rfl,yt (s:={ s with heap:=h' }) e c d (by decide) ⟨x,H,I1,ru,⟨rfl,fun ys hy=>by rw[I.vK hy hq];exact hx⟩,st',fun b hb=>(hf b hb).1⟩⟩
 done:=by
  intro X hP hw hK hc i pins s σ H E I hf st hg;subst hP hw hK;obtain⟨xs,hq,hx⟩:=hg;obtain⟨its,rv,p,hz⟩:=I.list hq;obtain⟨f0,f1,f2,f3,f4,f5⟩:=hf it (by simp);have hl:=rv.length
  exact wpAny_pyNext_list_end (I.ok.hd hc) st p.isList (by simp;omega) fun h' eb=>⟨rfl,I.turned (t':=s.toks) (fun b o hb e=>eb b o hb e) f0 f1 f3 f4 f5⟩
 self:=fun _ _ _ _ _ st h=>wpAny_pyIter_listiter st h
theorem xG{P:Program}{w:World}{K:PySem.W.Frag}{tg:Expr}(a it:Addr):Turn P w K tg (Itt K a) [it] it (fun i h=>h.IsTupleIter it a i) where
 mem:=by simp
 obj:=fun i h st b hb=>by
  have e:b=it:=by simpa using hb
  subst e;obtain⟨o,e,c,d⟩:=st
  exact⟨o,e,fun v z=>by rw[d]at z;cases z⟩
 keep:=fun i h h' st k=>st.at fun o e=>k it (by simp) o e
 item:=by
  intro X hP hw hK hc i pins s σ H E I hf st hg;subst hP hw hK;obtain⟨xs,x,hq,hx⟩:=hg;obtain⟨its,rv,p,hz⟩:=I.tuple hq;obtain⟨u,hu,ru⟩:=rv.get hx;obtain⟨f0,f1,f2,f3,f4,f5⟩:=hf it (by simp)
  refine wpAny_pyNext_tuple_item st (show s.heap.IsTuple a its.toArray from p) (x:=u) (by simpa using hu) fun h' st' sb=>?_
  have I1:Inv X pins σ H { s with heap:=h' }:=I.turned (t':=s.toks) (fun b o hb e=>(sb.2 b hb).trans e) f0 f1 f3 f4 f5
  obtain⟨o,e,c,d⟩:=id st'
  exact⟨u,rfl,yt (s:={ s with heap:=h' }) e c d (by decide) ⟨x,H,I1,ru,⟨rfl,fun ys hy=>by rw[I.zw hy hq];exact hx⟩,st',fun b hb=>(hf b hb).1⟩⟩
 done:=by
  intro X hP hw hK hc i pins s σ H E I hf st hg;subst hP hw hK;obtain⟨xs,hq,hx⟩:=hg;obtain⟨its,rv,p,hz⟩:=I.tuple hq;obtain⟨f0,f1,f2,f3,f4,f5⟩:=hf it (by simp);have hl:=rv.length
  exact wpAny_pyNext_tuple_end (I.ok.hd hc) st (show s.heap.IsTuple a its.toArray from p) (by simp;omega) fun h' eb=>⟨rfl,I.turned (t':=s.toks) (fun b o hb e=>eb b o hb e) f0 f1 f3 f4 f5⟩
 self:=fun _ _ _ _ _ st h=>wpAny_pyIter_tupleiter st h
theorem wW{P:Program}{w:World}{K:PySem.W.Frag}{tg:Expr}(it:Addr)(lo:Int)(n:Nat):Turn P w K tg (Itr lo n) [it] it (fun i h=>IsRangeIter h it (lo+(i:Nat)*1) ((n:Int) - (i:Nat)) 1) where
 mem:=by simp
 obj:=fun i h st b hb=>by
  have e:b=it:=by simpa using hb
  subst e
  exact⟨_,st,fun v z=>by
   have z':Data.fields _=Data.cell v:=z
   cases z'⟩
 keep:=fun i h h' st k=>k it (by simp) _ st
 item:=by
  intro X hP hw hK hc i pins s σ H E I hf st hg;subst hP hw hK;obtain⟨f0,f1,f2,f3,f4,f5⟩:=hf it (by simp);have W:=Walks.range (prog:=X.prog) (w:=X.w) (I.ok.hd hc) it lo 1 n
  refine W.item i s _ _ hg st fun v h' tk hv st' kk=>?_
  obtain⟨t,rfl⟩:=hv
  have I1:Inv X pins σ H { s with heap:=h',toks:=tk }:=I.turned (fun b o hb e=>kk b o (by simpa using hb) e) f0 f1 f3 f4 f5
  refine⟨_,rfl,yt (s:={ s with heap:=h',toks:=tk }) (n:="range_iterator") st' rfl rfl (by decide) ⟨.int (lo+i),H,I1,⟨t,?_⟩,⟨rfl,rfl⟩,st',fun b hb=>(hf b hb).1⟩⟩
  rw[Int.mul_one]
 done:=by
  intro X hP hw hK hc i pins s σ H E I hf st hg;subst hP hw hK;obtain⟨f0,f1,f2,f3,f4,f5⟩:=hf it (by simp)
  exact wpAny_pyNext_range_end (I.ok.hd hc) st (by have:n<=i:=hg;omega) fun h' eb=>⟨rfl,I.turned (t':=s.toks) (fun b o hb e=>eb b o hb e) f0 f1 f3 f4 f5⟩
 self:=fun _ _ _ _ _ st h=>wpAny_pyIter_rangeiter st h
section
variable{X:Cx}{tg:Expr}
noncomputable def vt(K:PySem.W.Frag)(tl:TE):TI:=fun σ H R=>tl σ H fun x H1=>∃ a,x=.ref a /\ (∃ xs,SqL K H1 a xs) /\ R (Itl K a) H1
noncomputable def Fi(K:PySem.W.Frag)(tl:TE):TI:=fun σ H R=>tl σ H fun x H1=>∃ a,x=.ref a /\ (∃ xs,SqT K H1 a xs) /\ R (Itt K a) H1
theorem Dp{l:Expr}{tl:TE}(hl:PE X l tl):PI X tg l (vt X.K tl):=by
 intro pins s σ H R I h
 refine thn (hl pins s σ H _ I h) fun v s1 ⟨x,H1,I1,r1,q1⟩=>?_
 obtain⟨a,e,⟨xs,hq⟩,q⟩:=q1;subst e;cases r1;obtain⟨its,rv,p,hz⟩:=I1.list hq;refine wpAny_pyIter_list p.isList ?_
 refine⟨s1.heap.objs.size,[s1.heap.objs.size],_,_,H1,rfl,I1.kept (t':=s1.toks) fun b o e=>Heap.get?_push_of_some _ e,zE a _,⟨_,Heap.get?_push_size _ rfl,rfl,rfl⟩,fun b hb=>?_,q⟩
 have e:b=s1.heap.objs.size:=by simpa using hb
 subst e;exact I1.wX (Nat.le_refl _) (I1.hok.fresh (Nat.le_refl _))
theorem GC{l:Expr}{tl:TE}(hl:PE X l tl):PI X tg l (Fi X.K tl):=by
 intro pins s σ H R I h
 refine thn (hl pins s σ H _ I h) fun v s1 ⟨x,H1,I1,r1,q1⟩=>?_
 obtain⟨a,e,⟨xs,hq⟩,q⟩:=q1;subst e;cases r1;obtain⟨its,rv,p,hz⟩:=I1.tuple hq;refine wpAny_pyIter_tuple (show s1.heap.IsTuple a its.toArray from p) ?_
 refine⟨s1.heap.objs.size,[s1.heap.objs.size],_,_,H1,rfl,I1.kept (t':=s1.toks) fun b o e=>Heap.get?_push_of_some _ e,xG a _,⟨_,Heap.get?_push_size _ rfl,rfl,rfl⟩,fun b hb=>?_,q⟩
 have e:b=s1.heap.objs.size:=by simpa using hb
 subst e;exact I1.wX (Nat.le_refl _) (I1.hok.fresh (Nat.le_refl _))
theorem BA{pins:List (Addr×Obj)}{σ:St}{H:Hp}{s:Shared}{R:It->Hp->Prop}{E:Value->Shared->Prop}{lo hi:Int}{t u v:Tok}{tk:Nat}(I:Inv X pins σ H s)(h1:-(2 ^ 62)<=lo)(h2:lo<2 ^ 62)(h3:-(2 ^ 62)<=hi)(h4:hi<2 ^ 62)
  (q:R (Itr lo (hi - lo).toNat) H):wpAny (model X.prog X.w) X.A (pyIter (.ref s.heap.objs.size)) (PIE X pins σ tg R) E { s with heap:=s.heap.push { cls:=.type "range",data:=.fields #[.int lo t,.int hi u,.int 1 v] },toks:=tk }:=by
 refine wpAny_pyIter_range (IsRange.new ..) (small_one h1 h2 h3 h4) ?_
 have I1:Inv X pins σ H { s with heap:=s.heap.push { cls:=.type "range",data:=.fields #[.int lo t,.int hi u,.int 1 v] },toks:=tk }:=I.kept fun b o e=>Heap.get?_push_of_some _ e
 refine⟨(s.heap.push { cls:=.type "range",data:=.fields #[.int lo t,.int hi u,.int 1 v] }).objs.size,[(s.heap.push { cls:=.type "range",data:=.fields #[.int lo t,.int hi u,.int 1 v] }).objs.size],_,_,H,rfl,
  I1.kept (t':=tk) fun b o e=>Heap.get?_push_of_some _ e,wW _ lo (hi - lo).toNat,?_,fun b hb=>?_,q⟩
 . have e1:lo+((0:Nat):Int)*1=lo:=by simp
   have e2:(((hi - lo).toNat:Nat):Int) - ((0:Nat):Int)=Builtin.Range.rangeSize lo hi 1:=by rw[rangeSize_one];split<;>omega
   show IsRangeIter _ _ (lo+((0:Nat):Int)*1) ((((hi - lo).toNat:Nat):Int) - ((0:Nat):Int)) 1;rw[e1,e2];exact Heap.get?_push_size _ rfl
 . have e:b=(s.heap.push { cls:=.type "range",data:=.fields #[.int lo t,.int hi u,.int 1 v] }).objs.size:=by simpa using hb
   subst e;exact I1.wX (Nat.le_refl _) (I1.hok.fresh (Nat.le_refl _))
noncomputable def va(ta:TA):TI:=fun σ H R=>ta σ H fun vs H1=>∃ j:Int,vs=[.int j] /\ -(2 ^ 62)<=j /\ j<2 ^ 62 /\ R (Itr 0 j.toNat) H1
theorem zW{a:Expr}{ta:TA}{p pos:Pos}(hg:Gl X "range")(hm:X.mg "range" = none)(ha:PA X [a] ta)(hs:starEach [a] X.env=[(false,eval a X.env)]:=by rfl):PI X tg (.Call (.Name "range" p) [a] [] pos) (va ta):=by
 intro pins s σ H R I h;refine Call_ (sd I hg hm boot_range (PyProof.Rows.callWith_type1 (thn (ha pos pins s σ H _ I h) fun us s1 ⟨vs,H1,I1,r1,q1⟩=>?_) hs rfl));obtain⟨j,e,q1,q2,q⟩:=q1;subst e
 cases r1 with
 | cons r rr=>
   cases rr;obtain⟨t,rfl⟩:=r;exact call_range_1 (BA I1 (by omega) (by omega) q1 q2 (by simpa using q))
noncomputable def Bs(wi:TI)(g:TG)(tb:TS):TS:=fun D σ H=>wi σ H fun J H1=>∃ W:Nat->Nat->St->Hp->Prop,(∃ m,W 0 m σ H1) /\ ∀ i m σ H,W i m σ H ->
 (J.stop i H /\ D.nx σ H) \/ (J.go i H /\ ∃ N:St->Hp->Prop,(∀ σ' H',N σ' H'->∃ m',m'<m /\ W (i+1) m' σ' H') /\ ∀ x H',J.yld i H x H'->g x σ H' fun σ2 H2=>tb { D with nx:=N,ct:=N,bk:=D.nx } σ2 H2)
noncomputable def uO(fp:List Addr)(h:Heap):List (Addr×Obj):=fp.filterMap fun b=>(h.get? b).map fun o=>(b,o)
theorem cq{fp:List Addr}{h:Heap}{b:Addr}{o:Obj}(hb:b∈fp)(e:h.get? b=some o):(b,o)∈uO fp h:=List.mem_filterMap.mpr ⟨b,hb,by rw[e];rfl⟩
theorem zV{fp:List Addr}{h:Heap}{p:Addr×Obj}(hp:p∈uO fp h):p.1∈fp /\ h.get? p.1=some p.2:=by
 obtain⟨b,hb,e⟩:=List.mem_filterMap.mp hp
 cases q:h.get? b with
 |none=>rw[q]at e;cases e
 | some o=>
   rw[q]at e
   have e':(b,o)=p:=Option.some.inj e
   subst e'
   exact⟨hb,q⟩
theorem Inv.pinned{pins:List (Addr×Obj)}{σ:St}{H:Hp}{s:Shared}{fp:List Addr}(I:Inv X pins σ H s)(hf:∀ b∈fp,kI X pins H b)(ho:∀ b∈fp,∃ o,s.heap.get? b=some o /\ ∀ v,o.data≠.cell v):Inv X (pins++uO fp s.heap) σ H s:=
 I.yU fun p hp=>(List.mem_append.mp hp).elim (fun z=>I.pin p (List.mem_append_right _ z)) fun z=>by
  obtain⟨hb,e⟩:=zV z;obtain⟨f0,f1,f2,_⟩:=hf p.1 hb;obtain⟨o,e',d⟩:=ho p.1 hb;rw[e]at e';cases e'
  exact⟨e,f0,f1,f2,d⟩
theorem Inv.fY{pins pl:List (Addr×Obj)}{σ:St}{H:Hp}{s:Shared}(I:Inv X (pins++pl) σ H s):Inv X pins σ H s:=I.yU fun p hp=>I.pin p (List.mem_append_right _ (List.mem_append_left _ hp))
theorem GO{iter:Expr}{body:List Stmt}{wi:TI}{g:TG}{tb:TS}{pos:Pos}(hp:PassesOwn (model X.prog X.w) X.A X.env X.xe)(hc:X.calm=true)(hi:PI X tg iter wi)(hg:PG X tg g)(hb:PSs X body tb)
  (hs:∀ x,foldedSetIterable iter X.env x=pure x:=by intro _;rfl):PS X (.For tg iter body [] pos) (Bs wi g tb):=by
 intro pins s σ H D I h;refine wpAny_For (thn (hi pins s σ H _ I h) fun v s1 h1=>thn h1 fun itv s2 h2=>?_) hs;obtain⟨it,fp,tn,J,H2,e,I2,T,st2,f2,W,⟨m0,w0⟩,turn⟩:=h2;subst e
 have stat:∀{H':Hp},(∀ b∈fp,H' b=none)->∀ b∈fp,kI X pins H' b:=fun hn b hb=>⟨hn b hb,(f2 b hb).2⟩
 refine codeAny_forLoop_any (fun n s'=>∃ i σ' H',Inv X pins σ' H' s' /\ tn i s'.heap /\ (∀ b∈fp,H' b=none) /\ W i n σ' H') ?_ m0 ⟨0,σ,H2,I2,st2,fun b hb=>(f2 b hb).1,w0⟩
 rintro n s3 ⟨i,σ3,H3,I3,st3,fr3,w3⟩
 rcases turn i n σ3 H3 w3 with⟨stop,qn⟩|⟨go,N,hN,step⟩
 . refine wpAny_passesOwn hp (thn (T.done X rfl rfl rfl hc i pins s3 σ3 H3 X.xe I3 (stat fr3) st3 stop) fun r s4 ⟨hr,I4⟩=>?_);subst hr;exact wpAny_execs_nil ⟨σ3,H3,I4,qn⟩
 . refine wpAny_passesOwn hp (thn (T.item X rfl rfl rfl hc i pins s3 σ3 H3 X.xe I3 (stat fr3) st3 go) fun r s4 ⟨u,hr,h4⟩=>?_);subst hr;refine wpAny_passesOwn hp (thn h4 fun _ s5 ⟨x,H5,I5,r5,y5,st5,fr5⟩=>?_)
   have I5':=I5.pinned (stat fr5) (T.obj _ _ st5)
   refine wpAny_passesOwn hp (thn (hg _ s5 σ3 H5 x u _ I5' r5 (step x H5 y5)) fun _ s6 ⟨σ6,H6,I6,q6⟩=>?_);refine wpAny_passesOwn hp (thn (hb _ s6 σ6 H6 _ I6 q6) fun f s7 q7=>?_)
   have again:∀{σ7:St} {H7:Hp},Inv X (pins++uO fp s5.heap) σ7 H7 s7->N σ7 H7->∃ m,m<n /\ ∃ i σ' H',Inv X pins σ' H' s7 /\ tn i s7.heap /\ (∀ b∈fp,H' b=none) /\ W i m σ' H':=fun {σ7 H7} I7 n7=>by
    obtain⟨m',hm,w7⟩:=hN σ7 H7 n7
    refine⟨m',hm,i+1,σ7,H7,I7.fY,T.keep _ _ _ st5 fun b hb o e=>(I7.pin (b,o) (List.mem_append_right _ (List.mem_append_right _ (cq hb e)))).1,fun b hb=>?_,w7⟩
    obtain⟨o,e,d⟩:=T.obj _ _ st5 b hb
    exact(I7.pin (b,o) (List.mem_append_right _ (List.mem_append_right _ (cq hb e)))).2.1
   cases f with
   |next=>obtain⟨σ7,H7,I7,n7⟩:=q7;exact again I7 n7
   |cont=>obtain⟨σ7,H7,I7,n7⟩:=q7;exact again I7 n7
   |brk=>obtain⟨σ7,H7,I7,q7⟩:=q7;exact⟨σ7,H7,I7.fY,q7⟩
   |ret v=>obtain⟨x7,σ7,H7,I7,r7,q7⟩:=q7;exact⟨x7,σ7,H7,I7.fY,r7,q7⟩
end
theorem Bu{K:PySem.W.Frag}{a:Addr}{xs:List V}{g:TG}{tb:TS}{D:Ends}{σ:St}{H:Hp}(Pv:Nat->St->Hp->Prop)(h0:Pv 0 σ H)(hl:∀ i σ H,i<=xs.length->Pv i σ H->SqL K H a xs)
  (hs:∀ i x σ H,xs[i]?=some x->Pv i σ H->g x σ H fun σ2 H2=>tb { D with nx:=Pv (i+1),ct:=Pv (i+1),bk:=D.nx } σ2 H2) (hd:∀ σ H,Pv xs.length σ H->D.nx σ H):
  ∃ W:Nat->Nat->St->Hp->Prop,(∃ m,W 0 m σ H) /\ ∀ i m σ H,W i m σ H ->
    ((Itl K a).stop i H /\ D.nx σ H) \/ ((Itl K a).go i H /\ ∃ N:St->Hp->Prop,(∀ σ' H',N σ' H'->∃ m',m'<m /\ W (i+1) m' σ' H') /\ ∀ x H',(Itl K a).yld i H x H'->g x σ H' fun σ2 H2=>tb { D with nx:=N,ct:=N,bk:=D.nx } σ2 H2):=by
 refine⟨fun i m σ H=>m=xs.length - i /\ i<=xs.length /\ Pv i σ H,⟨xs.length,by simp,Nat.zero_le _,h0⟩,?_⟩
 rintro i m σ H ⟨rfl,hi,p⟩
 have q:=hl i σ H hi p
 by_cases hlt:i<xs.length
 . refine .inr ⟨⟨xs,xs[i],q,by simp[hlt]⟩,Pv (i+1),fun σ' H' p'=>⟨xs.length - (i+1),by omega,rfl,hlt,p'⟩,fun x H' y=>?_⟩;obtain⟨e,y⟩:=y;subst e;exact hs i x σ _ (y xs q) p
 . have e:i=xs.length:=by omega
   subst e;exact .inl ⟨⟨xs,q,Nat.le_refl _⟩,hd σ H p⟩
theorem Aj{lo:Int}{n:Nat}{g:TG}{tb:TS}{D:Ends}{σ:St}{H:Hp}(Pv:Nat->St->Hp->Prop)(h0:Pv 0 σ H)
  (hs:∀ i σ H,i<n->Pv i σ H->g (.int (lo+i)) σ H fun σ2 H2=>tb { D with nx:=Pv (i+1),ct:=Pv (i+1),bk:=D.nx } σ2 H2) (hd:∀ σ H,Pv n σ H->D.nx σ H):
  ∃ W:Nat->Nat->St->Hp->Prop,(∃ m,W 0 m σ H) /\ ∀ i m σ H,W i m σ H ->
    ((Itr lo n).stop i H /\ D.nx σ H) \/ ((Itr lo n).go i H /\ ∃ N:St->Hp->Prop,(∀ σ' H',N σ' H'->∃ m',m'<m /\ W (i+1) m' σ' H') /\ ∀ x H',(Itr lo n).yld i H x H'->g x σ H' fun σ2 H2=>tb { D with nx:=N,ct:=N,bk:=D.nx } σ2 H2):=by
 refine⟨fun i m σ H=>m=n - i /\ i<=n /\ Pv i σ H,⟨n,by simp,Nat.zero_le _,h0⟩,?_⟩
 rintro i m σ H ⟨rfl,hi,p⟩
 by_cases hlt:i<n
 . refine .inr ⟨hlt,Pv (i+1),fun σ' H' p'=>⟨n - (i+1),by omega,rfl,hlt,p'⟩,fun x H' y=>?_⟩;obtain⟨e,y⟩:=y;subst e y;exact hs i σ _ hlt p
 . have e:i=n:=by omega
   subst e;exact .inl ⟨Nat.le_refl _,hd σ H p⟩
abbrev R2:=V->V->Hp->VK->Prop
noncomputable def OpR(X:Cx)(f:Value->Value->Sem Value)(r:R2):Prop:=
 ∀(pins:List (Addr×Obj)) (s:Shared) (σ:St) (H:Hp) (x y:V) (v u:Value) (Q:VK),Inv X pins σ H s->RelV x v->RelV y u->r x y H Q ->
   wpAny (model X.prog X.w) X.A (f v u) (EP X pins σ Q) X.xe s
noncomputable def UnR(X:Cx)(f:Value->Sem Value)(r:V->Hp->VK->Prop):Prop:=
 ∀(pins:List (Addr×Obj)) (s:Shared) (σ:St) (H:Hp) (x:V) (v:Value) (Q:VK),Inv X pins σ H s->RelV x v->r x H Q ->
   wpAny (model X.prog X.w) X.A (f v) (EP X pins σ Q) X.xe s
noncomputable def my(X:Cx)(f:Value)(r:List V->Hp->VK->Prop):Prop:=
 ∀(pins:List (Addr×Obj)) (s:Shared) (σ:St) (H:Hp) (xs:List V) (us:List Value) (Q:VK),Inv X pins σ H s->Vals xs us->r xs H Q ->
   wpAny (model X.prog X.w) X.A (call f us) (EP X pins σ Q) X.xe s
noncomputable def Jo(X:Cx)(r:V->Hp->(Bool->Hp->Prop)->Prop):Prop:=
 ∀(pins:List (Addr×Obj)) (s:Shared) (σ:St) (H:Hp) (x:V) (v:Value) (Q:Bool->Hp->Prop),Inv X pins σ H s->RelV x v->r x H Q ->
   wpAny (model X.prog X.w) X.A (truthy v) (TP X pins σ Q) X.xe s
noncomputable def tOp(r:R2)(ta tb:TE):TE:=fun σ H Q=>ta σ H fun x H1=>tb σ H1 fun y H2=>r x y H2 Q
noncomputable def tUn(r:V->Hp->VK->Prop)(ta:TE):TE:=fun σ H Q=>ta σ H fun x H1=>r x H1 Q
noncomputable def rI(C:Int->Int->Prop)(g:Int->Int->V):R2:=fun x y H Q=>∃ i j,x=.int i /\ y=.int j /\ C i j /\ Q (g i j) H
noncomputable def rI0(g:Int->Int->V):R2:=fun x y H Q=>∃ i j,x=.int i /\ y=.int j /\ Q (g i j) H
noncomputable def rU(g:Int->V):V->Hp->VK->Prop:=fun x H Q=>∃ i,x=.int i /\ Q (g i) H
section
variable{X:Cx}{a b c:Expr}{ta tb tc:TE}{pos:Pos}
theorem Fx(ha:PE X a ta)(hb:PE X b tb){pins:List (Addr×Obj)}{s:Shared}{σ:St}{H:Hp}{R:V->V->Hp->Prop}(I:Inv X pins σ H s)
  (h:ta σ H fun x H1=>tb σ H1 fun y H2=>R x y H2) {Q:Value->Shared->Prop} {f:Value->Value->Sem Value}
  (hf:∀ v u s2 x y H2,Inv X pins σ H2 s2->RelV x v->RelV y u->R x y H2->wpAny (model X.prog X.w) X.A (f v u) Q X.xe s2):
  wpAny (model X.prog X.w) X.A (eval a X.env) (fun v s₁=>wpAny (model X.prog X.w) X.A (eval b X.env) (fun u s₂=>wpAny (model X.prog X.w) X.A (f v u) Q X.xe s₂) X.xe s₁) X.xe s:=by
 refine thn (ha pins s σ H _ I h) fun v s1 ⟨x,H1,I1,r1,q1⟩=>?_
 refine thn (hb pins s1 σ H1 _ I1 q1) fun u s2 ⟨y,H2,I2,r2,q2⟩=>?_
 exact hf v u s2 x y H2 I2 r1 r2 q2
theorem Ht{op:Operator}{r:R2}(ho:OpR X (binaryOp op) r)(ha:PE X a ta)(hb:PE X b tb):PE X (.BinOp a op b pos) (tOp r ta tb):=by
 intro pins s σ H Q I h;exact wpAny_BinOp (Fx ha hb I h fun v u s2 x y H2 I2 rx ry q=>ho pins s2 σ H2 x y v u Q I2 rx ry q)
theorem Hv{op:UnaryOp}{r:V->Hp->VK->Prop}(ho:UnR X (unaryOp op) r)(ha:PE X a ta):PE X (.UnaryOp op a pos) (tUn r ta):=by
 intro pins s σ H Q I h;exact UnaryOp_ (thn (ha pins s σ H _ I h) fun v s1 ⟨x,H1,I1,r1,q1⟩=>ho pins s1 σ H1 x v Q I1 r1 q1)
theorem opI{f:Value->Value->Sem Value}{C:Int->Int->Prop}{g:Int->Int->Int}
  (rule:∀(i j:Int) (t u:Tok) (s:Shared) (Q:Value->Shared->Prop) (E:Value->Shared->Prop),C i j->Q (.int (g i j) s.toks) { s with toks:=s.toks+1 }->wpAny (model X.prog X.w) X.A (f (.int i t) (.int j u)) Q E s):
  OpR X f (rI C fun i j=>.int (g i j)):=by
 intro pins s σ H x y v u Q I rx ry h;obtain⟨i,j,rfl,rfl,hc,q⟩:=h;obtain⟨t,rfl⟩:=rx;obtain⟨t',rfl⟩:=ry;exact rule i j t t' s _ _ hc ⟨.int (g i j),H,I.tok _,⟨_,rfl⟩,q⟩
theorem HR{f:Value->Value->Sem Value}{g:Int->Int->Int}
  (rule:∀(i j:Int) (t u:Tok) (s:Shared) (Q:Value->Shared->Prop) (E:Value->Shared->Prop),Q (.int (g i j) s.toks) { s with toks:=s.toks+1 }->wpAny (model X.prog X.w) X.A (f (.int i t) (.int j u)) Q E s):
  OpR X f (rI0 fun i j=>.int (g i j)):=by
 intro pins s σ H x y v u Q I rx ry h;obtain⟨i,j,rfl,rfl,q⟩:=h;obtain⟨t,rfl⟩:=rx;obtain⟨t',rfl⟩:=ry;exact rule i j t t' s _ _ ⟨.int (g i j),H,I.tok _,⟨_,rfl⟩,q⟩
theorem DF{f:Value->Value->Sem Value}{g:Int->Int->Bool}
  (rule:∀(i j:Int) (t u:Tok) (s:Shared) (Q:Value->Shared->Prop) (E:Value->Shared->Prop),Q (.bool (g i j)) s->wpAny (model X.prog X.w) X.A (f (.int i t) (.int j u)) Q E s):
  OpR X f (rI0 fun i j=>.bl (g i j)):=by
 intro pins s σ H x y v u Q I rx ry h;obtain⟨i,j,rfl,rfl,q⟩:=h;obtain⟨t,rfl⟩:=rx;obtain⟨t',rfl⟩:=ry;exact rule i j t t' s _ _ ⟨.bl (g i j),H,I,rfl,q⟩
noncomputable def Fu(i j:Int):Prop:=0<j /\ j<1073741824
noncomputable def Bg(i j:Int):Prop:=(-(2 ^ 64)<i /\ i<2 ^ 64) \/ (-(2 ^ 64)<j /\ j<2 ^ 64)
theorem Bg.ok{i j:Int}(h:Bg i j):IntMulOk i j:=by
 rcases h with⟨h1,h2⟩|⟨h1,h2⟩
 . exact .of_left (intBits_le_64 h1 h2)
 . exact .of_right (intBits_le_64 h1 h2)
theorem bJ:OpR X (binaryOp .Add) (rI0 fun i j=>.int (i+j)):=HR fun _ _ _ _ _ _ _ q=>add_int q
theorem jD:OpR X (binaryOp .Sub) (rI0 fun i j=>.int (i - j)):=HR fun _ _ _ _ _ _ _ q=>sub_int q
theorem qU:OpR X (binaryOp .Mult) (rI Bg fun i j=>.int (i*j)):=opI fun _ _ _ _ _ _ _ hc q=>mul_int q hc.ok
theorem dX:OpR X (binaryOp .FloorDiv) (rI Fu fun i j=>.int (i/j)):=opI fun i j _ _ _ _ _ hc q=>by
 have h1:(0:Int)<j:=hc.1
 have h2:j<1073741824:=hc.2
 exact floordiv_int (by omega) (by rw[Int.fdiv_eq_ediv_of_nonneg i (by omega)];exact q) (.inl (PyProof.noPylong_small (by omega)))
theorem bY:OpR X (binaryOp .Mod) (rI (fun _ j=>0<j) fun i j=>.int (i%j)):=opI fun i j _ _ _ _ _ hc q=>by
 have h1:(0:Int)<j:=hc
 exact mod_int' (by omega) (by rw[Int.fmod_eq_emod_of_nonneg i (by omega)];exact q)
theorem unI{f:Value->Sem Value}{g:Int->Int}
  (rule:∀(i:Int) (t:Tok) (s:Shared) (Q:Value->Shared->Prop) (E:Value->Shared->Prop),Q (.int (g i) s.toks) { s with toks:=s.toks+1 }->wpAny (model X.prog X.w) X.A (f (.int i t)) Q E s):
  UnR X f (rU fun i=>.int (g i)):=by
 intro pins s σ H x v Q I rx h;obtain⟨i,rfl,q⟩:=h;obtain⟨t,rfl⟩:=rx;exact rule i t s _ _ ⟨.int (g i),H,I.tok _,⟨_,rfl⟩,q⟩
theorem rF:UnR X (unaryOp .USub) (rU fun i=>.int (-i)):=unI fun _ _ _ _ _ q=>neg_int q
end
noncomputable def GL:V->V->Bool
 |.non,.non=>true|.non,.int _=>true|.int _,.non=>true|.non,.bl _=>true|.bl _,.non=>true|.non,.str _=>true|.str _,.non=>true
 |.int _,.int _=>true|.bl _,.bl _=>true|.str _,.str _=>true|.byt _,.byt _=>true
 |.int _,.str _=>true|.str _,.int _=>true|.bl _,.str _=>true|.str _,.bl _=>true
 |_,_=>false
noncomputable def rEq:R2:=fun x y H Q=>GL x y=true /\ Q (.bl (decide (x=y))) H
noncomputable def rNe:R2:=fun x y H Q=>GL x y=true /\ Q (.bl (!decide (x=y))) H
theorem ye{i j:Int}:decide (V.int i=V.int j)=(i==j):=by
 rw[Bool.eq_iff_iff];simp
theorem B0{i j:Bool}:decide (V.bl i=V.bl j)=(i==j):=by
 rw[Bool.eq_iff_iff];simp
theorem zc{i j:Str}:decide (V.str i=V.str j)=(i==j):=by
 rw[Bool.eq_iff_iff];simp
theorem yQ{i j:Array UInt8}:decide (V.byt i=V.byt j)=(i.toList==j.toList):=by
 rw[Bool.eq_iff_iff];cases i;cases j;simp
section
variable{X:Cx}{a b c:Expr}{ta tb tc:TE}{pos:Pos}
theorem cC{pins:List (Addr×Obj)}{σ:St}{H:Hp}{s:Shared}{Q:VK}{k k':Bool}(I:Inv X pins σ H s)(q:Q (.bl k) H)(e:k=k'):EP X pins σ Q (.bool k') s:=by
 subst e
 exact⟨.bl k,H,I,rfl,q⟩
theorem bL:OpR X (compareOp .Eq) rEq:=by
 intro pins s σ H x y v u Q I rx ry h;obtain⟨hs,q⟩:=h
 cases x with
 | non=>
   cases rx
   cases y with
   |non=>cases ry;exact PySem.EqNone.eq_none_none (cC I q (by simp))
   |bl j=>cases ry;exact PySem.EqNone.eq_none_bool (cC I q (by simp))
   |int j=>obtain⟨t',rfl⟩:=ry;exact PySem.EqNone.eq_none_int (cC I q (by simp))
   |str j=>obtain⟨t',rfl⟩:=ry;exact PySem.EqNone.eq_none_str (cC I q (by simp))
   |_=>exact absurd (show false=true from hs) Bool.false_ne_true
 | bl i=>
   cases rx
   cases y with
   |non=>cases ry;exact PySem.EqNone.eq_bool_none (cC I q (by simp))
   |bl j=>cases ry;exact eq_bool (cC I q B0)
   |str j=>obtain⟨t',rfl⟩:=ry;exact PySem.EqMixed.eq_bool_str (cC I q (by simp))
   |_=>exact absurd (show false=true from hs) Bool.false_ne_true
 | int i=>
   obtain⟨t,rfl⟩:=rx
   cases y with
   |non=>cases ry;exact PySem.EqNone.eq_int_none (cC I q (by simp))
   |int j=>obtain⟨t',rfl⟩:=ry;exact eq_int (cC I q ye)
   |str j=>obtain⟨t',rfl⟩:=ry;exact PySem.EqMixed.eq_int_str (cC I q (by simp))
   |_=>exact absurd (show false=true from hs) Bool.false_ne_true
 | str i=>
   obtain⟨t,rfl⟩:=rx
   cases y with
   |non=>cases ry;exact PySem.EqNone.eq_str_none (cC I q (by simp))
   |bl j=>cases ry;exact PySem.EqMixed.eq_str_bool (cC I q (by simp))
   |int j=>obtain⟨t',rfl⟩:=ry;exact PySem.EqMixed.eq_str_int (cC I q (by simp))
   |str j=>obtain⟨t',rfl⟩:=ry;exact eq_str (cC I q zc)
   |_=>exact absurd (show false=true from hs) Bool.false_ne_true
 | byt i=>
   obtain⟨t,rfl⟩:=rx
   cases y with
   |byt j=>obtain⟨t',rfl⟩:=ry;exact PySem.W.eq_bytes (cC I q yQ)
   |_=>exact absurd (show false=true from hs) Bool.false_ne_true
 |_=>cases y<;>exact absurd (show false=true from hs) Bool.false_ne_true
theorem yZ:OpR X (compareOp .NotEq) rNe:=by
 intro pins s σ H x y v u Q I rx ry h;obtain⟨hs,q⟩:=h
 cases x with
 | non=>
   cases rx
   cases y with
   |non=>cases ry;exact PySem.EqNone.ne_none_none (cC I q (by simp))
   |bl j=>cases ry;exact PySem.EqNone.ne_none_bool (cC I q (by simp))
   |int j=>obtain⟨t',rfl⟩:=ry;exact PySem.EqNone.ne_none_int (cC I q (by simp))
   |str j=>obtain⟨t',rfl⟩:=ry;exact PySem.EqNone.ne_none_str (cC I q (by simp))
   |_=>exact absurd (show false=true from hs) Bool.false_ne_true
 | bl i=>
   cases rx
   cases y with
   |non=>cases ry;exact PySem.EqNone.ne_bool_none (cC I q (by simp))
   |bl j=>cases ry;exact ne_bool (cC I q (congrArg not B0))
   |str j=>obtain⟨t',rfl⟩:=ry;exact PySem.EqMixed.ne_bool_str (cC I q (by simp))
   |_=>exact absurd (show false=true from hs) Bool.false_ne_true
 | int i=>
   obtain⟨t,rfl⟩:=rx
   cases y with
   |non=>cases ry;exact PySem.EqNone.ne_int_none (cC I q (by simp))
   |int j=>obtain⟨t',rfl⟩:=ry;exact ne_int (cC I q (congrArg not ye))
   |str j=>obtain⟨t',rfl⟩:=ry;exact PySem.EqMixed.ne_int_str (cC I q (by simp))
   |_=>exact absurd (show false=true from hs) Bool.false_ne_true
 | str i=>
   obtain⟨t,rfl⟩:=rx
   cases y with
   |non=>cases ry;exact PySem.EqNone.ne_str_none (cC I q (by simp))
   |bl j=>cases ry;exact PySem.EqMixed.ne_str_bool (cC I q (by simp))
   |int j=>obtain⟨t',rfl⟩:=ry;exact PySem.EqMixed.ne_str_int (cC I q (by simp))
   |str j=>obtain⟨t',rfl⟩:=ry;exact ne_str (cC I q (congrArg not zc))
   |_=>exact absurd (show false=true from hs) Bool.false_ne_true
 | byt i=>
   obtain⟨t,rfl⟩:=rx
   cases y with
   |byt j=>obtain⟨t',rfl⟩:=ry;exact PySem.W.ne_bytes (cC I q (congrArg not yQ))
   |_=>exact absurd (show false=true from hs) Bool.false_ne_true
 |_=>cases y<;>exact absurd (show false=true from hs) Bool.false_ne_true
theorem il:OpR X (compareOp .Lt) (rI0 fun i j=>.bl (decide (i<j))):=DF fun _ _ _ _ _ _ _ q=>lt_int q
theorem kH:OpR X (compareOp .LtE) (rI0 fun i j=>.bl (decide (i<=j))):=DF fun _ _ _ _ _ _ _ q=>le_int q
theorem Ec:OpR X (compareOp .Gt) (rI0 fun i j=>.bl (decide (j<i))):=DF fun _ _ _ _ _ _ _ q=>gt_int q
theorem qJ:OpR X (compareOp .GtE) (rI0 fun i j=>.bl (decide (j<=i))):=DF fun _ _ _ _ _ _ _ q=>ge_int q
theorem rh:OpR X (compareOp .Is) (fun x y H Q=>y=.non /\ Q (.bl (decide (x=.non))) H):=by
 intro pins s σ H x y v u Q I rx ry h;obtain⟨rfl,q⟩:=h;cases ry;refine is_none_gen (cC I q ?_)
 cases x<;>first
  |(cases rx;rfl)
  |(obtain⟨t,rfl⟩:=rx;rfl)
theorem yB:OpR X (compareOp .IsNot) (fun x y H Q=>y=.non /\ Q (.bl (!decide (x=.non))) H):=by
 intro pins s σ H x y v u Q I rx ry h;obtain⟨rfl,q⟩:=h;cases ry;refine isnot_none_gen (cC I q ?_)
 cases x<;>first
  |(cases rx;rfl)
  |(obtain⟨t,rfl⟩:=rx;rfl)
theorem iX(b:Expr){op:CmpOp}(h:op≠.In:=by decide)(h2:op≠.NotIn:=by decide):behindInMarks op b=false:=by
 have e1:(op==CmpOp.In)=false:=by cases op<;>first|rfl|exact absurd rfl h
 have e2:(op==CmpOp.NotIn)=false:=by cases op<;>first|rfl|exact absurd rfl h2
 cases b<;>simp[behindInMarks,e1,e2]
theorem C7{op:CmpOp}{r:R2}(ho:OpR X (compareOp op) r)(ha:PE X a ta)(hb:PE X b tb)(hm:behindInMarks op b=false):PE X (.Compare a [op] [b] pos) (tOp r ta tb):=by
 intro pins s σ H Q I h;exact wpAny_Compare1 (Fx ha hb I h fun v u s2 x y H2 I2 rx ry q=>ho pins s2 σ H2 x y v u Q I2 rx ry q) hm
noncomputable def tM(t:TE):TT:=fun σ H Q=>t σ H fun x H'=>∃ k,x=.bl k /\ Q k H'
theorem CZ{op:CmpOp}{r:R2}(ho:OpR X (compareOp op) r)(ha:PE X a ta)(hb:PE X b tb)(hm:behindInMarks op b=false):PT X (.Compare a [op] [b] pos) (tM (tOp r ta tb)):=by
 intro pins s σ H Q I h
 refine wpAny_isTrue_Compare1 (thn (ha pins s σ H _ I h) fun v s1 ⟨x,H1,I1,r1,q1⟩=>thn (hb pins s1 σ H1 _ I1 q1) fun u s2 ⟨y,H2,I2,r2,q2⟩=>
  thn (ho pins s2 σ H2 x y v u _ I2 r1 r2 q2) fun c s3 ⟨z,H3,I3,r3,k,e,q3⟩=>?_) hm
 subst e;cases r3;exact wpAny_truthy_bool ⟨H3,I3,q3⟩
noncomputable def rQ(r r':R2)(ta tb tc:TE):TE:=fun σ H Q=>ta σ H fun x H1=>tb σ H1 fun y H2=>r x y H2 fun z H3=>∃ k,z=.bl k /\
 (if k=true then tc σ H3 fun w' H4=>r' y w' H4 Q else Q (.bl false) H3)
theorem Bc{op op':CmpOp}{r r':R2}(ho:OpR X (compareOp op) r)(ho':OpR X (compareOp op') r')(ha:PE X a ta)(hb:PE X b tb)(hc:PE X c tc)
  (hm:lastMarks [op,op'] [b,c]=false:=by with_unfolding_all rfl):PE X (.Compare a [op,op'] [b,c] pos) (rQ r r' ta tb tc):=by
 intro pins s σ H Q I h
 refine Compare_chain (thn (ha pins s σ H _ I h) fun v s1 ⟨x,H1,I1,r1,q1⟩=>chain_link (thn (hb pins s1 σ H1 _ I1 q1) fun u s2 ⟨y,H2,I2,r2,q2⟩=>
  thn (ho pins s2 σ H2 x y v u _ I2 r1 r2 q2) fun d s3 ⟨z,H3,I3,r3,k,e,q3⟩=>?_)) hm
 subst e;cases r3;refine wpAny_truthy_bool ?_
 cases k with
 |false=>exact ite_ff ⟨.bl false,H3,I3,rfl,q3⟩
 |true=>exact ite_tt (chain_last (thn (hc pins s3 σ H3 _ I3 q3) fun w' s4 ⟨z',H4,I4,r4,q4⟩=>ho' pins s4 σ H4 y z' u w' Q I4 r2 r4 q4))
theorem BO{op op':CmpOp}{r r':R2}(ho:OpR X (compareOp op) r)(ho':OpR X (compareOp op') r')(ha:PE X a ta)(hb:PE X b tb)(hc:PE X c tc)
  (hm:lastMarks [op,op'] [b,c]=false:=by with_unfolding_all rfl):PT X (.Compare a [op,op'] [b,c] pos) (tM (rQ r r' ta tb tc)):=by
 intro pins s σ H Q I h
 refine isTrue_chain (thn (ha pins s σ H _ I h) fun v s1 ⟨x,H1,I1,r1,q1⟩=>test_link (thn (hb pins s1 σ H1 _ I1 q1) fun u s2 ⟨y,H2,I2,r2,q2⟩=>
  thn (ho pins s2 σ H2 x y v u _ I2 r1 r2 q2) fun d s3 ⟨z,H3,I3,r3,k,e,q3⟩=>?_)) hm
 subst e;cases r3;refine wpAny_truthy_bool ?_
 cases k with
 | false=>
   obtain⟨k',e',q'⟩:=q3
   cases e'
   exact ite_ff ⟨H3,I3,q'⟩
 | true=>
   refine ite_tt (test_last (thn (hc pins s3 σ H3 _ I3 q3) fun w' s4 ⟨z',H4,I4,r4,q4⟩=>thn (ho' pins s4 σ H4 y z' u w' _ I4 r2 r4 q4) fun d' s5 ⟨z2,H5,I5,r5,k2,e2,q5⟩=>?_));subst e2;cases r5;exact wpAny_truthy_bool ⟨H5,I5,q5⟩
noncomputable def wL(K:PySem.W.Frag)(x:V)(H:Hp)(k:Bool):Prop:=
 match x with
 |.non=>k=false
 |.bl b=>k=b
 |.int i=>k=(i != 0)
 |.str y=>y.length<=sizeLine /\ k=((y.length:Int) != 0)
 |.byt y=>y.size<=sizeLine /\ k=((y.size:Int) != 0)
 |.ref p=>(∃ xs,SqL K H p xs /\ k=!xs.isEmpty) \/ (∃ xs,SqT K H p xs /\ k=!xs.isEmpty) \/ ∃ kvs,H p=some (.dK kvs) /\ k=!kvs.isEmpty
 |_=>False
theorem xW{κ:Type}{kvs:List (κ×V)}{vs:List (κ×Value)}(r:KV kvs vs):(!vs.isEmpty)=!kvs.isEmpty:=by
 cases r<;>rfl
theorem rj{xs:List V}{its:List Value}(r:Vals xs its):(!its.toArray.isEmpty)=!xs.isEmpty:=by
 cases r<;>simp
theorem uv:(sizeLine:Nat)<2 ^ 63:=by rw[sizeLine_eq];decide
theorem EZ:Jo X (fun x H Q=>∃ k,wL X.K x H k /\ Q k H):=by
 intro pins s σ H x v Q I rx h;obtain⟨k,e,q⟩:=h;have hl:=uv
 have hs:sizeLine=16777216:=sizeLine_eq
 cases x with
 | non=>
   cases rx
   have e':k=false:=e
   subst e';exact truthy_none ⟨H,I,q⟩
 | bl b=>
   cases rx
   have e':k=b:=e
   subst e';exact wpAny_truthy_bool ⟨H,I,q⟩
 | int i=>
   obtain⟨t,rfl⟩:=rx
   have e':k=(i != 0):=e
   subst e';exact PySem.P.truthy_int ⟨H,I,q⟩
 | str y=>
   obtain⟨t,rfl⟩:=rx
   obtain⟨hy,e'⟩:y.length<=sizeLine /\ k=((y.length:Int) != 0):=e
   subst e';exact PySem.P.truthy_str (by omega) ⟨H,I.tok _,q⟩
 | byt y=>
   obtain⟨t,rfl⟩:=rx
   obtain⟨hy,e'⟩:y.size<=sizeLine /\ k=((y.size:Int) != 0):=e
   subst e';exact PySem.W.truthy_bytes (by omega) ⟨H,I.tok _,q⟩
 | ref p=>
   cases rx
   have e':(∃ xs,SqL X.K H p xs /\ k=!xs.isEmpty) \/ (∃ xs,SqT X.K H p xs /\ k=!xs.isEmpty) \/ ∃ kvs,H p=some (.dK kvs) /\ k=!kvs.isEmpty:=e
   rcases e' with⟨xs,hx,e'⟩|⟨xs,hx,e'⟩|⟨kvs,hx,e'⟩
   . subst e';obtain⟨its,r,pl,hz⟩:=I.list hx;have hlen:=r.length;exact wpAny_truthy_list pl.isList (by simp only[List.size_toArray];omega) ⟨H,I.tok _,by rw[rj r];exact q⟩
   . subst e';obtain⟨its,r,pl,hz⟩:=I.tuple hx;have hlen:=r.length;exact truthy_tuple pl (by simp only[List.size_toArray];omega) ⟨H,I.tok _,by rw[rj r];exact q⟩
   . subst e'
     obtain⟨hz,hS,vs,r,m⟩:kvs.length<=sizeLine /\ (p==sysModules)=false /\ ∃ vs,KV kvs vs /\ s.heap.DictOf (ez X.prog X.w) p vs:=I.hok p _ hx
     have hlen:kvs.length=vs.length:=Paired.length r
     exact wpAny_truthy_dict hS m (by omega) ⟨H,I.tok _,by rw[xW r];exact q⟩
 |_=>exact(show False from e).elim
theorem Bk(ha:PE X a ta)(he:∀ whole,isTrue a X.env whole=(do let v <- whole;standAt a.pos;holding [v] (truthy v))):
  PT X a (fun σ H Q=>ta σ H fun x H'=>∃ k,wL X.K x H' k /\ Q k H'):=by
 intro pins s σ H Q I h;exact isTrue_plain (thn (ha pins s σ H _ I h) fun v s1 ⟨x,H1,I1,r1,q1⟩=>EZ pins s1 σ H1 x v Q I1 r1 q1) (he _)
theorem vals1{x:V}{us:List Value}(r:Vals [x] us):∃ u,us=[u] /\ RelV x u:=by
 cases r with
 |cons r1 r2=>cases r2;exact⟨_,rfl,r1⟩
theorem kJ:my X (.type "int") (fun xs H Q=>(∃ i,xs=[.int i] /\ Q (.int i) H) \/ ∃ k,xs=[.bl k] /\ Q (.int (if k then 1 else 0)) H):=by
 intro pins s σ H xs us Q I r h
 rcases h with⟨i,rfl,q⟩|⟨k,rfl,q⟩
 . obtain⟨u,rfl,t,rfl⟩:=vals1 r;exact call_int_int ⟨.int i,H,I,⟨_,rfl⟩,q⟩
 . obtain⟨u,rfl,r1⟩:=vals1 r;cases r1;exact call_int_bool ⟨.int (if k then 1 else 0),H,I.tok _,⟨_,rfl⟩,q⟩
theorem oJ:my X (.type "str") (fun xs H Q=>∃ i,xs=[.int i] /\ i.natAbs.log2<1920 /\ Q (.str (toString i)) H):=by
 intro pins s σ H xs us Q I r h;obtain⟨i,rfl,hz,q⟩:=h;obtain⟨u,rfl,t,rfl⟩:=vals1 r;exact PySem.P.str_of_int hz ⟨.str _,H,I.tok _,⟨_,rfl⟩,q⟩
theorem AO:my X (.builtin "ord") (fun xs H Q=>∃ x,xs=[.str x] /\ x.length=1 /\ Q (.int (x.cps.getD 0 0:Nat)) H):=by
 intro pins s σ H xs us Q I r h;obtain⟨x,rfl,hz,q⟩:=h;obtain⟨u,rfl,t,rfl⟩:=vals1 r;exact ord_of_one hz ⟨.int _,H,I.tok _,⟨_,rfl⟩,q⟩
end
structure xm(h:Heap)(x dx C:Addr)(mA:Str->Option Value):Prop where
 obj:h.get? x=some (PySem.W.instObj C dx)
 ns:h.Ns1 dx mA
 ne:dx≠x
theorem Ac{h:Heap}{dx:Addr}{mA:Str->Option Value}(n:h.Ns1 dx mA):∃ od,h.get? dx=some od /\ ∀ name,PySem.W.lookIn name od=some (mA name):=by
 obtain⟨o,es,ep,ho,hd,hk,_,hm⟩:=n
 refine⟨o,ho,fun name=>?_⟩
 have e:=hm name;unfold nsFind findBy at e;rw[<- Array.find?_toList]at e;unfold PySem.W.lookIn;rw[hd];dsimp only;split
 . rename_i y q;rw[q]at e;exact congrArg some e
 . rename_i q;rw[q]at e
   have a:es.toList.any (·.refKey)=false:=by
    rw[List.any_eq_false];intro y hy;obtain⟨z,t,hkey⟩:=hk y (Array.mem_toList_iff.mp hy);simp[DictEntry.refKey,hkey]
   have a':¬ es.toList.any (·.refKey)=true:=by rw[a];exact Bool.false_ne_true
   rw[if_neg a'];exact congrArg some e
theorem xm.look{h:Heap}{x dx C:Addr}{mA:Str->Option Value}(I:xm h x dx C mA):∃ od,PySem.W.InstAt h x (PySem.W.instObj C dx) C (some od) /\ ∀ name,PySem.W.lookIn name od=some (mA name):=
 let ⟨od,ho,hl⟩:=Ac I.ns
 ⟨od,⟨I.obj,rfl,rfl,ho⟩,hl⟩
section
variable{prog:Program}{w:World}{A:Around}{E:Value->Shared->Prop}{s:Shared}{K:PySem.W.Frag}{x dx C f:Addr}{mA:Str->Option Value}{name:Str}{v:Value}
theorem get_map{expr:Bool}{Q:Value->Shared->Prop}(X:K.In s.heap)(I:xm s.heap x dx C mA)(hg:PySem.W.plainGet K C name=true)(hh:PySem.W.hasDictIn K C=true)
  (ha:PySem.W.findIn K (.ref C) name=some none) (hv:mA name=some v) (hv':PySem.W.handedIn v=true) (h:Q v { s with toks:=s.toks+1 }):
  wpAny (model prog w) A (getAttr (.ref x) name expr) Q E s:=by
 obtain⟨od,J,hl⟩:=I.look;exact PySem.W.get_value X J (PySem.W.plainGet_of hg).1 (PySem.W.findObj_own hh ha rfl (by rw[hl,hv])) hv' h
theorem AI{pl:Sem Bool}{Q:Value×List Value->Shared->Prop}(X:K.In s.heap)(I:xm s.heap x dx C mA)(hg:PySem.W.plainGet K C name=true)
  (hf:PySem.W.findIn K (.ref C) name=some (some (.ref f))) (ht:PySem.W.isFn K (.ref f)=true) (hv:mA name=none) (h:Q (.ref f,[.ref x]) s):
  wpAny (model prog w) A (getMethod (.ref x) name pl) Q E s:=by
 obtain⟨od,J,hl⟩:=I.look;exact PySem.W.method_fn X J (PySem.W.plainGet_of hg).1 (PySem.W.plainGet_of hg).2 hf (beq_iff_eq.mp ht) (by show(PySem.W.lookIn name od).map (·.isSome)=some false;rw[hl,hv];rfl) h
theorem DH{ns:List Str}{Q:Unit->Shared->Prop}(X:K.In s.heap)(I:xm s.heap x dx C mA)
  (hs:PySem.W.findIn K (.ref C) "__setattr__" = some (some (.builtin "object.__setattr__"))) (hp:PySem.W.plainOver K C=true) (ht:PySem.W.takerIn K C name=some none) (hh:PySem.W.hasDictIn K C=true)
  (hw:PySem.Within mA ns) (hsz:ns.length<=sizeLine)
  (h:∀ h',xm h' x dx C (fun y=>if y=name then some v else mA y)->Heap.SameBut dx s.heap h'->Q () { s with heap:=h',toks:=s.toks+2 }):
  wpAny (model prog w) A (setAttr (.ref x) name v) Q E s:=by
 obtain⟨od,J,hl⟩:=I.look;refine PySem.W.set_plain X J hs (PySem.W.osa_open (s:={ s with toks:=s.toks+1 }) (r:=none) X J hp ht fun b=>?_);obtain⟨cd,hc,hd'⟩:=PySem.W.any_some hh
 have hx:s.heap.get? x=some ⟨.ref C,some dx,.plain,#[]⟩:=I.obj
 refine wpAny_bind (wpAny_pure (wpAny_bind (wpAny_bind (wpAny_loadPart hx (wpAny_bind (PySem.W.Looks.here (s:={ s with toks:=s.toks+1 }) (PySem.W.looks_clsIn X hc) ?_))))));rw[hd'];refine wpAny_pure (a:=some dx) (wpAny_bind (wpAny_pure (wpAny_bind ?_)))
 refine wpAny_nsSet1 (s:={ s with toks:=s.toks+1 }) I.ns fun h' hn2 hs2=>?_
 obtain⟨oD,esD,epD,hoD,hdD,hcD⟩:=hn2.count (PySem.Within.cons name v hw);refine wpAny_bind (wpAny_lookBehind hoD (by rw[hdD];exact pastItsLine_dict (Nat.le_trans hcD (by rw[List.length_cons];omega))) ?_);exact wpAny_pure (h _ ⟨(hs2.2 _ (Ne.symm I.ne)).trans I.obj,hn2,I.ne⟩ hs2)
theorem Ci{R:Result->Shared->Prop}{vs:List Value}{kw:List (Str×Value)}(X:K.In s.heap)(hm:PySem.W.makesIn K C=true)
  (hi:PySem.W.findIn K (.ref C) "__init__" = some (some (.ref f))) (hf:PySem.W.typeIn K (.ref f)=some (.type "function"))
  (h:codeAny (model prog w) (A.under (.builtin "type.__call__" ⟨.ref C ::vs,kw⟩)) (.call (.ref f) ⟨.ref (s.heap.objs.size+1) ::vs,kw⟩) (PySem.W.InitBack (s.heap.objs.size+1) R)
    { s with heap:=(s.heap.push PySem.W.emptyDict).push (PySem.W.instObj C s.heap.objs.size) }):
  codeAny (model prog w) A (.call (.ref C) ⟨vs,kw⟩) R s:=by
 obtain⟨hh,g,d,t,os⟩:=s;exact PySem.W.make_core (PySem.W.makes_of X hm) (PySem.W.looks_findIn X hi) (fun self=>PySem.W.bind_fn X self hf) (.inl rfl) h
end
noncomputable def jk(f:Str)(v:V):List (Str×V)->List (Str×V)
 |[]=>[(f,v)]
 |(g,x) ::r=>if g=f then(g,v) ::r else(g,x) ::jk f v r
theorem pW(f g:Str)(v:V):∀ fs:List (Str×V),(jk f v fs).lookup g=if g=f then some v else fs.lookup g
 | []=>by
   show List.lookup g [(f,v)]=_
   by_cases h:g=f
   . have hb:(g==f)=true:=beq_iff_eq.mpr h
     simp only[List.lookup,hb,if_pos h]
   . have hb:(g==f)=false:=beq_eq_false_iff_ne.mpr h
     simp only[List.lookup,hb,if_neg h]
 | (k,x) ::r=>by
   have ih:=pW f g v r;rw[show jk f v ((k,x) ::r)=(if k=f then(k,v) ::r else(k,x) ::jk f v r) from rfl]
   by_cases hk:k=f
   . rw[if_pos hk]
     by_cases h:g=k
     . have hb:(g==k)=true:=beq_iff_eq.mpr h
       simp only[List.lookup,hb,if_pos (h.trans hk)]
     . have hb:(g==k)=false:=beq_eq_false_iff_ne.mpr h
       simp only[List.lookup,hb,if_neg (fun e:g=f=>h (e.trans hk.symm))]
   . rw[if_neg hk]
     by_cases h:g=k
     . have hb:(g==k)=true:=beq_iff_eq.mpr h
       simp only[List.lookup,hb,if_neg (fun e:g=f=>hk (h.symm.trans e))]
     . have hb:(g==k)=false:=beq_eq_false_iff_ne.mpr h
       simp only[List.lookup,hb];exact ih
theorem pN(f:Str)(v:V):∀ fs:List (Str×V),f∈(jk f v fs).map (·.1) /\ ∀ g,g∈fs.map (·.1)->g∈(jk f v fs).map (·.1)
 |[]=>⟨by simp[jk],fun g h=>by simp at h⟩
 | (k,x) ::r=>by
   obtain⟨i1,i2⟩:=pN f v r;rw[show jk f v ((k,x) ::r)=(if k=f then(k,v) ::r else(k,x) ::jk f v r) from rfl]
   by_cases hk:k=f
   . rw[if_pos hk];subst hk
     exact⟨by simp,fun g h=>by simpa using h⟩
   . rw[if_neg hk]
     refine⟨?_,fun g h=>?_⟩
     . rw[List.map_cons];exact List.mem_cons_of_mem _ i1
     . rw[List.map_cons]at h ⊢
       rcases List.mem_cons.mp h with e|e
       . exact List.mem_cons.mpr (.inl e)
       . exact List.mem_cons_of_mem _ (i2 g e)
theorem qc(f:Str)(v:V):∀ fs:List (Str×V),(jk f v fs).length<=fs.length+1
 |[]=>by simp[jk]
 | (k,x) ::r=>by
   have ih:=qc f v r;rw[show jk f v ((k,x) ::r)=(if k=f then(k,v) ::r else(k,x) ::jk f v r) from rfl]
   by_cases hk:k=f
   . rw[if_pos hk,List.length_cons,List.length_cons];omega
   . rw[if_neg hk,List.length_cons,List.length_cons];omega
theorem bu.some_of{v:V}{o:Option Value}(r:bu (some v) o):∃ u,o=some u /\ RelV v u:=by
 cases o with
 |none=>exact(show False from r).elim
 |some u=>exact⟨u,rfl,r⟩
theorem bu.none_of{o:Option Value}(r:bu none o):o=none:=by
 cases o with
 |none=>rfl
 |some u=>exact(show False from r).elim
theorem zo{v:V}{u:Value}(r:RelV v u):PySem.W.handedIn u=true:=by
 cases v with
 |non=>cases(show u=Value.none from r);rfl
 |bl b=>cases(show u=Value.bool b from r);rfl
 |int i=>obtain⟨t,e⟩:=(show ∃ t,u=Value.int i t from r);cases e;rfl
 |str x=>obtain⟨t,e⟩:=(show ∃ t,u=Value.str x t from r);cases e;rfl
 |byt b=>obtain⟨t,e⟩:=(show ∃ t,u=Value.bytes b t from r);cases e;rfl
 |flt b=>obtain⟨t,e⟩:=(show ∃ t,u=Value.float b t from r);cases e;rfl
 |ref a=>cases(show u=Value.ref a from r);rfl
 |ty n=>cases(show u=Value.type n from r);rfl
section
variable{P:Program}{w:World}{H H':Hp}{h h':Heap}{a C dx:Addr}{fs fs':List (Str×V)}
theorem u2(hok:HOk P w H h)(e:H a=some (.ins C dx fs)):∃ mA,xm h a dx C mA /\ (∀ f,bu (fs.lookup f) (mA f)) /\ PySem.Within mA (fs.map (·.1)) /\ fs.length<=1000 /\ H dx=some (.own a):=by
 obtain⟨d,z,ne,ob,mA,n,r,q⟩:=(show gc P w H h a (.ins C dx fs) from hok a _ e)
 exact⟨mA,⟨ob,n,ne⟩,r,q,z,d⟩
end
structure Cls(K:PySem.W.Frag)(C:Addr):Prop where
 pg:PySem.W.plainGet K C Str.empty=true
 hd:PySem.W.hasDictIn K C=true
 po:PySem.W.plainOver K C=true
 sa:PySem.W.findIn K (.ref C) "__setattr__" = some (some (.builtin "object.__setattr__"))
theorem Cls.get{K:PySem.W.Frag}{C:Addr}(c:Cls K C)(f:Str):PySem.W.plainGet K C f=true:=c.pg
noncomputable def kF(K:PySem.W.Frag)(C:Addr)(f:Str):Prop:=PySem.W.findIn K (.ref C) f=some none
theorem kF.Il{K:PySem.W.Frag}{C:Addr}{f:Str}(n:kF K C f):PySem.W.takerIn K C f=some none:=by
 unfold PySem.W.takerIn;rw[show PySem.W.findIn K (.ref C) f=some none from n];rfl
structure Meth(K:PySem.W.Frag)(C:Addr)(m:Str)(f:Addr):Prop where
 at_:PySem.W.findIn K (.ref C) m=some (some (.ref f))
 fn:PySem.W.isFn K (.ref f)=true
 kp:PySem.W.keepIn K (.ref f)=true
section
variable{X:Cx}{pins:List (Addr×Obj)}{σ:St}{H:Hp}{s:Shared}{a C dx:Addr}{fs:List (Str×V)}{f:Str}{v:V}{A:Around}{E:Value->Shared->Prop}
theorem xU{b:Bool}{Q:Value->Shared->Prop}(I:Inv X pins σ H s)(e:H a=some (.ins C dx fs))(c:Cls X.K C)(n:kF X.K C f)(l:fs.lookup f=some v)
  (h:∀ u s',Inv X pins σ H s'->RelV v u->Q u s'):wpAny (model X.prog X.w) A (getAttr (.ref a) f b) Q E s:=by
 obtain⟨mA,O,r,_,_,_⟩:=u2 I.hok e;obtain⟨u,hu,ru⟩:=bu.some_of (v:=v) (o:=mA f) (by rw[<- l];exact r f);exact get_map I.kIn O (c.get f) c.hd n hu (zo ru) (h u _ (I.tok _) ru)
theorem rK{m:Str}{g:Addr}{pl:Sem Bool}{Q:Value×List Value->Shared->Prop}(I:Inv X pins σ H s)(e:H a=some (.ins C dx fs))(c:Cls X.K C)(k:Meth X.K C m g)(l:fs.lookup m=none)
  (h:Q (.ref g,[.ref a]) s):wpAny (model X.prog X.w) A (getMethod (.ref a) m pl) Q E s:=by
 obtain⟨mA,O,r,_,_,_⟩:=u2 I.hok e
 have hn:mA m=none:=bu.none_of (by rw[<- l];exact r m)
 exact AI I.kIn O (c.get m) k.at_ k.fn hn h
theorem wZ{y:V}{u:Value}{Q:Unit->Shared->Prop}(I:Inv X pins σ H s)(e:H a=some (.ins C dx fs))(c:Cls X.K C)(n:kF X.K C f)(hl:fs.length<1000)(ry:RelV y u)
  (h:∀ s',Inv X pins σ (upd H a (.ins C dx (jk f y fs))) s'->Q () s'):wpAny (model X.prog X.w) A (setAttr (.ref a) f u) Q E s:=by
 obtain⟨mA,O,r,wi,_,ho⟩:=u2 I.hok e
 have hz:(fs.map (·.1)).length<=sizeLine:=by rw[List.length_map,sizeLine_eq];omega
 refine DH I.kIn O c.sa c.po n.Il c.hd wi hz fun h' O' sb=>h _ ?_
 have hd:∃ o,h'.get? dx=some o:=let ⟨o,_,_,e',_⟩:=O'.ns;⟨o,e'⟩
 refine I.write (x:=a) (e:=dx) (by rw[e];exact True.intro) (.inr ho) (fun b q hb z=>(sb.2 b hb).trans z) hd ?_
 refine⟨by rw[bB O.ne];exact ho,?_,O.ne,O'.obj,_,O'.ns,fun g=>?_,fun g hg=>?_⟩
 . have:=qc f y fs;omega
 . show bu ((jk f y fs).lookup g) (if g=f then some u else mA g);rw[pW]
   by_cases q:g=f
   . rw[if_pos q,if_pos q];exact ry
   . rw[if_neg q,if_neg q];exact r g
 . by_cases q:g=f
   . rw[q];exact(pN f y fs).1
   . refine(pN f y fs).2 g (wi g fun z=>hg ?_)
     show(if g=f then some u else mA g)=none
     rw[if_neg q];exact z
theorem Inv.made(I:Inv X pins σ H s):Inv X pins σ (upd (upd H s.heap.objs.size (.own (s.heap.objs.size+1))) (s.heap.objs.size+1) (.ins C s.heap.objs.size []))
  { s with heap:=(s.heap.push PySem.W.emptyDict).push (PySem.W.instObj C s.heap.objs.size) }:=by
 have e1:(s.heap.push PySem.W.emptyDict).get? s.heap.objs.size=some PySem.W.emptyDict:=Heap.get?_push_size s.heap rfl
 have e2:((s.heap.push PySem.W.emptyDict).push (PySem.W.instObj C s.heap.objs.size)).get? (s.heap.objs.size+1)=some (PySem.W.instObj C s.heap.objs.size):=by
  have:=Heap.get?_push_size (s.heap.push PySem.W.emptyDict) (o:=PySem.W.instObj C s.heap.objs.size) rfl
  rwa [Heap.size_push]at this
 have e3:(s.heap.push PySem.W.emptyDict).Ns s.heap.objs.size (fun _=>none):=⟨PySem.W.emptyDict,#[],_,e1,rfl,(fun e he=>absurd he (by simp)),fun _=>rfl⟩
 have I1:=I.laid (a:=s.heap.objs.size) (o:=.own (s.heap.objs.size+1)) (h':=s.heap.push PySem.W.emptyDict) (t':=s.toks) (fun b u q=>Heap.get?_push_of_some _ q) (Nat.le_refl _) ⟨_,e1⟩;refine I1.laid (a:=s.heap.objs.size+1) (o:=.ins C s.heap.objs.size []) (t':=s.toks) (fun b u q=>Heap.get?_push_of_some _ q) (Nat.le_of_eq (Heap.size_push _ _)) ?_
 have ne:s.heap.objs.size≠s.heap.objs.size+1:=Nat.ne_of_lt (Nat.lt_succ_self _)
 refine⟨by rw[bB ne,bw],Nat.zero_le _,ne,e2,fun _=>none,(Heap.Ns1.of_empty e3).at fun o q=>Heap.get?_push_of_some _ q,fun _=>True.intro,fun y hy=>absurd rfl hy⟩
theorem Dk{prog:Program}{w:World}{env:Env}{e:Expr}{f:Str}{pos:Pos}{s:Shared}{Q:Value->Shared->Prop}(hb:attributeBase e f env (eval e env)=eval e env)
  (h:wpAny (model prog w) A (eval e env) (fun o s₁=>wpAny (model prog w) A (getAttr o f true) Q E s₁) E s):wpAny (model prog w) A (eval (.Attribute e f pos) env) Q E s:=
 Attribute_any_ h (by rw[arm_eval_Attribute,hb])
end
noncomputable def FT(K:PySem.W.Frag)(ta:TE)(f:Str):TE:=fun σ H Q=>ta σ H fun x H1=>∃ a C dx fs v,x=.ref a /\ H1 a=some (.ins C dx fs) /\ Cls K C /\ kF K C f /\ fs.lookup f=some v /\ Q v H1
noncomputable def GN(K:PySem.W.Frag)(ta tv:TE)(f:Str):TS:=fun D σ H=>tv σ H fun y H1=>ta σ H1 fun x H2=>∃ a C dx fs,x=.ref a /\ H2 a=some (.ins C dx fs) /\ Cls K C /\ kF K C f /\ fs.length<1000 /\
 D.nx σ (upd H2 a (.ins C dx (jk f y fs)))
section
variable{X:Cx}{o e value:Expr}{f:Str}{pos pos' tpos:Pos}{ta tv:TE}
theorem EX(he:PE X e ta)(hb:attributeBase e f X.env (eval e X.env)=eval e X.env):PE X (.Attribute e f pos) (FT X.K ta f):=by
 intro pins s σ H Q I h;refine Dk hb (thn (he pins s σ H _ I h) fun u s1 ⟨x,H1,I1,rx,a,C,dx,fs,v,ex,ea,c,n,l,q⟩=>?_);subst ex
 obtain rfl:u=Value.ref a:=rx
 exact xU I1 ea c n l fun u' s2 I2 ru=>⟨v,H1,I2,ru,q⟩
theorem GB(ha:PE X o ta)(hv:PE X value tv)(hs:swapsWith value (some (.Attribute o f pos')) pos.line X.env=pure false):PS X (.Assign [.Attribute o f pos'] value pos) (GN X.K ta tv f):=by
 intro pins s σ H D I h;refine plainObj_wpAny_Assign_Attribute (thn (hv pins s σ H _ I h) fun u s1 ⟨y,H1,I1,ry,q⟩=>thn (ha pins s1 σ H1 _ I1 q) fun ov s2 ⟨x,H2,I2,rx,a,C,dx,fs,ex,ea,c,n,l,q2⟩=>?_) hs;subst ex
 obtain rfl:ov=Value.ref a:=rx
 exact wZ I2 ea c n l ry fun s3 I3=>⟨σ,_,I3,q2⟩
end
structure gw(k:Nat)(A:Around):Prop where
 hd:A.handled=none
 dp:A.depth+3*k+5<recursionLimit
 un:A.units+16*k+200<cLine
theorem gw.mono{j k:Nat}{A:Around}(r:gw k A)(h:j<=k):gw j A:=⟨r.hd,by have:=r.dp;omega,by have:=r.un;omega⟩
theorem gw.deeper{k:Nat}{A:Around}(r:gw (k+1) A)(env:Env):gw k (A.deeper env):=
 ⟨r.hd,by have:=r.dp;show A.depth+1+3*k+5<_;omega,by have:=r.un;show A.units+3+16*k+200<_;omega⟩
theorem xt{A:Around}{C:Addr}{us:List Value}{kw:List (Str×Value)}:(A.under (.builtin "type.__call__" ⟨.ref C ::us,kw⟩)).depth=A.depth+1:=by
 first|rfl|simp[Around.under,Code.weight,Code.isCreation,Code.isGuard,Code.isCaller,Code.frames,Code.isFrame,guardIds]
theorem xA{A:Around}{C:Addr}{us:List Value}{kw:List (Str×Value)}:(A.under (.builtin "type.__call__" ⟨.ref C ::us,kw⟩)).units=A.units+1:=by
 first|rfl|simp[Around.under,Code.cUnits,Code.frames,Code.isFrame]
theorem gw.make{k:Nat}{A:Around}(r:gw (k+1) A)(C:Addr)(us:List Value)(kw:List (Str×Value)):gw k (A.under (.builtin "type.__call__" ⟨.ref C ::us,kw⟩)):=
 ⟨r.hd,by have:=r.dp;rw[xt];omega,by have:=r.un;rw[xA];omega⟩
theorem gw.depth{k:Nat}{A:Around}(r:gw k A):A.depth<recursionLimit:=by have:=r.dp;omega
theorem gw.units{k:Nat}{A:Around}(r:gw k A):A.units+64<cLine:=by have:=r.un;omega
noncomputable def j9:TA:=fun _ H Q=>Q [] H
noncomputable def iT(ta:TE)(tr:TA):TA:=fun σ H Q=>ta σ H fun x H1=>tr σ H1 fun xs H2=>Q (x ::xs) H2
section
variable{X:Cx}{e:Expr}{es:List Expr}{te:TE}{t:TA}{pos:Pos}
theorem EU:PA X [] j9:=fun _ _ _ _ H Q I h=>Calls.spliced_nil ⟨[],H,I,.nil,h⟩
theorem Du(ha:PE X e te)(hr:PA X es t)(hs:starEach (e ::es) X.env=(false,eval e X.env) ::starEach es X.env:=by rfl):PA X (e ::es) (iT te t):=by
 intro pos pins s σ H Q I h;rw[hs];show wpAny _ _ (spliced ((false,eval e X.env) ::backTo pos (starEach es X.env))) _ _ s;refine Calls.spliced_cons (thn (ha pins s σ H _ I h) fun u s1 ⟨x,H1,I1,r1,q1⟩=>?_)
 exact thn (hr pos pins s1 σ H1 _ I1 q1) fun us s2 ⟨xs,H2,I2,r2,q2⟩=>⟨x ::xs,H2,I2,.cons r1 r2,q2⟩
noncomputable def FN(t:TA):TE:=fun σ H Q=>t σ H fun xs H1=>xs.length<=sizeLine /\ ∀ p,H1 p=none->Q (.ref p) (upd H1 p (.tup xs))
noncomputable def FF(t:TA):TE:=fun σ H Q=>t σ H fun xs H1=>xs.length<=sizeLine /\ ∀ p,H1 p=none->Q (.ref p) (upd H1 p (.lst xs))
theorem ES{x1}(h:PA X es t):PE X (.Tuple es x1 pos) (FN t):=by
 intro pins s σ H Q I hq;refine wpAny_Tuple_spliced (thn (h pos pins s σ H _ I hq) fun us s1 ⟨xs,H1,I1,r,z,q⟩=>⟨by rw[<- r.length];exact z,?_⟩)
 have hf:H1 s1.heap.objs.size=none:=I1.hok.fresh (Nat.le_refl _)
 refine⟨.ref s1.heap.objs.size,upd H1 s1.heap.objs.size (.tup xs),I1.laid (t':=s1.toks) (fun b u e=>Heap.get?_push_of_some _ e) (Nat.le_refl _) ?_,rfl,q _ hf⟩
 exact⟨z,us,r,⟨_,Heap.get?_push_size _ rfl,rfl,_,rfl⟩⟩
theorem E2(h:PA X es t):PE X (.List es pos) (FF t):=by
 intro pins s σ H Q I hq;refine wpAny_List_spliced (thn (h pos pins s σ H _ I hq) fun us s1 ⟨xs,H1,I1,r,z,q⟩=>⟨by rw[<- r.length];exact z,?_⟩)
 have hf:H1 s1.heap.objs.size=none:=I1.hok.fresh (Nat.le_refl _)
 refine⟨.ref s1.heap.objs.size,upd H1 s1.heap.objs.size (.lst xs),I1.laid (t':=s1.toks) (fun b u e=>Heap.get?_push_of_some _ e) (Nat.le_refl _) ?_,rfl,q _ hf⟩
 exact⟨z,us,0,r,Heap.get?_push_size _ rfl⟩
end
abbrev Sp:=List V->Hp->VK->XK->Prop
abbrev CXT:=List Env->Hp->Shared->XK->Value->Shared->Prop
structure xF(P:Program)(w:World)(K:PySem.W.Frag)(mg:Str->Option Value)(base:Heap)(A:Around)(outer:List Env)(s:Shared)(H:Hp):Prop where
 frames:A.frames=some outer
 mod:Mod K mg base
 bs:∀ b o,base.get? b=some o->s.heap.get? b=some o /\ H b=none
 bsz:base.objs.size<=s.heap.objs.size
 sF:s.heap.FunFrames base outer
 frf:∀ b∈frs outer,H b=none
 hok:HOk P w H s.heap
 bare:AllBare s.gens
noncomputable def CE(outer:List Env)(P:Program)(w:World)(H:Hp)(s:Shared)(Q:VK)(u:Value)(s':Shared):Prop:=
 ∃ v H',s'.os=s.os /\ AllBare s'.gens /\ Un (frs outer) [] H H' s.heap s'.heap /\ HOk P w H' s'.heap /\ RelV v u /\ Q v H'
noncomputable def CR(CX:CXT)(outer:List Env)(P:Program)(w:World)(H:Hp)(s:Shared)(Q:VK)(E:XK)(r:Result)(s':Shared):Prop:=
 match r with
 |.ok (.ret u)=>CE outer P w H s Q u s'
 |.ok _=>False
 |.error e=>CX outer H s E e s'
structure cw(P:Program)(w:World)(K:PySem.W.Frag)(mg:Str->Option Value)(base:Heap)(CX:CXT)(k:Nat)(f:Addr)(fd:FuncData)(ps:List Str)(sp:Sp):Prop where
 len:∀ vs H Q E,sp vs H Q E->vs.length=ps.length
 run:∀(A:Around) (outer:List Env) (s:Shared) (H:Hp) (args:Args) (us:List Value) (vs:List V) (Q:VK) (E:XK),gw k A->xF P w K mg base A outer s H->BindsTo s fd args (ps.zip us)->Vals vs us->sp vs H Q E ->
  codeAny (model P w) A (.call (.ref f) args) (CR CX outer P w H s Q E) s
theorem cw.mono{P:Program}{w:World}{K:PySem.W.Frag}{mg:Str->Option Value}{base:Heap}{CX:CXT}{j k:Nat}{f:Addr}{fd:FuncData}{ps:List Str}{sp:Sp}(F:cw P w K mg base CX j f fd ps sp)(h:j<=k):
  cw P w K mg base CX k f fd ps sp:=⟨F.len,fun A outer s H args us vs Q E hr=>F.run A outer s H args us vs Q E (hr.mono h)⟩
theorem cw.imp{P:Program}{w:World}{K:PySem.W.Frag}{mg:Str->Option Value}{base:Heap}{CX:CXT}{k:Nat}{f:Addr}{fd:FuncData}{ps:List Str}{sp sp':Sp}(F:cw P w K mg base CX k f fd ps sp)
  (h:∀ vs H Q E,sp' vs H Q E->sp vs H Q E):cw P w K mg base CX k f fd ps sp':=
 ⟨fun vs H Q E q=>F.len vs H Q E (h _ _ _ _ q),fun A outer s H args us vs Q E hr he hb hv hs=>F.run A outer s H args us vs Q E hr he hb hv (h _ _ _ _ hs)⟩
theorem xF.make{P:Program}{w:World}{K:PySem.W.Frag}{mg:Str->Option Value}{base:Heap}{A:Around}{outer:List Env}{s:Shared}{H:Hp}(e:xF P w K mg base A outer s H)(C:Addr)(us:List Value)(kw:List (Str×Value)):
  xF P w K mg base (A.under (.builtin "type.__call__" ⟨.ref C ::us,kw⟩)) outer s H:=⟨by first|exact e.frames|(simpa [Around.under,Code.envs,Code.isFrame,pushEnvs]using e.frames),e.mod,e.bs,e.bsz,e.sF,e.frf,e.hok,e.bare⟩
section
variable{X:Cx}{pins:List (Addr×Obj)}{σ:St}{H:Hp}{s s':Shared}
theorem Inv.HI(I:Inv X pins σ H s):xF X.prog X.w X.K X.mg X.base X.A X.stack s H:=
 ⟨I.ok.frames,I.ok.mod,I.bs,Nat.le_trans I.ok.bsz I.sz,I.stack,I.uT,I.hok,I.bare⟩
theorem Inv.after{Q:VK}{u:Value}(I:Inv X pins σ H s)(h:CE X.stack X.prog X.w H s Q u s'):EP X pins σ Q u s':=by
 obtain⟨v,H',os,bare,un,hok,r,q⟩:=h;obtain⟨hh,g,d,t,os'⟩:=s'
 obtain rfl:os'=s.os:=os
 exact⟨v,H',I.call (h':=hh) (g':=g) (d':=d) (t':=t) (ch:=[]) un hok bare (fun b z=>absurd z (by simp)),r,q⟩
end
noncomputable def BE(C:Addr)(sp:Sp)(dvs:List V)(E:XK)(t:TA):TE:=fun σ H Q=>t σ H fun vs H1=>∀ x dx,H1 x=none->H1 dx=none->dx≠x ->
 sp (.ref x ::(vs++dvs)) (upd (upd H1 dx (.own x)) x (.ins C dx [])) (fun v H2=>v=.non /\ Q (.ref x) H2) E
noncomputable def Binds(K:PySem.W.Frag)(fd:FuncData)(ps:List Str)(ds:List Value):Prop:=
 ∀(s:Shared) (us:List Value),K.In s.heap->(us++ds).length=ps.length->BindsTo s fd ⟨us,[]⟩ (ps.zip (us++ds))
theorem Binds.all{K:PySem.W.Frag}{fd:FuncData}{ps:List Str}(h:∀ us:List Value,us.length=ps.length->bindArgs fd ⟨us,[]⟩=pure (ps.zip us)):Binds K fd ps []:=fun s us _ hl=>by
 rw[List.append_nil]at hl ⊢
 exact .of_eq (h us hl)
noncomputable def Passes(CX:CXT)(X:Cx)(E:XK):Prop:=∀(pins:List (Addr×Obj)) (σ:St) (H:Hp) (s:Shared) (e:Value) (s':Shared),Inv X pins σ H s->CX X.stack H s E e s'->X.xe e s'
section
variable{X:Cx}{CX:CXT}{k:Nat}{f C:Addr}{fd:FuncData}{ps:List Str}{sp:Sp}{dvs:List V}{ds:List Value}{E:XK}{x m:Str}{p pos apos:Pos}{e o:Expr}{es:List Expr}{ta:TE}{t:TA}
structure Mk(K:PySem.W.Frag)(C f:Addr):Prop where
 makes:PySem.W.makesIn K C=true
 init:PySem.W.findIn K (.ref C) "__init__" = some (some (.ref f))
 fn:PySem.W.isFn K (.ref f)=true
 kp:PySem.W.keepIn K (.ref C)=true
theorem B5{pins:List (Addr×Obj)}{σ:St}{H:Hp}{s:Shared}{Q:VK}{us:List Value}{vs:List V}(M:Mk X.K C f)(F:cw X.prog X.w X.K X.mg X.base CX k f fd ps sp)(hr:gw (k+1) X.A)(hb:Binds X.K fd ps ds)(hd:Vals dvs ds)
  (hx:Passes CX X E) (I:Inv X pins σ H s) (r:Vals vs us)
  (h:∀ x dx,H x=none->H dx=none->dx≠x->sp (.ref x ::(vs++dvs)) (upd (upd H dx (.own x)) x (.ins C dx [])) (fun v H2=>v=.non /\ Q (.ref x) H2) E):
  wpAny (model X.prog X.w) X.A (call (.ref C) us) (EP X pins σ Q) X.xe s:=by
 have hq:=h (s.heap.objs.size+1) s.heap.objs.size (I.hok.fresh (Nat.le_succ _)) (I.hok.fresh (Nat.le_refl _)) (Nat.ne_of_lt (Nat.lt_succ_self _));have I2:=Inv.made (C:=C) I
 have r2:Vals (V.ref (s.heap.objs.size+1) ::(vs++dvs)) (Value.ref (s.heap.objs.size+1) ::(us++ds)):=.cons rfl (r.append hd)
 have hl:(Value.ref (s.heap.objs.size+1) ::us++ds).length=ps.length:=by
  have e:=r2.length;rw[F.len _ _ _ _ hq]at e;exact e.symm
 refine wpAny_call (Ci (f:=f) I.kIn M.makes M.init (beq_iff_eq.mp M.fn) (codeAny_mono (F.run _ X.stack _ _ ⟨Value.ref (s.heap.objs.size+1) ::us,[]⟩ (Value.ref (s.heap.objs.size+1) ::(us++ds)) _ _ E (hr.make C us [])
  (I2.HI.make C us []) (hb _ (Value.ref (s.heap.objs.size+1) ::us) I2.kIn hl) r2 hq) fun r s' hq'=>?_))
 cases r with
 |error e=>exact hx pins σ _ _ e s' I2 hq'
 | ok fl=>
   cases fl with
   | ret u=>
     obtain⟨v,H',I3,rv,ev,q3⟩:=I2.after hq';subst ev
     exact⟨rv,⟨V.ref (s.heap.objs.size+1),H',I3,rfl,q3⟩⟩
   |next=>exact False.elim hq'
   |brk=>exact False.elim hq'
   |cont=>exact False.elim hq'
theorem A4(M:Mk X.K C f)(F:cw X.prog X.w X.K X.mg X.base CX k f fd ps sp)(hr:gw (k+1) X.A)(hg:Gl X x)(hm:X.mg x=some (.ref C))(hb:Binds X.K fd ps ds)(hd:Vals dvs ds)(hx:Passes CX X E)
  (hdb:(x==("__debug__":Str))=false:=by decide):PE X (.Call (.Name x p) [] [] pos) (BE C sp dvs E j9):=by
 intro pins s σ H Q I h;refine wpAny_Call_Name_kw (qC I hg hm ?_ hdb);exact PySem.W.callWith_K0 I.kIn M.kp (B5 (us:=[]) M F hr hb hd hx I .nil h)
end
structure aZ(N P:List Str)(sc:Scope):Prop where
 kind:sc.kind=.function
 co:sc.isCoroutine=false
 gen:sc.isGenerator=false
 nd:N.Nodup
 pre:N.take P.length=P
 par:∀ x∈P,sc.names.lookup x=some .local \/ sc.names.lookup x=some .cell
 nofree:∀ y∈sc.names,y.2≠.free
theorem tu{kindOf:Str->Option NameKind}{x:Str}:∀{binds:List (Str×Value)} {m:Str->Option Value},(∀ v,(x,v)∉binds)->bindL kindOf binds m x=m x
 |[],_,_=>rfl
 | (n,v) ::r,m,h=>by
   unfold bindL;rw[tu fun w hw=>h w (List.mem_cons_of_mem _ hw)];split
   . have:x≠n:=by rintro rfl;exact h v List.mem_cons_self
     simp[this]
   . rfl
theorem sT{kindOf:Str->Option NameKind}{x:Str}:∀{binds:List (Str×Value)} {m:Str->Option Value},(∀ v,(x,v)∉binds)->bindC kindOf binds m x=m x
 |[],_,_=>rfl
 | (n,v) ::r,m,h=>by
   unfold bindC;rw[sT fun w hw=>h w (List.mem_cons_of_mem _ hw)];split
   . rfl
   . have:x≠n:=by rintro rfl;exact h v List.mem_cons_self
     simp[this]
theorem sV{kindOf:Str->Option NameKind}{x:Str}{v:Value}:∀{P:List Str} {vs:List Value} {i:Nat} {m:Str->Option Value},P.Nodup->P[i]?=some x->vs[i]?=some v->kindOf x=some .local ->
  bindL kindOf (P.zip vs) m x=some v
 |[],_,_,_,_,h,_,_=>by simp at h
 |_ ::_,[],_,_,_,_,h,_=>by simp at h
 | p ::P,w ::vs,0,m,nd,h1,h2,hk=>by
   simp at h1 h2;subst h1;subst h2;show bindL kindOf ((p,w) ::P.zip vs) m p=_;unfold bindL;rw[tu fun v hv=>(List.nodup_cons.mp nd).1 (List.of_mem_zip hv).1,if_pos hk];simp
 | p ::P,w ::vs,i+1,m,nd,h1,h2,hk=>by
   show bindL kindOf ((p,w) ::P.zip vs) m x=_;unfold bindL;exact sV (i:=i) (List.nodup_cons.mp nd).2 (by simpa using h1) (by simpa using h2) hk
theorem sR{kindOf:Str->Option NameKind}{x:Str}{v:Value}:∀{P:List Str} {vs:List Value} {i:Nat} {m:Str->Option Value},P.Nodup->P[i]?=some x->vs[i]?=some v->kindOf x≠some .local ->
  bindC kindOf (P.zip vs) m x=some v
 |[],_,_,_,_,h,_,_=>by simp at h
 |_ ::_,[],_,_,_,_,h,_=>by simp at h
 | p ::P,w ::vs,0,m,nd,h1,h2,hk=>by
   simp at h1 h2;subst h1;subst h2;show bindC kindOf ((p,w) ::P.zip vs) m p=_;unfold bindC;rw[sT fun v hv=>(List.nodup_cons.mp nd).1 (List.of_mem_zip hv).1,if_neg hk];simp
 | p ::P,w ::vs,i+1,m,nd,h1,h2,hk=>by
   show bindC kindOf ((p,w) ::P.zip vs) m x=_;unfold bindC;exact sR (i:=i) (List.nodup_cons.mp nd).2 (by simpa using h1) (by simpa using h2) hk
noncomputable def start(N:List Str)(vs:List V):St:=vs.map some++List.replicate (N.length - vs.length) none
noncomputable def pC(CX:CXT)(P:Program)(w:World)(K:PySem.W.Frag)(mg:Str->Option Value)(base:Heap)(N:List Str)(qual:Str)(scope:Scope)(f:Addr)(cd:Value)(A:Around)(outer:List Env)(s:Shared)(H:Hp)(E:XK):Cx where
 prog:=P
 w:=w
 K:=K
 mg:=mg
 base:=base
 A:=A.deeper (envOfC qual scope s.heap.objs.size f cd)
 N:=N
 s₀:=s
 H₀:=H
 env:=envOfC qual scope s.heap.objs.size f cd
 outer:=outer
 stack:=envOfC qual scope s.heap.objs.size f cd ::outer
 ex:=[]
 calm:=true
 fn:=fun _=>true
 pn:=[]
 xe:=fun e s'=>wpAny (model P w) (A.deeper (envOfC qual scope s.heap.objs.size f cd)) (leaving (envOfC qual scope s.heap.objs.size f cd) e) (fun _ s''=>CX outer H s E e s'') (fun e' s''=>CX outer H s E e' s'') s'
theorem v3{sc:Scope}{n:Nat}{x:Str}(h:sc.names.lookup x=some .cell):∃ c,(cellsFrom n sc.names []).lookup x=some c:=by
 have q:=PySem.W.cellsFrom_some sc.names n [] (.inl h);exact Option.isSome_iff_exists.mp q
theorem zN{CX:CXT}{P:Program}{w:World}{K:PySem.W.Frag}{mg:Str->Option Value}{base:Heap}{N ps:List Str}{qual:Str}{scope:Scope}{f:Addr}{cd:Value}{A:Around}{outer:List Env}{s s1:Shared}{H:Hp}{E:XK}{us:List Value}{vs:List V}
  (S:aZ N ps scope) (hd:A.handled=none) (e0:xF P w K mg base A outer s H) (hl:vs.length=ps.length) (r:Vals vs us)
  (x:InCallC s s.heap.objs.size (bindL (envOfC qual scope s.heap.objs.size f cd).kindOf (ps.zip us) fun _=>none) (cellsFrom (s.heap.objs.size+1) scope.names []) (bindC (envOfC qual scope s.heap.objs.size f cd).kindOf (ps.zip us) fun _=>none) s1):
  Inv (pC CX P w K mg base N qual scope f cd A outer s H E) [] (start N vs) H s1:=by
 have hpl:ps.length<=N.length:=by have:=congrArg List.length S.pre;rw[List.length_take]at this;omega
 obtain⟨h1,tk,rfl,hk⟩:=x.done
 have noA:∀ b:Addr,b∉(pC CX P w K mg base N qual scope f cd A outer s H E).ex:=fun b z=>absurd (show b∈([]:List Addr) from z) (by simp)
 refine⟨⟨e0.mod,S.kind,rfl,rfl,Nat.le_refl _,fun y z c h1 h2=>?_,fun y hy=>?_,fun y c _ h=>?_,fun _=>hd,Around.frames_deeper e0.frames,.inr ⟨rfl,rfl⟩,fun b z=>absurd z (noA b),e0.bs,e0.bsz,fun b _ _=>noA b,fun b z=>absurd z (noA b),e0.sF,e0.frf⟩,
  rfl,e0.bare,Un.kept hk,⟨_,x.toInCall.ns,fun i y v h1 h2 h3=>?_⟩,fun y c h=>⟨_,x.cell y c h⟩,e0.hok.fresh (Nat.le_refl _),fun y c h=>?_,fun p hp=>absurd (show p∈([]:List (Addr×Obj)) from hp) (by simp),e0.hok.kept hk,?_⟩
 . exact name_of_addr x.apart (PySem.mem_of_lookup h1) (PySem.mem_of_lookup h2)
 . have hy:scope.names.lookup y=some .cell \/ scope.names.lookup y=some .free:=hy
   rcases hy with hy|hy
   . exact v3 hy
   . exact absurd rfl (S.nofree _ (PySem.mem_of_lookup hy))
 . exact Nat.le_of_lt (x.above y c (PySem.mem_of_lookup h))
 . have hi:i < vs.length:=by
    unfold start at h2
    by_cases hi:i<vs.length
    . exact hi
    . rw[List.getElem?_append_right (by simpa using hi)]at h2;rw[List.getElem?_replicate]at h2
      split at h2<;>cases h2
   have ha:vs[i]?=some v:=by
    unfold start at h2;rw[List.getElem?_append_left (by simpa using hi),List.getElem?_map]at h2
    cases e:vs[i]? with
    |none=>rw[e]at h2;cases h2
    |some a=>rw[e]at h2;cases h2;rfl
   obtain⟨u,hu,rv⟩:=r.get ha
   have hp:ps[i]?=some y:=by
    rw[<- S.pre,List.getElem?_take_of_lt (by omega)];exact h1
   have ndP:ps.Nodup:=by rw[<- S.pre];exact S.nd.sublist (List.take_sublist _ _)
   refine⟨u,rv,?_⟩
   rcases S.par y (List.mem_of_getElem? hp)with k|k
   . exact .inl ⟨k,sV ndP hp hu k⟩
   . obtain⟨c,e⟩:=v3 (n:=s.heap.objs.size+1) k;refine .inr ⟨.inl k,c,e,?_⟩;have q:=x.cell y c e;rw[sR ndP hp hu (by show scope.names.lookup y≠_;rw[k];decide)]at q;exact q
 . exact e0.hok.fresh (Nat.le_of_lt (x.above y c (PySem.mem_of_lookup h)))
 . unfold start;show _=N.length;rw[List.length_append,List.length_map,List.length_replicate];omega
theorem HK{CX:CXT}{P:Program}{w:World}{K:PySem.W.Frag}{mg:Str->Option Value}{base:Heap}{k:Nat}{f:Addr}{name qual:Str}{params:Arguments}{body:List Stmt}{scope:Scope}{dV kV doc pm cdv ct oc:Value}{an od:Option Addr}
  {osl:Array (Option Value)} {N ps:List Str} {sp:Sp} (lk:K.lookup f=some ⟨oc,od,.func (PySem.W.fnOf name qual params body scope dV kV doc pm an cdv ct),osl⟩) (hcd:PySem.W.codeIn K cdv qual=true) (S:aZ N ps scope)
  (len:∀ vs H Q E,sp vs H Q E->vs.length=ps.length)
  (hbody:∀(A:Around) (outer:List Env) (s:Shared) (H:Hp) (vs:List V) (Q:VK) (E:XK),gw k (A.deeper (envOfC qual scope s.heap.objs.size f cdv))->sp vs H Q E ->
    ∃ t,PSs (pC CX P w K mg base N qual scope f cdv A outer s H E) body t /\ t { nx:=fun _ H'=>Q .non H',rt:=Q } (start N vs) H):
  cw P w K mg base CX (k+1) f (PySem.W.fnOf name qual params body scope dV kV doc pm an cdv ct) ps sp:=by
 refine⟨len,fun A outer s H args us vs Q E hr e0 hb r hsp=>?_⟩
 have hl:=len _ _ _ _ hsp
 have KX:K.In s.heap:=e0.mod.kin.keeps fun b o e=>(e0.bs b o e).1
 have lim:s.heap.NoLimit:=e0.mod.nolimit.keeps fun b o e=>(e0.bs b o e).1
 have hkind:∀ y∈ps.zip us,scope.names.lookup y.1=some .local \/ (scope.names.lookup y.1=some .cell /\ ((cellsFrom (s.heap.objs.size+1) scope.names []).lookup y.1).isSome=true):=fun ⟨n,v⟩ hy=>by
  rcases S.par n (List.of_mem_zip hy).1 with q|q
  . exact .inl q
  . exact .inr ⟨q,PySem.W.cellsFrom_some _ _ _ (.inl q)⟩
 refine codeAny_call_function hr.depth (KX _ _ lk) rfl S.co S.gen rfl (PySem.W.codeRec_of KX hcd) (hb _ _ _ _ ?_)
 refine wpAny_newFunctionEnv_cells S.kind hkind fun env he s1 x=>?_
 subst he
 refine⟨lim.keeps x.toInCall.keep,codeAny_func ?_⟩
 obtain⟨t,ht,hq⟩:=hbody A outer s H vs Q E (hr.deeper _) hsp
 have I:Inv (pC CX P w K mg base N qual scope f cdv A outer s H E) [] (start N vs) H s1:=zN S hr.hd e0 hl r x
 refine wpAny_mono (ht [] s1 (start N vs) H _ I hq) (fun fl s' hs=>?_) fun e s' hs=>hs
 have fin:∀{σ':St} {H':Hp} {v:V} {u:Value},Inv (pC CX P w K mg base N qual scope f cdv A outer s H E) [] σ' H' s'->RelV v u->Q v H'->CE outer P w H s Q u s':=
  fun {σ' H' v u} J rv q=>⟨v,H',J.os,J.bare,J.base,J.hok,rv,q⟩
 cases fl with
 | ret u=>
   obtain⟨v,σ',H',J,rv,q⟩:=hs;exact fin J rv q
 | next=>
   obtain⟨σ',H',J,q⟩:=hs;exact fin (v:=V.non) (u:=Value.none) J rfl q
 | brk=>
   obtain⟨_,_,_,q⟩:=hs;exact False.elim q
 | cont=>
   obtain⟨_,_,_,q⟩:=hs;exact False.elim q
section
variable{X:Cx}{x:Str}{p pos:Pos}{e:Expr}{es:List Expr}{t:TA}{id T:String}{r:List V->Hp->VK->Prop}
noncomputable def tCB(r:List V->Hp->VK->Prop)(t:TA):TE:=fun σ H Q=>t σ H fun vs H1=>r vs H1 Q
theorem Bh(hc:my X (.builtin id) r)(hg:Gl X x)(hm:X.mg x=none)(hv:bootBuiltins x=some (.builtin id))(ha:PA X (e ::es) t)(hn:x ≠ "__name__":=by decide)(hdb:(x==("__debug__":Str))=false:=by decide)
  (he:starEach (e ::es) X.env=(false,eval e X.env) ::starEach es X.env:=by rfl) (hpl:(backTo pos (starEach es X.env)).any (·.1)=false:=by rfl):PE X (.Call (.Name x p) (e ::es) [] pos) (tCB r t):=by
 intro pins s σ H Q I h;refine wpAny_Call_Name_kw (sd I hg hm hv ?_ hn hdb);exact PyProof.Rows.callWith_builtin1 (thn (ha pos pins s σ H _ I h) fun us s1 ⟨vs,H1,I1,r1,q1⟩=>hc pins s1 σ H1 vs us Q I1 r1 q1) he hpl
theorem zI(hc:my X (.type T) r)(hg:Gl X x)(hm:X.mg x=none)(hv:bootBuiltins x=some (.type T))(ha:PA X (e ::es) t)(hn:x ≠ "__name__":=by decide)(hdb:(x==("__debug__":Str))=false:=by decide)
  (he:starEach (e ::es) X.env=(false,eval e X.env) ::starEach es X.env:=by rfl) (hpl:(backTo pos (starEach es X.env)).any (·.1)=false:=by rfl):PE X (.Call (.Name x p) (e ::es) [] pos) (tCB r t):=by
 intro pins s σ H Q I h;refine wpAny_Call_Name_kw (sd I hg hm hv ?_ hn hdb);exact PyProof.Rows.callWith_type1 (thn (ha pos pins s σ H _ I h) fun us s1 ⟨vs,H1,I1,r1,q1⟩=>hc pins s1 σ H1 vs us Q I1 r1 q1) he hpl
end
end L2
namespace HT
open PySem PyProof.Rows
section
open PySem.SeqAt
open PySem.AutoSeq1 (wpAny_loadPart')
open PySem.MeetsSeq PySem.MeetsSeq2 PySem.MeetsSeq3
end
section
variable{prog:Program}{w:World}{A:Around}{E:Value->Shared->Prop}{s:Shared}
noncomputable def sIx(n d:Nat):Option Int->Nat
 |none=>d
 |some v=>if v<0 then(v+(n:Int)).toNat else min v.toNat n
end
end HT
namespace L2
open PySem PySem.Spec PyProof.Rows
abbrev TO:=St->Hp->(Option Int->Hp->Prop)->Prop
noncomputable def PO(X:Cx)(e:Option Expr)(t:TO):Prop:=
 ∀(pins:List (Addr×Obj)) (s:Shared) (σ:St) (H:Hp) (Q:Option Int->Hp->Prop),Inv X pins σ H s->t σ H Q ->
   wpAny (model X.prog X.w) X.A (evalPart e X.env) (fun u s'=>∃ o H',Inv X pins σ H' s' /\ IsPart u o /\ Q o H') X.xe s
noncomputable def ui:TO:=fun _ H Q=>Q none H
noncomputable def B6(t:TE):TO:=fun σ H Q=>t σ H fun x H1=>∃ i,x=.int i /\ Q (some i) H1
section
variable{X:Cx}{e:Expr}{te:TE}{lo hi:Option Expr}{tl th:TO}{pos p2:Pos}
theorem CP:PO X none ui:=by
 intro pins s σ H Q I h;rw[evalPart_none];exact wpAny_pure ⟨none,H,I,.none,h⟩
theorem CA(h:PE X e te):PO X (some e) (B6 te):=by
 intro pins s σ H Q I hw;rw[evalPart_some]
 refine thn (h pins s σ H _ I hw) fun u s1 ⟨x,H1,I1,r1,q1⟩=>?_
 obtain⟨i,rfl,q⟩:=q1;obtain⟨t,rfl⟩:=r1
 exact⟨some i,H1,I1,.int i t,q⟩
noncomputable def SlR(X:Cx)(r:V->Option Int->Option Int->Hp->VK->Prop):Prop:=
 ∀(pins:List (Addr×Obj)) (s:Shared) (σ:St) (H:Hp) (x:V) (v vl vu:Value) (lo hi:Option Int) (sl:Addr) (Q:VK),Inv X pins σ H s->RelV x v->s.heap.IsSliceOf sl vl vu .none->IsPart vl lo->IsPart vu hi->r x lo hi H Q ->
   ∃ T id,typeLookup (.type T) "__getitem__" = pure (some (.builtin id)) /\ s.TypeIs v T /\ wpAny (model X.prog X.w) X.A (getItem v (.ref sl)) (EP X pins σ Q) X.xe s
noncomputable def tSl(r:V->Option Int->Option Int->Hp->VK->Prop)(te:TE)(tl th:TO):TE:=fun σ H Q=>te σ H fun x H1=>tl σ H1 fun l H2=>th σ H2 fun u H3=>r x l u H3 Q
theorem A1{r:V->Option Int->Option Int->Hp->VK->Prop}(hr:SlR X r)(he:PE X e te)(hl:PO X lo tl)(hu:PO X hi th):PE X (.Subscript e (.Slice lo hi none p2) pos) (tSl r te tl th):=by
 intro pins s σ H Q I h;refine Subscript_ (thn (he pins s σ H _ I h) fun v s1 ⟨x,H1,I1,r1,q1⟩=>?_);refine wpAny_Slice (thn (hl pins s1 σ H1 _ I1 q1) fun vl s2 ⟨l,H2,I2,pl,q2⟩=>thn (hu pins s2 σ H2 _ I2 q2) fun vu s3 ⟨u,H3,I3,pu,q3⟩=>?_);rw[evalPart_none];refine wpAny_pure ?_
 have I4:Inv X pins σ H3 { s3 with heap:=s3.heap.push { cls:=.type "slice",data:=.fields #[vl,vu,.none] } }:=I3.kept (t':=s3.toks) fun b ob q=>Heap.get?_push_of_some _ q
 obtain⟨T,id,hT,ht,hg⟩:=hr pins { s3 with heap:=s3.heap.push { cls:=.type "slice",data:=.fields #[vl,vu,.none] } } σ H3 x v vl vu l u s3.heap.objs.size Q I4 r1 (Heap.IsSliceOf.new ..) pl pu q3;show wpAny (model X.prog X.w) X.A (subscriptTail e (.Slice lo hi none p2) v (.ref s3.heap.objs.size)) (EP X pins σ Q) X.xe { s3 with heap:=s3.heap.push { cls:=.type "slice",data:=.fields #[vl,vu,.none] } };exact tail_any (ops:=[.ref s3.heap.objs.size,v]) ht hT hg (by with_unfolding_all rfl)
noncomputable def zL(xs:List V)(lo hi:Option Int):List V:=(xs.drop (HT.sIx xs.length 0 lo)).take (HT.sIx xs.length xs.length hi - HT.sIx xs.length 0 lo)
theorem wx(xs:List V)(lo hi:Option Int):(zL xs lo hi).length<=xs.length:=by
 unfold zL;rw[List.length_take,List.length_drop];omega
end
noncomputable def ixN(n:Nat)(i:Int):Option Nat:=if 0<=i then(if i<n then some i.toNat else none)else if -(n:Int)<=i then some (i+n).toNat else none
noncomputable def atI{α:Type}(xs:List α)(i:Int):Option α:=(ixN xs.length i).bind fun j=>xs[j]?
theorem Cy{n:Nat}{i:Int}{j:Nat}(h:ixN n i=some j):seqIndex? i n=some j /\ j<n /\ -(n:Int)<=i /\ i<n:=by
 unfold ixN at h
 by_cases h0:0<=i
 . rw[if_pos h0]at h
   by_cases h1:i<n
   . rw[if_pos h1]at h
     have e:i.toNat=j:=Option.some.inj h
     exact⟨by rw[seqIndex_of h0 h1,e],by omega,by omega,h1⟩
   . rw[if_neg h1]at h;cases h
 . rw[if_neg h0]at h
   by_cases h1:-(n:Int)<=i
   . rw[if_pos h1]at h
     have e:(i+n).toNat=j:=Option.some.inj h
     exact⟨by rw[seqIndex_neg (by omega) h1,e],by omega,h1,by omega⟩
   . rw[if_neg h1]at h;cases h
theorem yD{α:Type}{xs:List α}{i:Int}{v:α}(h:atI xs i=some v):∃ j,seqIndex? i xs.length=some j /\ xs[j]?=some v /\ j<xs.length /\ -(xs.length:Int)<=i /\ i<xs.length:=by
 unfold atI at h
 cases e:ixN xs.length i with
 |none=>rw[e]at h;cases h
 | some j=>
   rw[e]at h;obtain⟨h1,h2,h3,h4⟩:=Cy e
   exact⟨j,h1,h,h2,h3,h4⟩
noncomputable def uF(b:Expr):Prop:=∀ o i,subscripted b false o i=operate [o,i] (getItem o i)
noncomputable def IxR(X:Cx)(r:R2):Prop:=
 ∀(value slice:Expr) (pins:List (Addr×Obj)) (s:Shared) (σ:St) (H:Hp) (x y:V) (v u:Value) (Q:VK),Inv X pins σ H s->RelV x v->RelV y u->r x y H Q ->
   subscripted slice false v u=operate [v,u] (getItem v u)->wpAny (model X.prog X.w) X.A (subscriptTail value slice v u) (EP X pins σ Q) X.xe s
noncomputable def MtR(X:Cx)(id:String)(r:V->List V->Hp->VK->Prop):Prop:=
 ∀(pins:List (Addr×Obj)) (s:Shared) (σ:St) (H:Hp) (x:V) (xs:List V) (v:Value) (us:List Value) (Q:VK),Inv X pins σ H s->RelV x v->Vals xs us->r x xs H Q ->
   wpAny (model X.prog X.w) X.A (call (.builtin id) (v ::us)) (EP X pins σ Q) X.xe s
section
variable{X:Cx}{a b:Expr}{ta tb:TE}{pos:Pos}
theorem Hz{r:R2}(hr:IxR X r)(ha:PE X a ta)(hb:PE X b tb)(hs:uF b):PE X (.Subscript a b pos) (tOp r ta tb):=by
 intro pins s σ H Q I h;exact Subscript_ (Fx ha hb I h fun v u s2 x y H2 I2 rx ry q=>hr a b pins s2 σ H2 x y v u Q I2 rx ry q (hs _ _))
noncomputable def HW(K:PySem.W.Frag):R2:=fun x y H Q=>∃ p xs i v,x=.ref p /\ y=.int i /\ SqL K H p xs /\ atI xs i=some v /\ Q v H
noncomputable def H0(K:PySem.W.Frag):R2:=fun x y H Q=>∃ p xs i v,x=.ref p /\ y=.int i /\ SqT K H p xs /\ atI xs i=some v /\ Q v H
theorem fM:IxR X (HW X.K):=by
 intro value slice pins s σ H x y v u Q I rx ry h hs;obtain⟨p,xs,i,z,rfl,rfl,hq,he,q⟩:=h;cases rx;obtain⟨t,rfl⟩:=ry;obtain⟨its,r,pl,hz⟩:=I.list hq;obtain⟨j,h1,h2,h3,h4,h5⟩:=yD he;obtain⟨w,ew,rw'⟩:=r.get h2;have hl:=r.length;have hn:=uv
 have fin:EP X pins σ Q w s:=⟨z,H,I,rw',q⟩
 by_cases h0:0<=i
 . have hj:i.toNat = j:=by
    rw[seqIndex_of h0 h5]at h1;exact Option.some.inj h1
   exact item_listR pl.isList h0 (by omega) (by rw[hj];simpa using ew) fin hs
 . have hj:(i + (its.toArray.size:Int)).toNat = j:=by
    rw[seqIndex_neg (by omega) h4]at h1;rw[List.size_toArray,<- hl];exact Option.some.inj h1
   exact subscriptTail_builtinR (x:=w) pl.isList.typeIs slot_list_getitem.lookup
    (wpAny_getItem_list_neg (Q:=fun r s'=>r=w /\ EP X pins σ Q r s') pl.isList (by omega) (by rw[List.size_toArray]<;>omega) (by omega) (by rw[hj];simpa using ew) ⟨rfl,fin⟩) hs
theorem tY:IxR X (H0 X.K):=by
 intro value slice pins s σ H x y v u Q I rx ry h hs;obtain⟨p,xs,i,z,rfl,rfl,hq,he,q⟩:=h;cases rx;obtain⟨t,rfl⟩:=ry;obtain⟨its,r,pl,hz⟩:=I.tuple hq;obtain⟨j,h1,h2,h3,h4,h5⟩:=yD he;obtain⟨w,ew,rw'⟩:=r.get h2;have hl:=r.length;have hn:=uv
 have fin:EP X pins σ Q w s:=⟨z,H,I,rw',q⟩
 exact subscriptTail_builtinR (x:=w) pl.typeIs slot_tuple_getitem.lookup
  (getItem_tuple (j:=j) (Q:=fun r s'=>r=w /\ EP X pins σ Q r s') pl (by omega) (by omega) (by rw[List.size_toArray,<- hl];exact h1) (by simpa using ew) ⟨rfl,fin⟩) hs
theorem Inv.lst{pins:List (Addr×Obj)}{σ:St}{H:Hp}{s:Shared}{p:Addr}{xs:List V}(I:Inv X pins σ H s)(h:H p=some (.lst xs)):
  ∃(its:List Value) (n:Nat),Vals xs its /\ s.heap.get? p=some { cls:=.type "list",data:=.seq its.toArray n } /\ xs.length<=sizeLine:=by
 obtain⟨z,its,n,r,e⟩:=I.hok p _ h
 exact⟨its,n,r,e,z⟩
theorem ux(lo hi:Option Int)(n:Nat):(sliceBounds lo hi none n).1=((HT.sIx n 0 lo:Nat):Int) /\ (sliceBounds lo hi none n).2.1=((HT.sIx n n hi:Nat):Int) /\ (sliceBounds lo hi none n).2.2=1:=by
 refine⟨?_,?_,rfl⟩
 . cases lo with
   |none=>simp[sliceBounds,HT.sIx]
   | some i=>
     simp only[sliceBounds,HT.sIx,Option.getD_none,show(1:Int)>0 by decide,if_true]
     by_cases h:i<0
     . simp only[h,if_true]<;>omega
     . simp only[h,if_false]<;>omega
 . cases hi with
   |none=>simp[sliceBounds,HT.sIx]
   | some i=>
     simp only[sliceBounds,HT.sIx,Option.getD_none,show(1:Int)>0 by decide,if_true]
     by_cases h:i<0
     . simp only[h,if_true]<;>omega
     . simp only[h,if_false]<;>omega
theorem sQ(its:List Value)(lo hi:Option Int):slicePick its.toArray lo hi none=((its.drop (HT.sIx its.length 0 lo)).take (HT.sIx its.length its.length hi - HT.sIx its.length 0 lo)).toArray:=by
 obtain⟨h1,h2,h3⟩:=ux lo hi its.toArray.size;unfold slicePick;rw[h1,h2,h3]
 simp only[sliceRange_one,pick_run,List.size_toArray]<;>rfl
noncomputable def Hg(K:PySem.W.Frag):V->Option Int->Option Int->Hp->VK->Prop:=fun x lo hi H Q=>∃ a xs,x=.ref a /\ SqL K H a xs /\ ∀ p,H p=none->Q (.ref p) (upd H p (.lst (zL xs lo hi)))
theorem jK:SlR X (Hg X.K):=by
 intro pins s σ H x v vl vu lo hi sl Q I rx hs pl pu h;obtain⟨a,xs,rfl,hx,q⟩:=h;cases rx;obtain⟨its,r,ht,hz⟩:=I.list hx;have hlen:=r.length
 refine⟨"list",_,slot_list_getitem.lookup,ht.isList.typeIs,?_⟩
 refine wpAny_getItem_list_slice ht.isList hs pl pu .none (by simp) ?_ (by rw[List.size_toArray]<;>omega);rw[sQ,<- hlen]
 refine⟨.ref s.heap.objs.size,_,I.laid (t':=s.toks) (o:=.lst (zL xs lo hi)) (fun b ob q=>Heap.get?_push_of_some _ q) (Nat.le_refl _) ?_,rfl,q _ (I.hok.fresh (Nat.le_refl _))⟩
 exact⟨Nat.le_trans (wx xs lo hi) hz,_,0,(r.drop (HT.sIx xs.length 0 lo)).take (HT.sIx xs.length xs.length hi - HT.sIx xs.length 0 lo),Heap.get?_push_size _ rfl⟩
noncomputable def nV:V->Bool
 |.non=>true
 |.bl _=>true
 |.int _=>true
 |.str _=>true
 |_=>false
noncomputable def eqV:V->V->Bool
 |.non,.non=>true
 |.bl a,.bl b=>a==b
 |.bl a,.int b=>(if a then 1 else 0)==b
 |.int a,.bl b=>a==(if b then 1 else 0)
 |.int a,.int b=>a==b
 |.str a,.str b=>a==b
 |_,_=>false
theorem EH{A:Around}{s:Shared}{y x:V}{u v:Value}(ry:RelV y u)(rx:RelV x v)(fy:nV y=true)(fx:nV x=true):SeqAt.EqAt A s u v (eqV y x):=by
 cases y with
 | non=>
   cases ry
   cases x with
   |non=>cases rx;exact SeqAt.EqAt.same _
   |bl b=>cases rx;exact SeqAt.EqAt.none_bool b
   |int b=>obtain⟨t,rfl⟩:=rx;exact SeqAt.EqAt.none_int b t
   |str b=>obtain⟨t,rfl⟩:=rx;exact SeqAt.EqAt.none_str b t
   |_=>exact absurd (show false=true from fx) Bool.false_ne_true
 | bl a=>
   cases ry
   cases x with
   |non=>cases rx;exact SeqAt.EqAt.bool_none a
   |bl b=>cases rx;exact SeqAt.EqAt.bool_bool a b
   |int b=>obtain⟨t,rfl⟩:=rx;exact SeqAt.EqAt.bool_int a b t
   |str b=>obtain⟨t,rfl⟩:=rx;exact SeqAt.EqAt.bool_str a b t
   |_=>exact absurd (show false=true from fx) Bool.false_ne_true
 | int a=>
   obtain⟨t',rfl⟩:=ry
   cases x with
   |non=>cases rx;exact SeqAt.EqAt.int_none a t'
   |bl b=>cases rx;exact SeqAt.EqAt.int_bool a t' b
   |int b=>obtain⟨t,rfl⟩:=rx;exact SeqAt.EqAt.int_int a t' b t
   |str b=>obtain⟨t,rfl⟩:=rx;exact SeqAt.EqAt.int_str a t' b t
   |_=>exact absurd (show false=true from fx) Bool.false_ne_true
 | str a=>
   obtain⟨t',rfl⟩:=ry
   cases x with
   |non=>cases rx;exact SeqAt.EqAt.str_none a t'
   |bl b=>cases rx;exact SeqAt.EqAt.str_bool a t' b
   |int b=>obtain⟨t,rfl⟩:=rx;exact SeqAt.EqAt.str_int a t' b t
   |str b=>obtain⟨t,rfl⟩:=rx;exact SeqAt.EqAt.str_str a t' b t
   |_=>exact absurd (show false=true from fx) Bool.false_ne_true
 |_=>exact absurd (show false=true from fy) Bool.false_ne_true
noncomputable def eqU(x:V)(u:Value):Bool:=match u with
 |.none=>eqV .non x
 |.bool b=>eqV (.bl b) x
 |.int i _=>eqV (.int i) x
 |.str z _=>eqV (.str z) x
 |_=>false
theorem Ce{x y:V}{u:Value}(r:RelV y u)(f:nV y=true):eqU x u=eqV y x:=by
 cases y with
 |non=>cases r;rfl
 |bl b=>cases r;rfl
 |int i=>obtain⟨t,rfl⟩:=r;rfl
 |str z=>obtain⟨t,rfl⟩:=r;rfl
 |_=>exact absurd (show false=true from f) Bool.false_ne_true
theorem oM{x:V}:∀{xs:List V} {us:List Value},Vals xs us->xs.all nV=true->us.any (eqU x)=xs.any fun y=>eqV y x
 |_,_,.nil,_=>rfl
 | y ::xs,u ::us,.cons r t,f=>by
   rw[List.all_cons,Bool.and_eq_true]at f;rw[List.any_cons,List.any_cons,Ce r f.1,oM t f.2]
theorem mG{A:Around}{s:Shared}{x:V}{v:Value}(rx:RelV x v)(fx:nV x=true):∀{xs:List V} {us:List Value},Vals xs us->xs.all nV=true->∀ u∈us,SeqAt.EqAt A s u v (eqU x u)
 |_,_,.nil,_=>fun u hu=>by cases hu
 | y ::xs,u ::us,.cons r t,f=>fun u' hu=>by
   rw[List.all_cons,Bool.and_eq_true]at f
   rcases List.mem_cons.mp hu with rfl|hu
   . rw[Ce r f.1];exact EH r rx f.1 fx
   . exact mG rx fx t f.2 u' hu
noncomputable def inV(x:V)(xs:List V):Bool:=xs.any fun y=>eqV y x
noncomputable def rIn(K:PySem.W.Frag)(neg:Bool):R2:=fun x y H Q=>∃ p xs,y=.ref p /\ (SqL K H p xs \/ SqT K H p xs) /\ nV x=true /\ xs.all nV=true /\ Q (.bl (if neg then !inV x xs else inV x xs)) H
theorem Ah:OpR X (compareOp .In) (rIn X.K false):=by
 intro pins s σ H x y v u Q I rx ry h;obtain⟨p,xs,rfl,hq,fx,fs,q⟩:=h;cases ry
 rcases hq with hq|hq
 . obtain⟨its,r,pl,hz⟩:=I.list hq;refine SeqAt.in_listAt (eqU x) pl.isList (fun w hw=>mG rx fx r fs w (by simpa using hw)) ⟨.bl _,H,I,rfl,?_⟩;rw[show its.toArray.any (eqU x)=its.any (eqU x) by simp,oM r fs];exact q
 . obtain⟨its,r,pl,hz⟩:=I.tuple hq;refine SeqAt.in_tupleAt (eqU x) pl (fun w hw=>mG rx fx r fs w (by simpa using hw)) ⟨.bl _,H,I,rfl,?_⟩;rw[show its.toArray.any (eqU x)=its.any (eqU x) by simp,oM r fs];exact q
theorem ur:OpR X (compareOp .NotIn) (rIn X.K true):=by
 intro pins s σ H x y v u Q I rx ry h;obtain⟨p,xs,rfl,hq,fx,fs,q⟩:=h;cases ry
 rcases hq with hq|hq
 . obtain⟨its,r,pl,hz⟩:=I.list hq;refine SeqAt.notIn_listAt (eqU x) pl.isList (fun w hw=>mG rx fx r fs w (by simpa using hw)) ⟨.bl _,H,I,rfl,?_⟩;rw[show its.toArray.any (eqU x)=its.any (eqU x) by simp,oM r fs];exact q
 . obtain⟨its,r,pl,hz⟩:=I.tuple hq;refine SeqAt.notIn_tupleAt (eqU x) pl (fun w hw=>mG rx fx r fs w (by simpa using hw)) ⟨.bl _,H,I,rfl,?_⟩;rw[show its.toArray.any (eqU x)=its.any (eqU x) by simp,oM r fs];exact q
theorem uM:my X (.builtin "len") (fun xs H Q=>∃ p ys,xs=[.ref p] /\ (SqL X.K H p ys \/ SqT X.K H p ys) /\ Q (.int ys.length) H):=by
 intro pins s σ H xs us Q I r h;obtain⟨p,ys,rfl,hq,q⟩:=h;obtain⟨u,rfl,rx⟩:=vals1 r;cases rx;have hn:=uv
 rcases hq with hq|hq
 . obtain⟨its,r',pl,hz⟩:=I.list hq;have hlen:=r'.length;exact Calls.call_len_list pl.isList (by simp only[List.size_toArray]<;>omega) ⟨.int ys.length,H,I.tok _,⟨s.toks+1,by rw[List.size_toArray,hlen]⟩,q⟩
 . obtain⟨its,r',pl,hz⟩:=I.tuple hq;have hlen:=r'.length;exact len_tuple pl (by simp only[List.size_toArray]<;>omega) ⟨.int ys.length,H,I.tok _,⟨s.toks+1,by rw[List.size_toArray,hlen]⟩,q⟩
noncomputable def tyV(K:PySem.W.Frag)(T:String)(x:V)(H:Hp):Prop:=match x with
 |.str _=>T = "str"
 |.int _=>T = "int"
 | .ref p=>(T = "list" /\ ∃ xs,SqL K H p xs) \/ (T = "tuple" /\ ∃ o,K.lookup p = some o /\ o.cls = .type "tuple" /\ o.dict = none) \/
    (T = "dict" /\ ((∃ kvs,H p=some (.dK kvs)) \/ ∃ kvs,H p=some (.dT kvs))) \/ (T = "set" /\ ∃ S n,H p=some (.set S n))
 |_=>False
theorem Bw{pins:List (Addr×Obj)}{σ:St}{H:Hp}{s:Shared}{T:String}{x:V}{v:Value}(I:Inv X pins σ H s)(r:RelV x v)(ty:tyV X.K T x H):
  s.TypeIs v T /\ ∀ a,v=.ref a->∃ ob,s.heap.get? a=some ob /\ ob.dict=none:=by
 cases x with
 | str z=>
   obtain⟨t,rfl⟩:=r
   cases(show T = "str" from ty)
   exact⟨typeIs_str s z t,fun _ e=>nomatch e⟩
 | int i=>
   obtain⟨t,rfl⟩:=r
   cases(show T = "int" from ty)
   exact⟨typeIs_int s i t,fun _ e=>nomatch e⟩
 | ref p=>
   cases r
   rcases ty with⟨rfl,xs,hq⟩|⟨rfl,o,hk,hc,hd⟩|⟨rfl,hk⟩|⟨rfl,S,n,hk⟩
   . obtain⟨its,_,pl,_⟩:=I.list hq
     refine⟨pl.isList.typeIs,fun a e=>?_⟩
     cases e;obtain⟨o,n,e,c,hd,_⟩:=pl
     exact⟨o,e,hd⟩
   . refine⟨⟨o,I.kIn p o hk,hc⟩,fun a e=>?_⟩
     cases e
     exact⟨o,I.kIn _ o hk,hd⟩
   . have z:∃ o,s.heap.get? p = some o /\ o.ExactDict:=by
      rcases hk with⟨kvs,hk⟩|⟨kvs,hk⟩
      . obtain⟨_,_,_,_,o,_,_,e,ex,_⟩:=I.hok p _ hk
        exact⟨o,e,ex⟩
      . obtain⟨_,_,_,_,o,_,_,e,ex,_⟩:=I.hok p _ hk
        exact⟨o,e,ex⟩
     obtain⟨o,e,ex⟩:=z
     refine⟨⟨o,e,ex.1⟩,fun a e2=>?_⟩
     cases e2
     exact⟨o,e,ex.2.1⟩
   . obtain⟨o,_,_,_,e,ex,_⟩:=I.hok p _ hk
     refine⟨⟨o,e,ex.1⟩,fun a e2=>?_⟩
     cases e2
     exact⟨o,e,ex.2.1⟩
 |_=>exact False.elim ty
noncomputable def Ge(K:PySem.W.Frag)(T:String)(r:V->List V->Hp->VK->Prop)(to:TE):TE:=fun σ H Q=>to σ H fun x H1=>tyV K T x H1 /\ r x [] H1 Q
noncomputable def tBM(K:PySem.W.Frag)(T:String)(r:V->List V->Hp->VK->Prop)(to:TE)(t:TA):TE:=fun σ H Q=>to σ H fun x H1=>tyV K T x H1 /\ t σ H1 fun xs H2=>r x xs H2 Q
variable{o e:Expr}{es:List Expr}{to:TE}{t:TA}{name:Str}{apos cpos:Pos}{T id:String}{r:V->List V->Hp->VK->Prop}
theorem EL(pa:PlainAttrs T)(slot:Slot T name id)(hty:typeOf (.builtin id)=pure (.type "method_descriptor"))(hm:MtR X id r)(ho:PE X o to)
  (hbase:attributeBase o name X.env (eval o X.env)=eval o X.env:=by rfl) (hline:(apos.endLine==cpos.line)=true:=by rfl):PE X (.Call (.Attribute o name apos) [] [] cpos) (Ge X.K T r to):=by
 intro pins s σ H Q I h;refine wpAny_Call_method0_late hbase hline (thn (ho pins s σ H _ I h) fun v s1 ⟨x,H1,I1,r1,ty,q1⟩=>?_);obtain⟨h1,h2⟩:=Bw I1 r1 ty
 exact⟨T,id,pa,slot,hty,h1,h2,Calls.callWith_builtin rfl (PySem.evalArgs_none (hm pins s1 σ H1 x [] v [] Q I1 r1 .nil q1))⟩
theorem Hr(pa:PlainAttrs T)(slot:Slot T name id)(hty:typeOf (.builtin id)=pure (.type "method_descriptor"))(hm:MtR X id r)(ho:PE X o to)(ha:PA X (e ::es) t)
  (hbase:attributeBase o name X.env (eval o X.env)=eval o X.env:=by rfl)
  (hfew:((backTo cpos (starEach (e ::es) X.env)).all (fun x=>!x.1)&&(backToKw cpos (keywordEach [] X.env)).all (fun x=>x.1.isSome)
    && decide ((e ::es).length+([]:List Keyword).length+(if([]:List Keyword).isEmpty then 0 else 1)<30))=true:=by rfl)
  (hline:(apos.endLine==cpos.line)=true:=by rfl) (hs:starEach (e ::es) X.env=(false,eval e X.env) ::starEach es X.env:=by rfl) (hplain:(backTo cpos (starEach es X.env)).any (·.1)=false:=by rfl):
  PE X (.Call (.Attribute o name apos) (e ::es) [] cpos) (tBM X.K T r to t):=by
 intro pins s σ H Q I h;refine wpAny_Call_method_late hbase hfew hline rfl (thn (ho pins s σ H _ I h) fun v s1 ⟨x,H1,I1,r1,ty,q1⟩=>?_);obtain⟨h1,h2⟩:=Bw I1 r1 ty
 refine⟨T,id,pa,slot,hty,h1,h2,?_⟩
 have hA:=ha cpos pins s1 σ H1 _ I1 q1
 rw[hs]at hA ⊢
 refine Calls.callWith_builtin (by show(false||(backTo cpos (starEach es X.env)).any (·.1))=false;rw[hplain]<;>rfl) (Calls.evalArgs_plain ?_)
 exact thn hA fun us s2 ⟨vs,H2,I2,r2,q2⟩=>hm pins s2 σ H2 x vs v us Q I2 r1 r2 q2
end
noncomputable def MtM(X:Cx)(id:String)(r:V->List V->Hp->VK->Prop):Prop:=
 ∀(pins:List (Addr×Obj)) (s:Shared) (σ:St) (H:Hp) (x:V) (xs:List V) (v:Value) (us:List Value) (Q:VK),Inv X pins σ H s->RelV x v->Vals xs us->r x xs H Q ->
   wpAny (model X.prog X.w) X.A (call (.builtin id) (v ::us)) (EP X pins σ Q) X.xe s
theorem Vals.one:∀{x:V} {us:List Value},Vals [x] us->∃ u,us=[u] /\ RelV x u
 |_,_,.cons r .nil=>⟨_,rfl,r⟩
theorem Vals.two:∀{x y:V} {us:List Value},Vals [x,y] us->∃ u v,us=[u,v] /\ RelV x u /\ RelV y v
 |_,_,_,.cons r (.cons q .nil)=>⟨_,_,rfl,r,q⟩
theorem Vals.zero:∀{us:List Value},Vals [] us->us=[]
 |_,.nil=>rfl
theorem Vals.dropLast{xs:List V}{us:List Value}(h:Vals xs us):Vals xs.dropLast us.dropLast:=by
 induction h with
 |nil=>exact .nil
 | cons r t ih=>
   cases t with
   |nil=>exact .nil
   |cons q t'=>exact .cons r ih
theorem Vals.eraseIdx:∀{xs:List V} {us:List Value} (i:Nat),Vals xs us->Vals (xs.eraseIdx i) (us.eraseIdx i)
 |_,_,_,.nil=>.nil
 |_,_,0,.cons _ t=>t
 |_,_,i+1,.cons r t=>.cons r (Vals.eraseIdx i t)
theorem Vals.rep{xs:List V}{us:List Value}(h:Vals xs us):∀ k:Nat,Vals (List.replicate k xs).flatten (List.replicate k us).flatten
 |0=>.nil
 | k+1=>by
   rw[List.replicate_succ,List.replicate_succ,List.flatten_cons,List.flatten_cons];exact Vals.append h (Vals.rep h k)
theorem wM{α:Type}(l:List α):l.eraseIdx (l.length - 1)=l.dropLast:=by
 induction l with
 |nil=>rfl
 | cons a r ih=>
   cases r with
   |nil=>rfl
   | cons b r=>
     have e:(a ::b ::r).length - 1=((b ::r).length - 1)+1:=by
      have h1:(a ::b ::r).length=r.length+2:=rfl
      have h2:(b ::r).length=r.length+1:=rfl
      omega
     rw[e,List.eraseIdx_cons_succ,ih]
     all_goals rfl
theorem foldl_rep(its:List Value):∀(k:Nat) (acc:List Value),
  List.foldl (fun x1 x2=>x1++x2) acc.toArray (List.replicate k its.toArray)=(acc++(List.replicate k its).flatten).toArray
 |0,acc=>by simp
 | k+1,acc=>by
   have e:acc.toArray++its.toArray=(acc++its).toArray:=by simp
   have e2:(acc++its)++(List.replicate k its).flatten=acc++(List.replicate (k+1) its).flatten:=by
    rw[List.replicate_succ,List.flatten_cons,List.append_assoc]
   rw[<- e2,<- foldl_rep its k (acc++its),<- e,List.replicate_succ,List.foldl_cons]
section
variable{X:Cx}{pins:List (Addr×Obj)}{σ:St}{H:Hp}{s:Shared}{l b:Addr}{xs ys zs:List V}
theorem Inv.Cq{its its':List Value}{n:Nat}{f:Array Value->Array Value}{t':Nat}(I:Inv X pins σ H s)(hH:H l=some (.lst xs))
  (e:s.heap.get? l=some { cls:=.type "list",data:=.seq its.toArray n }) (hf:f its.toArray=its'.toArray) (hv:Vals ys its') (hz:ys.length<=sizeLine):
  Inv X pins σ (upd H l (.lst ys)) { s with heap:=s.heap.update l (Obj.mapSeq f),toks:=t' }:=by
 have q:=PySem.IsL.update e f;rw[hf]at q;refine I.write (x:=l) (e:=l) (by rw[hH];exact trivial) (.inl rfl) (fun b' u hb hu=>(Heap.get?_update_other s.heap (Obj.mapSeq f) (Ne.symm hb)).trans hu) ⟨_,q⟩ ?_
 exact⟨hz,its',_,hv,q⟩
theorem Inv.Ag{its:List Value}{t':Nat}(I:Inv X pins σ H s)(hv:Vals ys its)(hz:ys.length<=sizeLine):
  Inv X pins σ (upd H s.heap.objs.size (.lst ys)) { s with heap:=s.heap.push { cls:=.type "list",data:=.seq its.toArray },toks:=t' }:=
 I.laid (fun _ _ q=>Heap.get?_push_of_some _ q) (Nat.le_refl _) ⟨hz,its,0,hv,Heap.get?_push_size _ rfl⟩
theorem Inv.fresh(I:Inv X pins σ H s):H s.heap.objs.size=none:=I.hok.fresh (Nat.le_refl _)
theorem Inv.Bo(I:Inv X pins σ H s)(hH:H l=some (.lst xs)):xs.length<=sizeLine /\ ∃(its:List Value) (n:Nat),Vals xs its /\ xs.length=its.length /\ s.heap.get? l=some { cls:=.type "list",data:=.seq its.toArray n }:=by
 obtain⟨z,its,n,r,e⟩:=I.hok l _ hH
 exact⟨z,its,n,r,r.length,e⟩
theorem sy{n:Nat}(h:n<=sizeLine):Builtin.List.listTooLong n=false:=by
 unfold Builtin.List.listTooLong;exact decide_eq_false (by omega)
end
section
variable{X:Cx}
noncomputable def yV:V->List V->Hp->VK->Prop:=fun x vs H Q=>∃ l xs y,x=.ref l /\ vs=[y] /\ H l=some (.lst xs) /\ xs.length<sizeLine /\ Q .non (upd H l (.lst (xs++[y])))
theorem fE:MtM X "list.append" yV:=by
 intro pins s σ H x vs v us Q I rx rv h;obtain⟨l,xs,y,rfl,rfl,hH,hz,q⟩:=h;cases rx;obtain⟨u,rfl,ru⟩:=rv.one;obtain⟨z,its,n,r,hl,e⟩:=I.Bo hH;refine call_meets F.slot_list_append ⟨_,e,rfl⟩ F.entry_list_append (F.args_list_append_2 _ _) (PySem.list_append l its.toArray n u (by rw[List.size_toArray];omega)) ⟨e,?_⟩
 refine⟨.non,_,I.Cq (its':=its++[u]) hH e (by simp) (r.append (.cons ru .nil)) ?_,rfl,q⟩
 rw[List.length_append,List.length_singleton];omega
noncomputable def Hy:V->List V->Hp->VK->Prop:=fun x vs H Q=>∃ l xs y,x=.ref l /\ vs=[] /\ H l=some (.lst xs) /\ xs[xs.length - 1]?=some y /\ Q y (upd H l (.lst xs.dropLast))
theorem ET:MtM X "list.pop" Hy:=by
 intro pins s σ H x vs v us Q I rx rv h;obtain⟨l,xs,y,rfl,rfl,hH,hy,q⟩:=h;cases rx;have hus:=rv.zero;subst hus;obtain⟨z,its,n,r,hl,e⟩:=I.Bo hH;obtain⟨u,hu,ru⟩:=r.get hy
 have hy':its.toArray[its.toArray.size - 1]?=some u:=by
  show its.toArray[its.length - 1]?=some u;rw[<- Array.getElem?_toList,<- hl];exact hu
 refine call_meets F.slot_list_pop ⟨_,e,rfl⟩ F.entry_list_pop (F.args_list_pop_1 _) (MeetsSeq.list_pop_last l its.toArray n u hy' (by rw[List.size_toArray];omega)) ⟨e,?_⟩
 refine⟨y,_,I.Cq (its':=its.dropLast) hH e ?_ r.dropLast ?_,ru,q⟩
 . show its.toArray.eraseIdxIfInBounds (its.toArray.size - 1)=its.dropLast.toArray;rw[List.size_toArray,List.eraseIdxIfInBounds_toArray,wM]
 . rw[List.length_dropLast];omega
noncomputable def HD:R2:=fun x y H Q=>∃ l k xs,x=.ref l /\ y=.int k /\ H l=some (.lst xs) /\ -(2 ^ 63)<=k /\ k<2 ^ 63 /\ xs.length*k.toNat<=sizeLine /\
 ∀ p,H p=none->Q (.ref p) (upd H p (.lst (List.replicate k.toNat xs).flatten))
theorem len_rep{α:Type}(xs:List α)(k:Nat):(List.replicate k xs).flatten.length=k*xs.length:=by
 induction k with
 |zero=>simp
 |succ k ih=>rw[List.replicate_succ,List.flatten_cons,List.length_append,ih,Nat.succ_mul,Nat.add_comm]
theorem xb:OpR X (binaryOp .Mult) HD:=by
 intro pins s σ H x y v u Q I rx ry h;obtain⟨l,k,xs,rfl,rfl,hH,h1,h2,hz,q⟩:=h;cases rx;obtain⟨t,rfl⟩:=ry;obtain⟨z,its,n,r,hl,e⟩:=I.Bo hH
 have hlen:its.toArray.size*k.toNat<=sizeLine:=by rw[List.size_toArray,<- hl];exact hz
 have hcap:¬ its.toArray.size*k.toNat>(2 ^ 63 - 1)/8:=by
  have:(sizeLine:Nat)<=(2 ^ 63 - 1)/8:=by decide
  omega
 have hfit:¬ (!Builtin.List.listFitsIndex k)=true:=by
  rw[fitsIndex_both h1 h2];exact Bool.false_ne_true
 have hlong:¬ Builtin.List.listTooLong (its.toArray.size*k.toNat)=true:=by
  rw[sy hlen];exact Bool.false_ne_true
 have hnew:List.foldl (fun x1 x2=>x1++x2) #[] (List.replicate (if its.toArray.isEmpty=true then 0 else k.toNat) its.toArray)=(List.replicate k.toNat its).flatten.toArray:=by
  have f0:∀ m:Nat,List.foldl (fun x1 x2=>x1++x2) #[] (List.replicate m its.toArray)=(List.replicate m its).flatten.toArray:=fun m=>by
   have:=foldl_rep its m [];rw[List.nil_append]at this;exact this
  rw[f0]
  cases its with
  |nil=>simp
  |cons a r'=>rw[if_neg (by simp)]
 refine wpAny_binaryOp_repeat_ref (T:="list") (U:="int") (by decide) ⟨_,e,rfl⟩ (fun s'=>typeIs_int s' k t) noFill_list_mul F.fills_int_mul F.slot_int_rmul repeat_list F.slot_int_index.lookup
  (call_meets F.slot_int_rmul (typeIs_int s k t) F.entry_int_rmul (F.args_int_rmul_2 _ _) (int___rmul___int_list k t l its.toArray n)
    ⟨e,rfl,⟨_,e,rfl⟩,call_meets F.slot_list_mul ⟨_,e,rfl⟩ F.entry_list_mul (F.args_list_mul_2 _ _) (AutoListH.list___mul___list_int_3 l its.toArray n k t hfit hcap hlong) ⟨e,?_⟩⟩)
 rw[hnew]
 exact⟨.ref _,_,I.Ag (t':=s.toks) (r.rep k.toNat) (by rw[len_rep,Nat.mul_comm];exact hz),rfl,q _ I.fresh⟩
end
section
variable{prog:Program}{w:World}{A:Around}{E:Value->Shared->Prop}{s:Shared}
set_option maxRecDepth 100000 in
end
end L2
namespace Att
open PySem PySem.W PySem.Calls PyProof.Rows
theorem ql{P:Params}{h:Heap}:∀(ns:List Int) (vs:List Value),WellAll P h vs (ns.map WData.int)->IntsAre vs ns:=by
 intro ns
 induction ns with
 | nil=>
   intro vs w;rw[List.map_nil]at w;cases w;exact .nil
 | cons n ns ih=>
   intro vs w;rw[List.map_cons]at w
   cases w with
   | cons a b=>
     cases a;exact .cons _ _ (ih _ b)
theorem zk{l:OpenLaw}{n:Nat}(hn:l.most=some n){P:Params}{h:Heap}{args:List WData}{vals:List Value}
  (hpre:l.row.toRowW.claim.pre args=true) (hwl:WellAll P h vals args):
  ∃ a vs ns,vals=[Value.ref a] /\ args=[WData.list (ns.map WData.int)] /\ h.get? a=some { cls:=.type "list",data:=.seq vs.toArray } /\ IntsAre vs ns /\ ns.length<=n:=by
 have hsh:WShape.hasAll [] args [.list .int]=true:=(pre_splitW hpre).1
 have hc:l.pre.holds [] { args:=args }=true:=(pre_splitW hpre).2
 obtain⟨d,r,rfl,h1,h2⟩:=hasAllW_cons hsh
 obtain rfl:=hasAllW_nil h2
 obtain⟨xs,rfl,h3⟩:=hasW_list h1;obtain⟨ns,rfl⟩:=items_int h3
 have hlen:ns.length<=n:=by
  unfold OpenLaw.pre at hc
  have h4:(WTm.not (.lt (.lit (.int (n:Int))) (.len (.arg 0)))).holds [] { args:=[.list (ns.map .int)] }=true:=by
   have h4:=(holds_andW hc).1;rw[hn]at h4;exact h4
  have h5:=condW_of h4 (w_not (w_lt w_lit (w_len_list (w_arg rfl))));rw[List.length_map]at h5
  refine Nat.le_of_not_lt fun q=>?_
  have q':(n:Int)<((ns.length:Nat):Int):=by omega
  first
   |(rw[decide_eq_true q']at h5;exact absurd h5 (by decide))
   |(simp at h5;omega)
 cases hwl with
 | cons w1 w2=>
   cases w2
   cases w1 with
   |list ho hall=>exact⟨_,_,ns,rfl,rfl,ho,ql ns _ hall,hlen⟩
theorem zJ(l:OpenLaw)(args:List WData):l.row.toRowW.claim.post args (.bool true) args=true:=
 postW_of (r:=l.row.toRowW) (X:=(true==true))
  (show WShape.has [] (.bool true) .bool=true by first|rfl|decide|simp[WShape.has,WShape.arms,WShape.armsAll])
  (show(WTm.eq .res (.lit (.bool true))).value [] { args:=args,res:=some (.bool true),after:=args }=some (.bool (true==true)) from w_eq_bool (w_res rfl) w_lit) rfl
theorem wz{l:OpenLaw}{n:Nat}{q:Program}{loose:List Str}{XP:(Str->Option Value)->Heap->Prop}{YP:World->Heap->Prop}{d:DefRec}
  (hn:l.most=some n) (hdf:d.params.defaults=[])
  (call:∀(w:World) (s₀ s₁:Shared) (mg mb:Str->Option Value) (fa:Addr) (o:Obj) (pm cd doc:Value) (a:Addr) (vs:List Value) (ns:List Int),
    Ground q loose [] XP w s₀ mg mb s₁.heap->YP w s₁.heap ->
    s₁.heap.get? fa=some o->o.data=.func (docDef d.name d.params d.body d.scope pm cd doc)->s₁.heap.CodeRec cd d.name->mg d.name=some (.ref fa) ->
    s₁.heap.get? a=some { cls:=.type "list",data:=.seq vs.toArray }->IntsAre vs ns->ns.length<=n->s₁.gens=#[] ->
    codeAny (model l.prog w) callerA (.call (.ref fa) ⟨[.ref a],[]⟩) (fun r s'=>r=.ok (.ret (.bool true)) /\ OldK s₁.heap s'.heap /\ s'.os=s₁.os /\ AllBare s'.gens) s₁):
  WalkO q loose XP YP l.row.toRowW d [] (fun f vs=>PySem.call f vs):=by
 intro w s₀ s₁ mg mb G Y fa o pm cd doc dV kV ho hd hcd hD hmg hg args vals as hpre hlay hrd hwl hlo
 obtain rfl:dV=.none:=Dflts.none hD hdf
 obtain rfl:kV=.none:=Dflts.noKw hD
 obtain⟨a,vs,ns,rfl,rfl,hobj,hints,hlen⟩:=zk hn hpre hwl;refine enter_call (codeAny_mono (call w s₀ s₁ mg mb fa o pm cd doc a vs ns G Y ho (fd_plain hd) hcd hmg hobj hints hlen hg) fun r s' hq=>?_);obtain⟨rfl,h2,h3,h4⟩:=hq
 exact⟨.inl ⟨.bool true,.bool true,[],rfl,fun _=>rfl,.bool true,zJ l _,fun _=>⟨List.Pairwise.nil,fun _ hm=>(nomatch hm)⟩⟩,h2,h3,h4⟩
end Att
namespace L2
open PySem PySem.Spec PyProof.Rows
theorem tR:∀{vs:List Value} {ns:List Int},IntsAre vs ns->Vals (ns.map V.int) vs
 |_,_,.nil=>.nil
 |_,_,.cons n t h=>.cons ⟨t,rfl⟩ (tR h)
noncomputable def FE(H:Hp):Prop:=∀ b,H b=none \/ ∃ o xs,H b=some (.frz o (.lst xs))
theorem BB{P:Program}{w:World}{K:PySem.W.Frag}{mg mb:Str->Option Value}{CX:CXT}{k:Nat}{fa a:Addr}{fd:FuncData}{x:Str}{sp:Sp}{s₁:Shared}{vs:List Value}{ns:List Int}
  (KX:K.In s₁.heap) (hns:s₁.heap.Ns mainGlobals mg) (hb:s₁.heap.Ns builtinsNs mb) (hbb:∀ x:Str,x ≠ "__name__" -> mb x=bootBuiltins x) (hlim:s₁.heap.NoLimit) (hg:s₁.gens=#[])
  (ha:s₁.heap.get? a=some { cls:=.type "list",data:=.seq vs.toArray }) (hi:IntsAre vs ns) (hl:ns.length<=sizeLine) (hr:gw k callerA)
  (F:∀ base:Heap,K.In base->base.Ns mainGlobals mg->cw P w K mg base CX k fa fd [x] sp) (hbind:∀(s:Shared) (u:Value),BindsTo s fd ⟨[u],[]⟩ [(x,u)])
  (hsp:∀ H:Hp,FE H->SqL K H a (ns.map V.int)->sp [.ref a] H (fun v _=>v=.bl true) fun _ _ _=>False)
  (hCX:∀ H e s',CX [] H s₁ (fun _ _ _=>False) e s'->False):
  codeAny (model P w) callerA (.call (.ref fa) ⟨[.ref a],[]⟩) (fun r s'=>r=.ok (.ret (.bool true)) /\ OldK s₁.heap s'.heap /\ s'.os=s₁.os /\ AllBare s'.gens) s₁:=by
 have rv:=tR hi;have lenV:=hi.length
 have core:∀ H:Hp,FE H->SqL K H a (ns.map V.int)->HOk P w H s₁.heap->(∀ b,H b≠none->b=a)->(H a≠none->K.lookup a=none) ->
   codeAny (model P w) callerA (.call (.ref fa) ⟨[.ref a],[]⟩) (fun r s'=>r=.ok (.ret (.bool true)) /\ OldK s₁.heap s'.heap /\ s'.os=s₁.os /\ AllBare s'.gens) s₁:=by
  intro H hO hS hok hA hK
  have base_of:∀{b:Addr} {o:Obj},s₁.heap.get? b=some o->H b=none->(uu s₁.heap H).get? b=some o:=fun e n=>AY e n
  have noA:∀{b:Addr} {o:Obj} {es:Array DictEntry} {ep:Nat},s₁.heap.get? b=some o->o.data=.dict es ep->H b=none:=fun {b o es ep} e d=>by
   cases q:H b with
   |none=>rfl
   | some u=>
     have e':b=a:=hA b (by rw[q];simp)
     subst e';rw[ha]at e;cases e
     have d':Data.seq vs.toArray _=Data.dict es ep:=d
     cases d'
  have nsK:∀{b:Addr} {m:Str->Option Value},s₁.heap.Ns b m->(uu s₁.heap H).Ns b m:=fun {b m} ⟨o,es,ep,e,d,r⟩=>⟨o,es,ep,base_of e (noA e d),d,r⟩
  have hKb:K.In (uu s₁.heap H):=fun b o e=>base_of (KX b o e) (by
   cases q:H b with
   |none=>rfl
   | some u=>
     have e':b=a:=hA b (by rw[q];simp)
     subst e'
     rw[hK (by rw[q];simp)]at e;cases e)
  have hM:Mod K mg (uu s₁.heap H):=⟨hKb,nsK hns,⟨mb,nsK hb,hbb⟩,let ⟨mc,h1,h2⟩:=hlim;⟨mc,nsK h1,h2⟩⟩
  have e0:xF P w K mg (uu s₁.heap H) callerA [] s₁ H:=⟨rfl,hM,fun b o e=>CU e,Nat.le_of_eq (zp _ _),trivial,fun b hb=>absurd (show b∈([]:List Addr) from hb) (by simp),hok,.of_eq hg⟩
  refine codeAny_mono ((F _ hKb (nsK hns)).run callerA [] s₁ H ⟨[.ref a],[]⟩ [.ref a] [.ref a] _ _ hr e0 (hbind s₁ (.ref a)) (.cons rfl .nil) (hsp H hO hS)) fun r s' h=>?_
  cases r with
  |error e=>exact(hCX H e s' h).elim
  | ok fl=>
    cases fl with
    |next=>exact False.elim h
    |brk=>exact False.elim h
    |cont=>exact False.elim h
    | ret u=>
      obtain⟨v,H',os,bare,un,hok',r',q⟩:=h
      have q':v=.bl true:=q
      subst q'
      obtain rfl:u=Value.bool true:=r'
      refine⟨rfl,OldK.of_keep fun b o e=>?_,os,bare⟩
      cases q:H b with
      |none=>exact un.keep b o e q (by intro z;exact absurd (show b∈([]:List Addr) from z) (by simp)) (by simp)
      | some u=>
        rcases hO b with z|⟨ob,xs,z⟩
        . rw[q]at z;cases z
        . have z2:=un.frzs b ob _ z;obtain⟨e1,_⟩:=hok b _ z;obtain⟨e2,_⟩:=hok' b _ z2;rw[e]at e1;cases e1;exact e2
 cases hk:K.lookup a with
 | some o=>
   have e:=KX a o hk;rw[ha]at e;cases e
   refine core (fun _=>none) (fun _=>.inl rfl) (.inr ⟨_,vs.toArray,_,hk,rfl,rfl,rfl,by rw[List.size_toArray,lenV];exact hl,by simpa using rv⟩) (fun b u z=>by have z':(none:Option HO)=some u:=z;cases z') (fun b z=>absurd rfl z) fun z=>absurd rfl z
 | none=>
   refine core (fun b=>if b=a then some (.frz { cls:=.type "list",data:=.seq vs.toArray } (.lst (ns.map V.int)))else none) (fun b=>?_) (.inl (.inr ⟨{ cls:=.type "list",data:=.seq vs.toArray },if_pos rfl⟩)) (fun b u z=>?_) (fun b z=>?_) fun _=>hk
   . by_cases hb:b=a
     . exact .inr ⟨_,_,if_pos hb⟩
     . exact .inl (if_neg hb)
   . by_cases hb:b=a
     . have z':=(if_pos hb).symm.trans z
       cases z'
       subst hb
       exact⟨ha,by rw[List.length_map];exact hl,vs,_,rv,ha⟩
     . have z':=(if_neg hb).symm.trans z
       cases z'
   . by_cases hb:b=a
     . exact hb
     . exact absurd (if_neg hb) z
abbrev KOf{K:PySem.W.Frag}{h:Heap}(_:K.In h):PySem.W.Frag:=K
theorem Dr{l:PySem.W.OpenLaw}{n k:Nat}{q:Program}{loose:List Str}{XP:(Str->Option Value)->Heap->Prop}{YP:World->Heap->Prop}{d:DefRec}{K:Params->PySem.W.Frag}{CX:World->CXT}{sp:World->Sp}{x:Str}
  (hn:l.most=some n) (hn2:n<=sizeLine) (hdf:d.params.defaults=[]) (hr:gw k callerA)
  (hY:∀(w:World) (h:Heap),YP w h->(K w.params).In h)
  (F:∀(w:World) (mg:Str->Option Value) (fa:Addr) (h:Heap),(K w.params).In h->h.Ns mainGlobals mg->mg d.name=some (.ref fa) ->
    ∃ fd:FuncData,(∀(s:Shared) (u:Value),BindsTo s fd ⟨[u],[]⟩ [(x,u)]) /\
      ∀ base:Heap,(K w.params).In base->base.Ns mainGlobals mg->cw l.prog w (K w.params) mg base (CX w) k fa fd [x] (sp w))
  (hsp:∀(w:World) (H:Hp) (a:Addr) (ns:List Int),ns.length<=n->FE H->SqL (K w.params) H a (ns.map V.int)->sp w [.ref a] H (fun v _=>v=.bl true) fun _ _ _=>False)
  (hCX:∀(w:World) (H:Hp) (s:Shared) (e:Value) (s':Shared),CX w [] H s (fun _ _ _=>False) e s'->False):
  PySem.W.WalkO q loose XP YP l.row.toRowW d [] (fun f vs=>PySem.call f vs):=by
 refine Att.wz hn hdf fun w s₀ s₁ mg mb fa o pm cd doc a vs ns G Y ho hd hcd hmg hobj hints hlen hg=>?_
 have KX:=hY w _ Y;obtain⟨fd,hb,hF⟩:=F w mg fa _ KX G.T.g hmg
 exact BB KX G.T.g G.T.b G.T.builtins G.T.nolimit hg hobj hints (Nat.le_trans hlen hn2) hr hF hb (fun H hO hS=>hsp w H a ns hlen hO hS) fun H e s'=>hCX w H s₁ e s'
def inClass(s:Stmt)(j:Nat):Stmt:=match s with
 |.ClassDef _ _ _ body _ _ _ _ _ _ _=>body.getD j (.Pass ⟨0,0,0,0⟩)
 |_=>.Pass ⟨0,0,0,0⟩
noncomputable def fh(s:Stmt):Arguments:=match s with
 |.FunctionDef _ a _ _ _ _ _ _ _ _=>a
 |_=>{ posonlyargs:=[],args:=[],vararg:=none,kwonlyargs:=[],kw_defaults:=[],kwarg:=none,defaults:=[] }
noncomputable def dE(s:Stmt):List Stmt:=match s with
 |.FunctionDef _ _ b _ _ _ _ _ _ _=>b
 |_=>[]
noncomputable def aD(s:Stmt):Scope:=match s with
 |.FunctionDef _ _ _ _ _ _ sc _ _ _=>sc
 |_=>{ kind:=.function,names:=[],isGenerator:=false,isCoroutine:=false }
structure Fun(K:PySem.W.Frag)(x qual:Str)(st:Stmt)(f:Addr)(fd:FuncData):Prop where
 ex:∃(oc:Value) (od:Option Addr) (kV doc pm:Value) (an:Option Addr) (cdv ct:Value) (osl:Array (Option Value)),
  fd=PySem.W.fnOf x qual (fh st) (dE st) (aD st) .none kV doc pm an cdv ct /\ K.lookup f=some ⟨oc,od,.func fd,osl⟩ /\ PySem.W.codeIn K cdv qual=true
 kp:PySem.W.keepIn K (.ref f)=true
section
variable{P:Program}{w:World}{K:PySem.W.Frag}{mg:Str->Option Value}{base:Heap}
theorem Fun.binds{x qual:Str}{st:Stmt}{f:Addr}{fd:FuncData}{ps:List Str}(F:Fun K x qual st f fd)
  (h:∀(kV doc pm:Value) (an:Option Addr) (cdv ct:Value) (us:List Value),us.length=ps.length->bindArgs (PySem.W.fnOf x qual (fh st) (dE st) (aD st) .none kV doc pm an cdv ct) ⟨us,[]⟩=pure (ps.zip us)):Binds K fd ps []:=by
 obtain⟨oc,od,kV,doc,pm,an,cdv,ct,osl,rfl,lk,hcd⟩:=F.ex;exact .all (h kV doc pm an cdv ct)
theorem lz{x qual:Str}{st:Stmt}{f:Addr}{oc:Value}{od an:Option Addr}{osl:Array (Option Value)}{kV doc pm cdv ct:Value}(l:K.lookup f=some ⟨oc,od,.func (PySem.W.fnOf x qual (fh st) (dE st) (aD st) .none kV doc pm an cdv ct),osl⟩)
  (c:PySem.W.codeIn K cdv qual=true) (k:PySem.W.keepIn K (.ref f)=true):Fun K x qual st f (PySem.W.fnOf x qual (fh st) (dE st) (aD st) .none kV doc pm an cdv ct):=⟨⟨oc,od,kV,doc,pm,an,cdv,ct,osl,rfl,l,c⟩,k⟩
end
theorem Ar{A:Around}{k:Nat}(hr:gw k A):A.units+1<cLine:=Nat.lt_of_le_of_lt (Nat.add_le_add_left (by decide:1<=64) _) hr.units
section
variable{X:Cx}
theorem pv(i:Nat){x:Str}{pos:Pos}(hN:X.N[i]?=some x:=by rfl)(hv:Vis X.env.scope x:=by first|exact Or.inl rfl|exact Or.inr (Or.inl rfl)|exact Or.inr (Or.inr rfl))(hd:(x==("__debug__":Str))=false:=by decide)
  (hcd:(x==("__classdict__":Str))=false:=by decide):PE X (.Name x pos) (wU i):=FO hN hv hd hcd
end
theorem vh{A B:Prop}(h:B):if false=true then A else B:=by
 rw[if_neg Bool.false_ne_true];exact h
theorem vn{A B:Prop}(h:A):if true=true then A else B:=by
 rw[if_pos rfl];exact h
noncomputable def aH(H H':Hp):Prop:=∀ b o,H b=some o->H' b=some o
theorem aH.refl(H:Hp):aH H H:=fun _ _ h=>h
theorem aH.trans{H H1 H2:Hp}(a:aH H H1)(b:aH H1 H2):aH H H2:=fun c o h=>b c o (a c o h)
theorem aH.free{H H':Hp}(e:aH H H'){l:Addr}(h:H' l=Option.none):H l=Option.none:=by
 cases q:H l with
 |none=>rfl
 | some o=>
   rw[e l o q]at h;cases h
theorem aH.seq{K:PySem.W.Frag}{H H':Hp}{a:Addr}{xs:List V}(e:aH H H')(h:SqL K H a xs):SqL K H' a xs:=by
 rcases h with(h|⟨o,h⟩)|h
 . exact .inl (.inl (e _ _ h))
 . exact .inl (.inr ⟨o,e _ _ h⟩)
 . exact .inr h
section
variable{κ:Type}[DecidableEq κ]
noncomputable def ku(kvs:List (κ×V))(k:κ):Option V:=(kvs.find? fun kv=>decide (kv.1=k)).map (·.2)
noncomputable def putK(kvs:List (κ×V))(k:κ)(v:V):List (κ×V):=
 if(kvs.any fun kv=>decide (kv.1=k))=true then kvs.map (fun kv=>if kv.1=k then(kv.1,v)else kv)else kvs++[(k,v)]
theorem qQ{p:κ×V}{r:List (κ×V)}{k:κ}(e:p.1=k):ku (p ::r) k=some p.2:=by simp[ku,List.find?_cons,e]
theorem su{p:κ×V}{r:List (κ×V)}{k:κ}(e:¬ p.1=k):ku (p ::r) k=ku r k:=by simp[ku,List.find?_cons,e]
theorem vW(k:κ):∀ kvs:List (κ×V),(kvs.any fun kv=>decide (kv.1=k))=(ku kvs k).isSome
 |[]=>rfl
 | p ::r=>by
   rw[List.any_cons]
   by_cases e:p.1=k
   . simp only[qQ e,decide_eq_true e,Bool.true_or,Option.isSome_some]
   . rw[su e,decide_eq_false e,Bool.false_or];exact vW k r
theorem vq(kvs:List (κ×V))(k:κ)(v:V):(putK kvs k v).length<=kvs.length+1:=by
 unfold putK;split
 . rw[List.length_map];omega
 . rw[List.length_append,List.length_cons,List.length_nil];omega
theorem Bp{kvs:List (κ×V)}{k:κ}(v:V)(h:ku kvs k=none):putK kvs k v=kvs++[(k,v)]:=by
 unfold putK;rw[vW,h];exact if_neg (by decide)
theorem bu.tS{o:Option V}{u:Option Value}(r:bu o u):o.isSome=u.isSome:=by
 cases o with
 | none=>cases u with
   |none=>rfl
   |some _=>exact(show False from r).elim
 | some _=>cases u with
   |none=>exact(show False from r).elim
   |some _=>rfl
theorem bu.getD{o:Option V}{u:Option Value}{d:V}{d':Value}(r:bu o u)(rd:RelV d d'):RelV (o.getD d) (u.getD d'):=by
 cases o with
 | none=>cases u with
   |none=>exact rd
   |some _=>exact(show False from r).elim
 | some _=>cases u with
   |none=>exact(show False from r).elim
   |some _=>exact r
theorem KV.val{kvs:List (κ×V)}{vs:List (κ×Value)}(r:KV kvs vs)(k:κ):bu (ku kvs k) (valueAt vs k):=by
 unfold KV at r
 induction r with
 |nil=>exact True.intro
 | @cons p q ps qs h t ih=>
   obtain⟨h1,h2⟩:=h
   by_cases e:p.1=k
   . have e':q.1=k:=h1.symm.trans e
     have b:valueAt (q ::qs) k=some q.2:=by simp[valueAt,List.find?_cons,e']
     rw[qQ e,b];exact h2
   . have e':¬ q.1=k:=fun z=>e (h1.trans z)
     have b:valueAt (q ::qs) k=valueAt qs k:=by simp[valueAt,List.find?_cons,e']
     rw[su e,b];exact ih
theorem KV.any{kvs:List (κ×V)}{vs:List (κ×Value)}(r:KV kvs vs)(k:κ):(kvs.any fun kv=>decide (kv.1=k))=vs.any fun kv=>decide (kv.1=k):=by
 unfold KV at r
 induction r with
 |nil=>rfl
 |cons h t ih=>rw[List.any_cons,List.any_cons,ih,h.1]
theorem KV.Kd{kvs:List (κ×V)}{vs:List (κ×Value)}(r:KV kvs vs)(k:κ){y:V}{u:Value}(ry:RelV y u):
  KV (kvs.map fun kv=>if kv.1=k then(kv.1,y)else kv) (vs.map fun kv=>if kv.1=k then(kv.1,u)else kv):=by
 unfold KV at r ⊢
 induction r with
 |nil=>exact .nil
 | @cons p q ps qs h t ih=>
   rw[List.map_cons,List.map_cons];refine .cons ?_ ih;obtain⟨h1,h2⟩:=h
   by_cases e:p.1=k
   . rw[if_pos e,if_pos (h1.symm.trans e)];exact⟨h1,ry⟩
   . rw[if_neg e,if_neg (fun z=>e (h1.trans z))];exact⟨h1,h2⟩
theorem KV.put{kvs:List (κ×V)}{vs:List (κ×Value)}(r:KV kvs vs)(k:κ){y:V}{u:Value}(ry:RelV y u):KV (putK kvs k y) (stored vs k u):=by
 unfold putK stored;rw[r.any k]
 by_cases e:(vs.any fun kv=>decide (kv.1=k))=true
 . rw[if_pos e,if_pos e];exact r.Kd k ry
 . rw[if_neg e,if_neg e];exact Paired.snoc r ⟨rfl,ry⟩
end
theorem vB{P:Program}{w:World}{k:Key}{u:Value}(r:RelV (kV k) u):(ez P w).is k u=true:=by
 cases k with
 |inl i=>obtain⟨t,e⟩:=(show ∃ t,u=Value.int i t from r);subst e;exact u7 P w i t
 |inr x=>obtain⟨t,e⟩:=(show ∃ t,u=Value.str x t from r);subst e;exact vx P w x t
theorem tw{P:Program}{w:World}:∀{ks:List Key} {us:List Value},Vals (ks.map kV) us->ItemsAre (ez P w) ks us
 |[],_,r=>by rw[List.map_nil]at r;cases r;exact .nil
 | k ::ks,_,r=>by
   rw[List.map_cons]at r
   cases r with
   |cons h t=>exact .cons (vB h) (tw t)
abbrev KT(H:Hp):List (List Key×V)->List (List Key×Addr×Value)->Prop:=Paired fun p q=>p.1=q.1 /\ H q.2.1=some (.tup (p.1.map kV)) /\ RelV p.2 q.2.2
theorem KT.val{H:Hp}{kvs:List (List Key×V)}{xs:List (List Key×Addr×Value)}(r:KT H kvs xs)(k:List Key):bu (ku kvs k) ((atKey xs k).map (·.2)):=by
 induction r with
 |nil=>exact True.intro
 | @cons p q ps qs h t ih=>
   obtain⟨h1,_,h2⟩:=h
   by_cases e:p.1=k
   . have e':q.1=k:=h1.symm.trans e
     have b:atKey (q ::qs) k=some q.2:=by simp[atKey,List.find?_cons,e']
     rw[qQ e,b];exact h2
   . have e':¬ q.1=k:=fun z=>e (h1.trans z)
     have b:atKey (q ::qs) k=atKey qs k:=by simp[atKey,List.find?_cons,e']
     rw[su e,b];exact ih
theorem KT.keeps{H H':Hp}{kvs:List (List Key×V)}{xs:List (List Key×Addr×Value)}(r:KT H kvs xs)(ht:∀ b ys,H b=some (.tup ys)->H' b=some (.tup ys)):KT H' kvs xs:=
 Paired.Ft r fun _ _ z=>⟨z.1,ht _ _ z.2.1,z.2.2⟩
section
variable{P:Program}{w:World}{H:Hp}{h:Heap}{a:Addr}
theorem EA{u:HO}(ok:HOk P w H h)(e:Rd H a u):gc P w H h a u:=e.ok ok
theorem tG{kvs:List (Key×V)}(ok:HOk P w H h)(e:Rd H a (.dK kvs)):kvs.length<=sizeLine /\ (a==sysModules)=false /\ ∃ vs,KV kvs vs /\ h.DictOf (ez P w) a vs:=
 show gc P w H h a (.dK kvs) from EA ok e
theorem HU{kvs:List (Key×V)}(ok:HOk P w H h)(e:H a=some (.dK kvs)):kvs.length<=sizeLine /\ (a==sysModules)=false /\ ∃ vs,KV kvs vs /\ h.DictOf (ez P w) a vs:=tG ok (.inl e)
theorem uZ{ks:List Key}(ok:HOk P w H h)(e:H a=some (.tup (ks.map kV))):(tupleKind (ez P w)).is h ks a:=by
 obtain⟨_,its,r,o,h1,h2,n,h3⟩:=(show gc P w H h a (.tup (ks.map kV)) from ok a _ e)
 exact⟨o,its.toArray,n,h1,h2,h3,by simpa using tw r⟩
theorem wm{kvs:List (List Key×V)}(ok:HOk P w H h)(e:Rd H a (.dT kvs)):kvs.length<=sizeLine /\ (a==sysModules)=false /\
  ∃ xs,KT H kvs xs /\ h.DictOfH (tupleKind (ez P w)) a xs:=by
 obtain⟨z,y,xs,r,o,es,ep,h1,h2,h3,h4,h5⟩:=(show gc P w H h a (.dT kvs) from EA ok e)
 refine⟨z,y,xs,r,o,es,ep,h1,h2,h3,h4,fun x hx=>?_,h5⟩
 have all:∀{l:List (List Key×V)} {m:List (List Key×Addr×Value)},KT H l m->∀ x∈m,(tupleKind (ez P w)).is h x.1 x.2.1:=by
  intro l m q
  induction q with
  |nil=>intro x hx;exact nomatch hx
  | @cons p q ps qs hq t ih=>
    intro x hx
    rcases List.mem_cons.mp hx with e|hx
    . subst e;exact uZ ok (by rw[<- hq.1];exact hq.2.1)
    . exact ih x hx
 exact all r x hx
end
noncomputable def qo(H:Hp)(a:Addr)(y:V)(r:Option V):Prop:=
 (∃ kvs k,Rd H a (.dK kvs) /\ y=kV k /\ r=ku kvs k) \/ ∃ kvs k b,Rd H a (.dT kvs) /\ y=.ref b /\ H b=some (.tup (k.map kV)) /\ r=ku kvs k
theorem qo.k{H:Hp}{a:Addr}{kvs:List (Key×V)}{k:Key}(e:H a=some (.dK kvs)):qo H a (kV k) (ku kvs k):=.inl ⟨kvs,k,.inl e,rfl,rfl⟩
section
variable{X:Cx}{pins:List (Addr×Obj)}{σ:St}{H:Hp}{s:Shared}{a:Addr}{y v:V}{u r:Value}{o:Option V}{A:Around}{E:Value->Shared->Prop}
theorem Inv.big(I:Inv X pins σ H s):sysModules<s.heap.objs.size:=by
 have h:mainGlobals<s.heap.objs.size:=(I.mod.glob.keeps I.bk).lt
 exact Nat.lt_trans (by decide) h
theorem zh{Q:Value->Shared->Prop}(hu:A.units+1<cLine)(I:Inv X pins σ H s)(g:qo H a y (some v))(ry:RelV y u)(h:∀ w' s',Inv X pins σ H s'->RelV v w'->Q w' s'):
  wpAny (model X.prog X.w) A (getItem (.ref a) u) Q E s:=by
 rcases g with⟨kvs,k,e,ey,l⟩|⟨kvs,k,b,e,ey,eb,l⟩
 . subst ey;obtain⟨z,hd,vs,rel,dd⟩:=tG I.hok e;obtain⟨w',hw,rw'⟩:=bu.some_of (v:=v) (o:=valueAt vs k) (by rw[l];exact rel.val k);exact wpAny_getItem_of (vB ry) dd.mapOf hw (h w' _ (I.tok _) rw')
 . subst ey
   cases(show u=Value.ref b from ry)
   obtain⟨z,hd,xs,rel,dd⟩:=wm I.hok e;obtain⟨w',hw,rw'⟩:=bu.some_of (v:=v) (o:=(atKey xs k).map (·.2)) (by rw[l];exact rel.val k);obtain⟨p,hp,hp2⟩:=Option.map_eq_some_iff.mp hw;refine wpAny_getItem_heap (tupleKind_room_in1 hu) (uZ I.hok eb) dd hp ?_;rw[hp2];exact h w' _ (I.tok _) rw'
theorem JZ{Q:Value->Shared->Prop}(hu:A.units+1<cLine)(I:Inv X pins σ H s)(g:qo H a y o)(ry:RelV y u)(h:∀ s',Inv X pins σ H s'->Q (.bool o.isSome) s'):
  wpAny (model X.prog X.w) A (compareOp .In u (.ref a)) Q E s:=by
 rcases g with⟨kvs,k,e,ey,l⟩|⟨kvs,k,b,e,ey,eb,l⟩
 . subst ey;obtain⟨z,hd,vs,rel,dd⟩:=tG I.hok e;refine wpAny_in_of (vB ry) hd dd.mapOf ?_;rw[<- (rel.val k).tS,<- l];exact h _ (I.tok _)
 . subst ey
   cases(show u=Value.ref b from ry)
   obtain⟨z,hd,xs,rel,dd⟩:=wm I.hok e;refine wpAny_in_heap (tupleKind_room_in1 hu) (uZ I.hok eb) hd dd ?_;have q:=(rel.val k).tS;rw[Option.isSome_map]at q;rw[<- q,<- l];exact h _ (I.tok _)
theorem Di{h':Heap}{t':Nat}{ob:HO}(I:Inv X pins σ H s)(mu:Mut (H a))(hs:Heap.SameBut a s.heap h')(he:∃ q,h'.get? a=some q)(new:gc X.prog X.w (upd H a ob) h' a ob):
  Inv X pins σ (upd H a ob) { s with heap:=h',toks:=t' }:=
 I.write (x:=a) (e:=a) mu (.inl rfl) (fun b q hb z=>(hs.2 b hb).trans z) he new
theorem GI{P:Program}{w:World}{H':Hp}{h':Heap}{kvs:List (Key×V)}{vs:List (Key×Value)}(z:kvs.length<=sizeLine)(hd:(a==sysModules)=false)(rel:KV kvs vs)(dd:h'.DictOf (ez P w) a vs):
  gc P w H' h' a (.dK kvs):=⟨z,hd,vs,rel,dd⟩
end
noncomputable def E7(i:Expr):Prop:=∀ ov iv,subscripted i false ov iv=operate [ov,iv] (getItem ov iv)
theorem Cw{prog:Program}{w:World}{A:Around}{E:Value->Shared->Prop}{s:Shared}{env:Env}{value slice:Expr}{pos:Pos}{T id:String}{Q:Value->Shared->Prop}
  (hl:typeLookup (.type T) "__getitem__" = pure (some (.builtin id))) (hs:E7 slice)
  (h:wpAny (model prog w) A (eval value env) (fun o s₁=>wpAny (model prog w) A (eval slice env) (fun i s₂=>s₂.TypeIs o T /\ wpAny (model prog w) A (getItem o i) Q E s₂) E s₁) E s):
  wpAny (model prog w) A (eval (.Subscript value slice pos) env) Q E s:=by
 refine Subscript_ (wpAny_mono h (fun o s₁ h₁=>wpAny_mono h₁ (fun i s₂ h₂=>?_) fun _ _ x=>x) fun _ _ x=>x);obtain⟨hT,h₂⟩:=h₂;unfold subscriptTail;refine wpAny_bind ?_;rw[getitemInPython_of_ne hT.not_modules];refine wpAny_bind (wpAny_specialOf hT hl ?_)
 have fin:wpAny (model prog w) A (subscripted slice false o i) (fun r s₃=>wpAny (model prog w) A (letTemporaryGo value o r >>= fun _=>pure r) Q E s₃) E s₂:=by
  rw[hs o i];exact wpAny_operating (wpAny_mono h₂ (fun r s₃ h₃=>wpAny_bind (wpAny_letTemporaryGo (wpAny_pure h₃))) fun _ _ x=>x)
 first
  |exact wpAny_pure (wpAny_bind fin)
  |exact wpAny_bind (wpAny_pure (wpAny_bind fin))
  |exact wpAny_bind fin
theorem vy{X:Cx}{pins:List (Addr×Obj)}{σ:St}{H:Hp}{s:Shared}{a:Addr}{y:V}{o:Option V}(I:Inv X pins σ H s)(g:qo H a y o):s.TypeIs (.ref a) "dict":=by
 rcases g with⟨kvs,k,e,_,_⟩|⟨kvs,k,b,e,_,_,_⟩
 . obtain⟨_,_,vs,_,dd⟩:=tG I.hok e;exact dd.typeIs
 . obtain⟨_,_,xs,_,dd⟩:=wm I.hok e;exact dd.typeIs
noncomputable def BW(td ty:TE):TE:=fun σ H Q=>td σ H fun x H1=>ty σ H1 fun y H2=>∃ a v,x=.ref a /\ qo H2 a y (some v) /\ Q v H2
noncomputable def Ga(ty td:TE):TE:=fun σ H Q=>ty σ H fun y H1=>td σ H1 fun x H2=>∃ a o,x=.ref a /\ qo H2 a y o /\ Q (.bl o.isSome) H2
section
variable{X:Cx}{o i e value:Expr}{pos pos' tpos:Pos}{td ty tv:TE}
theorem DP(hu:X.A.units+1<cLine)(ho:PE X o td)(hi:PE X i ty)(hs:E7 i):PE X (.Subscript o i pos) (BW td ty):=by
 intro pins s σ H Q I h;refine Cw PySem.F.slot_dict_getitem.lookup hs (thn (ho pins s σ H _ I h) fun u s1 ⟨x,H1,I1,rx,q1⟩=>thn (hi pins s1 σ H1 _ I1 q1) fun iv s2 ⟨y,H2,I2,ry,a,v,ex,g,q2⟩=>?_);subst ex
 obtain rfl:u=Value.ref a:=rx
 exact⟨vy I2 g,zh hu I2 g ry fun w' s3 I3 rw'=>⟨v,H2,I3,rw',q2⟩⟩
theorem E1(hu:X.A.units+1<cLine)(hi:PE X i ty)(ho:PE X o td):PC X .In i o (Ga ty td):=by
 intro pins s σ H Q I h
 refine thn (hi pins s σ H _ I h) fun iv s1 ⟨y,H1,I1,ry,q1⟩=>thn (ho pins s1 σ H1 _ I1 q1) fun u s2 ⟨x,H2,I2,rx,a,ov,ex,g,q2⟩=>?_
 subst ex
 obtain rfl:u=Value.ref a:=rx
 exact JZ hu I2 g ry fun s3 I3=>⟨.bl ov.isSome,H2,I3,rfl,q2⟩
end
theorem BD{P:Program}{w:World}{H:Hp}(h:Heap)(hb:sysModules<h.objs.size):gc P w H (h.push { cls:=.type "dict",data:=.dict #[] }) h.objs.size (.dK []):=
 ⟨Nat.zero_le _,beq_eq_false_iff_ne.mpr (Ne.symm (Nat.ne_of_lt hb)),[],.nil,Heap.DictOf.new h⟩
noncomputable def uA:List (TE×TE)->St->Hp->(List (V×V)->Hp->Prop)->Prop
 |[],_,H,Q=>Q [] H
 |(tk,tv) ::r,σ,H,Q=>tk σ H fun x H1=>tv σ H1 fun y H2=>uA r σ H2 fun ps H3=>Q ((x,y) ::ps) H3
abbrev VV:List (V×V)->List (Value×Value)->Prop:=Paired fun p q=>RelV p.1 q.1 /\ RelV p.2 q.2
noncomputable def PPs(X:Cx)(pos:Pos)(keys:List (Option Expr))(values:List Expr)(trs:List (TE×TE)):Prop:=
 ∀(pins:List (Addr×Obj)) (s:Shared) (σ:St) (H:Hp) (Q:List (V×V)->Hp->Prop),Inv X pins σ H s->uA trs σ H Q ->
   wpAny (model X.prog X.w) X.A (evalPairs (pairTrees keys values X.env pos)) (fun vs s'=>∃ ps H',Inv X pins σ H' s' /\ VV ps vs /\ Q ps H') X.xe s
theorem Cz{X:Cx}{pos:Pos}:PPs X pos [] [] []:=fun pins s σ H Q I h=>pairTrees_nil_walk ⟨[],H,I,.nil,h⟩
theorem AL{X:Cx}{pos:Pos}{k v:Expr}{ks:List (Option Expr)}{vs:List Expr}{tk tv:TE}{trs:List (TE×TE)}(hk:PE X k tk)(hv:PE X v tv)(hr:PPs X pos ks vs trs):
  PPs X pos (some k ::ks) (v ::vs) ((tk,tv) ::trs):=fun pins s σ H Q I h=>
 pairTrees_cons_walk (thn (hk pins s σ H _ I h) fun u s1 ⟨x,H1,I1,rx,q1⟩=>thn (hv pins s1 σ H1 _ I1 q1) fun w2 s2 ⟨y,H2,I2,ry,q2⟩=>
  thn (hr pins s2 σ H2 _ I2 q2) fun ws s3 ⟨ps,H3,I3,rel,q3⟩=>⟨(x,y) ::ps,H3,I3,.cons ⟨rx,ry⟩ rel,q3⟩)
noncomputable def mQ(kvs more:List (Key×V)):List (Key×V):=more.foldl (fun acc kv=>putK acc kv.1 kv.2) kvs
theorem KV.merge:∀{more:List (Key×V)} {rs:List (Key×Value)} {kvs:List (Key×V)} {vs:List (Key×Value)},KV more rs->KV kvs vs->KV (mQ kvs more) (merged vs rs):=by
 intro more rs kvs vs r;unfold KV at r
 induction r generalizing kvs vs with
 |nil=>intro q;exact q
 | @cons p q ps qs h t ih=>
   intro r0
   have e:KV (putK kvs p.1 p.2) (stored vs q.1 q.2):=by
    have:=r0.put p.1 h.2;rw[<- h.1];exact this
   exact ih e
theorem n4:∀(more kvs:List (Key×V)),(mQ kvs more).length<=kvs.length+more.length
 |[],kvs=>by show kvs.length<=kvs.length+0;omega
 | p ::r,kvs=>by
   have h1:=n4 r (putK kvs p.1 p.2);have h2:=vq kvs p.1 p.2
   show(mQ (putK kvs p.1 p.2) r).length<=_
   rw[List.length_cons];omega
theorem rl{P:Program}{w:World}:∀{kvs:List (Key×V)} {ws:List (Value×Value)},VV (kvs.map fun kv=>(kV kv.1,kv.2)) ws->∃ rs,Carries (ez P w) ws rs /\ KV kvs rs
 |[],_,r=>by rw[List.map_nil]at r;cases r;exact⟨[],True.intro,.nil⟩
 | p ::kvs,_,r=>by
   rw[List.map_cons]at r
   cases r with
   | @cons a b as bs h t=>
     obtain⟨rs,c,q⟩:=rl (P:=P) (w:=w) t;obtain⟨b1,b2⟩:=b
     exact⟨(p.1,b2) ::rs,⟨vB h.1,rfl,c⟩,.cons ⟨rfl,h.2⟩ q⟩
noncomputable def yE(trs:List (TE×TE)):TE:=fun σ H Q=>∀ p,H p=none->uA trs σ (upd H p (.dK [])) fun ps H2=>H2 p=some (.dK []) /\ ∃ kvs:List (Key×V),ps=kvs.map (fun kv=>(kV kv.1,kv.2)) /\ kvs.length<=15 /\ Q (.ref p) (upd H2 p (.dK (mQ [] kvs)))
theorem Dt{X:Cx}{pos:Pos}{keys:List (Option Expr)}{values:List Expr}{trs:List (TE×TE)}(h:PPs X pos keys values trs)(hall:keys.all (·.isSome)=true)(hl:keys.length=values.length)(h0:keys≠[])
  (h15:keys.length<=15):PE X (.Dict keys values pos) (yE trs):=by
 intro pins s σ H Q I q;have hn:=I.hok.fresh (Nat.le_refl s.heap.objs.size);have I1:=I.laid (a:=s.heap.objs.size) (o:=.dK []) (h':=s.heap.push { cls:=.type "dict",data:=.dict #[] }) (t':=s.toks) (fun _ _ q=>Heap.get?_push_of_some _ q) (Nat.le_refl _) (BD s.heap I.big);refine wpAny_Dict_walk (knd:=ez X.prog X.w) hall hl h0 h15 (thn (h pins _ σ _ _ I1 (q _ hn)) fun ws s2 ⟨ps,H2,I2,rel,e,kvs,ep,lk,q2⟩=>?_);subst ep;obtain⟨rs,c,rk⟩:=rl (P:=X.prog) (w:=X.w) rel;obtain⟨z,hd,vs0,r0,dd⟩:=HU I2.hok e;cases r0
 refine⟨rs,c,dd,fun h' dd' hs=>⟨.ref s.heap.objs.size,_,?_,rfl,q2⟩⟩
 have hz:(mQ [] kvs).length<=sizeLine:=by
  have h1:=n4 kvs [];rw[List.length_nil]at h1;rw[sizeLine_eq];omega
 have he:∃ q,h'.get? s.heap.objs.size=some q:=let ⟨q,_,_,hq,_⟩:=dd';⟨q,hq⟩
 exact Di I2 (by rw[e];exact True.intro) hs he (GI hz hd (rk.merge .nil) dd')
structure M2(X:Cx)(o:Expr)(m:Str)(apos:Pos)(e f:Expr)(cpos:Pos):Prop where
 base:attributeBase o m X.env (eval o X.env)=eval o X.env
 few:((backTo cpos (starEach [e,f] X.env)).all (fun x=>!x.1)&&(backToKw cpos (keywordEach [] X.env)).all (fun x=>x.1.isSome)
  && decide (([e,f]:List Expr).length+([]:List Keyword).length+(if([]:List Keyword).isEmpty then 0 else 1)<30))=true
 line:(apos.endLine==cpos.line)=true
 trees:backTo cpos (starEach [e,f] X.env)=[(false,eval e X.env),(false,eval f X.env)]
noncomputable def IsD(H:Hp)(a:Addr):Prop:=(∃ kvs,Rd H a (.dK kvs)) \/ ∃ kvs,Rd H a (.dT kvs)
theorem Fs{X:Cx}{pins:List (Addr×Obj)}{σ:St}{H:Hp}{s:Shared}{a:Addr}(I:Inv X pins σ H s)(d:IsD H a):
  s.TypeIs (.ref a) "dict" /\ (∀ b,Value.ref a=.ref b->∃ ob,s.heap.get? b=some ob /\ ob.dict=none) /\ (a==sysModules)=false:=by
 rcases d with⟨kvs,e⟩|⟨kvs,e⟩
 . obtain⟨_,hd,vs,_,dd⟩:=tG I.hok e
   refine⟨dd.typeIs,fun b q=>?_,hd⟩
   cases q;obtain⟨ob,_,_,h1,h2,_⟩:=dd
   exact⟨ob,h1,h2.2.1⟩
 . obtain⟨_,hd,xs,_,dd⟩:=wm I.hok e
   refine⟨dd.typeIs,fun b q=>?_,hd⟩
   cases q;obtain⟨ob,_,_,h1,h2,_⟩:=dd
   exact⟨ob,h1,h2.2.1⟩
section
variable{X:Cx}{pins:List (Addr×Obj)}{σ:St}{H:Hp}{s:Shared}{a:Addr}{y d:V}{u r:Value}{o:Option V}{A:Around}{E:Value->Shared->Prop}
theorem FA{Q:Value->Shared->Prop}(hu:A.units+1<cLine)(I:Inv X pins σ H s)(g:qo H a y o)(ry:RelV y u)(rd:RelV d r)(h:∀ w' s',Inv X pins σ H s'->RelV (o.getD d) w'->Q w' s'):
  wpAny (model X.prog X.w) A (call (.builtin "dict.get") [.ref a,u,r]) Q E s:=by
 rcases g with⟨kvs,k,e,ey,l⟩|⟨kvs,k,b,e,ey,eb,l⟩
 . subst ey;obtain⟨z,hd,vs,rel,dd⟩:=tG I.hok e;refine call_meetsIn PySem.F.slot_dict_get dd.typeIs PySem.F.entry_dict_get (PySem.F.args_dict_get_3 _ _ _) (meets_dict_get_default (ez X.prog X.w) a (vB ry) hd r) ⟨_,dd.mapOf,h _ _ (I.tok _) ?_⟩;rw[l]
   exact(rel.val k).getD rd
 . subst ey
   cases(show u=Value.ref b from ry)
   obtain⟨z,hd,xs,rel,dd⟩:=wm I.hok e;refine call_meetsIn PySem.F.slot_dict_get dd.typeIs PySem.F.entry_dict_get (PySem.F.args_dict_get_3 _ _ _) (meetsH_dict_get_default (tupleKind (ez X.prog X.w)) a b hd r) ⟨tupleKind_room_in1 hu,k,xs,uZ I.hok eb,dd,h _ _ (I.tok _) ?_⟩;rw[l]
   exact(rel.val k).getD rd
end
noncomputable def xJ(td ty tx:TE):TE:=fun σ H Q=>td σ H fun x H1=>∃ a,x=.ref a /\ IsD H1 a /\ ty σ H1 fun y H2=>tx σ H2 fun z H3=>∃ o,qo H3 a y o /\ Q (o.getD z) H3
section
variable{X:Cx}{o e f:Expr}{apos cpos:Pos}{td ty tx:TE}
theorem B2(hu:X.A.units+1<cLine)(ho:PE X o td)(he:PE X e ty)(hf:PE X f tx)(m:M2 X o "get" apos e f cpos):PE X (.Call (.Attribute o "get" apos) [e,f] [] cpos) (xJ td ty tx):=by
 intro pins s σ H Q I h;refine wpAny_Call_method m.base m.few m.line PySem.F.plainAttrs_dict PySem.F.slot_dict_get PySem.F.type_dict_get (thn (ho pins s σ H _ I h) fun u s1 ⟨x,H1,I1,rx,a,ex,d,q1⟩=>?_);subst ex
 obtain rfl:u=Value.ref a:=rx
 obtain⟨t1,t2,_⟩:=Fs I1 d
 refine⟨t1,t2,?_⟩
 rw[m.trees]
 refine Calls.callWith_builtin rfl (Calls.evalArgs_plain (Calls.spliced_cons (thn (he pins s1 σ H1 _ I1 q1) fun iv s2 ⟨y,H2,I2,ry,q2⟩=>
  Calls.spliced_cons (thn (hf pins s2 σ H2 _ I2 q2) fun fv s3 ⟨z,H3,I3,rz,ov,g,q3⟩=>Calls.spliced_nil ?_))))
 exact FA hu I3 g ry rz fun w' s4 I4 rw'=>⟨_,H3,I4,rw',q3⟩
end
end L2
set_option maxHeartbeats 4000000
namespace L2.E
open PySem PySem.Spec PyProof.Rows
noncomputable def Fb(a C:Addr)(dx:Option Addr)(h:Heap):Prop:=∃ o vs,h.get? a=some o /\ o.cls=.ref C /\ o.dict=dx /\ o.data=.fields vs /\ vs.size=6
noncomputable def TbO(T:Addr)(h:Heap):Prop:=∃ o ts,h.get? T=some o /\ o.data=.fields ts /\ 3<ts.size
noncomputable abbrev wI(a C:Addr)(dx:Option Addr):HO:=.ext (Fb a C dx)
noncomputable abbrev oTb(T:Addr):HO:=.ext (TbO T)
theorem Ff(x:Fb a C dx h):gc P w H h a (wI a C dx):=by
 refine⟨x,let ⟨o,_,e,_⟩:=x;⟨o,e⟩,fun h1 h2 p k=>?_⟩
 obtain⟨o,vs,e,r⟩:=p
 exact⟨o,vs,k o e,r⟩
theorem D7(x:TbO T h):gc P w H h T (oTb T):=by
 refine⟨x,let ⟨o,_,e,_⟩:=x;⟨o,e⟩,fun h1 h2 p k=>?_⟩
 obtain⟨o,vs,e,r⟩:=p
 exact⟨o,vs,k o e,r⟩
theorem AN(h:H a=some o):upd H a o=H:=by
 funext b
 unfold upd;split
 . rename_i e;rw[e,h]
 . rfl
structure Fly(H:Hp)(h:Heap)(a C:Addr)(dx:Option Addr):Prop where
 exc:H a=some (wI a C dx)
 tb:∃ o vs,h.get? a=some o /\ o.data=.fields vs /\ (vs[1]?=some Value.none \/ ∃ T,vs[1]?=some (.ref T) /\ H T=some (oTb T) /\ T≠a)
structure zH(H:Hp)(h:Heap)(a C:Addr)(dx:Option Addr):Prop where
 exc:H a=some (wI a C dx)
 tb:∃ o vs T,h.get? a=some o /\ o.data=.fields vs /\ vs[1]?=some (.ref T) /\ H T=some (oTb T) /\ T≠a
theorem zH.fly(F:zH H h a C dx):Fly H h a C dx:=
 let ⟨o,vs,T,e1,e2,e3,e4,e5⟩:=F.tb
 ⟨F.exc,o,vs,e1,e2,.inr ⟨T,e3,e4,e5⟩⟩
section
variable{X:Cx}{pins:List (Addr×Obj)}{σ:St}{H:Hp}{s:Shared}{a C:Addr}{dx:Option Addr}
theorem AK(I:Inv X pins σ H s)(k:Heap.SlotsOnly (frs X.stack) s.heap h₁):Un (frs X.stack) [] H H s.heap h₁ where
 keep:=fun b o e _ hb _=>(k.2.1 b hb).trans e
 slot:=fun b o e _ _ _=>k.2.2 b o e
 free:=fun _ _ _ n _=>n
 there:=fun b o e _=>let ⟨_,q⟩:=k.2.2 b o e;⟨_,q⟩
 tups:=fun _ _ q=>q
 frzs:=fun _ _ _ q=>q
 tbls:=fun _ ps q=>⟨#[],by rw[q];simp⟩
theorem zm(I:Inv X pins σ H s)(k:Heap.SlotsOnly (frs X.stack) s.heap h₁):HOk X.prog X.w H h₁:=fun b o e=>by
 have nf:∀ c u,H c=some u->c∉frs X.stack:=fun c u q z=>by rw[I.uT c z]at q;cases q
 refine(I.hok b o e).qk (fun c v hc q=>(k.2.1 c ?_).trans q) (fun _ q=>q) fun _ _ q=>q
 rcases hc with z|z
 . rw[z];exact nf b o e
 . exact nf c _ z
theorem CD(I:Inv X pins σ H s)(e:H a=some (wI a C dx)):
  Inv X pins σ H { s with heap:=s.heap.update a (Obj.mapFields (·.setIfInBounds i v)) }:=by
 obtain⟨⟨o,vs,ho,hc,hd,hf,hz⟩,_,_⟩:=I.hok a _ e;have hs:=Heap.get?_update_self (Obj.mapFields (·.setIfInBounds i v)) ho (Obj.isFreed_of_fields (Obj.data_mapFields hf _))
 have q:=I.write (x:=a) (e:=a) (o:=wI a C dx) (t':=s.toks) (h':=s.heap.update a (Obj.mapFields (·.setIfInBounds i v))) (by rw[e];trivial) (.inl rfl)
  (fun b u hb q=>(Heap.get?_update_other _ _ (Ne.symm hb)).trans q) ⟨_,hs⟩ (Ff ⟨_,_,hs,by rw[Obj.cls_mapFields];exact hc,by obtain⟨c,d,dt,sl⟩:=o;cases dt<;>exact hd,Obj.data_mapFields hf _,by simpa using hz⟩)
 rw[AN e]at q;exact q
theorem Bn(I:Inv X pins σ H s)(e:H T=some (oTb T)):
  Inv X pins σ H { s with heap:=s.heap.update T (Obj.mapFields (·.setIfInBounds i v)) }:=by
 obtain⟨⟨o,vs,ho,hf,hz⟩,_,_⟩:=I.hok T _ e;have hs:=Heap.get?_update_self (Obj.mapFields (·.setIfInBounds i v)) ho (Obj.isFreed_of_fields (Obj.data_mapFields hf _))
 have q:=I.write (x:=T) (e:=T) (o:=oTb T) (t':=s.toks) (h':=s.heap.update T (Obj.mapFields (·.setIfInBounds i v))) (by rw[e];trivial) (.inl rfl)
  (fun b u hb q=>(Heap.get?_update_other _ _ (Ne.symm hb)).trans q) ⟨_,hs⟩ (D7 ⟨_,_,hs,Obj.data_mapFields hf _,by simpa using hz⟩)
 rw[AN e]at q;exact q
theorem vX{Q:Unit->Shared->Prop}{E:Value->Shared->Prop}(I:Inv X pins σ H s)(hst:X.stack=X.env ::X.outer)(hf:X.env.frame=some L)(e:H a=some (wI a C dx))
  (h:∀ s' H',Inv X pins σ H' s'->aH H H'->zH H' s'.heap a C dx->Q () s'):
  wpAny (model X.prog X.w) X.A (do let fr <- frameOf X.env;let pl <- entryPlaceOf L had;let b <- EntryCells.newEntry head fr .none (rawInt L) .none pl;setField (.ref a) 1 b) Q E s:=by
 have hfr:X.A.frames=some (X.env ::X.outer):=by rw[<- hst];exact I.ok.frames
 have hl:s.heap.FunFrames X.base (X.env ::X.outer):=by rw[<- hst];exact I.stack
 refine wpAny_bind (wpAny_frameOf_fun hfr hl hf fun h₁ k₁=>?_)
 have k₁':Heap.SlotsOnly (frs X.stack) s.heap h₁:=by rw[hst];exact k₁
 have I₁:=I.call (g':=s.gens) (t':=s.toks) (d':=s.drawn) (ch:=[]) (AK I k₁') (zm I k₁') I.bare (fun b z=>absurd z (by simp));refine wpAny_bind (wpAny_entryPlaceOf fun pl hpl=>?_);unfold EntryCells.newEntry newFields;refine wpAny_bind (wpAny_newObj_type ?_ (hpl.sizeOk5 _ _ _ _ _))
 have big:3<([head,.ref L,.none,rawInt L,.none]++(if pl.isEmpty then List.replicate 6 Value.none else pl)).toArray.size:=by
  rw[List.size_toArray,List.length_append];show 3<5+_;omega
 have new:=Heap.get?_push_size h₁ (o:={ cls:=.type "traceback",dict:=none,data:=.fields ([head,.ref L,.none,rawInt L,.none]++(if pl.isEmpty then List.replicate 6 Value.none else pl)).toArray }) rfl
 have fr:H h₁.objs.size=none:=I₁.hok.fresh (Nat.le_refl _)
 have ne:h₁.objs.size≠a:=fun z=>by rw[z,e]at fr;cases fr
 have I₂:=I₁.laid (a:=h₁.objs.size) (o:=oTb h₁.objs.size) (t':=s.toks) (fun b u q=>Heap.get?_push_of_some _ q) (Nat.le_refl _) (D7 ⟨_,_,new,rfl,big⟩)
 have g:aH H (upd H h₁.objs.size (oTb h₁.objs.size)):=fun b u q=>by rw[bB (dS q fr)];exact q
 obtain⟨⟨o,vs,ho,hc,hd,hv,hz⟩,_,_⟩:=I₂.hok a _ (g _ _ e);refine wpAny_setField ho hv (by omega) ?_;refine h _ _ (CD I₂ (g _ _ e)) g ⟨g _ _ e,_,_,h₁.objs.size,Heap.get?_update_self _ ho (Obj.isFreed_of_fields (Obj.data_mapFields hv _)),Obj.data_mapFields hv _,by simp[hz],bw,ne⟩
theorem Dd{Q:Unit->Shared->Prop}{E:Value->Shared->Prop}(I:Inv X pins σ H s)(hst:X.stack=X.env ::X.outer /\ X.env.frame=some X.env.locals)(F:Fly H s.heap a C dx)
  (h:∀ s' H',Inv X pins σ H' s'->aH H H'->zH H' s'.heap a C dx->Q () s'):wpAny (model X.prog X.w) X.A (noteFrame (.ref a) X.env) Q E s:=by
 obtain⟨o,vs,ho,hv,hw⟩:=F.tb;unfold noteFrame;simp only[hst.2]
 rcases hw with h1|⟨T,h1,hT,ne⟩
 . refine wpAny_bind (wpAny_field ho hv h1 ?_);rw[if_neg (by decide)];exact vX I hst.1 hst.2 F.exc h
 . obtain⟨⟨oT,ts,hoT,hdT,hz⟩,_,_⟩:=I.hok T _ hT;refine wpAny_bind (wpAny_field ho hv h1 ?_);rw[if_pos (show(Value.ref T != Value.none)=true from by simp)]
   have h3:ts[3]?=some ts[3]:=by simp[hz]
   refine wpAny_bind (wpAny_field hoT hdT h3 ?_)
   by_cases c:(ts[3]==rawInt X.env.locals)=true
   . rw[if_pos c];exact wpAny_pure (h s H I (aH.refl H) ⟨F.exc,o,vs,T,ho,hv,h1,hT,ne⟩)
   . rw[if_neg c];refine wpAny_bind (wpAny_setField hoT hdT hz ?_);exact vX (Bn I hT) hst.1 hst.2 F.exc h
theorem Ab{Q:Unit->Shared->Prop}{E:Value->Shared->Prop}(I:Inv X pins σ H s)(F:zH H s.heap a C dx)
  (h:∀ s',Inv X pins σ H s'->zH H s'.heap a C dx->Q () s'):wpAny (model X.prog X.w) X.A (setFlight (.ref a) x) Q E s:=by
 obtain⟨o,vs,T,ho,hv,h1,hT,ne⟩:=F.tb;unfold setFlight;obtain⟨⟨oT,ts,hoT,hdT,hz⟩,_,_⟩:=I.hok T _ hT;refine wpAny_bind (wpAny_field ho hv h1 ?_);rw[if_pos (show(Value.ref T != Value.none)=true from by simp)];refine wpAny_setField hoT hdT hz ?_;exact h _ (Bn I hT) ⟨F.exc,o,vs,T,(Heap.get?_update_other _ _ ne).trans ho,hv,h1,hT,ne⟩
end
noncomputable def CXE(P:Program)(w:World):CXT:=fun outer H s E e s'=>∃ a C dx H',e=.ref a /\ s'.os=s.os /\ AllBare s'.gens /\ Un (frs outer) [] H H' s.heap s'.heap /\ HOk P w H' s'.heap /\ Fly H' s'.heap a C dx /\ E (.ref C) (some a) H'
abbrev XW:=Value->Option Addr->St->Hp->Prop
noncomputable def Thr(X:Cx)(W:XW):Prop:=∀(pins:List (Addr×Obj)) (σ:St) (H:Hp) (s:Shared) (a C:Addr) (dx:Option Addr),Inv X pins σ H s->Fly H s.heap a C dx->W (.ref C) (some a) σ H->X.xe (.ref a) s
section
variable{CX:CXT}{P:Program}{w:World}{K:PySem.W.Frag}{mg:Str->Option Value}{base:Heap}{N:List Str}{qual:Str}{scope:Scope}{f:Addr}{cd:Value}{A:Around}{outer:List Env}{s₀:Shared}{H₀:Hp}{E:XK}
theorem aQ:Thr (pC (CXE P w) P w K mg base N qual scope f cd A outer s₀ H₀ E) (fun C a _ H=>∀ H',aH H H'->E C a H'):=by
 intro pins σ H s a C dx I F hw;show wpAny _ _ (leaving _ _) _ _ s;unfold leaving;refine wpAny_bind (Dd I ⟨rfl,rfl⟩ F fun s1 H1 I1 g1 F1=>?_)
 refine Ab I1 F1 fun s2 I2 F2=>?_
 exact⟨a,C,dx,H1,rfl,I2.os,I2.bare,I2.base,I2.hok,F2.fly,hw H1 g1⟩
theorem i8:PassesOwn (model P w) (pC (CXE P w) P w K mg base N qual scope f cd A outer s₀ H₀ E).A (pC (CXE P w) P w K mg base N qual scope f cd A outer s₀ H₀ E).env (pC (CXE P w) P w K mg base N qual scope f cd A outer s₀ H₀ E).xe:=by
 show PassesOwn (model P w) (A.deeper (envOfC qual scope s₀.heap.objs.size f cd)) (envOfC qual scope s₀.heap.objs.size f cd) (fun e s'=>wpAny (model P w) (A.deeper (envOfC qual scope s₀.heap.objs.size f cd)) (leaving (envOfC qual scope s₀.heap.objs.size f cd) e) (fun _ s''=>CXE P w outer H₀ s₀ E e s'') (fun e' s''=>CXE P w outer H₀ s₀ E e' s'') s')
 passes_own
end
section
variable{X:Cx}{k:Nat}{f:Addr}{fd:FuncData}{ps:List Str}{sp:Sp}{dvs:List V}{ds:List Value}{W:XW}{x m:Str}{p pos apos:Pos}{e o:Expr}{es:List Expr}{ta:TE}{t:TA}
noncomputable def pD(sp:Sp)(dvs:List V)(W:XW)(t:TA):TE:=fun σ H Q=>t σ H fun vs H1=>sp (vs++dvs) H1 Q fun C a H'=>W C a σ H'
theorem qA{pins:List (Addr×Obj)}(F:cw X.prog X.w X.K X.mg X.base (CXE X.prog X.w) k f fd ps sp)(hr:gw k X.A)(hb:Binds X.K fd ps ds)(hd:Vals dvs ds)(hx:Thr X W)
  (I:Inv X pins σ H s) (r:Vals vs us) (h:sp (vs++dvs) H Q fun C a H'=>W C a σ H'):wpAny (model X.prog X.w) X.A (call (.ref f) us) (EP X pins σ Q) X.xe s:=by
 have r2:Vals (vs++dvs) (us++ds):=r.append hd
 have hl:(us++ds).length=ps.length:=by rw[<- r2.length];exact F.len _ _ _ _ h
 refine wpAny_call (codeAny_mono (F.run X.A X.stack s H ⟨us,[]⟩ (us++ds) (vs++dvs) Q _ hr I.HI (hb s us I.kIn hl) r2 h) fun r s' hq=>?_)
 cases r with
 | error e=>
   obtain⟨a,C,dx,H',rfl,ho,bare,un,hok,fl,hw⟩:=hq;exact hx pins σ H' s' a C dx (I.Eo ho un hok bare fun b z=>absurd z (by simp)) fl hw
 | ok fl=>
   cases fl with
   |ret u=>exact I.after hq
   |next=>exact False.elim hq
   |brk=>exact False.elim hq
   |cont=>exact False.elim hq
theorem A2(F:cw X.prog X.w X.K X.mg X.base (CXE X.prog X.w) k f fd ps sp)(hr:gw k X.A)(hg:Gl X x)(hm:X.mg x=some (.ref f))(hk:PySem.W.keepIn X.K (.ref f)=true)(hb:Binds X.K fd ps ds)(hd:Vals dvs ds)(hx:Thr X W)
  (ha:PA X (e ::es) t) (hdb:(x==("__debug__":Str))=false:=by decide) (he:starEach (e ::es) X.env=(false,eval e X.env) ::starEach es X.env:=by rfl) (hpl:(backTo pos (starEach es X.env)).any (·.1)=false:=by rfl):
  PE X (.Call (.Name x p) (e ::es) [] pos) (pD sp dvs W t):=by
 intro pins s σ H Q I h;refine wpAny_Call_Name_kw (qC I hg hm ?_ hdb);refine PySem.W.callWith_K (h₀:=X.base) I.ok.mod.kin hk (thn (ha pos pins s σ H _ I h) fun us s1 ⟨vs,H1,I1,r,q⟩=>⟨I1.kIn,?_⟩) he hpl;exact qA F hr hb hd hx I1 r q
theorem Aa(F:cw X.prog X.w X.K X.mg X.base (CXE X.prog X.w) k f fd ps sp)(hr:gw k X.A)(hg:Gl X x)(hm:X.mg x=some (.ref f))(hk:PySem.W.keepIn X.K (.ref f)=true)(hb:Binds X.K fd ps ds)(hd:Vals dvs ds)(hx:Thr X W)
  (hdb:(x==("__debug__":Str))=false:=by decide):PE X (.Call (.Name x p) [] [] pos) (pD sp dvs W j9):=by
 intro pins s σ H Q I h;refine wpAny_Call_Name_kw (qC I hg hm ?_ hdb);exact PySem.W.callWith_K0 I.kIn hk (qA (us:=[]) F hr hb hd hx I .nil h)
end
noncomputable abbrev blk(X:Cx)(scope:Scope)(cl:List (Str×Addr))(N:List Str)(C:Addr)(s₀:Shared)(H₀:Hp)(ex:List Addr):Cx:=
 { prog:=X.prog,w:=X.w,K:=X.K,mg:=X.mg,base:=X.base,A:=X.A,N:=N,s₀:=s₀,H₀:=H₀,env:=compEnvC scope cl C X.env,outer:=X.stack,stack:=X.stack,ex:=ex,fn:=fun _=>false,calm:=X.calm,pn:=[],xe:=fun _ _=>False }
theorem ya:Thr X (fun _ _ _ _=>False):=fun _ _ _ _ _ _ _ _ _ h=>h.elim
structure j7(X:Cx)(scope:Scope)(cl:List (Str×Addr))(M:List Str)(ι:List Nat)(x:Str):Prop where
 clos:closureFor scope X.env=pure cl
 kind:scope.kind=.function
 nocell:(scope.names.all fun p=>p.2 != .cell)=true
 locs:(scope.names.all fun p=>p.2 != .local||scope.names.lookup p.1==some .local)=true
 var:scope.names.lookup x=some .local
 names:M.map some=ι.map fun i=>X.N[i]?
 cells:M.map (fun y=>scope.names.lookup y)=M.map fun _=>some .free
 kinds:M.map X.env.kindOf=M.map fun _=>some .cell
 same:M.map (fun y=>cl.lookup y)=M.map fun y=>X.env.cells.lookup y
 sub:cl.map (fun p=>X.env.cells.lookup p.1)=cl.map fun p=>some p.2
 all:(scope.names.all fun p=>!(p.2 == .free)||(cl.lookup p.1).isSome)=true
 nd:(M++[x]).Nodup
theorem ua{α β:Type}{f g:α->β}{l:List α}(h:l.map f=l.map g){a:α}(ha:a∈l):f a=g a:=by
 induction l with
 |nil=>cases ha
 | cons b r ih=>
   rw[List.map_cons,List.map_cons]at h
   injection h with h1 h2
   rcases List.mem_cons.mp ha with z|z
   . rw[z];exact h1
   . exact ih h2 z
theorem uR{scope:Scope}(h:scope.names.lookup y=some .free):(relabel scope env).names.lookup y=some .cell \/ (relabel scope env).names.lookup y=some .free:=by
 unfold relabel;dsimp only;generalize scope.names=l at h
 induction l with
 |nil=>cases h
 | cons p r ih=>
   obtain⟨n,k⟩:=p;rw[List.lookup_cons]at h;rw[List.map_cons]
   by_cases e:(y==n)=true
   . rw[e]at h
     have hk:k=.free:=Option.some.inj h
     subst hk;dsimp only;split
     . rw[List.lookup_cons,e];exact .inl rfl
     . rw[List.lookup_cons,e];exact .inr rfl
   . have e':(y==n)=false:=by simpa using e
     rw[e']at h;dsimp only;split
     . rw[List.lookup_cons,e'];exact ih h
     . rw[List.lookup_cons,e'];exact ih h
theorem uz{scope:Scope}(hc:(scope.names.all fun p=>p.2 != .cell)=true)(h:(relabel scope env).names.lookup y=some .cell \/ (relabel scope env).names.lookup y=some .free):∃ p∈scope.names,p.1=y /\ p.2=.free:=by
 unfold relabel at h
 dsimp only at h
 generalize scope.names=l at h hc
 induction l with
 |nil=>rcases h with h|h<;>cases h
 | cons p r ih=>
   obtain⟨n,k⟩:=p;rw[List.all_cons,Bool.and_eq_true]at hc;rw[List.map_cons]at h
   by_cases e:(y==n)=true
   . refine⟨(n,k),List.mem_cons_self,(beq_iff_eq.mp e).symm,?_⟩
     dsimp only at h ⊢
     split at h
     . rename_i c;simp only[Bool.and_eq_true,beq_iff_eq]at c;exact c.1.1
     . rw[List.lookup_cons,e]at h
       have hk:(k != NameKind.cell)=true:=hc.1
       rcases h with h|h
       . have:k=.cell:=Option.some.inj h
         subst this;exact absurd hk (by decide)
       . exact Option.some.inj h
   . have e':(y==n)=false:=by simpa using e
     have h':(List.map (fun x=>match x with|(n,k)=>if(k==NameKind.free&&env.scope.kind==ScopeKind.function&&env.kindOf n==some NameKind.cell)=true then(n,NameKind.cell)else(n,k)) r).lookup y=some .cell \/
       (List.map (fun x=>match x with|(n,k)=>if(k==NameKind.free&&env.scope.kind==ScopeKind.function&&env.kindOf n==some NameKind.cell)=true then(n,NameKind.cell)else(n,k)) r).lookup y=some .free:=by
      dsimp only at h
      split at h
      . rw[List.lookup_cons,e']at h;exact h
      . rw[List.lookup_cons,e']at h;exact h
     obtain⟨q,hq,z⟩:=ih h' hc.2
     exact⟨q,List.mem_cons_of_mem _ hq,z⟩
noncomputable def pick(ι:List Nat)(σ:St):St:=ι.map fun i=>(σ[i]?).join
noncomputable def pZ(wi:TI)(ι:List Nat)(te:TE):TE:=fun σ H Q=>wi σ H fun J H1=>∀ D,H1 D=none->∃ W:Nat->Nat->List V->Hp->Prop,(∃ m,W 0 m [] (upd H1 D (.lst []))) /\ ∀ i m ys H,W i m ys H ->
 H D=some (.lst ys) /\ ((J.stop i H /\ Q (.ref D) H) \/ (J.go i H /\ ∀ x H',J.yld i H x H'->te (pick ι σ++[some x]) H' fun y H2=>H2 D=some (.lst ys) /\ ys.length<sizeLine /\ ∃ m',m'<m /\ W (i+1) m' (ys++[y]) (upd H2 D (.lst (ys++[y])))))
section
variable{X:Cx}{scope:Scope}{cl:List (Str×Addr)}{M:List Str}{ι:List Nat}{x:Str}
theorem j7.qT(S:j7 X scope cl M ι x)(h:cl.lookup y=some c):X.env.cells.lookup y=some c:=ua S.sub (PySem.mem_of_lookup h)
theorem uJ{pins:List (Addr×Obj)}{s:Shared}{h₁:Heap}(S:j7 X scope cl M ι x)(I:Inv X pins σ H s)(hex:∀ b∈ex,kI X pins H b /\ b<s.heap.objs.size)(hn:h₁.Ns s.heap.objs.size (fun _=>none))
  (hk:∀ b o,s.heap.get? b=some o->h₁.get? b=some o):Inv (blk X scope cl (M++[x]) s.heap.objs.size s H ex) [] (pick ι σ++[none]) H { s with heap:=h₁,toks:=t' }:=by
 have noM:∀ b:Addr,b∈ex->b≠s.heap.objs.size:=fun b hb=>Nat.ne_of_lt (hex b hb).2
 have fsx:∀ b∈ex,b∉frs X.stack:=fun b hb z=>by
  obtain⟨⟨_,f1,f2,_⟩,_⟩:=hex b hb
  rcases List.mem_cons.mp (I.xO b z)with e|e
  . exact f1 e
  . exact f2 e
 have base0:∀ b o,X.base.get? b=some o->b∉ex:=fun b o e z=>by
  obtain⟨⟨_,_,_,f3,_⟩,_⟩:=hex b z
  rcases f3 with f|f
  . exact I.ok.noex b o e f
  . exact absurd (Nat.lt_of_lt_of_le (Heap.lt_size e) (Nat.le_trans I.ok.bsz f)) (Nat.lt_irrefl _)
 refine⟨⟨I.ok.mod,S.kind,I.ok.glob,I.ok.blt,Nat.le_refl _,fun y z c h1 h2=>I.ok.inj y z c (S.qT h1) (S.qT h2),fun y hy=>?_,fun y c z=>absurd z Bool.false_ne_true,I.ok.hd,I.ok.frames,.inl rfl,
  fun b hb=>⟨noM b hb,fun y c h z=>(hex b hb).1.2.2.2.2.1 y c (S.qT h) z⟩,I.bs,Nat.le_trans I.ok.bsz I.sz,base0,fsx,I.stack,I.uT⟩,
  rfl,I.bare,Un.kept hk,⟨_,hn,fun i y v e1 e2 e3=>?_⟩,fun y c h=>?_,I.fresh,fun y c h=>?_,fun p hp=>absurd (show p∈([]:List (Addr×Obj)) from hp) (by simp),I.hok.kept hk,?_⟩
 . obtain⟨p,hp,rfl,hpf⟩:=uz S.nocell hy;have q:=List.all_eq_true.mp S.all p hp;rw[hpf]at q
   have q':(cl.lookup p.1).isSome=true:=by
    cases e:(cl.lookup p.1).isSome with
    |true=>rfl
    |false=>rw[e]at q;exact absurd q (by decide)
   exact Option.isSome_iff_exists.mp q'
 . have hiM:i < M.length:=by
    by_cases hlt:i<M.length
    . exact hlt
    . exfalso
      have hl:(pick ι σ).length=M.length:=by
       have q:=congrArg List.length S.names;rw[List.length_map,List.length_map]at q;unfold pick;rw[List.length_map,q]
      rw[List.getElem?_append_right (by omega),hl]at e2
      have:i - M.length=0 \/ 1<=i - M.length:=by omega
      rcases this with z|z
      . rw[z]at e2;cases e2
      . rw[List.getElem?_eq_none (by simpa using z)]at e2;cases e2
   have hl:ι.length=M.length:=by
    have q:=congrArg List.length S.names;rw[List.length_map,List.length_map]at q;exact q.symm
   rw[List.getElem?_append_left hiM]at e1
   have hyM:y∈M:=List.mem_of_getElem? e1
   have e2':((σ[ι[i]]?).join)=some v:=by
    rw[List.getElem?_append_left (by unfold pick;rw[List.length_map];omega)]at e2;unfold pick at e2;rw[List.getElem?_map,List.getElem?_eq_getElem (by omega)]at e2;exact Option.some.inj e2
   have e4:σ[ι[i]]?=some (some v):=by
    cases q:σ[ι[i]]? with
    |none=>rw[q]at e2';cases e2'
    |some w=>rw[q]at e2';exact congrArg some e2'
   have e5:X.N[ι[i]]?=some y:=by
    have q:=congrArg (fun l=>l[i]?) S.names;rw[List.getElem?_map,List.getElem?_map,e1,List.getElem?_eq_getElem (by omega)]at q
    exact(Option.some.inj q).symm
   have kc:X.env.kindOf y=some .cell:=ua S.kinds hyM
   obtain⟨m,hm,hl⟩:=I.loc;obtain⟨u,r,q⟩:=hl _ y v e5 e4 (.inr (.inl kc))
   refine⟨u,r,.inr ⟨?_,?_⟩⟩
   . exact uR (ua S.cells hyM)
   . rcases q with⟨k,_⟩|⟨_,c,e,o,ho,hd⟩
     . rw[kc]at k;cases k
     . exact⟨c,(ua S.same hyM).trans e,o,hk _ _ ho,hd⟩
 . obtain⟨v,o,ho,hd⟩:=I.cell y c (S.qT h)
   exact⟨v,o,hk _ _ ho,hd⟩
 . exact I.freeC y c (S.qT h)
 . have q:=congrArg List.length S.names;rw[List.length_map,List.length_map]at q
   show(pick ι σ++[none]).length=(M++[x]).length
   unfold pick;rw[List.length_append,List.length_append,List.length_map,q];rfl
theorem qE{pins:List (Addr×Obj)}{s s':Shared}(I:Inv X pins σ H s)(hC:C=s.heap.objs.size)(hex:∀ b∈ex,kI X pins H b)(J:Inv (blk X scope cl N C s H ex) [] σ' H' s')
  (hs:Heap.SameBut C s'.heap h'):Inv X pins σ H' { s' with heap:=h' }:=by
 subst hC
 have K:Inv X pins σ H' s':=I.Eo (ch:=ex) J.os J.base J.hok J.bare fun b hb=>by
  obtain⟨_,f1,_,f3,f4,f5⟩:=hex b hb
  exact⟨f3,f1,f4,f5⟩
 refine K.turned (t':=s'.toks) (it:=s.heap.objs.size) (fun b o hb e=>(hs.2 b hb).trans e) J.free (Nat.ne_of_gt I.lt) (.inr I.sz) (fun y c e z=>?_) (fun p hp z=>?_)
 . obtain⟨v,q⟩:=I.cell y c e;exact absurd (z ▸ q.lt) (Nat.lt_irrefl _)
 . exact absurd (z ▸ Heap.lt_size (I.pin p hp).1) (Nat.lt_irrefl _)
theorem tK(elt target iter:Expr)(scope:Scope)(pos:Pos)(it acc:Value)(env:Env):
  compTurn (.ListComp elt [⟨target,iter,[],0⟩] scope pos) 0 it acc env=(do
   standAt iter.pos
   match <- pyNext it with
   |none=>pure (.done .next)
   | some v=>do
     letOwnedTupleGo target it v
     assign target env v
     (do let x <- eval elt env;let _ <- call (.builtin "list.append") [acc,x];pure ())
     again (.compLoop (.ListComp elt [⟨target,iter,[],0⟩] scope pos) 0 it acc env)):=by rfl
theorem C6(S:j7 X scope cl M ι x)(hc:X.calm=true)(hi:PI X (.Name x px) iter wi)(he:∀ C s₀ H₀ ex,PE (blk X scope cl (M++[x]) C s₀ H₀ ex) elt te)
  (hs:∀ v,foldedSetIterable iter X.env v=pure v:=by intro _;rfl):PE X (.ListComp elt [⟨.Name x px,iter,[],0⟩] scope pos) (pZ wi ι te):=by
 intro pins s σ H Q I h;rw[eval_ListComp];refine wpAny_comprehension_free (use:=none) rfl hs S.clos S.kind (fun y hy hl=>?_) (wpAny_mono (hi pins s σ H _ I h) (fun v s1 h1=>wpAny_mono h1 (fun itv s2 h2=>?_) fun _ _ z=>z) fun _ _ z=>z)
 . have q:=List.all_eq_true.mp S.locs y hy;rw[hl]at q
   simpa using q
 obtain⟨it,fp,tn,J,H2,rfl,I2,T,st2,f2,hW⟩:=h2;have I3:=I2.Ag (ys:=[]) (its:=[]) (t':=s2.toks) .nil (Nat.zero_le _);obtain⟨W,⟨m0,w0⟩,turn⟩:=hW s2.heap.objs.size I2.fresh
 have fpo:∀ b∈fp,b<s2.heap.objs.size:=fun b hb=>let ⟨_,e,_⟩:=T.obj _ _ st2 b hb;Heap.lt_size e
 have f3:∀ b∈fp,kI X pins (upd H2 s2.heap.objs.size (.lst [])) b:=fun b hb=>by
  obtain⟨q0,q⟩:=f2 b hb
  exact⟨by rw[bB (Nat.ne_of_lt (fpo b hb))];exact q0,q⟩
 show wpAny _ _ (newObj (.type "list") _ none) _ _ s2;refine wpAny_newObj_type (wpAny_newFunctionEnv (fun y hy=>?_) (by intro y hy;simp at hy) (fun h₁ hn₁ sb₁=>?_) S.kind)
 . have q:=List.all_eq_true.mp S.nocell y hy
   simpa using q
 have hsz:(s2.heap.push { cls:=.type "list",dict:=none,data:=.seq ([]:List Value).toArray }).objs.size=s2.heap.objs.size+1:=Heap.size_push ..
 have hk₁:∀ b o,(s2.heap.push { cls:=.type "list",dict:=none,data:=.seq ([]:List Value).toArray }).get? b=some o->h₁.get? b=some o:=fun b o e=>
  (sb₁.2 b (Nat.ne_of_lt (Heap.lt_size e))).trans (Heap.get?_push_of_some _ e)
 have J0:=uJ (t':=s2.toks+([]:List (Str×Value)).length) S I3 (ex:=fp) (fun b hb=>⟨f3 b hb,Nat.lt_of_lt_of_le (fpo b hb) (by rw[hsz];exact Nat.le_succ _)⟩) hn₁ hk₁
 have old:∀ b∈fp,∀ o,s2.heap.get? b=some o->h₁.get? b=some o:=fun b _ o e=>hk₁ b o (Heap.get?_push_of_some _ e)
 have st₁:tn 0 h₁:=T.keep _ _ _ st2 old
 have loop:codeAny (model X.prog X.w) X.A (.compLoop (.ListComp elt [⟨.Name x px,iter,[],0⟩] scope pos) 0 (.ref it) (.ref s2.heap.objs.size) (compEnvC scope cl (s2.heap.objs.size+1) X.env))
   (compPost (model X.prog X.w) X.A X.xe none (EP X pins σ Q) (.ref s2.heap.objs.size) (s2.heap.objs.size+1)) { s2 with heap:=h₁,toks:=s2.toks+([]:List (Str×Value)).length }:=by
  rw[hsz]at J0
  refine codeAny_loop rfl (fun n s'=>∃ i H' ys v,Inv (blk X scope cl (M++[x]) (s2.heap.objs.size+1) { s2 with heap:=s2.heap.push { cls:=.type "list",data:=.seq ([]:List Value).toArray },toks:=s2.toks } (upd H2 s2.heap.objs.size (.lst [])) fp) [] (pick ι σ++[v]) H' s' /\ tn i s'.heap /\ (∀ b∈fp,H' b=none) /\ W i n ys H')
   (fun n s' hI=>?_) m0 ⟨0,_,[],none,J0,st₁,fun b hb=>(f3 b hb).1,w0⟩
  obtain⟨i,H',ys,v,J',st',fr',w'⟩:=hI;obtain⟨hD,alt⟩:=turn i n ys H' w'
  have fpY:∀{G:Hp},(∀ b∈fp,G b=none)->∀ b∈fp,kI (blk X scope cl (M++[x]) (s2.heap.objs.size+1) { s2 with heap:=s2.heap.push { cls:=.type "list",data:=.seq ([]:List Value).toArray },toks:=s2.toks } (upd H2 s2.heap.objs.size (.lst [])) fp) [] G b:=fun hG b hb=>
   ⟨hG b hb,(J'.ok.exf b hb).1,J'.ok.exfs b hb,.inl hb,(J'.ok.exf b hb).2,fun p hp=>absurd (show p∈([]:List (Addr×Obj)) from hp) (by simp)⟩
  show wpAny _ _ ((compTurn _ 0 (.ref it) (.ref s2.heap.objs.size) (compEnvC scope cl (s2.heap.objs.size+1) X.env)).onRaise _) _ _ s';refine wpAny_noted (wpAny_noRaise ?_);rw[tK];refine wpAny_bind (wpAny_standAt (wpAny_bind ?_))
  rcases alt with⟨stop,qn⟩|⟨go,step⟩
  . refine thn (T.done (blk X scope cl (M++[x]) (s2.heap.objs.size+1) _ _ fp) rfl rfl rfl hc i [] s' _ H' _ J' (fpY fr') st' stop) fun r s4 ⟨hr,J4⟩=>?_
    subst hr;refine wpAny_pure ?_;obtain⟨m,hm,_⟩:=id J4.loc
    refine⟨m,hm,fun h' sb=>⟨.ref s2.heap.objs.size,H',qE I3 hsz.symm f3 J4 sb,rfl,qn⟩⟩
  . refine thn (T.item (blk X scope cl (M++[x]) (s2.heap.objs.size+1) _ _ fp) rfl rfl rfl hc i [] s' _ H' _ J' (fpY fr') st' go) fun r s4 ⟨u,hr,h4⟩=>?_
    subst hr;refine wpAny_bind (thn h4 fun _ s5 ⟨z,H5,J5,r5,y5,st5,fr5⟩=>?_)
    have J5':=J5.pinned (fpY fr5) (T.obj _ _ st5)
    have hxN:(M++[x])[M.length]?=some x:=by simp
    refine wpAny_bind ?_;refine wpAny_assign_Name ?_;refine jc (X:=blk X scope cl (M++[x]) (s2.heap.objs.size+1) _ _ fp) (i:=M.length) (v:=z) J5' S.nd hxN (.inl (lookup_relabel_local S.var)) r5 (fun s6 J6=>?_) (.inr (lookup_relabel_local S.var))
    have hlp:(pick ι σ).length=M.length:=by
     have q:=congrArg List.length S.names;rw[List.length_map,List.length_map]at q;unfold pick;rw[List.length_map,q]
    have hset:(pick ι σ++[v]).set M.length (some z)=pick ι σ++[some z]:=by
     rw[<- hlp,List.set_append_right _ _ (Nat.le_refl _),Nat.sub_self];rfl
    rw[hset]at J6;refine wpAny_bind (wpAny_bind (thn (he _ _ _ _ _ s6 _ H5 _ J6 (step z H5 y5)) fun yv s7 ⟨y,H7,J7,r7,hD7,hz7,m',hm',w7⟩=>?_));refine wpAny_bind (thn (fE (X:=blk X scope cl (M++[x]) (s2.heap.objs.size+1) _ _ fp) _ s7 _ H7 (.ref s2.heap.objs.size) [y] (.ref s2.heap.objs.size) [yv] (fun _ G=>G=upd H7 s2.heap.objs.size (.lst (ys++[y]))) J7 rfl (.cons r7 .nil) ⟨_,_,y,rfl,rfl,hD7,hz7,rfl⟩) fun _ s8 ⟨_,H8,J8,_,e8⟩=>?_);subst e8;refine wpAny_pure (wpAny_pure ⟨rfl,m',hm',i+1,_,_,some z,J8.fY,?_,fun b hb=>?_,w7⟩)
    . exact T.keep _ _ _ st5 fun b hb o e=>(J8.pin (b,o) (List.mem_append_right _ (List.mem_append_right _ (cq hb e)))).1
    . obtain⟨o,e,d⟩:=T.obj _ _ st5 b hb
      exact(J8.pin (b,o) (List.mem_append_right _ (List.mem_append_right _ (cq hb e)))).2.1
 rw[hsz]at *;exact codeAny_compStart_list loop (T.self X.A 0 _ _ _ st₁ loop)
end
section
variable{X:Cx}
noncomputable def IsV(K:PySem.W.Frag)(T:String)(x:V)(H:Hp)(b:Bool):Prop:=match x with
 |.int _=>(T = "int" /\ b=true) \/ (T = "bool" /\ b=false) \/ (T = "list" /\ b=false) \/ (T = "tuple" /\ b=false) \/ (T = "str" /\ b=false)
 |.bl _=>(T = "int" /\ b=true) \/ (T = "bool" /\ b=true) \/ (T = "list" /\ b=false) \/ (T = "tuple" /\ b=false) \/ (T = "str" /\ b=false)
 |.non=>(T = "int" /\ b=false) \/ (T = "bool" /\ b=false) \/ (T = "list" /\ b=false) \/ (T = "tuple" /\ b=false) \/ (T = "str" /\ b=false)
 |.str _=>(T = "int" /\ b=false) \/ (T = "bool" /\ b=false) \/ (T = "list" /\ b=false) \/ (T = "tuple" /\ b=false) \/ (T = "str" /\ b=true)
 | .ref p=>((∃ xs,SqL K H p xs) /\ ((T = "int" /\ b = false) \/ (T = "bool" /\ b = false) \/ (T = "list" /\ b = true) \/ (T = "tuple" /\ b = false) \/ (T = "str" /\ b = false))) \/
    ((∃ xs,SqT K H p xs) /\ ((T = "int" /\ b=false) \/ (T = "bool" /\ b=false) \/ (T = "list" /\ b=false) \/ (T = "tuple" /\ b=true) \/ (T = "str" /\ b=false)))
 |_=>False
theorem nc:my X (.builtin "isinstance") (fun xs H Q=>∃ x T b,xs=[x,.ty T] /\ IsV X.K T x H b /\ Q (.bl b) H):=by
 intro pins s σ H vs us Q I rv h;obtain⟨x,T,b,rfl,hv,q⟩:=h;obtain⟨u,v,rfl,ru,rT⟩:=rv.two;cases rT
 cases x with
 | int i=>
   obtain⟨t,rfl⟩:=ru
   rcases hv with⟨rfl,rfl⟩|⟨rfl,rfl⟩|⟨rfl,rfl⟩|⟨rfl,rfl⟩|⟨rfl,rfl⟩
   . exact IsiPair.int_int ⟨.bl _,H,I,rfl,q⟩
   . exact IsiPair.int_bool ⟨.bl _,H,I.tok _,rfl,q⟩
   . exact IsiPair.int_list ⟨.bl _,H,I.tok _,rfl,q⟩
   . exact IsiPair.int_tuple ⟨.bl _,H,I.tok _,rfl,q⟩
   . exact IsiPair.int_str ⟨.bl _,H,I.tok _,rfl,q⟩
 | bl i=>
   cases ru
   rcases hv with⟨rfl,rfl⟩|⟨rfl,rfl⟩|⟨rfl,rfl⟩|⟨rfl,rfl⟩|⟨rfl,rfl⟩
   . exact IsiPair.bool_int ⟨.bl _,H,I,rfl,q⟩
   . exact IsiPair.bool_bool ⟨.bl _,H,I,rfl,q⟩
   . exact IsiPair.bool_list ⟨.bl _,H,I.tok _,rfl,q⟩
   . exact IsiPair.bool_tuple ⟨.bl _,H,I.tok _,rfl,q⟩
   . exact IsiPair.bool_str ⟨.bl _,H,I.tok _,rfl,q⟩
 | non=>
   cases ru
   rcases hv with⟨rfl,rfl⟩|⟨rfl,rfl⟩|⟨rfl,rfl⟩|⟨rfl,rfl⟩|⟨rfl,rfl⟩
   . exact IsiPair.NoneType_int ⟨.bl _,H,I.tok _,rfl,q⟩
   . exact IsiPair.NoneType_bool ⟨.bl _,H,I.tok _,rfl,q⟩
   . exact IsiPair.NoneType_list ⟨.bl _,H,I.tok _,rfl,q⟩
   . exact IsiPair.NoneType_tuple ⟨.bl _,H,I.tok _,rfl,q⟩
   . exact IsiPair.NoneType_str ⟨.bl _,H,I.tok _,rfl,q⟩
 | str i=>
   obtain⟨t,rfl⟩:=ru
   rcases hv with⟨rfl,rfl⟩|⟨rfl,rfl⟩|⟨rfl,rfl⟩|⟨rfl,rfl⟩|⟨rfl,rfl⟩
   . exact IsiPair.str_int ⟨.bl _,H,I.tok _,rfl,q⟩
   . exact IsiPair.str_bool ⟨.bl _,H,I.tok _,rfl,q⟩
   . exact IsiPair.str_list ⟨.bl _,H,I.tok _,rfl,q⟩
   . exact IsiPair.str_tuple ⟨.bl _,H,I.tok _,rfl,q⟩
   . exact IsiPair.str_str ⟨.bl _,H,I,rfl,q⟩
 | ref p=>
   cases ru
   rcases hv with⟨⟨xs,hS⟩,hv⟩|⟨⟨xs,hS⟩,hv⟩
   . obtain⟨its,r,pl,hz⟩:=I.list hS;obtain⟨o,e,c,_⟩:=pl.isList
     rcases hv with⟨rfl,rfl⟩|⟨rfl,rfl⟩|⟨rfl,rfl⟩|⟨rfl,rfl⟩|⟨rfl,rfl⟩
     . exact IsiPair.list_int e c ⟨.bl _,H,I.tok _,rfl,q⟩
     . exact IsiPair.list_bool e c ⟨.bl _,H,I.tok _,rfl,q⟩
     . exact IsiPair.list_list e c ⟨.bl _,H,I,rfl,q⟩
     . exact IsiPair.list_tuple e c ⟨.bl _,H,I.tok _,rfl,q⟩
     . exact IsiPair.list_str e c ⟨.bl _,H,I.tok _,rfl,q⟩
   . obtain⟨its,r,pl,hz⟩:=I.tuple hS;obtain⟨o,e,c,_⟩:=pl
     rcases hv with⟨rfl,rfl⟩|⟨rfl,rfl⟩|⟨rfl,rfl⟩|⟨rfl,rfl⟩|⟨rfl,rfl⟩
     . exact IsiPair.tuple_int e c ⟨.bl _,H,I.tok _,rfl,q⟩
     . exact IsiPair.tuple_bool e c ⟨.bl _,H,I.tok _,rfl,q⟩
     . exact IsiPair.tuple_list e c ⟨.bl _,H,I.tok _,rfl,q⟩
     . exact IsiPair.tuple_tuple e c ⟨.bl _,H,I,rfl,q⟩
     . exact IsiPair.tuple_str e c ⟨.bl _,H,I.tok _,rfl,q⟩
 |_=>exact hv.elim
theorem boot_bool:bootBuiltins "bool" = some (.type "bool"):=by decide +kernel
theorem boot_isinstance:bootBuiltins "isinstance" = some (.builtin "isinstance"):=by decide +kernel
theorem boot_all:bootBuiltins "all" = some (.builtin "all"):=by decide +kernel
theorem boot_tuple:bootBuiltins "tuple" = some (.type "tuple"):=by decide +kernel
theorem boot_list:bootBuiltins "list" = some (.type "list"):=by decide +kernel
theorem boot_int:bootBuiltins "int" = some (.type "int"):=by decide +kernel
theorem boot_str:bootBuiltins "str" = some (.type "str"):=by decide +kernel
theorem boot_len:bootBuiltins "len" = some (.builtin "len"):=by decide +kernel
theorem uU:∀{ns:List Int} {its:List Value},Vals (ns.map V.int) its->IntsAre its ns
 |[],_,.nil=>.nil
 |n ::_,_,.cons ⟨t,e⟩ r=>by subst e;exact .cons n t (uU r)
noncomputable def Iq(K:PySem.W.Frag)(A:Around)(neg:Bool):R2:=fun x y H Q=>∃(p q:Addr) (ns ms:List Int),x=.ref p /\ y=.ref q /\ SqL K H p (ns.map V.int) /\ SqL K H q (ms.map V.int) /\ A.units+64<cLine /\ Q (.bl (if neg then !decide (ns=ms)else decide (ns=ms))) H
theorem Fh:OpR X (compareOp .Eq) (Iq X.K X.A false):=by
 intro pins s σ H x y v u Q I rx ry h;obtain⟨p,q,ns,ms,rfl,rfl,h1,h2,hu,hq⟩:=h
 cases rx;cases ry
 obtain⟨its,r,pl,hz⟩:=I.list h1;obtain⟨its',r',pl',hz'⟩:=I.list h2;exact PySem.W.eq_intsK pl.isList (uU r) pl'.isList (uU r') hu ⟨.bl _,H,I,rfl,hq⟩
end
section
variable{P:Program}{w:World}{K:PySem.W.Frag}{mg:Str->Option Value}{base:Heap}
theorem okX{x qual:Str}{st:Stmt}{f:Addr}{fd:FuncData}{N ps:List Str}{k:Nat}{sp:Sp}(F:Fun K x qual st f fd)(S:aZ N ps (aD st))(len:∀ vs H Q E,sp vs H Q E->vs.length=ps.length)
  (hbody:∀(cdv:Value) (A:Around) (outer:List Env) (s:Shared) (H:Hp) (vs:List V) (Q:VK) (E:XK),gw k (A.deeper (envOfC qual (aD st) s.heap.objs.size f cdv))->sp vs H Q E ->
    ∃ t,PSs (pC (CXE P w) P w K mg base N qual (aD st) f cdv A outer s H E) (dE st) t /\ t { nx:=fun _ H'=>Q .non H',rt:=Q } (start N vs) H):cw P w K mg base (CXE P w) (k+1) f fd ps sp:=by
 obtain⟨oc,od,kV,doc,pm,an,cdv,ct,osl,rfl,lk,hcd⟩:=F.ex
 exact HK lk hcd S len fun A outer s H vs Q E hr hsp=>hbody cdv A outer s H vs Q E hr hsp
end
theorem SqL.new{K:PySem.W.Frag}{H:Hp}{p:Addr}{xs:List V}(h:H p=some (.lst xs)):SqL K H p xs:=.inl (.inl h)
theorem SqT.new{K:PySem.W.Frag}{H:Hp}{p:Addr}{xs:List V}(h:H p=some (.tup xs)):SqT K H p xs:=.inl (.inl h)
theorem CN{H:Hp}{p q:Addr}{o:HO}(h:H q=some o)(n:H p=none):q≠p:=fun z=>by rw[z,n]at h;cases h
theorem _root_.L2.aH.upd{H H':Hp}{p:Addr}{o:HO}(e:aH H H')(n:H p=none):aH H (upd H' p o):=fun b u h=>by
 rw[bB (CN h n)];exact e b u h
theorem _root_.L2.aH.new{H:Hp}{p:Addr}{o:HO}(n:H p=none):aH H (L2.upd H p o):=(aH.refl H).upd n
abbrev Goes(H:Hp)(E:XK)(C:Addr)(dx:Option Addr):Prop:=∀ H' a,aH H H'->H' a=some (wI a C dx)->E (.ref C) (some a) H'
section
variable{X:Cx}
noncomputable def En(K:PySem.W.Frag):R2:=fun x y H Q=>∃ l b xs zs,x=.ref l /\ y=.ref b /\ SqL K H l xs /\ SqL K H b zs /\ xs.length+zs.length<=sizeLine /\ ∀ p,H p=none->Q (.ref p) (upd H p (.lst (xs++zs)))
theorem cW:OpR X (binaryOp .Add) (En X.K):=by
 intro pins s σ H x y v u Q I rx ry h;obtain⟨l,b,xs,zs,rfl,rfl,hH,hB,hz,q⟩:=h;cases rx;cases ry;obtain⟨its,r,pl,_⟩:=I.list hH;obtain⟨its2,r2,pl2,_⟩:=I.list hB;obtain⟨⟨cls,dd,data,sl⟩,ho,hc,n,hd⟩:=pl.isList;obtain⟨⟨cls2,dd2,data2,sl2⟩,ho2,hc2,n2,hd2⟩:=pl2.isList;simp only at hc hd hc2 hd2;subst hc hd hc2 hd2
 have hsz:its.toArray.size+its2.toArray.size<=sizeLine:=by rw[List.size_toArray,List.size_toArray,<- r.length,<- r2.length];exact hz
 refine concat_meets ⟨_,ho,rfl⟩ ⟨_,ho2,rfl⟩ noFill_list_add seq_list_add PySem.F.slot_list_add PySem.F.entry_list_add (PySem.F.args_list_add_2 _ _) (list_addW l b its.toArray its2.toArray n n2 dd dd2 sl sl2 hsz) ⟨ho,ho2,?_⟩
 have ea:its.toArray++its2.toArray=(its++its2).toArray:=by simp
 rw[ea]
 exact⟨.ref _,_,I.Ag (t':=s.toks) (r.append r2) (by rw[List.length_append];exact hz),rfl,q _ I.fresh⟩
theorem zA:my X (.builtin "all") (fun xs H Q=>∃(p:Addr) (bs:List Bool),xs=[.ref p] /\ SqL X.K H p (bs.map V.bl) /\ X.A.handled=none /\ Q (.bl (bs.all id)) H):=by
 intro pins s σ H vs us Q I rv h;obtain⟨p,bs,rfl,hp,hh,q⟩:=h;obtain⟨u,rfl,ru⟩:=rv.one;cases ru;obtain⟨its,r,pl,_⟩:=I.list hp;have hl:=r.length
 have isl:s.heap.IsList p its.toArray:=pl.isList
 obtain⟨o,e,_⟩:=id isl;refine call_all_walk (wpAny_pyIter_list isl ?_)
 have ne:p≠s.heap.objs.size:=Nat.ne_of_lt (Heap.lt_size e)
 have tv:∀(i:Nat) (v:Value),its.toArray[i]?=some v->∃ b,bs[i]?=some b /\ v=Value.bool b:=fun i v hv=>by
  have hv':its[i]?=some v:=by simpa using hv
  have hi:i<its.length:=(List.getElem?_eq_some_iff.mp hv').1
  rw[<- hl,List.length_map]at hi
  have hx:(bs.map V.bl)[i]?=some (V.bl bs[i]):=by simp[hi]
  obtain⟨u,hu,ru⟩:=r.get hx;rw[hv']at hu;cases hu
  exact⟨bs[i],by simp[hi],ru⟩
 refine⟨s.heap.objs.size,_,_,_,_,_,(fun i=>(bs[i]?).getD false),rfl,Walks.list (A:=X.A.in1) hh s.heap.objs.size p ne its.toArray,⟨⟨_,Heap.get?_push_size _ rfl,rfl,rfl⟩,isl.at fun o e=>Heap.get?_push_of_some _ e⟩,fun i v s' Q' E' hP hQ=>?_,fun h' tk hk=>?_⟩
 . obtain⟨b,hb,rfl⟩:=tv i v hP
   have hQ':Q' ((bs[i]?).getD false) s':=hQ
   rw[hb]at hQ';exact wpAny_truthy_bool hQ'
 . have en:its.toArray.size=bs.length:=by rw[List.size_toArray,<- hl,List.length_map]
   have eb:(List.range its.toArray.size).all (fun i=>(bs[i]?).getD false)=bs.all id:=by
    rw[en];rw[Bool.eq_iff_iff,List.all_eq_true,List.all_eq_true];constructor
    . intro hA b hb;obtain⟨i,hi,rfl⟩:=List.mem_iff_getElem.mp hb;have:=hA i (by simpa using hi)
      simpa [hi]using this
    . intro hA i hi
      have hi':i<bs.length:=by simpa using hi
      have:=hA bs[i] (List.getElem_mem hi')
      simpa [hi']using this
   rw[eb]
   refine⟨.bl _,H,I.kept (h':=h') (t':=tk) fun b o e'=>hk b o ?_ (Heap.get?_push_of_some _ e'),rfl,q⟩
   have lt:=Heap.lt_size e';intro z
   have z':b=s.heap.objs.size:=by simpa using z
   exact absurd (z' ▸ lt) (Nat.lt_irrefl _)
end
noncomputable def isStar:Expr->Bool
 |.Starred ..=>true
 |_=>false
theorem zZ{e:Expr}{es:List Expr}{env:Env}(h:isStar e=false):starEach (e ::es) env=(false,eval e env) ::starEach es env:=by
 cases e<;>first|rfl|cases h
theorem AD{X:Cx}{e:Expr}{es:List Expr}{te:TE}{t:TA}(ha:PE X e te)(hr:PA X es t)(hs:isStar e=false:=by rfl):PA X (e ::es) (iT te t):=Du ha hr (zZ hs)
end L2.E
namespace L2.P
open PySem
noncomputable def ixP(n:Nat)(i:Int):Option Nat:=if 0<=i then(if i<n then some i.toNat else none)else if -(n:Int)<=i then some (i+n).toNat else none
noncomputable def atP{α:Type}(xs:List α)(i:Int):Option α:=(ixP xs.length i).bind fun j=>xs[j]?
noncomputable def sM(n d:Nat):Option Int->Nat
 |none=>d
 |some v=>if v<0 then(v+(n:Int)).toNat else min v.toNat n
inductive PV where
 |non|bl (b:Bool)|int (i:Int)|str (s:Str)|lst (xs:List PV)|tup (xs:List PV)
inductive OV where
 | sh (x:PV)|ol (ts:List OV)|ob (c:String) (ks:List Str) (ts:List OV)
   |di (kvs:List (Int×PV))|dt (kvs:List (List Int×PV))
inductive Sl where
 | sh (x:PV)|ow (xs:List PV)|ex (c:String) (fs:List (Str×PV))
   |tr (io:Bool) (t:OV)|bo (t:OV)
abbrev ah:=List (Option Sl)
inductive RV where
 |sh (x:PV)|fr (xs:List PV)|al (xs:List PV)
noncomputable def RV.pv:RV->PV
 |.sh x=>x
 |.fr xs=>.lst xs
 |.al xs=>.lst xs
abbrev XF:=List (Str×PV)
inductive OE where
 |ok (r:RV)|exc (c:String) (fs:XF)|bad
inductive OT where
 |ok (b:Bool)|exc (c:String) (fs:XF)|bad
inductive OA where
 |ok (xs:List PV)|exc (c:String) (fs:XF)|bad
inductive OS where
 |nx (ρ:ah)|rt (ρ:ah) (r:RV)|bk (ρ:ah)|ct (ρ:ah)|exc (ρ:ah) (c:String) (fs:XF)|bad
noncomputable def OE.bind:OE->(RV->OE)->OE
 |.ok r,f=>f r
 |.exc c fs,_=>.exc c fs
 |.bad,_=>.bad
noncomputable def OE.fw:OE->(RV->OT)->OT
 |.ok r,f=>f r
 |.exc c fs,_=>.exc c fs
 |.bad,_=>.bad
noncomputable def OE.eW:OE->(RV->OA)->OA
 |.ok r,f=>f r
 |.exc c fs,_=>.exc c fs
 |.bad,_=>.bad
noncomputable def OE.cD(ρ:ah):OE->(RV->OS)->OS
 |.ok r,f=>f r
 |.exc c fs,_=>.exc ρ c fs
 |.bad,_=>.bad
noncomputable def OT.bind:OT->(Bool->OE)->OE
 |.ok r,f=>f r
 |.exc c fs,_=>.exc c fs
 |.bad,_=>.bad
noncomputable def OT.fw:OT->(Bool->OT)->OT
 |.ok r,f=>f r
 |.exc c fs,_=>.exc c fs
 |.bad,_=>.bad
noncomputable def OT.cD(ρ:ah):OT->(Bool->OS)->OS
 |.ok r,f=>f r
 |.exc c fs,_=>.exc ρ c fs
 |.bad,_=>.bad
noncomputable def OA.bind:OA->(List PV->OE)->OE
 |.ok r,f=>f r
 |.exc c fs,_=>.exc c fs
 |.bad,_=>.bad
noncomputable def OA.eW:OA->(List PV->OA)->OA
 |.ok r,f=>f r
 |.exc c fs,_=>.exc c fs
 |.bad,_=>.bad
noncomputable def OA.cD(ρ:ah):OA->(List PV->OS)->OS
 |.ok r,f=>f r
 |.exc c fs,_=>.exc ρ c fs
 |.bad,_=>.bad
noncomputable def ao(i:Nat):ah->OE:=fun ρ=>match ρ[i]? with
 |some (some (.sh x))=>.ok (.sh x)
 |some (some (.ow xs))=>.ok (.al xs)
 |_=>.bad
noncomputable def mC(x:PV):ah->OE:=fun _=>.ok (.sh x)
noncomputable def oE:Option RV->OE
 |some r=>.ok r
 |none=>.bad
noncomputable def mOp(g:PV->PV->Option RV)(ma mb:ah->OE):ah->OE:=fun ρ=>(ma ρ).bind fun a=>(mb ρ).bind fun b=>oE (g a.pv b.pv)
noncomputable def gI(C:Int->Int->Bool)(f:Int->Int->PV):PV->PV->Option RV
 |.int i,.int j=>if C i j then some (.sh (f i j))else none
 |_,_=>none
noncomputable def du:=gI (fun _ _=>true) fun i j=>.int (i+j)
noncomputable def ly:=gI (fun _ _=>true) fun i j=>.int (i - j)
noncomputable def wY:=gI (fun i j=>(decide (-(2 ^ 64)<i)&&decide (i<2 ^ 64))||(decide (-(2 ^ 64)<j)&&decide (j<2 ^ 64))) fun i j=>.int (i*j)
noncomputable def fB:=gI (fun _ j=>decide (0<j)&&decide (j<1073741824)) fun i j=>.int (i/j)
noncomputable def cN:=gI (fun _ j=>decide (0<j)) fun i j=>.int (i%j)
noncomputable def gLt:=gI (fun _ _=>true) fun i j=>.bl (decide (i<j))
noncomputable def gLe:=gI (fun _ _=>true) fun i j=>.bl (decide (i<=j))
noncomputable def gGt:=gI (fun _ _=>true) fun i j=>.bl (decide (j<i))
noncomputable def gGe:=gI (fun _ _=>true) fun i j=>.bl (decide (j<=i))
noncomputable def eqS:PV->PV->Option Bool
 |.non,.non=>some true|.non,.int _=>some false|.int _,.non=>some false|.non,.bl _=>some false|.bl _,.non=>some false|.non,.str _=>some false|.str _,.non=>some false
 |.int a,.int b=>some (decide (a=b))|.bl a,.bl b=>some (decide (a=b))|.str a,.str b=>some (decide (a=b))
 |.int _,.str _=>some false|.str _,.int _=>some false|.bl _,.str _=>some false|.str _,.bl _=>some false
 |_,_=>none
noncomputable def gEq:PV->PV->Option RV:=fun x y=>(eqS x y).map fun b=>.sh (.bl b)
noncomputable def gNe:PV->PV->Option RV:=fun x y=>(eqS x y).map fun b=>.sh (.bl (!b))
noncomputable def jn:RV->Option PV
 |.sh x=>some x
 |.fr xs=>some (.lst xs)
 |.al _=>none
noncomputable def aE:ah->OA:=fun _=>.ok []
noncomputable def aj(me:ah->OE)(mr:ah->OA):ah->OA:=fun ρ=>(me ρ).eW fun r=>match jn r with
 |some x=>(mr ρ).eW fun xs=>.ok (x ::xs)
 |none=>.bad
noncomputable def lim:Nat:=16777216
noncomputable def bb(ma:ah->OA):ah->OE:=fun ρ=>(ma ρ).bind fun xs=>if xs.length<=lim then .ok (.fr xs)else .bad
noncomputable def iq(ma:ah->OA):ah->OE:=fun ρ=>(ma ρ).bind fun xs=>if xs.length<=lim then .ok (.sh (.tup xs))else .bad
noncomputable def bE(f:List PV->OE)(ma:ah->OA):ah->OE:=fun ρ=>(ma ρ).bind f
noncomputable def mUn(g:PV->Option RV)(ma:ah->OE):ah->OE:=fun ρ=>(ma ρ).bind fun a=>oE (g a.pv)
noncomputable def pR:PV->Option RV
 |.int i=>some (.sh (.int (-i)))
 |_=>none
noncomputable def eQ:PV->Option RV
 |.lst xs=>some (.sh (.int xs.length))
 |.tup xs=>some (.sh (.int xs.length))
 |_=>none
noncomputable def pX:PV->Option RV
 |.int i=>some (.sh (.int i))
 |.bl b=>some (.sh (.int (if b then 1 else 0)))
 |_=>none
noncomputable def fX:PV->PV->Option RV
 |.lst xs,.int i=>(atP xs i).map .sh
 |_,_=>none
noncomputable def wt:PV->PV->Option RV
 |.tup xs,.int i=>(atP xs i).map .sh
 |_,_=>none
noncomputable def fO:PV->PV->Option RV
 |.lst xs,.lst ys=>if xs.length+ys.length<=lim then some (.fr (xs++ys))else none
 |_,_=>none
noncomputable def pE:List PV->Option (List Int)
 |[]=>some []
 |.int i ::r=>(pE r).map (i ::·)
 |_ ::_=>none
noncomputable def DC:PV->PV->Option Bool
 | .lst xs,.lst ys=>match pE xs,pE ys with
   |some a,some b=>some (decide (a=b))
   |_,_=>none
 |_,_=>none
noncomputable def Dj:PV->PV->Option RV:=fun x y=>(DC x y).map fun b=>.sh (.bl b)
noncomputable def nF:List PV->Option (List Bool)
 |[]=>some []
 |.bl i ::r=>(nF r).map (i ::·)
 |_ ::_=>none
noncomputable def E6:PV->Option RV
 |.lst xs=>(nF xs).map fun bs=>.sh (.bl (bs.all id))
 |_=>none
noncomputable def isP(T:String):PV->Option Bool
 |.int _=>if T = "int" then some true else if T = "bool" \/ T = "list" \/ T = "tuple" \/ T = "str" then some false else none
 |.bl _=>if T = "int" \/ T = "bool" then some true else if T = "list" \/ T = "tuple" \/ T = "str" then some false else none
 |.non=>if T = "int" \/ T = "bool" \/ T = "list" \/ T = "tuple" \/ T = "str" then some false else none
 |.str _=>if T = "str" then some true else if T = "int" \/ T = "bool" \/ T = "list" \/ T = "tuple" then some false else none
 |.lst _=>if T = "list" then some true else if T = "int" \/ T = "bool" \/ T = "tuple" \/ T = "str" then some false else none
 |.tup _=>if T = "tuple" then some true else if T = "int" \/ T = "bool" \/ T = "list" \/ T = "str" then some false else none
noncomputable def mIs(T:String)(ma:ah->OE):ah->OE:=mUn (fun x=>(isP T x).map fun b=>.sh (.bl b)) ma
noncomputable def ka:PV->Option Bool
 |.non=>some false
 |.bl b=>some b
 |.int i=>some (i != 0)
 |.lst xs=>some (!xs.isEmpty)
 |.tup xs=>some (!xs.isEmpty)
 |.str _=>none
noncomputable def oT:Option Bool->OT
 |some b=>.ok b
 |none=>.bad
noncomputable def b4(ma:ah->OE):ah->OT:=fun ρ=>(ma ρ).fw fun r=>oT (ka r.pv)
noncomputable def az(ma:ah->OE):ah->OT:=fun ρ=>(ma ρ).fw fun r=>match r.pv with
 |.bl b=>.ok b
 |_=>.bad
noncomputable def yL(m:ah->OT):ah->OT:=fun ρ=>(m ρ).fw fun b=>.ok (!b)
noncomputable def jF(m n:ah->OT):ah->OT:=fun ρ=>(m ρ).fw fun b=>if b=true then n ρ else .ok false
noncomputable def FK(m n:ah->OT):ah->OT:=fun ρ=>(m ρ).fw fun b=>if b=true then .ok true else n ρ
noncomputable def tI(m n:ah->OE):ah->OE:=fun ρ=>(m ρ).bind fun r=>match r.pv with
 |.bl b=>if b=true then n ρ else .ok (.sh (.bl false))
 |_=>.bad
noncomputable def B3(m:ah->OE):ah->OE:=fun ρ=>(m ρ).bind fun r=>match r.pv with
 |.bl b=>.ok (.sh (.bl (!b)))
 |_=>.bad
noncomputable def ju(c:ah->OT)(m n:ah->OE):ah->OE:=fun ρ=>(c ρ).bind fun b=>if b=true then m ρ else n ρ
noncomputable def kx(g g':PV->PV->Option RV)(ma mb mc:ah->OE):ah->OE:=fun ρ=>(ma ρ).bind fun a=>(mb ρ).bind fun b=>(oE (g a.pv b.pv)).bind fun r=>match r.pv with
 |.bl k=>if k=true then(mc ρ).bind fun c=>oE (g' b.pv c.pv)else .ok (.sh (.bl false))
 |_=>.bad
noncomputable def OS.andThen:OS->(ah->OS)->OS
 |.nx ρ,k=>k ρ
 |o,_=>o
noncomputable def OS.turn:OS->(ah->OS)->OS
 |.nx ρ,k=>k ρ
 |.ct ρ,k=>k ρ
 |.bk ρ,_=>.nx ρ
 |o,_=>o
noncomputable def aK(a b:ah->OS):ah->OS:=fun ρ=>(a ρ).andThen b
noncomputable def aR:ah->OS:=fun ρ=>.nx ρ
noncomputable def BV:RV->Option Sl
 |.sh x=>some (.sh x)
 |.fr xs=>some (.ow xs)
 |.al _=>none
noncomputable def aV(i:Nat)(me:ah->OE):ah->OS:=fun ρ=>(me ρ).cD ρ fun r=>match BV r with
 |some s=>.nx (ρ.set i (some s))
 |none=>.bad
noncomputable def bf(c:ah->OT)(m n:ah->OS):ah->OS:=fun ρ=>(c ρ).cD ρ fun b=>if b=true then m ρ else n ρ
noncomputable def ba(me:ah->OE):ah->OS:=fun ρ=>(me ρ).cD ρ fun r=>match r with
 |.al _=>.bad
 |r=>.rt ρ r
noncomputable def oY(i:Nat):ah->OS:=fun ρ=>match ρ[i]? with
 |some (some (.sh x))=>.rt ρ (.sh x)
 |some (some (.ow xs))=>.rt (ρ.set i none) (.fr xs)
 |_=>.bad
noncomputable def jN(i:Nat)(ρ:ah):ah:=match ρ[i]? with
 |some (some (.ow xs))=>ρ.set i (some (.sh (.lst xs)))
 |_=>ρ
noncomputable def dY(i:Nat)(me:ah->OE):ah->OS:=fun ρ=>match ρ[i]? with
 | some (some (.ow xs))=>(me ρ).cD ρ fun r=>match jn r with
   |some y=>if xs.length<lim then .nx (ρ.set i (some (.ow (xs++[y]))))else .bad
   |none=>.bad
 |_=>.bad
noncomputable def C1(i:Nat)(me:ah->OE):ah->OS:=fun ρ=>match ρ[i]? with
 | some (some (.ow xs))=>(me ρ).cD ρ fun r=>match r with
   |.fr ys=>if xs.length+ys.length<=lim then .nx (ρ.set i (some (.ow (xs++ys))))else .bad
   |_=>.bad
 |_=>.bad
noncomputable def iR(i:Nat)(mb:ah->OS):List PV->ah->OS
 |[],ρ=>.nx ρ
 |x ::xs,ρ=>(mb (ρ.set i (some (.sh x)))).turn (iR i mb xs)
noncomputable def vk:RV->Option (List PV)
 |.sh (.lst xs)=>some xs
 |.fr xs=>some xs
 |_=>none
noncomputable def nU(i:Nat)(ml:ah->OE)(mb:ah->OS):ah->OS:=fun ρ=>(ml ρ).cD ρ fun r=>match vk r with
 |some xs=>iR i mb xs ρ
 |none=>.bad
noncomputable def cO(n:Nat):List PV:=(List.range n).map fun k:Nat=>PV.int (k:Int)
noncomputable def yf(i:Nat)(me:ah->OE)(mb:ah->OS):ah->OS:=fun ρ=>(me ρ).cD ρ fun r=>match r.pv with
 |.int j=>if -(2 ^ 62)<=j /\ j<2 ^ 62 then iR i mb (cO j.toNat) ρ else .bad
 |_=>.bad
noncomputable def dO(mc:ah->OT)(mb:ah->OS):Nat->ah->OS
 |0,_=>.bad
 |n+1,ρ=>(mc ρ).cD ρ fun b=>if b=true then(mb ρ).turn (dO mc mb n)else .nx ρ
noncomputable def j0:PV->Option Int
 |.int i=>some i
 |_=>none
noncomputable def eh(m:ah->OE):ah->OE:=fun ρ=>(m ρ).bind fun r=>match r.pv with
 |.int i=>.ok (.sh (.int i))
 |_=>.bad
noncomputable def qm(xs:List PV)(lo hi:Option Int):List PV:=(xs.drop (sM xs.length 0 lo)).take (sM xs.length xs.length hi - sM xs.length 0 lo)
noncomputable def Gb(x:PV)(lo hi:Option Int):Option RV:=match x with
 |.lst xs=>some (.fr (qm xs lo hi))
 |_=>none
noncomputable def jx(ma ml mh:ah->OE):ah->OE:=fun ρ=>(ma ρ).bind fun a=>(ml ρ).bind fun l=>(mh ρ).bind fun h=>oE (Gb a.pv (j0 l.pv) (j0 h.pv))
noncomputable def cQ(ι:List Nat)(ρ:ah):ah:=ι.map fun i=>(ρ[i]?).join
noncomputable def dg(me:ah->OE)(ρ:ah):List PV->OA
 |[]=>.ok []
 | x ::xs=>(me (ρ++[some (.sh x)])).eW fun r=>match jn r with
   |some y=>(dg me ρ xs).eW fun ys=>.ok (y ::ys)
   |none=>.bad
noncomputable def noX:OA->OE
 |.ok xs=>if xs.length<=lim then .ok (.fr xs)else .bad
 |_=>.bad
noncomputable def rG(ml:ah->OE)(ι:List Nat)(me:ah->OE):ah->OE:=fun ρ=>(ml ρ).bind fun r=>match r.pv with
 |.lst xs=>noX (dg me (cQ ι ρ) xs)
 |_=>.bad
noncomputable def uj(mn:ah->OE)(ι:List Nat)(me:ah->OE):ah->OE:=fun ρ=>(mn ρ).bind fun r=>match r.pv with
 |.int j=>if -(2 ^ 62)<=j /\ j<2 ^ 62 then noX (dg me (cQ ι ρ) (cO j.toNat))else .bad
 |_=>.bad
noncomputable def fin:OS->OE
 |.nx _=>.ok (.sh .non)
 |.rt _ (.al _)=>.bad
 |.rt _ r=>.ok r
 |.exc _ c fs=>.exc c fs
 |_=>.bad
noncomputable def jy(n:Nat)(xs:List PV):ah:=xs.map (fun x=>some (.sh x))++List.replicate (n - xs.length) none
noncomputable def fnP(np n:Nat)(m:ah->OS):List PV->OE:=fun xs=>if xs.length=np then fin (m (jy n xs))else .bad
noncomputable def fuel:Nat:=100000
noncomputable def eR(i:Nat)(m:ah->OS):ah->OS:=fun ρ=>m (jN i ρ)
noncomputable def cu:PV->Bool
 |.non=>true
 |_=>false
noncomputable def vC:PV->PV->Option RV
 |x,.non=>some (.sh (.bl (cu x)))
 |_,_=>none
noncomputable def v9:PV->PV->Option RV
 |x,.non=>some (.sh (.bl (!cu x)))
 |_,_=>none
@[simp] theorem xx(i:Nat)(ρ:ah):ao i ρ=(match ρ[i]? with
  |some (some (.sh x))=>.ok (.sh x)
  |some (some (.ow xs))=>.ok (.al xs)
  |_=>.bad):=rfl
@[simp] theorem Ex(g:PV->PV->Option RV)(ma mb:ah->OE)(ρ:ah):mOp g ma mb ρ=((ma ρ).bind fun a=>(mb ρ).bind fun b=>oE (g a.pv b.pv)):=rfl
@[simp] theorem Iz(me:ah->OE)(mr:ah->OA)(ρ:ah):aj me mr ρ=((me ρ).eW fun r=>match jn r with
  |some x=>(mr ρ).eW fun xs=>.ok (x ::xs)
  |none=>.bad):=rfl
@[simp] theorem JC(ma:ah->OA)(ρ:ah):bb ma ρ=((ma ρ).bind fun xs=>if xs.length<=lim then .ok (.fr xs)else .bad):=rfl
@[simp] theorem Jl(ma:ah->OA)(ρ:ah):iq ma ρ=((ma ρ).bind fun xs=>if xs.length<=lim then .ok (.sh (.tup xs))else .bad):=rfl
@[simp] theorem IP(f:List PV->OE)(ma:ah->OA)(ρ:ah):bE f ma ρ=((ma ρ).bind f):=rfl
@[simp] theorem AQ(g:PV->Option RV)(ma:ah->OE)(ρ:ah):mUn g ma ρ=((ma ρ).bind fun a=>oE (g a.pv)):=rfl
@[simp] theorem He(ma:ah->OE)(ρ:ah):b4 ma ρ=((ma ρ).fw fun r=>oT (ka r.pv)):=rfl
@[simp] theorem IF(ma:ah->OE)(ρ:ah):az ma ρ=((ma ρ).fw fun r=>match r.pv with
  |.bl b=>.ok b
  |_=>.bad):=rfl
@[simp] theorem IS(m:ah->OT)(ρ:ah):yL m ρ=((m ρ).fw fun b=>.ok (!b)):=rfl
@[simp] theorem IH(m n:ah->OT)(ρ:ah):jF m n ρ=((m ρ).fw fun b=>if b=true then n ρ else .ok false):=rfl
@[simp] theorem JY(m n:ah->OT)(ρ:ah):FK m n ρ=((m ρ).fw fun b=>if b=true then .ok true else n ρ):=rfl
@[simp] theorem IE(m n:ah->OE)(ρ:ah):tI m n ρ=((m ρ).bind fun r=>match r.pv with
  |.bl b=>if b=true then n ρ else .ok (.sh (.bl false))
  |_=>.bad):=rfl
@[simp] theorem Iw(m:ah->OE)(ρ:ah):B3 m ρ=((m ρ).bind fun r=>match r.pv with
  |.bl b=>.ok (.sh (.bl (!b)))
  |_=>.bad):=rfl
@[simp] theorem Jb(c:ah->OT)(m n:ah->OE)(ρ:ah):ju c m n ρ=((c ρ).bind fun b=>if b=true then m ρ else n ρ):=rfl
@[simp] theorem Hs(g g':PV->PV->Option RV)(ma mb mc:ah->OE)(ρ:ah):kx g g' ma mb mc ρ=((ma ρ).bind fun a=>(mb ρ).bind fun b=>(oE (g a.pv b.pv)).bind fun r=>match r.pv with
  |.bl k=>if k=true then(mc ρ).bind fun c=>oE (g' b.pv c.pv)else .ok (.sh (.bl false))
  |_=>.bad):=rfl
@[simp] theorem oy(a b:ah->OS)(ρ:ah):aK a b ρ=((a ρ).andThen b):=rfl
@[simp] theorem C2(ρ:ah):aR  ρ=(.nx ρ):=rfl
@[simp] theorem B1(i:Nat)(me:ah->OE)(ρ:ah):aV i me ρ=((me ρ).cD ρ fun r=>match BV r with
  |some s=>.nx (ρ.set i (some s))
  |none=>.bad):=rfl
@[simp] theorem BN(c:ah->OT)(m n:ah->OS)(ρ:ah):bf c m n ρ=((c ρ).cD ρ fun b=>if b=true then m ρ else n ρ):=rfl
@[simp] theorem F0(me:ah->OE)(ρ:ah):ba me ρ=((me ρ).cD ρ fun r=>match r with
  |.al _=>.bad
  |r=>.rt ρ r):=rfl
@[simp] theorem Hb(i:Nat)(ρ:ah):oY i ρ=(match ρ[i]? with
  |some (some (.sh x))=>.rt ρ (.sh x)
  |some (some (.ow xs))=>.rt (ρ.set i none) (.fr xs)
  |_=>.bad):=rfl
@[simp] theorem G5(i:Nat)(me:ah->OE)(ρ:ah):dY i me ρ=(match ρ[i]? with
  | some (some (.ow xs))=>(me ρ).cD ρ fun r=>match jn r with
    |some y=>if xs.length<lim then .nx (ρ.set i (some (.ow (xs++[y]))))else .bad
    |none=>.bad
  |_=>.bad):=rfl
@[simp] theorem G9(i:Nat)(me:ah->OE)(ρ:ah):C1 i me ρ=(match ρ[i]? with
  | some (some (.ow xs))=>(me ρ).cD ρ fun r=>match r with
    |.fr ys=>if xs.length+ys.length<=lim then .nx (ρ.set i (some (.ow (xs++ys))))else .bad
    |_=>.bad
  |_=>.bad):=rfl
@[simp] theorem ID(i:Nat)(ml:ah->OE)(mb:ah->OS)(ρ:ah):nU i ml mb ρ=((ml ρ).cD ρ fun r=>match vk r with
  |some xs=>iR i mb xs ρ
  |none=>.bad):=rfl
@[simp] theorem IZ(i:Nat)(me:ah->OE)(mb:ah->OS)(ρ:ah):yf i me mb ρ=((me ρ).cD ρ fun r=>match r.pv with
  |.int j=>if -(2 ^ 62)<=j /\ j<2 ^ 62 then iR i mb (cO j.toNat) ρ else .bad
  |_=>.bad):=rfl
@[simp] theorem IA(m:ah->OE)(ρ:ah):eh m ρ=((m ρ).bind fun r=>match r.pv with
  |.int i=>.ok (.sh (.int i))
  |_=>.bad):=rfl
@[simp] theorem Jy(ma ml mh:ah->OE)(ρ:ah):jx ma ml mh ρ=((ma ρ).bind fun a=>(ml ρ).bind fun l=>(mh ρ).bind fun h=>oE (Gb a.pv (j0 l.pv) (j0 h.pv))):=rfl
@[simp] theorem HL(ml:ah->OE)(ι:List Nat)(me:ah->OE)(ρ:ah):rG ml ι me ρ=((ml ρ).bind fun r=>match r.pv with
  |.lst xs=>noX (dg me (cQ ι ρ) xs)
  |_=>.bad):=rfl
@[simp] theorem Hf(mn:ah->OE)(ι:List Nat)(me:ah->OE)(ρ:ah):uj mn ι me ρ=((mn ρ).bind fun r=>match r.pv with
  |.int j=>if -(2 ^ 62)<=j /\ j<2 ^ 62 then noX (dg me (cQ ι ρ) (cO j.toNat))else .bad
  |_=>.bad):=rfl
@[simp] theorem G8(i:Nat)(m:ah->OS)(ρ:ah):eR i m ρ=(m (jN i ρ)):=rfl
@[simp] theorem Hi(x:PV)(ρ:ah):mC x ρ=.ok (.sh x):=rfl
@[simp] theorem Kc(ρ:ah):aE ρ=.ok []:=rfl
@[simp] theorem kO(r:RV)(f:RV->OE):OE.bind (.ok r) f=f r:=rfl
@[simp] theorem Gp(c:String)(fs:XF)(f:RV->OE):OE.bind (.exc c fs) f=.exc c fs:=rfl
@[simp] theorem FL{p:Prop}[Decidable p](x y:OE)(f:RV->OE):OE.bind (if p then x else y) f=if p then OE.bind x f else OE.bind y f:=by split<;>rfl
@[simp] theorem E5(r:RV)(f:RV->OT):OE.fw (.ok r) f=f r:=rfl
@[simp] theorem Ee(c:String)(fs:XF)(f:RV->OT):OE.fw (.exc c fs) f=.exc c fs:=rfl
@[simp] theorem ED{p:Prop}[Decidable p](x y:OE)(f:RV->OT):OE.fw (if p then x else y) f=if p then OE.fw x f else OE.fw y f:=by split<;>rfl
@[simp] theorem xZ(r:RV)(f:RV->OA):OE.eW (.ok r) f=f r:=rfl
@[simp] theorem EB(c:String)(fs:XF)(f:RV->OA):OE.eW (.exc c fs) f=.exc c fs:=rfl
@[simp] theorem EG{p:Prop}[Decidable p](x y:OE)(f:RV->OA):OE.eW (if p then x else y) f=if p then OE.eW x f else OE.eW y f:=by split<;>rfl
@[simp] theorem Ha(r:Bool)(f:Bool->OE):OT.bind (.ok r) f=f r:=rfl
@[simp] theorem E9(c:String)(fs:XF)(f:Bool->OE):OT.bind (.exc c fs) f=.exc c fs:=rfl
@[simp] theorem F7{p:Prop}[Decidable p](x y:OT)(f:Bool->OE):OT.bind (if p then x else y) f=if p then OT.bind x f else OT.bind y f:=by split<;>rfl
@[simp] theorem Fe(r:Bool)(f:Bool->OT):OT.fw (.ok r) f=f r:=rfl
@[simp] theorem DY(c:String)(fs:XF)(f:Bool->OT):OT.fw (.exc c fs) f=.exc c fs:=rfl
@[simp] theorem DZ{p:Prop}[Decidable p](x y:OT)(f:Bool->OT):OT.fw (if p then x else y) f=if p then OT.fw x f else OT.fw y f:=by split<;>rfl
@[simp] theorem G6(r:List PV)(f:List PV->OE):OA.bind (.ok r) f=f r:=rfl
@[simp] theorem G0(c:String)(fs:XF)(f:List PV->OE):OA.bind (.exc c fs) f=.exc c fs:=rfl
@[simp] theorem Gy{p:Prop}[Decidable p](x y:OA)(f:List PV->OE):OA.bind (if p then x else y) f=if p then OA.bind x f else OA.bind y f:=by split<;>rfl
@[simp] theorem FV(r:List PV)(f:List PV->OA):OA.eW (.ok r) f=f r:=rfl
@[simp] theorem DR(c:String)(fs:XF)(f:List PV->OA):OA.eW (.exc c fs) f=.exc c fs:=rfl
@[simp] theorem Eg{p:Prop}[Decidable p](x y:OA)(f:List PV->OA):OA.eW (if p then x else y) f=if p then OA.eW x f else OA.eW y f:=by split<;>rfl
@[simp] theorem jV(ρ:ah)(r:RV)(f:RV->OS):OE.cD ρ (.ok r) f=f r:=rfl
@[simp] theorem D2(ρ:ah)(c:String)(fs:XF)(f:RV->OS):OE.cD ρ (.exc c fs) f=.exc ρ c fs:=rfl
@[simp] theorem DT{p:Prop}[Decidable p](ρ:ah)(x y:OE)(f:RV->OS):OE.cD ρ (if p then x else y) f=if p then OE.cD ρ x f else OE.cD ρ y f:=by split<;>rfl
@[simp] theorem j1(ρ:ah)(r:Bool)(f:Bool->OS):OT.cD ρ (.ok r) f=f r:=rfl
@[simp] theorem Es(ρ:ah)(c:String)(fs:XF)(f:Bool->OS):OT.cD ρ (.exc c fs) f=.exc ρ c fs:=rfl
@[simp] theorem El{p:Prop}[Decidable p](ρ:ah)(x y:OT)(f:Bool->OS):OT.cD ρ (if p then x else y) f=if p then OT.cD ρ x f else OT.cD ρ y f:=by split<;>rfl
@[simp] theorem E3(ρ:ah)(r:List PV)(f:List PV->OS):OA.cD ρ (.ok r) f=f r:=rfl
@[simp] theorem EC(ρ:ah)(c:String)(fs:XF)(f:List PV->OS):OA.cD ρ (.exc c fs) f=.exc ρ c fs:=rfl
@[simp] theorem DV{p:Prop}[Decidable p](ρ:ah)(x y:OA)(f:List PV->OS):OA.cD ρ (if p then x else y) f=if p then OA.cD ρ x f else OA.cD ρ y f:=by split<;>rfl
@[simp] theorem jX(ρ:ah)(k:ah->OS):(OS.nx ρ).andThen k=k ρ:=rfl
@[simp] theorem o4(ρ:ah)(k:ah->OS):(OS.nx ρ).turn k=k ρ:=rfl
@[simp] theorem FY(ρ:ah)(k:ah->OS):(OS.bk ρ).andThen k=OS.bk ρ:=rfl
@[simp] theorem IM(ρ:ah)(k:ah->OS):(OS.bk ρ).turn k=.nx ρ:=rfl
@[simp] theorem FI(ρ:ah)(k:ah->OS):(OS.ct ρ).andThen k=OS.ct ρ:=rfl
@[simp] theorem IK(ρ:ah)(k:ah->OS):(OS.ct ρ).turn k=k ρ:=rfl
@[simp] theorem si(ρ:ah)(r:RV)(k:ah->OS):(OS.rt ρ r).andThen k=OS.rt ρ r:=rfl
@[simp] theorem yk(ρ:ah)(r:RV)(k:ah->OS):(OS.rt ρ r).turn k=OS.rt ρ r:=rfl
@[simp] theorem Ef(ρ:ah)(c:String)(fs:XF)(k:ah->OS):(OS.exc ρ c fs).andThen k=OS.exc ρ c fs:=rfl
@[simp] theorem HY(ρ:ah)(c:String)(fs:XF)(k:ah->OS):(OS.exc ρ c fs).turn k=OS.exc ρ c fs:=rfl
@[simp] theorem Eb{p:Prop}[Decidable p](x y:OS)(k:ah->OS):OS.andThen (if p then x else y) k=if p then x.andThen k else y.andThen k:=by split<;>rfl
@[simp] theorem HJ{p:Prop}[Decidable p](x y:OS)(k:ah->OS):OS.turn (if p then x else y) k=if p then x.turn k else y.turn k:=by split<;>rfl
@[simp] theorem Jf(ρ:ah):fin (.nx ρ)=.ok (.sh .non):=rfl
@[simp] theorem Jm(ρ:ah)(x:PV):fin (.rt ρ (.sh x))=.ok (.sh x):=rfl
@[simp] theorem Jt(ρ:ah)(x:List PV):fin (.rt ρ (.fr x))=.ok (.fr x):=rfl
@[simp] theorem I0(ρ:ah)(c:String)(fs:XF):fin (.exc ρ c fs)=.exc c fs:=rfl
@[simp] theorem IQ{p:Prop}[Decidable p](x y:OS):fin (if p then x else y)=if p then fin x else fin y:=by split<;>rfl
@[simp] theorem Kw(x:PV):RV.pv (.sh x)=x:=rfl
@[simp] theorem D5(x:List PV):RV.pv (.fr x)=.lst x:=rfl
@[simp] theorem Et(x:List PV):RV.pv (.al x)=.lst x:=rfl
@[simp] theorem nr(r:RV):oE (some r)=.ok r:=rfl
@[simp] theorem IV(r:Bool):oT (some r)=.ok r:=rfl
@[simp] theorem Hc(i:Nat)(mb:ah->OS)(ρ:ah):iR i mb [] ρ=.nx ρ:=rfl
@[simp] theorem j4(i:Nat)(mb:ah->OS)(x:PV)(xs:List PV)(ρ:ah):iR i mb (x ::xs) ρ=(mb (ρ.set i (some (.sh x)))).turn (iR i mb xs):=rfl
@[simp] theorem Jx(i j:Int):du (.int i) (.int j)=some (.sh (.int (i+j))):=rfl
@[simp] theorem JL(i j:Int):ly (.int i) (.int j)=some (.sh (.int (i - j))):=rfl
@[simp] theorem Js(i j:Int):wY (.int i) (.int j)=if((decide (-(2 ^ 64)<i)&&decide (i<2 ^ 64))||(decide (-(2 ^ 64)<j)&&decide (j<2 ^ 64)))=true then some (.sh (.int (i*j)))else none:=rfl
@[simp] theorem Ji(i j:Int):fB (.int i) (.int j)=if(decide (0<j)&&decide (j<1073741824))=true then some (.sh (.int (i/j)))else none:=rfl
@[simp] theorem JI(i j:Int):cN (.int i) (.int j)=if decide (0<j)=true then some (.sh (.int (i%j)))else none:=rfl
@[simp] theorem Kk(i j:Int):gLt (.int i) (.int j)=some (.sh (.bl (decide (i<j)))):=rfl
@[simp] theorem Km(i j:Int):gLe (.int i) (.int j)=some (.sh (.bl (decide (i<=j)))):=rfl
@[simp] theorem KD(i j:Int):gGt (.int i) (.int j)=some (.sh (.bl (decide (j<i)))):=rfl
@[simp] theorem Kp(i j:Int):gGe (.int i) (.int j)=some (.sh (.bl (decide (j<=i)))):=rfl
@[simp] theorem Kj(i j:Int):gEq (.int i) (.int j)=some (.sh (.bl (decide (i=j)))):=rfl
@[simp] theorem Ks(i j:Int):gNe (.int i) (.int j)=some (.sh (.bl (!decide (i=j)))):=rfl
@[simp] theorem Ko(i j:Bool):gEq (.bl i) (.bl j)=some (.sh (.bl (decide (i=j)))):=rfl
@[simp] theorem Ky(i j:Bool):gNe (.bl i) (.bl j)=some (.sh (.bl (!decide (i=j)))):=rfl
@[simp] theorem rD(xs:List PV):eQ (.lst xs)=some (.sh (.int xs.length)):=rfl
@[simp] theorem JN(xs:List PV):eQ (.tup xs)=some (.sh (.int xs.length)):=rfl
@[simp] theorem Jk(xs:List PV)(i:Int):fX (.lst xs) (.int i)=(atP xs i).map .sh:=rfl
@[simp] theorem Je(xs:List PV)(i:Int):wt (.tup xs) (.int i)=(atP xs i).map .sh:=rfl
@[simp] theorem Gm(xs ys:List PV):fO (.lst xs) (.lst ys)=if xs.length+ys.length<=lim then some (.fr (xs++ys))else none:=rfl
@[simp] theorem JK{p:Prop}[Decidable p](x y:Option RV):oE (if p then x else y)=if p then oE x else oE y:=by split<;>rfl
@[simp] theorem JG(b:Bool):ka (.bl b)=some b:=rfl
@[simp] theorem Jc(i:Int):ka (.int i)=some (i != 0):=rfl
@[simp] theorem Ju(xs:List PV):ka (.lst xs)=some (!xs.isEmpty):=rfl
@[simp] theorem JJ(xs:List PV):ka (.tup xs)=some (!xs.isEmpty):=rfl
@[simp] theorem Jq:ka .non=some false:=rfl
@[simp] theorem G4(i:Int):isP "int" (.int i)=some true:=rfl
@[simp] theorem GA(i:Int):isP "bool" (.int i)=some false:=rfl
@[simp] theorem Fg(i:Bool):isP "bool" (.bl i)=some true:=rfl
@[simp] theorem EY(xs:List PV):isP "list" (.lst xs)=some true:=rfl
@[simp] theorem Jw(xs:List PV)(lo hi:Option Int):Gb (.lst xs) lo hi=some (.fr (qm xs lo hi)):=rfl
@[simp] theorem IL:j0 .non=none:=rfl
@[simp] theorem IU(i:Int):j0 (.int i)=some i:=rfl
@[simp] theorem Kb(i:Int):pR (.int i)=some (.sh (.int (-i))):=rfl
@[simp] theorem Ja(i:Int):pX (.int i)=some (.sh (.int i)):=rfl
@[simp] theorem IG(i:Bool):pX (.bl i)=some (.sh (.int (if i then 1 else 0))):=rfl
@[simp] theorem IJ(x:PV):jn (.sh x)=some x:=rfl
@[simp] theorem I8(x:List PV):jn (.fr x)=some (.lst x):=rfl
@[simp] theorem Iv(x:PV):BV (.sh x)=some (.sh x):=rfl
@[simp] theorem CC(x:List PV):BV (.fr x)=some (.ow x):=rfl
@[simp] theorem Au(np n:Nat)(m:ah->OS)(xs:List PV):fnP np n m xs=if xs.length=np then fin (m (jy n xs))else .bad:=rfl
@[simp] theorem qM(n:Nat)(xs:List PV):jy n xs=xs.map (fun x=>some (.sh x))++List.replicate (n - xs.length) none:=rfl
@[simp] theorem Gq(xs:List PV):vk (.sh (.lst xs))=some xs:=rfl
@[simp] theorem IW(xs:List PV):vk (.fr xs)=some xs:=rfl
@[simp] theorem Jv(x:PV):vC x .non=some (.sh (.bl (cu x))):=rfl
@[simp] theorem I9(x:PV):v9 x .non=some (.sh (.bl (!cu x))):=rfl
@[simp] theorem Fz(xs:List PV):noX (.ok xs)=if xs.length<=lim then .ok (.fr xs)else .bad:=rfl
@[simp] theorem FG(me:ah->OE)(ρ:ah):dg me ρ []=.ok []:=rfl
@[simp] theorem Gu(f:RV->OE):OE.bind .bad f=.bad:=rfl
@[simp] theorem D9(f:RV->OT):OE.fw .bad f=.bad:=rfl
@[simp] theorem DX(f:RV->OA):OE.eW .bad f=.bad:=rfl
@[simp] theorem Gj(f:Bool->OE):OT.bind .bad f=.bad:=rfl
@[simp] theorem Ep(f:Bool->OT):OT.fw .bad f=.bad:=rfl
@[simp] theorem EW(f:List PV->OE):OA.bind .bad f=.bad:=rfl
@[simp] theorem Eu(f:List PV->OA):OA.eW .bad f=.bad:=rfl
@[simp] theorem DS(ρ:ah)(f:RV->OS):OE.cD ρ .bad f=.bad:=rfl
@[simp] theorem EF(ρ:ah)(f:Bool->OS):OT.cD ρ .bad f=.bad:=rfl
@[simp] theorem Ej(ρ:ah)(f:List PV->OS):OA.cD ρ .bad f=.bad:=rfl
@[simp] theorem D6(k:ah->OS):OS.bad.andThen k=.bad:=rfl
@[simp] theorem HQ(k:ah->OS):OS.bad.turn k=.bad:=rfl
@[simp] theorem Iy:fin .bad=.bad:=rfl
@[simp] theorem IY:oE none=.bad:=rfl
@[simp] theorem IT:oT none=.bad:=rfl
@[simp] theorem IC(x:List PV):jn (.al x)=none:=rfl
@[simp] theorem IB(x:List PV):BV (.al x)=none:=rfl
@[simp] theorem KC:(0<=lim)=True:=by simp[lim]
@[simp] theorem Kh:(1<=lim)=True:=by simp[lim]
@[simp] theorem Kn:(2<=lim)=True:=by simp[lim]
@[simp] theorem Kv:(3<=lim)=True:=by simp[lim]
@[simp] theorem Kq:(4<=lim)=True:=by simp[lim]
@[simp] theorem Kl:(5<=lim)=True:=by simp[lim]
@[simp] theorem Kr:(6<=lim)=True:=by simp[lim]
@[simp] theorem KA:(7<=lim)=True:=by simp[lim]
@[simp] theorem Ki:(8<=lim)=True:=by simp[lim]
@[simp] theorem Kx:(9<=lim)=True:=by simp[lim]
@[simp] theorem Jz:(10<=lim)=True:=by simp[lim]
@[simp] theorem JF:(11<=lim)=True:=by simp[lim]
@[simp] theorem JB:(12<=lim)=True:=by simp[lim]
@[simp] theorem Kf:(13<=lim)=True:=by simp[lim]
@[simp] theorem JH:(14<=lim)=True:=by simp[lim]
@[simp] theorem Jn:(15<=lim)=True:=by simp[lim]
@[simp] theorem Jj:(16<=lim)=True:=by simp[lim]
theorem cI{n:Nat}(h:n<=1000000):n<=lim:=by unfold lim;omega
theorem pw{n:Nat}(h:n<=1000000):n<lim:=by unfold lim;omega
theorem jO{α:Type}(xs:List α)(k:Nat):atP xs (k:Int)=xs[k]?:=by
 unfold atP ixP
 by_cases h:k<xs.length
 . simp[h]
 . simp[h]
@[simp] theorem Kt{α:Type}(xs:List α):atP xs 0=xs[0]?:=jO xs 0
@[simp] theorem Ku{α:Type}(xs:List α):atP xs 1=xs[1]?:=jO xs 1
@[simp] theorem II{α:Type}(xs:List α)(n:Nat):atP xs (no_index (OfNat.ofNat n:Int))=xs[n]?:=jO xs n
theorem AM{α:Type}(xs:List α)(i:Int)(h:0<=i):atP xs i=xs[i.toNat]?:=by
 have:=jO xs i.toNat
 rwa [Int.toNat_of_nonneg h]at this
@[simp] theorem Kz(T:String)(ma:ah->OE)(ρ:ah):mIs T ma ρ=(ma ρ).bind fun a=>oE ((isP T a.pv).map fun b=>.sh (.bl b)):=rfl
@[simp] theorem EM(ns:List Int):pE (ns.map .int)=some ns:=by
  induction ns with
  |nil=>rfl
  |cons n ns ih=>show(pE (ns.map .int)).map (n ::·)=_;rw[ih];rfl
@[simp] theorem vO(ns:List Bool):nF (ns.map .bl)=some ns:=by
  induction ns with
  |nil=>rfl
  |cons n ns ih=>show(nF (ns.map .bl)).map (n ::·)=_;rw[ih];rfl
@[simp] theorem Gr(n:Nat):(cO n).length=n:=by simp[cO]
theorem nG{me:ah->OE}{ρ:ah}{α:Type}{g:α->PV}{f:α->PV}(l:List α)(h:∀ a∈l,me (ρ++[some (.sh (g a))])=.ok (.sh (f a))):dg me ρ (l.map g)=.ok (l.map f):=by
 induction l with
 |nil=>rfl
 | cons a l ih=>
   have h1:=h a (List.mem_cons_self)
   have h2:=ih fun b hb=>h b (List.mem_cons_of_mem _ hb)
   simp[dg,h1,h2]
noncomputable def wK(ma mb:ah->OE):ah->OE:=fun ρ=>(ma ρ).bind fun a=>(mb ρ).bind fun b=>match a,b.pv with
 |.fr xs,.int k=>if(-(2 ^ 63)<=k /\ k<2 ^ 63) /\ xs.length*k.toNat<=lim then .ok (.fr (List.replicate k.toNat xs).flatten)else .bad
 |_,_=>.bad
@[simp] theorem JW(ma mb:ah->OE)(ρ:ah):wK ma mb ρ=(ma ρ).bind fun a=>(mb ρ).bind fun b=>match a,b.pv with
  |.fr xs,.int k=>if(-(2 ^ 63)<=k /\ k<2 ^ 63) /\ xs.length*k.toNat<=lim then .ok (.fr (List.replicate k.toNat xs).flatten)else .bad
  |_,_=>.bad:=rfl
end L2.P
namespace L2.P
open PySem PySem.Spec PyProof.Rows L2 L2.E
mutual
noncomputable def Rep(K:PySem.W.Frag)(S:Hp):PV->V->Prop
 |.non,v=>v=.non
 |.bl b,v=>v=.bl b
 |.int i,v=>v=.int i
 |.str s,v=>v=.str s
 |.lst xs,v=>∃ p vs,v=.ref p /\ SqL K S p vs /\ bj K S xs vs
 |.tup xs,v=>∃ p vs,v=.ref p /\ SqT K S p vs /\ bj K S xs vs
noncomputable def bj(K:PySem.W.Frag)(S:Hp):List PV->List V->Prop
 |[],vs=>vs=[]
 |x ::xs,vs=>∃ v r,vs=v ::r /\ Rep K S x v /\ bj K S xs r
end
theorem _root_.L2.aH.tup{K:PySem.W.Frag}(e:aH H H')(h:SqT K H a xs):SqT K H' a xs:=by
 rcases h with(h|⟨o,h⟩)|h
 . exact .inl (.inl (e _ _ h))
 . exact .inl (.inr ⟨o,e _ _ h⟩)
 . exact .inr h
section
variable{K:PySem.W.Frag}{S S':Hp}
mutual
theorem Rep.mono(s:aH S S'):∀{x:PV} {v:V},Rep K S x v->Rep K S' x v
 |.non,_,h=>by unfold Rep at h ⊢;exact h
 |.bl _,_,h=>by unfold Rep at h ⊢;exact h
 |.int _,_,h=>by unfold Rep at h ⊢;exact h
 |.str _,_,h=>by unfold Rep at h ⊢;exact h
 | .lst _,_,h=>by
   unfold Rep at h ⊢
   obtain⟨p,vs,e,q,r⟩:=h
   exact⟨p,vs,e,aH.seq s q,bj.mono s r⟩
 | .tup _,_,h=>by
   unfold Rep at h ⊢
   obtain⟨p,vs,e,q,r⟩:=h
   exact⟨p,vs,e,aH.tup s q,bj.mono s r⟩
theorem bj.mono(s:aH S S'):∀{xs:List PV} {vs:List V},bj K S xs vs->bj K S' xs vs
 |[],_,h=>by unfold bj at h ⊢;exact h
 | _ ::_,_,h=>by
   unfold bj at h ⊢
   obtain⟨v,r,e,q,t⟩:=h
   exact⟨v,r,e,Rep.mono s q,bj.mono s t⟩
end
theorem bj.nil:bj K S [] []:=by unfold bj;rfl
theorem bj.cons(h:Rep K S x v)(t:bj K S xs vs):bj K S (x ::xs) (v ::vs):=by unfold bj;exact⟨v,vs,rfl,h,t⟩
theorem bj.nil_inv(h:bj K S [] vs):vs=[]:=by unfold bj at h;exact h
theorem bj.cons_inv(h:bj K S (x ::xs) vs):∃ v r,vs=v ::r /\ Rep K S x v /\ bj K S xs r:=by unfold bj at h;exact h
theorem bj.append(h:bj K S xs vs)(t:bj K S ys us):bj K S (xs++ys) (vs++us):=by
 induction xs generalizing vs with
 |nil=>rw[h.nil_inv];exact t
 | cons x xs ih=>
   obtain⟨v,r,rfl,q,h'⟩:=h.cons_inv;exact .cons q (ih h')
theorem bj.length{xs:List PV}{vs:List V}(h:bj K S xs vs):vs.length=xs.length:=by
 induction xs generalizing vs with
 |nil=>rw[h.nil_inv];rfl
 | cons x xs ih=>
   obtain⟨v,r,rfl,q,h'⟩:=h.cons_inv;simp[ih h']
theorem bj.get(h:bj K S xs vs):∀{i:Nat} {x:PV},xs[i]?=some x->∃ v,vs[i]?=some v /\ Rep K S x v:=by
 induction xs generalizing vs with
 |nil=>intro i x e;simp at e
 | cons y xs ih=>
   obtain⟨v,r,rfl,q,h'⟩:=h.cons_inv;intro i x e
   cases i with
   |zero=>simp at e;subst e;exact⟨v,rfl,q⟩
   |succ i=>simp at e;obtain⟨u,e1,e2⟩:=ih h' e;exact⟨u,by simpa using e1,e2⟩
theorem bj.Hq{xs:List PV}{vs:List V}(h:bj K S xs vs){i:Nat}{v:V}(e:vs[i]?=some v):∃ x,xs[i]?=some x /\ Rep K S x v:=by
 have hi:i<xs.length:=by rw[<- h.length];exact(List.getElem?_eq_some_iff.mp e).1
 obtain⟨u,e1,e2⟩:=h.get (i:=i) (x:=xs[i]) (by simp[hi]);rw[e]at e1;cases e1
 exact⟨_,by simp[hi],e2⟩
theorem bj.take{xs:List PV}{vs:List V}(h:bj K S xs vs):∀ n,bj K S (xs.take n) (vs.take n):=by
 induction xs generalizing vs with
 |nil=>intro n;rw[h.nil_inv];simpa using bj.nil
 | cons y xs ih=>
   obtain⟨v,r,rfl,q,h'⟩:=h.cons_inv;intro n
   cases n with
   |zero=>exact .nil
   |succ n=>exact .cons q (ih h' n)
theorem bj.drop{xs:List PV}{vs:List V}(h:bj K S xs vs):∀ n,bj K S (xs.drop n) (vs.drop n):=by
 induction xs generalizing vs with
 |nil=>intro n;rw[h.nil_inv];simpa using bj.nil
 | cons y xs ih=>
   obtain⟨v,r,rfl,q,h'⟩:=h.cons_inv;intro n
   cases n with
   |zero=>exact .cons q h'
   |succ n=>exact ih h' n
theorem bj.ints{ns:List Int}:bj K S (ns.map .int) (ns.map V.int):=by
 induction ns with
 |nil=>exact .nil
 |cons n ns ih=>exact .cons (by unfold Rep;rfl) ih
theorem bj.v7{ns:List Int}(h:bj K S (ns.map .int) vs):vs=ns.map V.int:=by
 induction ns generalizing vs with
 |nil=>exact h.nil_inv
 | cons n ns ih=>
   obtain⟨v,r,rfl,q,h'⟩:=h.cons_inv;unfold Rep at q;rw[ih h',q];rfl
end
noncomputable def nM(K:PySem.W.Frag)(cls:String->Option Addr)(S H:Hp)(c:String)(fs:XF)(a C:Addr):Prop:=
 cls c=some C /\ ∃ dx,H a=some (wI a C dx) /\ (fs=[] \/ ∃ d us,dx=some d /\ H d=some (.xd us) /\ fs.map (·.1)=us.map (·.1) /\ bj K S (fs.map (·.2)) (us.map (·.2)))
noncomputable def isX:HO->Bool
 |.ext _=>true
 |.xd _=>true
 |_=>false
noncomputable def sI(K:PySem.W.Frag)(S:Hp)(kvs:List (Int×PV))(us:List (Key×V)):Prop:=Paired (fun (p:Int×PV) (q:Key×V)=>q.1=Sum.inl p.1 /\ Rep K S p.2 q.2) kvs us
noncomputable def vY(K:PySem.W.Frag)(S:Hp)(kvs:List (List Int×PV))(us:List (List Key×V)):Prop:=Paired (fun (p:List Int×PV) (q:List Key×V)=>q.1=p.1.map Sum.inl /\ Rep K S p.2 q.2) kvs us
theorem sI.mono{K:PySem.W.Frag}(s:aH S S'):∀{kvs:List (Int×PV)} {us:List (Key×V)},sI K S kvs us->sI K S' kvs us
 |_,_,.nil=>.nil
 |_,_,.cons h t=>.cons ⟨h.1,Rep.mono s h.2⟩ (sI.mono s t)
theorem vY.mono{K:PySem.W.Frag}(s:aH S S'):∀{kvs:List (List Int×PV)} {us:List (List Key×V)},vY K S kvs us->vY K S' kvs us
 |_,_,.nil=>.nil
 |_,_,.cons h t=>.cons ⟨h.1,Rep.mono s h.2⟩ (vY.mono s t)
mutual
noncomputable def bu(K:PySem.W.Frag)(cls:String->Option Addr)(S H:Hp):OV->V->List Addr->Prop
 |.sh x,v,fp=>fp=[] /\ Rep K S x v
 |.ol ts,v,fp=>∃ p vs f,v=.ref p /\ H p=some (.lst vs) /\ fp=p ::f /\ bD K cls S H ts vs f
 |.ob c ks ts,v,fp=>∃ p C dx us f,v=.ref p /\ cls c=some C /\ H p=some (.ins C dx us) /\ H dx=some (.own p) /\ us.map (·.1)=ks /\ fp=p ::dx ::f /\ bD K cls S H ts (us.map (·.2)) f
 |.di kvs,v,fp=>∃ p us,v=.ref p /\ H p=some (.dK us) /\ fp=[p] /\ sI K S kvs us
 |.dt kvs,v,fp=>∃ p us,v=.ref p /\ H p=some (.dT us) /\ fp=[p] /\ vY K S kvs us
noncomputable def bD(K:PySem.W.Frag)(cls:String->Option Addr)(S H:Hp):List OV->List V->List Addr->Prop
 |[],vs,fp=>vs=[] /\ fp=[]
 |t ::ts,vs,fp=>∃ v r f1 f2,vs=v ::r /\ fp=f1++f2 /\ bu K cls S H t v f1 /\ bD K cls S H ts r f2
end
noncomputable def qq(K:PySem.W.Frag)(cls:String->Option Addr)(Av G S H:Hp)(i:Nat):Sl->V->List Addr->Prop
 |.sh x,v,fp=>fp=[] /\ Rep K S x v
 |.ow xs,v,fp=>∃ p vs,v=.ref p /\ fp=[p] /\ G p=none /\ S p=none /\ H p=some (.lst vs) /\ bj K S xs vs
 |.ex c fs,v,fp=>fp=[] /\ ∃ a C,v=.ref a /\ nM K cls S H c fs a C
 |.tr io t,v,fp=>bu K cls S H t v fp /\ fp.Nodup /\ (∀ a∈fp,G a=none /\ S a=none) /\ (io=true->Av i=some (.lst [v]))
 |.bo t,v,fp=>fp=[] /\ ∃ f,bu K cls S G t v f
noncomputable def Em(K:PySem.W.Frag)(cls:String->Option Addr)(G S H:Hp):Sl->V->Prop
 |.sh x,v=>Rep K S x v
 |.ow xs,v=>∃ p vs,v=.ref p /\ G p=none /\ S p=none /\ H p=some (.lst vs) /\ bj K S xs vs
 |.ex c fs,v=>∃ a C,v=.ref a /\ nM K cls S H c fs a C
 |_,_=>True
noncomputable def kM(K:PySem.W.Frag)(B S H:Hp):RV->V->Prop
 |.sh x,v=>Rep K S x v
 |.fr xs,v=>∃ p vs,v=.ref p /\ B p=none /\ S p=none /\ H p=some (.lst vs) /\ bj K S xs vs
 |.al xs,v=>∃ p vs,v=.ref p /\ SqL K H p vs /\ bj K S xs vs
noncomputable def RdV(K:PySem.W.Frag)(S H:Hp):PV->V->Prop
 |.lst xs,v=>∃ p vs,v=.ref p /\ SqL K H p vs /\ bj K S xs vs
 |x,v=>Rep K S x v
structure SRF(K:PySem.W.Frag)(cls:String->Option Addr)(Av G S₀:Hp)(ρ:ah)(σ:St)(S H:Hp)(F:Nat->List Addr):Prop where
 gh:aH G H
 s0:aH S₀ S
 sh:aH S H
 new:∀ b,S b≠none->S₀ b≠none \/ G b=none
 own:∀(i:Nat) (s:Sl),ρ[i]?=some (some s)->∃ v,σ[i]?=some (some v) /\ qq K cls Av G S H i s v (F i)
 apart:∀ i j a,a∈F i->a∈F j->i=j
 live:∀ i a,a∈F i->(∃ o,H a=some o /\ isX o=false) /\ G a=none /\ S a=none
 len:ρ.length=σ.length
noncomputable def SR(K:PySem.W.Frag)(cls:String->Option Addr)(Av G S₀:Hp)(ρ:ah)(σ:St)(S H:Hp):Prop:=∃ F,SRF K cls Av G S₀ ρ σ S H F
section
variable{K:PySem.W.Frag}{cls:String->Option Addr}{Av G S₀ S S' H H' B:Hp}{ρ:ah}{σ:St}{F:Nat->List Addr}
theorem SR.gh(I:SR K cls Av G S₀ ρ σ S H):aH G H:=let ⟨_,J⟩:=I;J.gh
theorem SR.s0(I:SR K cls Av G S₀ ρ σ S H):aH S₀ S:=let ⟨_,J⟩:=I;J.s0
theorem SR.sh(I:SR K cls Av G S₀ ρ σ S H):aH S H:=let ⟨_,J⟩:=I;J.sh
theorem SR.new(I:SR K cls Av G S₀ ρ σ S H):∀ b,S b≠none->S₀ b≠none \/ G b=none:=let ⟨_,J⟩:=I;J.new
theorem SR.len(I:SR K cls Av G S₀ ρ σ S H):ρ.length=σ.length:=let ⟨_,J⟩:=I;J.len
theorem qq.one(h:qq K cls Av G S H i s v fp):Em K cls G S H s v:=by
 cases s with
 |sh x=>exact h.2
 |ow xs=>obtain⟨p,vs,e,_,r⟩:=h;exact⟨p,vs,e,r⟩
 |ex c fs=>exact h.2
 |tr io t=>trivial
 |bo t=>trivial
theorem SR.good(I:SR K cls Av G S₀ ρ σ S H)(i:Nat)(s:Sl)(e:ρ[i]?=some (some s)):∃ v,σ[i]?=some (some v) /\ Em K cls G S H s v:=by
 obtain⟨F,J⟩:=I;obtain⟨v,e1,r⟩:=J.own i s e
 exact⟨v,e1,r.one⟩
theorem nM.mono(h:nM K cls S H c fs a C)(s:aH S S')(g:aH H H'):nM K cls S' H' c fs a C:=by
 obtain⟨h1,dx,h2,h3⟩:=h
 refine⟨h1,dx,g _ _ h2,?_⟩
 rcases h3 with h3|⟨d,us,e1,e2,e3,e4⟩
 . exact .inl h3
 . exact .inr ⟨d,us,e1,g _ _ e2,e3,e4.mono s⟩
theorem nM.Hd(h:nM K cls S H c fs a C)(s:aH S S')(g:∀ b o,isX o=true->H b=some o->H' b=some o):nM K cls S' H' c fs a C:=by
 obtain⟨h1,dx,h2,h3⟩:=h
 refine⟨h1,dx,g _ _ rfl h2,?_⟩
 rcases h3 with h3|⟨d,us,e1,e2,e3,e4⟩
 . exact .inl h3
 . exact .inr ⟨d,us,e1,g _ _ rfl e2,e3,e4.mono s⟩
mutual
theorem bu.mono(s:aH S S'):∀{t:OV} {v:V} {fp:List Addr},bu K cls S H t v fp->(∀ a∈fp,∀ o,H a=some o->H' a=some o)->bu K cls S' H' t v fp
 |.sh _,_,_,h,_=>by unfold bu at h ⊢;exact⟨h.1,Rep.mono s h.2⟩
 | .ol _,_,_,h,g=>by
   unfold bu at h ⊢
   obtain⟨p,vs,f,e,q,e2,r⟩:=h;subst e2
   exact⟨p,vs,f,e,g p (by simp) _ q,rfl,bD.mono s r fun a ha=>g a (by simp[ha])⟩
 | .ob _ _ _,_,_,h,g=>by
   unfold bu at h ⊢
   obtain⟨p,C,dx,us,f,e,c,q,q2,k,e2,r⟩:=h;subst e2
   exact⟨p,C,dx,us,f,e,c,g p (by simp) _ q,g dx (by simp) _ q2,k,rfl,bD.mono s r fun a ha=>g a (by simp[ha])⟩
 | .di _,_,_,h,g=>by
   unfold bu at h ⊢
   obtain⟨p,us,e,q,e2,r⟩:=h;subst e2
   exact⟨p,us,e,g p (by simp) _ q,rfl,r.mono s⟩
 | .dt _,_,_,h,g=>by
   unfold bu at h ⊢
   obtain⟨p,us,e,q,e2,r⟩:=h;subst e2
   exact⟨p,us,e,g p (by simp) _ q,rfl,r.mono s⟩
theorem bD.mono(s:aH S S'):∀{ts:List OV} {vs:List V} {fp:List Addr},bD K cls S H ts vs fp->(∀ a∈fp,∀ o,H a=some o->H' a=some o)->bD K cls S' H' ts vs fp
 |[],_,_,h,_=>by unfold bD at h ⊢;exact h
 | _ ::_,_,_,h,g=>by
   unfold bD at h ⊢
   obtain⟨v,r,f1,f2,e,e2,q,t⟩:=h;subst e2
   exact⟨v,r,f1,f2,e,rfl,bu.mono s q fun a ha=>g a (List.mem_append_left _ ha),bD.mono s t fun a ha=>g a (List.mem_append_right _ ha)⟩
end
mutual
theorem bu.live:∀{t:OV} {v:V} {fp:List Addr},bu K cls S H t v fp->∀ a∈fp,∃ o,H a=some o /\ isX o=false
 |.sh _,_,_,h,a,ha=>by unfold bu at h;rw[h.1]at ha;cases ha
 | .ol _,_,_,h,a,ha=>by
   unfold bu at h;obtain⟨p,vs,f,e,q,e2,r⟩:=h;subst e2
   rcases List.mem_cons.mp ha with z|z
   . subst z;exact⟨_,q,rfl⟩
   . exact bD.live r a z
 | .ob _ _ _,_,_,h,a,ha=>by
   unfold bu at h;obtain⟨p,C,dx,us,f,e,c,q,q2,k,e2,r⟩:=h;subst e2
   rcases List.mem_cons.mp ha with z|z
   . subst z;exact⟨_,q,rfl⟩
   . rcases List.mem_cons.mp z with z|z
     . subst z;exact⟨_,q2,rfl⟩
     . exact bD.live r a z
 | .di _,_,_,h,a,ha=>by
   unfold bu at h;obtain⟨p,us,e,q,e2,r⟩:=h;subst e2
   have z:a=p:=by simpa using ha
   subst z
   exact⟨_,q,rfl⟩
 | .dt _,_,_,h,a,ha=>by
   unfold bu at h;obtain⟨p,us,e,q,e2,r⟩:=h;subst e2
   have z:a=p:=by simpa using ha
   subst z
   exact⟨_,q,rfl⟩
theorem bD.live:∀{ts:List OV} {vs:List V} {fp:List Addr},bD K cls S H ts vs fp->∀ a∈fp,∃ o,H a=some o /\ isX o=false
 |[],_,_,h,a,ha=>by unfold bD at h;rw[h.2]at ha;cases ha
 | _ ::_,_,_,h,a,ha=>by
   unfold bD at h;obtain⟨v,r,f1,f2,e,e2,q,t⟩:=h;subst e2
   rcases List.mem_append.mp ha with z|z
   . exact bu.live q a z
   . exact bD.live t a z
end
theorem qq.mono(h:qq K cls Av G S H i sl v fp)(s:aH S S')(g:∀ a∈fp,∀ o,H a=some o->H' a=some o)(x:∀ b o,isX o=true->H b=some o->H' b=some o)(n:∀ a∈fp,S' a=none):qq K cls Av G S' H' i sl v fp:=by
 cases sl with
 |sh y=>exact⟨h.1,Rep.mono s h.2⟩
 | ow xs=>
   obtain⟨p,vs,e,e2,h1,h2,h3,h4⟩:=h;subst e2
   exact⟨p,vs,e,rfl,h1,n p (by simp),g p (by simp) _ h3,h4.mono s⟩
 |ex c fs=>obtain⟨e,a,C,e2,q⟩:=h;exact⟨e,a,C,e2,q.Hd s x⟩
 |tr io t=>exact⟨h.1.mono s g,h.2.1,fun a ha=>⟨(h.2.2.1 a ha).1,n a ha⟩,h.2.2.2⟩
 |bo t=>obtain⟨e,f,r⟩:=h;exact⟨e,f,r.mono s fun _ _ _ z=>z⟩
theorem RdV.mono(h:RdV K S H x v)(s:aH S S')(g:aH H H'):RdV K S' H' x v:=by
 cases x with
 |lst xs=>obtain⟨p,vs,e,q,r⟩:=h;exact⟨p,vs,e,aH.seq g q,r.mono s⟩
 |non=>exact Rep.mono s h
 |bl b=>exact Rep.mono s h
 |int i=>exact Rep.mono s h
 |str x=>exact Rep.mono s h
 |tup xs=>exact Rep.mono s h
theorem Rep.rd(h:Rep K S x v)(g:aH S H):RdV K S H x v:=by
 cases x with
 |lst xs=>unfold Rep at h;obtain⟨p,vs,e,q,r⟩:=h;exact⟨p,vs,e,aH.seq g q,r⟩
 |non=>exact h
 |bl b=>exact h
 |int i=>exact h
 |str x=>exact h
 |tup xs=>exact h
theorem kM.rd{r:RV}(h:kM K B S H r v)(g:aH S H):RdV K S H r.pv v:=by
 cases r with
 |sh x=>exact Rep.rd h g
 |fr xs=>obtain⟨p,vs,e,_,_,q,r⟩:=h;exact⟨p,vs,e,SqL.new q,r⟩
 |al xs=>exact h
theorem SRF.change(I:SRF K cls Av G S₀ ρ σ S H F)(gh:aH G H')(s:aH S S')(sh:aH S' H')(new:∀ b,S' b≠none->S₀ b≠none \/ G b=none)
  (g:∀ i a,a∈F i->∀ o,H a=some o->H' a=some o) (x:∀ b o,isX o=true->H b=some o->H' b=some o) (n:∀ i a,a∈F i->S' a=none):SRF K cls Av G S₀ ρ σ S' H' F where
 gh:=gh
 s0:=I.s0.trans s
 sh:=sh
 new:=new
 own:=fun i t e=>by
  obtain⟨v,e1,r⟩:=I.own i t e
  exact⟨v,e1,r.mono s (fun a ha=>g i a ha) x fun a ha=>n i a ha⟩
 apart:=I.apart
 live:=fun i a ha=>by
  obtain⟨⟨o,h1,h2⟩,h3,_⟩:=I.live i a ha
  exact⟨⟨o,g i a ha o h1,h2⟩,h3,n i a ha⟩
 len:=I.len
theorem SRF.same(I:SRF K cls Av G S₀ ρ σ S H F)(g:aH H H'):SRF K cls Av G S₀ ρ σ S H' F:=
 I.change (I.gh.trans g) (aH.refl _) (I.sh.trans g) I.new (fun _ _ _ o e=>g _ _ e) (fun _ _ _ e=>g _ _ e) fun i a ha=>(I.live i a ha).2.2
theorem SR.same(I:SR K cls Av G S₀ ρ σ S H)(g:aH H H'):SR K cls Av G S₀ ρ σ S H':=let ⟨F,J⟩:=I;⟨F,J.same g⟩
theorem set_inv{α:Type}{l:List (Option α)}{x:Option α}{s:α}(h:(l.set i x)[j]?=some (some s)):(j=i /\ x=some s /\ i<l.length) \/ (j≠i /\ l[j]?=some (some s)):=by
 by_cases e:j=i
 . subst e;rw[List.getElem?_set]at h;simp only[if_true]at h;split at h
   . rename_i hl;exact .inl ⟨rfl,Option.some.inj h,hl⟩
   . cases h
 . rw[List.getElem?_set_ne (Ne.symm e)]at h;exact .inr ⟨e,h⟩
theorem F5{α:Type}{l:List (Option α)}{x:Option α}(h:i<l.length):(l.set i x)[i]?=some x:=by
 rw[List.getElem?_set];simp[h]
noncomputable def mm(F:Nat->List Addr)(i:Nat)(fp:List Addr):Nat->List Addr:=fun j=>if j=i then fp else F j
theorem iD:mm F i fp i=fp:=by unfold mm;rw[if_pos rfl]
theorem eS(h:j≠i):mm F i fp j=F j:=by unfold mm;rw[if_neg h]
theorem SRF.put(I:SRF K cls Av G S₀ ρ σ S H F)(h:∀ t,s=some t->∃ v,u=some v /\ qq K cls Av G S H i t v fp)
  (hl:∀ a∈fp,(∃ o,H a=some o /\ isX o=false) /\ G a=none /\ S a=none) (ap:∀ j a,j≠i->a∈fp->a∉F j):SRF K cls Av G S₀ (ρ.set i s) (σ.set i u) S H (mm F i fp) where
 gh:=I.gh
 s0:=I.s0
 sh:=I.sh
 new:=I.new
 own:=fun j t e=>by
  rcases set_inv e with⟨rfl,e1,hl⟩|⟨ne,e1⟩
  . obtain⟨v,e2,r⟩:=h t e1
    exact⟨v,by rw[F5 (by rw[<- I.len];exact hl),e2],by rw[iD];exact r⟩
  . rw[List.getElem?_set_ne (Ne.symm ne),eS ne];exact I.own j t e1
 apart:=fun j k a h1 h2=>by
  by_cases ej:j=i
  . by_cases ek:k=i
    . rw[ej,ek]
    . subst ej;rw[iD]at h1;rw[eS ek]at h2;exact absurd h2 (ap k a ek h1)
  . by_cases ek:k=i
    . subst ek;rw[iD]at h2;rw[eS ej]at h1;exact absurd h1 (ap j a ej h2)
    . rw[eS ej]at h1;rw[eS ek]at h2;exact I.apart j k a h1 h2
 live:=fun j a ha=>by
  by_cases ej:j=i
  . subst ej;rw[iD]at ha;exact hl a ha
  . rw[eS ej]at ha;exact I.live j a ha
 len:=by simp[I.len]
theorem SR.yl(I:SR K cls Av G S₀ ρ σ S H)(h:Rep K S x v):SR K cls Av G S₀ (ρ.set i (some (.sh x))) (σ.set i (some v)) S H:=by
 obtain⟨F,J⟩:=I
 exact⟨_,J.put (fp:=[]) (fun t e=>by cases e;exact⟨v,rfl,rfl,h⟩) (fun a ha=>nomatch ha) fun j a _ ha=>nomatch ha⟩
theorem SR.HC(I:SR K cls Av G S₀ ρ σ S H):SR K cls Av G S₀ (ρ.set i none) (σ.set i v) S H:=by
 obtain⟨F,J⟩:=I
 exact⟨_,J.put (fp:=[]) (fun t e=>nomatch e) (fun a ha=>nomatch ha) fun j a _ ha=>nomatch ha⟩
theorem j2{α:Type}{l:List α}{x:α}(h:l[i]?=some x):l.set i x=l:=by
 apply List.ext_getElem?;intro j
 by_cases e:i=j
 . subst e;rw[List.getElem?_set,if_pos rfl,if_pos (List.getElem?_eq_some_iff.mp h).1,h]
 . rw[List.getElem?_set_ne e]
theorem SR.drop(I:SR K cls Av G S₀ ρ σ S H):SR K cls Av G S₀ (ρ.set i none) σ S H:=by
 cases e:σ[i]? with
 |some v=>have:=I.HC (i:=i) (v:=v);rwa [j2 e]at this
 | none=>
   have h1:σ.length<=i:=List.getElem?_eq_none_iff.mp e
   rw[List.set_eq_of_length_le (by rw[I.len];exact h1)];exact I
theorem SR.mut(I:SR K cls Av G S₀ ρ σ S H)(hi:ρ[i]?=some (some (.ow xs)))(hv:σ[i]?=some (some (.ref p)))(hr:bj K S ys us):SR K cls Av G S₀ (ρ.set i (some (.ow ys))) σ S (upd H p (.lst us)):=by
 obtain⟨F,J⟩:=I;obtain⟨v,e1,q,vs,e2,e3,hG,hS,hH,_⟩:=J.own i _ hi;rw[hv]at e1;cases e1;cases e2
 have J1:SRF K cls Av G S₀ (ρ.set i none) (σ.set i none) S H (mm F i []):=J.put (fun t e=>nomatch e) (fun a ha=>nomatch ha) fun j a _ ha=>nomatch ha
 have off:∀ j a,a∈mm F i [] j->a≠p:=fun j a ha z=>by
  by_cases ej:j=i
  . subst ej;rw[iD]at ha;cases ha
  . rw[eS ej]at ha;exact ej (J.apart j i a ha (by rw[e3,z];simp))
 have J2:=J1.change (H':=upd H p (.lst us)) (J.gh.upd hG) (aH.refl _) (J.sh.upd hS) J.new (fun j a ha o h=>by rw[bB (off j a ha)];exact h)
  (fun b o hx h=>by
    rw[bB]
    . exact h
    . intro z;rw[z,hH]at h;cases h;cases hx)
  fun j a ha=>(J1.live j a ha).2.2
 have J3:=J2.put (i:=i) (s:=some (.ow ys)) (u:=some (.ref p)) (fp:=[p]) (fun t e=>by cases e;exact⟨_,rfl,p,us,rfl,rfl,hG,hS,bw,hr⟩) (fun a ha=>by
  have z:a=p:=by simpa using ha
  subst z
  exact⟨⟨_,bw,rfl⟩,hG,hS⟩) fun j a hj ha hz=>by
   have z:a=p:=by simpa using ha
   exact off j a hz z
 rw[List.set_set,List.set_set,j2 hv]at J3
 exact⟨_,J3⟩
theorem SR.Ic(I:SR K cls Av G S₀ ρ σ S H)(hi:ρ[i]?=some (some (.ow xs))):∃ S',aH S S' /\ SR K cls Av G S₀ (ρ.set i (some (.sh (.lst xs)))) σ S' H:=by
 obtain⟨F,J⟩:=I;obtain⟨v,hv,p,vs,e2,e3,hG,hS,hH,hr⟩:=J.own i _ hi;subst e2
 have J1:SRF K cls Av G S₀ (ρ.set i none) (σ.set i none) S H (mm F i []):=J.put (fun t e=>nomatch e) (fun a ha=>nomatch ha) fun j a _ ha=>nomatch ha
 have off:∀ j a,a∈mm F i [] j->a≠p:=fun j a ha z=>by
  by_cases ej:j=i
  . subst ej;rw[iD]at ha;cases ha
  . rw[eS ej]at ha;exact ej (J.apart j i a ha (by rw[e3,z];simp))
 have J2:=J1.change (S':=upd S p (.lst vs)) (H':=H) J.gh (aH.new hS) (fun b u h=>by
   by_cases e:b=p
   . subst e;rw[bw]at h;cases h;exact hH
   . rw[bB e]at h;exact J.sh b u h) (fun b h=>by
   by_cases e:b=p
   . subst e;exact .inr hG
   . rw[bB e]at h;exact J.new b h) (fun _ _ _ _ h=>h) (fun _ _ _ h=>h) fun j a ha=>by
     rw[bB (off j a ha)];exact(J1.live j a ha).2.2
 have J3:=J2.put (i:=i) (s:=some (.sh (.lst xs))) (u:=some (.ref p)) (fp:=[]) (fun t e=>by
  cases e
  refine⟨_,rfl,rfl,?_⟩
  unfold Rep
  exact⟨p,vs,rfl,SqL.new bw,hr.mono (aH.new hS)⟩) (fun a ha=>nomatch ha) fun j a _ ha=>nomatch ha
 rw[List.set_set,List.set_set,j2 hv]at J3
 exact⟨_,aH.new hS,_,J3⟩
end
structure bc(S H S' H':Hp):Prop where
 s:aH S S'
 g:aH H H'
 sh:aH S' H'
 new:∀ b,S' b≠none->S b≠none \/ H b=none
theorem bc.refl(h:aH S H):bc S H S H:=⟨aH.refl _,aH.refl _,h,fun _ z=>.inl z⟩
theorem bc.trans(a:bc S H S1 H1)(b:bc S1 H1 S2 H2):bc S H S2 H2:=
 ⟨a.s.trans b.s,a.g.trans b.g,b.sh,fun x h=>by
   rcases b.new x h with z|z
   . exact a.new x z
   . exact .inr (a.g.free z)⟩
theorem SRF.grow{K:PySem.W.Frag}{cls:String->Option Addr}{F:Nat->List Addr}(I:SRF K cls Av G S₀ ρ σ S H F)(w:bc S H S' H'):SRF K cls Av G S₀ ρ σ S' H' F:=
 I.change (I.gh.trans w.g) w.s w.sh (fun b h=>by
  rcases w.new b h with z|z
  . exact I.new b z
  . exact .inr (I.gh.free z)) (fun i a _ o h=>w.g _ _ h) (fun b o _ h=>w.g _ _ h) fun i a ha=>by
    obtain⟨⟨o,h1,_⟩,_,h3⟩:=I.live i a ha
    cases q:S' a with
    |none=>rfl
    | some o=>
      rcases w.new a (by rw[q];simp)with z|z
      . exact absurd h3 z
      . rw[h1]at z;cases z
theorem SR.grow{K:PySem.W.Frag}{cls:String->Option Addr}(I:SR K cls Av G S₀ ρ σ S H)(w:bc S H S' H'):SR K cls Av G S₀ ρ σ S' H':=let ⟨F,J⟩:=I;⟨F,J.grow w⟩
theorem SR.Io{K:PySem.W.Frag}{cls:String->Option Addr}{ρ:ah}{σ:St}(I:SR K cls Av G S₀ ρ σ S H)(w:bc S H S' H')(h:kM K H S' H' (.fr xs) v):SR K cls Av G S₀ (ρ.set i (some (.ow xs))) (σ.set i (some v)) S' H':=by
 obtain⟨F,J⟩:=I;obtain⟨p,vs,rfl,hB,hS,hH,hr⟩:=h;have hG:=J.gh.free hB
 refine⟨_,(J.grow w).put (fp:=[p]) (fun t e=>by cases e;exact⟨_,rfl,p,vs,rfl,rfl,hG,hS,hH,hr⟩) (fun a ha=>?_) fun j a _ ha hz=>?_⟩
 . have z:a=p:=by simpa using ha
   subst z
   exact⟨⟨_,hH,rfl⟩,hG,hS⟩
 . have z:a=p:=by simpa using ha
   subst z;obtain⟨⟨o,h1,_⟩,_⟩:=J.live j a hz;rw[hB]at h1;cases h1
theorem bc.heap(h:aH S H)(hp:H p=none):bc S H S (upd H p o):=⟨aH.refl _,aH.new hp,h.trans (aH.new hp),fun _ z=>.inl z⟩
theorem bc.both(h:aH S H)(hp:H p=none):bc S H (upd S p o) (upd H p o):=by
 have hS:=h.free hp
 refine⟨aH.new hS,aH.new hp,fun b u z=>?_,fun b z=>?_⟩
 . by_cases e:b=p
   . subst e;rw[bw]at z ⊢;exact z
   . rw[bB e]at z ⊢;exact h b u z
 . by_cases e:b=p
   . subst e;exact .inr hp
   . rw[bB e]at z;exact .inl z
section
variable(K:PySem.W.Frag)(cls:String->Option Addr)(W:XW)
noncomputable def kn(σ:St)(S H:Hp)(Q:VK):OE->Prop
 |.ok r=>∀ v S' H',bc S H S' H'->kM K H S' H' r v->Q v H'
 |.exc c fs=>∀ a C S' H',bc S H S' H'->nM K cls S' H' c fs a C->W (.ref C) (some a) σ H'
 |.bad=>False
noncomputable def pV(σ:St)(S H:Hp)(Q:Bool->Hp->Prop):OT->Prop
 |.ok b=>∀ S' H',bc S H S' H'->Q b H'
 |.exc c fs=>∀ a C S' H',bc S H S' H'->nM K cls S' H' c fs a C->W (.ref C) (some a) σ H'
 |.bad=>False
noncomputable def tT(σ:St)(S H:Hp)(Q:List V->Hp->Prop):OA->Prop
 |.ok xs=>∀ vs S' H',bc S H S' H'->bj K S' xs vs->Q vs H'
 |.exc c fs=>∀ a C S' H',bc S H S' H'->nM K cls S' H' c fs a C->W (.ref C) (some a) σ H'
 |.bad=>False
noncomputable def iO(Av G S₀:Hp)(S:Hp)(D:Ends):OS->Prop
 |.nx ρ=>∀ σ' S' H',SR K cls Av G S₀ ρ σ' S' H'->aH S S'->D.nx σ' H'
 |.bk ρ=>∀ σ' S' H',SR K cls Av G S₀ ρ σ' S' H'->aH S S'->D.bk σ' H'
 |.ct ρ=>∀ σ' S' H',SR K cls Av G S₀ ρ σ' S' H'->aH S S'->D.ct σ' H'
 |.rt ρ r=>∀ v σ' S' H',SR K cls Av G S₀ ρ σ' S' H'->aH S S'->kM K G S' H' r v->D.rt v H'
 |.exc ρ c fs=>∀ a C σ' S' H',SR K cls Av G S₀ ρ σ' S' H'->aH S S'->nM K cls S' H' c fs a C->W (.ref C) (some a) σ' H'
 |.bad=>False
noncomputable def JE(te:TE)(m:ah->OE):Prop:=∀ Av G S₀ ρ σ S H Q,SR K cls Av G S₀ ρ σ S H->kn K cls W σ S H Q (m ρ)->te σ H Q
noncomputable def JT(te:TT)(m:ah->OT):Prop:=∀ Av G S₀ ρ σ S H Q,SR K cls Av G S₀ ρ σ S H->pV K cls W σ S H Q (m ρ)->te σ H Q
noncomputable def JA(te:TA)(m:ah->OA):Prop:=∀ Av G S₀ ρ σ S H Q,SR K cls Av G S₀ ρ σ S H->tT K cls W σ S H Q (m ρ)->te σ H Q
noncomputable def JS(ts:TS)(m:ah->OS):Prop:=∀ Av G S₀ ρ σ S H D,SR K cls Av G S₀ ρ σ S H->iO K cls W Av G S₀ S D (m ρ)->ts D σ H
end
section
variable{K:PySem.W.Frag}{cls:String->Option Addr}{W:XW}{Av G S₀ S S' H H' B B':Hp}{ρ:ah}{σ:St}{Q:VK}
theorem kM.back(h:kM K B' S H r v)(g:aH B B'):kM K B S H r v:=by
 cases r with
 |sh x=>exact h
 |fr xs=>obtain⟨p,vs,e,h1,h2⟩:=h;exact⟨p,vs,e,g.free h1,h2⟩
 |al xs=>exact h
theorem kn.back(w:bc S H S1 H1)(h:kn K cls W σ S H Q o):kn K cls W σ S1 H1 Q o:=by
 cases o with
 |ok r=>exact fun v S' H' w' r=>h v S' H' (w.trans w') (r.back w.g)
 |exc c fs=>exact fun a C S' H' w' r=>h a C S' H' (w.trans w') r
 |bad=>exact h
theorem pV.back{Q:Bool->Hp->Prop}(w:bc S H S1 H1)(h:pV K cls W σ S H Q o):pV K cls W σ S1 H1 Q o:=by
 cases o with
 |ok r=>exact fun S' H' w'=>h S' H' (w.trans w')
 |exc c fs=>exact fun a C S' H' w' r=>h a C S' H' (w.trans w') r
 |bad=>exact h
theorem tT.back{Q:List V->Hp->Prop}(w:bc S H S1 H1)(h:tT K cls W σ S H Q o):tT K cls W σ S1 H1 Q o:=by
 cases o with
 |ok r=>exact fun v S' H' w' r=>h v S' H' (w.trans w') r
 |exc c fs=>exact fun a C S' H' w' r=>h a C S' H' (w.trans w') r
 |bad=>exact h
theorem iO.back(s:aH S S1)(h:iO K cls W Av G S₀ S D o):iO K cls W Av G S₀ S1 D o:=by
 cases o with
 |nx ρ=>exact fun σ' S' H' I s'=>h σ' S' H' I (s.trans s')
 |bk ρ=>exact fun σ' S' H' I s'=>h σ' S' H' I (s.trans s')
 |ct ρ=>exact fun σ' S' H' I s'=>h σ' S' H' I (s.trans s')
 |rt ρ r=>exact fun v σ' S' H' I s'=>h v σ' S' H' I (s.trans s')
 |exc ρ c fs=>exact fun a C σ' S' H' I s'=>h a C σ' S' H' I (s.trans s')
 |bad=>exact h
theorem JE.go{m:ah->OE}{f:RV->OE}(h:JE K cls W te m)(I:SR K cls Av G S₀ ρ σ S H)(p:kn K cls W σ S H Q ((m ρ).bind f))
  (k:∀ r v S1 H1,SR K cls Av G S₀ ρ σ S1 H1->bc S H S1 H1->kM K H S1 H1 r v->kn K cls W σ S1 H1 Q (f r)->Q' v H1):te σ H Q':=by
 refine h Av G S₀ ρ σ S H Q' I ?_
 cases e:m ρ with
 |ok r=>rw[e]at p;exact fun v S1 H1 w r1=>k r v S1 H1 (I.grow w) w r1 (p.back w)
 |exc c fs=>rw[e]at p;exact p
 |bad=>rw[e]at p;exact p
theorem JE.goT{m:ah->OE}{f:RV->OT}{Q:Bool->Hp->Prop}(h:JE K cls W te m)(I:SR K cls Av G S₀ ρ σ S H)(p:pV K cls W σ S H Q ((m ρ).fw f))
  (k:∀ r v S1 H1,SR K cls Av G S₀ ρ σ S1 H1->bc S H S1 H1->kM K H S1 H1 r v->pV K cls W σ S1 H1 Q (f r)->Q' v H1):te σ H Q':=by
 refine h Av G S₀ ρ σ S H Q' I ?_
 cases e:m ρ with
 |ok r=>rw[e]at p;exact fun v S1 H1 w r1=>k r v S1 H1 (I.grow w) w r1 (p.back w)
 |exc c fs=>rw[e]at p;exact p
 |bad=>rw[e]at p;exact p
theorem JE.goS{m:ah->OE}{f:RV->OS}(h:JE K cls W te m)(I:SR K cls Av G S₀ ρ σ S H)(p:iO K cls W Av G S₀ S D ((m ρ).cD ρ f))
  (k:∀ r v S1 H1,SR K cls Av G S₀ ρ σ S1 H1->bc S H S1 H1->kM K H S1 H1 r v->iO K cls W Av G S₀ S1 D (f r)->Q' v H1):te σ H Q':=by
 refine h Av G S₀ ρ σ S H Q' I ?_
 cases e:m ρ with
 |ok r=>rw[e]at p;exact fun v S1 H1 w r1=>k r v S1 H1 (I.grow w) w r1 (p.back w.s)
 |exc c fs=>rw[e]at p;exact fun a C S' H' w x=>p a C σ S' H' (I.grow w) w.s x
 |bad=>rw[e]at p;exact p
theorem JT.go{m:ah->OT}{f:Bool->OE}{Q':Bool->Hp->Prop}(h:JT K cls W te m)(I:SR K cls Av G S₀ ρ σ S H)(p:kn K cls W σ S H Q ((m ρ).bind f))
  (k:∀ b S1 H1,SR K cls Av G S₀ ρ σ S1 H1->bc S H S1 H1->kn K cls W σ S1 H1 Q (f b)->Q' b H1):te σ H Q':=by
 refine h Av G S₀ ρ σ S H Q' I ?_
 cases e:m ρ with
 |ok r=>rw[e]at p;exact fun S1 H1 w=>k r S1 H1 (I.grow w) w (p.back w)
 |exc c fs=>rw[e]at p;exact p
 |bad=>rw[e]at p;exact p
theorem JT.goT{m:ah->OT}{f:Bool->OT}{Q Q':Bool->Hp->Prop}(h:JT K cls W te m)(I:SR K cls Av G S₀ ρ σ S H)(p:pV K cls W σ S H Q ((m ρ).fw f))
  (k:∀ b S1 H1,SR K cls Av G S₀ ρ σ S1 H1->bc S H S1 H1->pV K cls W σ S1 H1 Q (f b)->Q' b H1):te σ H Q':=by
 refine h Av G S₀ ρ σ S H Q' I ?_
 cases e:m ρ with
 |ok r=>rw[e]at p;exact fun S1 H1 w=>k r S1 H1 (I.grow w) w (p.back w)
 |exc c fs=>rw[e]at p;exact p
 |bad=>rw[e]at p;exact p
theorem JT.goS{m:ah->OT}{f:Bool->OS}{Q':Bool->Hp->Prop}(h:JT K cls W te m)(I:SR K cls Av G S₀ ρ σ S H)(p:iO K cls W Av G S₀ S D ((m ρ).cD ρ f))
  (k:∀ b S1 H1,SR K cls Av G S₀ ρ σ S1 H1->bc S H S1 H1->iO K cls W Av G S₀ S1 D (f b)->Q' b H1):te σ H Q':=by
 refine h Av G S₀ ρ σ S H Q' I ?_
 cases e:m ρ with
 |ok r=>rw[e]at p;exact fun S1 H1 w=>k r S1 H1 (I.grow w) w (p.back w.s)
 |exc c fs=>rw[e]at p;exact fun a C S' H' w x=>p a C σ S' H' (I.grow w) w.s x
 |bad=>rw[e]at p;exact p
theorem JA.go{m:ah->OA}{f:List PV->OE}{Q':List V->Hp->Prop}(h:JA K cls W te m)(I:SR K cls Av G S₀ ρ σ S H)(p:kn K cls W σ S H Q ((m ρ).bind f))
  (k:∀ xs vs S1 H1,SR K cls Av G S₀ ρ σ S1 H1->bc S H S1 H1->bj K S1 xs vs->kn K cls W σ S1 H1 Q (f xs)->Q' vs H1):te σ H Q':=by
 refine h Av G S₀ ρ σ S H Q' I ?_
 cases e:m ρ with
 |ok r=>rw[e]at p;exact fun v S1 H1 w r1=>k r v S1 H1 (I.grow w) w r1 (p.back w)
 |exc c fs=>rw[e]at p;exact p
 |bad=>rw[e]at p;exact p
theorem JA.goA{m:ah->OA}{f:List PV->OA}{Q Q':List V->Hp->Prop}(h:JA K cls W te m)(I:SR K cls Av G S₀ ρ σ S H)(p:tT K cls W σ S H Q ((m ρ).eW f))
  (k:∀ xs vs S1 H1,SR K cls Av G S₀ ρ σ S1 H1->bc S H S1 H1->bj K S1 xs vs->tT K cls W σ S1 H1 Q (f xs)->Q' vs H1):te σ H Q':=by
 refine h Av G S₀ ρ σ S H Q' I ?_
 cases e:m ρ with
 |ok r=>rw[e]at p;exact fun v S1 H1 w r1=>k r v S1 H1 (I.grow w) w r1 (p.back w)
 |exc c fs=>rw[e]at p;exact p
 |bad=>rw[e]at p;exact p
theorem ag:JE K cls W (wU i) (ao i):=by
 intro Av G S₀ ρ σ S H Q I p;unfold ao at p;split at p
 . rename_i x e;obtain⟨v,e1,r⟩:=I.good i _ e
   exact⟨v,e1,p v S H (bc.refl I.sh) r⟩
 . rename_i xs e;obtain⟨v,e1,a,vs,e2,_,_,h3,h4⟩:=I.good i _ e
   exact⟨v,e1,p v S H (bc.refl I.sh) ⟨a,vs,e2,SqL.new h3,h4⟩⟩
 . exact p.elim
theorem vb(h:∀ S,Rep K S x v):JE K cls W (tC v) (mC x):=fun Av G S₀ ρ σ S H Q I p=>p v S H (bc.refl I.sh) (h S)
theorem af:JE K cls W (tC (.int n)) (mC (.int n)):=vb fun _=>by unfold Rep;rfl
theorem D8:JE K cls W (tC (.bl n)) (mC (.bl n)):=vb fun _=>by unfold Rep;rfl
theorem df:JE K cls W (tC .non) (mC .non):=vb fun _=>by unfold Rep;rfl
theorem aM:JE K cls W (tC (.str n)) (mC (.str n)):=vb fun _=>by unfold Rep;rfl
theorem lA{ns:List Int}(h:∀ S,SqT K S p (ns.map V.int)):JE K cls W (tC (.ref p)) (mC (.tup (ns.map .int))):=vb fun S=>by unfold Rep;exact⟨p,_,rfl,h S,bj.ints⟩
noncomputable def JR(K:PySem.W.Frag)(r:R2)(g:PV->PV->Option RV):Prop:=∀ S H x y v u rr Q,aH S H->RdV K S H x v->RdV K S H y u->g x y=some rr ->
 (∀ z S' H',bc S H S' H'->kM K H S' H' rr z->Q z H')->r v u H Q
theorem aq{g:PV->PV->Option RV}{ma mb:ah->OE}(hr:JR K r g)(ha:JE K cls W ta ma)(hb:JE K cls W tb mb):JE K cls W (tOp r ta tb) (mOp g ma mb):=by
 intro Av G S₀ ρ σ S H Q I p
 refine ha.go I p fun a v S1 H1 I1 w1 r1 p1=>hb.go I1 p1 fun b u S2 H2 I2 w2 r2 p2=>?_
 cases e:g a.pv b.pv with
 |none=>rw[e]at p2;exact p2.elim
 | some rr=>
   rw[e]at p2;exact hr S2 H2 a.pv b.pv v u rr Q I2.sh ((r1.rd I1.sh).mono w2.s w2.g) (r2.rd I2.sh) e p2
noncomputable def sv:PV->V
 |.non=>.non
 |.bl b=>.bl b
 |.int i=>.int i
 |.str s=>.str s
 |_=>.non
theorem cV(h:RdV K S H (.int i) v):v=.int i:=by unfold RdV Rep at h;exact h
theorem lU(h:RdV K S H (.bl i) v):v=.bl i:=by unfold RdV Rep at h;exact h
theorem iy(h:RdV K S H (.str i) v):v=.str i:=by unfold RdV Rep at h;exact h
theorem iL(h:RdV K S H .non v):v=.non:=by unfold RdV Rep at h;exact h
theorem gz(h:RdV K S H (.lst xs) v):∃ p vs,v=.ref p /\ SqL K H p vs /\ bj K S xs vs:=h
theorem mH(h:RdV K S H (.tup xs) v):∃ p vs,v=.ref p /\ SqT K S p vs /\ bj K S xs vs:=by unfold RdV Rep at h;exact h
theorem BZ{C:Int->Int->Prop}{c:Int->Int->Bool}{f:Int->Int->PV}{fv:Int->Int->V}(hc:∀ i j,c i j=true->C i j)(hf:∀ S i j,Rep K S (f i j) (fv i j)):JR K (rI C fv) (gI c f):=by
 intro S H x y v u rr Q I hx hy e k;unfold gI at e;split at e
 . rename_i i j;split at e
   . rename_i hcc;cases e
     exact⟨i,j,cV hx,cV hy,hc i j hcc,k _ S H (bc.refl I) (hf S i j)⟩
   . cases e
 . cases e
theorem pQ{f:Int->Int->PV}{fv:Int->Int->V}(hf:∀ S i j,Rep K S (f i j) (fv i j)):JR K (rI0 fv) (gI (fun _ _=>true) f):=by
 intro S H x y v u rr Q I hx hy e k;unfold gI at e;split at e
 . rename_i i j;simp only[if_true]at e;cases e
   exact⟨i,j,cV hx,cV hy,k _ S H (bc.refl I) (hf S i j)⟩
 . cases e
theorem bI:JR K (rI0 fun i j=>.int (i+j)) du:=pQ fun _ _ _=>by unfold Rep;rfl
theorem jC:JR K (rI0 fun i j=>.int (i - j)) ly:=pQ fun _ _ _=>by unfold Rep;rfl
theorem rM:JR K (rI Bg fun i j=>.int (i*j)) wY:=BZ (fun i j h=>by simpa [Bg,Bool.or_eq_true,Bool.and_eq_true,decide_eq_true_eq]using h) fun _ _ _=>by unfold Rep;rfl
theorem dU:JR K (rI Fu fun i j=>.int (i/j)) fB:=BZ (fun i j h=>by simpa [Fu,Bool.and_eq_true,decide_eq_true_eq]using h) fun _ _ _=>by unfold Rep;rfl
theorem bZ:JR K (rI (fun _ j=>0<j) fun i j=>.int (i%j)) cN:=BZ (fun i j h=>by simpa using h) fun _ _ _=>by unfold Rep;rfl
theorem iH:JR K (rI0 fun i j=>.bl (decide (i<j))) gLt:=pQ fun _ _ _=>by unfold Rep;rfl
theorem kL:JR K (rI0 fun i j=>.bl (decide (i<=j))) gLe:=pQ fun _ _ _=>by unfold Rep;rfl
theorem Ew:JR K (rI0 fun i j=>.bl (decide (j<i))) gGt:=pQ fun _ _ _=>by unfold Rep;rfl
theorem qZ:JR K (rI0 fun i j=>.bl (decide (j<=i))) gGe:=pQ fun _ _ _=>by unfold Rep;rfl
theorem As(hx:RdV K S H x v)(hy:RdV K S H y u)(e:eqS x y=some b):GL v u=true /\ decide (v=u)=b:=by
 unfold eqS at e;split at e
 all_goals first
  |(have h1:=iL hx;subst h1;have h2:=iL hy;subst h2;cases e;exact⟨rfl,by simp⟩)
  |(have h1:=iL hx;subst h1;have h2:=cV hy;subst h2;cases e;exact⟨rfl,by simp⟩)
  |(have h1:=cV hx;subst h1;have h2:=iL hy;subst h2;cases e;exact⟨rfl,by simp⟩)
  |(have h1:=iL hx;subst h1;have h2:=lU hy;subst h2;cases e;exact⟨rfl,by simp⟩)
  |(have h1:=lU hx;subst h1;have h2:=iL hy;subst h2;cases e;exact⟨rfl,by simp⟩)
  |(have h1:=iL hx;subst h1;have h2:=iy hy;subst h2;cases e;exact⟨rfl,by simp⟩)
  |(have h1:=iy hx;subst h1;have h2:=iL hy;subst h2;cases e;exact⟨rfl,by simp⟩)
  |(have h1:=cV hx;subst h1;have h2:=cV hy;subst h2;cases e;exact⟨rfl,by simp⟩)
  |(have h1:=lU hx;subst h1;have h2:=lU hy;subst h2;cases e;exact⟨rfl,by simp⟩)
  |(have h1:=iy hx;subst h1;have h2:=iy hy;subst h2;cases e;exact⟨rfl,by simp⟩)
  |(have h1:=cV hx;subst h1;have h2:=iy hy;subst h2;cases e;exact⟨rfl,by simp⟩)
  |(have h1:=iy hx;subst h1;have h2:=cV hy;subst h2;cases e;exact⟨rfl,by simp⟩)
  |(have h1:=lU hx;subst h1;have h2:=iy hy;subst h2;cases e;exact⟨rfl,by simp⟩)
  |(have h1:=iy hx;subst h1;have h2:=lU hy;subst h2;cases e;exact⟨rfl,by simp⟩)
  |cases e
theorem bK:JR K rEq gEq:=by
 intro S H x y v u rr Q I hx hy e k;obtain⟨b,e1,e2⟩:=Option.map_eq_some_iff.mp e;obtain⟨h1,h2⟩:=As hx hy e1
 refine⟨h1,k _ S H (bc.refl I) ?_⟩
 subst e2;show Rep K S _ _;unfold Rep;rw[h2]
theorem yo:JR K rNe gNe:=by
 intro S H x y v u rr Q I hx hy e k;obtain⟨b,e1,e2⟩:=Option.map_eq_some_iff.mp e;obtain⟨h1,h2⟩:=As hx hy e1
 refine⟨h1,k _ S H (bc.refl I) ?_⟩
 subst e2;show Rep K S _ _;unfold Rep;rw[h2]
end
section
variable{K:PySem.W.Frag}{cls:String->Option Addr}{W:XW}{Av G S₀ S S' H H' B B':Hp}{ρ:ah}{σ:St}{Q:VK}
theorem kM.share(h:kM K H S1 H1 r v)(w:bc S H S1 H1)(e:jn r=some x):∃ S2,bc S H S2 H1 /\ aH S1 S2 /\ Rep K S2 x v:=by
 cases r with
 |sh y=>cases e;exact⟨S1,w,aH.refl _,h⟩
 |al xs=>cases e
 | fr xs=>
   cases e;obtain⟨p,vs,rfl,hB,hS,hH,hr⟩:=h
   refine⟨upd S1 p (.lst vs),⟨w.s.trans (aH.new hS),w.g,fun b u z=>?_,fun b z=>?_⟩,aH.new hS,?_⟩
   . by_cases e:b=p
     . subst e;rw[bw]at z;cases z;exact hH
     . rw[bB e]at z;exact w.sh b u z
   . by_cases e:b=p
     . subst e;exact .inr hB
     . rw[bB e]at z;exact w.new b z
   . unfold Rep
     exact⟨p,vs,rfl,SqL.new bw,hr.mono (aH.new hS)⟩
theorem aw:JA K cls W j9 aE:=fun Av G S₀ ρ σ S H Q I p=>p [] S H (bc.refl I.sh) .nil
theorem ae{me:ah->OE}{mr:ah->OA}(he:JE K cls W te me)(ht:JA K cls W t mr):JA K cls W (iT te t) (aj me mr):=by
 intro Av G S₀ ρ σ S H Q I p;refine he Av G S₀ ρ σ S H _ I ?_;unfold aj at p
 cases e:me ρ with
 |exc c fs=>rw[e]at p;exact p
 |bad=>rw[e]at p;exact p
 | ok r=>
   rw[e]at p;intro v S1 H1 w1 r1;simp only[OE.eW]at p
   cases es:jn r with
   |none=>rw[es]at p;exact p.elim
   | some x=>
     rw[es]at p;obtain⟨S2,w2,s2,rx⟩:=r1.share w1 es
     refine ht.goA (I.grow w2) (p.back w2) fun xs vs S3 H3 I3 w3 r3 p3=>?_
     exact p3 (v ::vs) S3 H3 (bc.refl I3.sh) (.cons (Rep.mono w3.s rx) r3)
theorem xg:lim=sizeLine:=by decide
theorem aJ{ma:ah->OA}(h:JA K cls W t ma):JE K cls W (FF t) (bb ma):=by
 intro Av G S₀ ρ σ S H Q I p
 refine h.go I p fun xs vs S1 H1 I1 w1 r1 p1=>?_
 split at p1
 . rename_i hl
   refine⟨by rw[r1.length];exact hl,fun q hq=>p1 (.ref q) S1 _ (bc.heap I1.sh hq) ⟨q,vs,rfl,hq,I1.sh.free hq,bw,r1⟩⟩
 . exact p1.elim
theorem dF{ma:ah->OA}(h:JA K cls W t ma):JE K cls W (FN t) (iq ma):=by
 intro Av G S₀ ρ σ S H Q I p
 refine h.go I p fun xs vs S1 H1 I1 w1 r1 p1=>?_
 split at p1
 . rename_i hl
   refine⟨by rw[r1.length];exact hl,fun q hq=>p1 (.ref q) _ _ (bc.both I1.sh hq) ?_⟩
   show Rep K _ _ _;unfold Rep
   exact⟨q,vs,rfl,SqT.new bw,r1.mono (bc.both (o:=.tup vs) I1.sh hq).s⟩
 . exact p1.elim
noncomputable def Im(K:PySem.W.Frag)(cls:String->Option Addr)(S H:Hp)(Q:VK)(E:XK):OE->Prop
 |.ok r=>∀ v S' H',bc S H S' H'->kM K H S' H' r v->Q v H'
 |.exc c fs=>∀ a C S' H',bc S H S' H'->nM K cls S' H' c fs a C->E (.ref C) (some a) H'
 |.bad=>False
noncomputable def spP(K:PySem.W.Frag)(cls:String->Option Addr)(f:List PV->OE):Sp:=fun vs H Q E=>∃ S xs,aH S H /\ bj K S xs vs /\ Im K cls S H Q E (f xs)
theorem aP{ma:ah->OA}{f:List PV->OE}(h:JA K cls W t ma):JE K cls W (pD (spP K cls f) [] W t) (bE f ma):=by
 intro Av G S₀ ρ σ S H Q I p
 refine h.go I p fun xs vs S1 H1 I1 w1 r1 p1=>?_
 show spP K cls f (vs++[]) H1 Q _;rw[List.append_nil]
 refine⟨S1,xs,I1.sh,r1,?_⟩
 cases e:f xs with
 |ok r=>rw[e]at p1;exact p1
 |exc c fs=>rw[e]at p1;exact p1
 |bad=>rw[e]at p1;exact p1
noncomputable def JU(K:PySem.W.Frag)(r:List V->Hp->VK->Prop)(g:PV->Option RV):Prop:=∀ S H x v rr Q,aH S H->RdV K S H x v->g x=some rr ->
 (∀ z S' H',bc S H S' H'->kM K H S' H' rr z->Q z H')->r [v] H Q
theorem cP{r:List V->Hp->VK->Prop}{g:PV->Option RV}{ma:ah->OE}(hr:JU K r g)(ha:JE K cls W ta ma):JE K cls W (tCB r (iT ta j9)) (mUn g ma):=by
 intro Av G S₀ ρ σ S H Q I p
 refine ha.go I p fun a v S1 H1 I1 w1 r1 p1=>?_
 show r [v] H1 Q
 cases e:g a.pv with
 |none=>rw[e]at p1;exact p1.elim
 |some rr=>rw[e]at p1;exact hr S1 H1 a.pv v rr Q I1.sh (r1.rd I1.sh) e p1
theorem vw{r:V->Hp->VK->Prop}{g:PV->Option RV}{ma:ah->OE}(hr:JU K (fun vs H Q=>∃ v,vs=[v] /\ r v H Q) g)(ha:JE K cls W ta ma):JE K cls W (tUn r ta) (mUn g ma):=by
 intro Av G S₀ ρ σ S H Q I p
 refine ha.go I p fun a v S1 H1 I1 w1 r1 p1=>?_
 cases e:g a.pv with
 |none=>rw[e]at p1;exact p1.elim
 | some rr=>
   rw[e]at p1;obtain⟨u,e1,h⟩:=hr S1 H1 a.pv v rr Q I1.sh (r1.rd I1.sh) e p1;cases e1;exact h
theorem so:JU K (fun vs H Q=>∃ v,vs=[v] /\ rU (fun i=>.int (-i)) v H Q) pR:=by
 intro S H x v rr Q I hx e k
 cases x with
 |int i=>cases e;exact⟨v,rfl,i,cV hx,k _ S H (bc.refl I) (by show Rep K S _ _;unfold Rep;rfl)⟩
 |_=>cases e
theorem eY:JU K (fun xs H Q=>∃ p ys,xs=[.ref p] /\ (SqL K H p ys \/ SqT K H p ys) /\ Q (.int ys.length) H) eQ:=by
 intro S H x v rr Q I hx e k
 cases x with
 | lst xs=>
   cases e;obtain⟨p,vs,rfl,hq,r⟩:=gz hx
   exact⟨p,vs,rfl,.inl hq,k _ S H (bc.refl I) (by show Rep K S _ _;unfold Rep;rw[r.length])⟩
 | tup xs=>
   cases e;obtain⟨p,vs,rfl,hq,r⟩:=mH hx
   exact⟨p,vs,rfl,.inr (aH.tup I hq),k _ S H (bc.refl I) (by show Rep K S _ _;unfold Rep;rw[r.length])⟩
 |_=>cases e
theorem oS:JU K (fun xs H Q=>(∃ i,xs=[.int i] /\ Q (.int i) H) \/ ∃ k,xs=[.bl k] /\ Q (.int (if k then 1 else 0)) H) pX:=by
 intro S H x v rr Q I hx e k
 cases x with
 |int i=>cases e;exact .inl ⟨i,by rw[cV hx],k _ S H (bc.refl I) (by show Rep K S _ _;unfold Rep;rfl)⟩
 |bl b=>cases e;exact .inr ⟨b,by rw[lU hx],k _ S H (bc.refl I) (by show Rep K S _ _;unfold Rep;rfl)⟩
 |_=>cases e
theorem Fy{α:Type}(xs:List α)(i:Int):atP xs i=L2.atI xs i:=rfl
theorem bj.atI(h:bj K S xs vs)(e:atP xs i=some x):∃ v,L2.atI vs i=some v /\ Rep K S x v:=by
 rw[Fy]at e
 unfold L2.atI at e ⊢
 rw[h.length]
 cases q:ixN xs.length i with
 |none=>rw[q]at e;cases e
 |some j=>rw[q]at e;exact h.get e
theorem iJ:JR K (HW K) fX:=by
 intro S H x y v u rr Q I hx hy e k;unfold fX at e;split at e
 . rename_i xs i;obtain⟨z,e1,e2⟩:=Option.map_eq_some_iff.mp e;obtain⟨p,vs,rfl,hq,r⟩:=gz hx;obtain⟨w,e3,rw'⟩:=r.atI e1;subst e2
   exact⟨p,vs,i,w,rfl,cV hy,hq,e3,k _ S H (bc.refl I) rw'⟩
 . cases e
theorem uQ:JR K (H0 K) wt:=by
 intro S H x y v u rr Q I hx hy e k;unfold wt at e;split at e
 . rename_i xs i;obtain⟨z,e1,e2⟩:=Option.map_eq_some_iff.mp e;obtain⟨p,vs,rfl,hq,r⟩:=mH hx;obtain⟨w,e3,rw'⟩:=r.atI e1;subst e2
   exact⟨p,vs,i,w,rfl,cV hy,aH.tup I hq,e3,k _ S H (bc.refl I) rw'⟩
 . cases e
end
section
variable{K:PySem.W.Frag}{cls:String->Option Addr}{W:XW}{Av G S₀ S S' H H' B B':Hp}{ρ:ah}{σ:St}{Q:VK}
theorem dR:JR K (En K) fO:=by
 intro S H x y v u rr Q I hx hy e k;unfold fO at e;split at e
 . rename_i xs ys;split at e
   . rename_i hl;cases e;obtain⟨p,vs,rfl,hq,r⟩:=gz hx;obtain⟨p2,vs2,rfl,hq2,r2⟩:=gz hy
     exact⟨p,p2,vs,vs2,rfl,rfl,hq,hq2,by rw[r.length,r2.length];exact hl,fun l hn=>k _ S _ (bc.heap I hn) ⟨l,_,rfl,hn,I.free hn,bw,r.append r2⟩⟩
   . cases e
 . cases e
theorem tN{xs:List PV}{ns:List Int}(h:pE xs=some ns):xs=ns.map .int:=by
 induction xs generalizing ns with
 |nil=>cases h;rfl
 | cons x xs ih=>
   cases x with
   | int i=>
     obtain⟨ms,e1,e2⟩:=Option.map_eq_some_iff.mp h;subst e2;rw[ih e1];rfl
   |_=>cases h
theorem Dx{x y:PV}{v u:V}{b:Bool}(hx:RdV K S H x v)(hy:RdV K S H y u)(e:DC x y=some b):
  ∃(p q:Addr) (ns ms:List Int),v=.ref p /\ u=.ref q /\ SqL K H p (ns.map V.int) /\ SqL K H q (ms.map V.int) /\ b=decide (ns=ms):=by
 unfold DC at e;split at e
 . rename_i xs ys;split at e
   . rename_i a b' e1 e2;cases e;obtain⟨p,vs,rfl,hq,r⟩:=gz hx;obtain⟨p2,vs2,rfl,hq2,r2⟩:=gz hy;rw[tN e1]at r;rw[tN e2]at r2;rw[r.v7]at hq;rw[r2.v7]at hq2
     exact⟨p,p2,a,b',rfl,rfl,hq,hq2,rfl⟩
   . cases e
 . cases e
theorem Gi{A:Around}(hu:A.units+64<cLine):JR K (Iq K A false) Dj:=by
 intro S H x y v u rr Q I hx hy e k;obtain⟨b,e1,e2⟩:=Option.map_eq_some_iff.mp e;obtain⟨p,q,ns,ms,rfl,rfl,h1,h2,rfl⟩:=Dx hx hy e1;subst e2
 exact⟨p,q,ns,ms,rfl,rfl,h1,h2,hu,k _ S H (bc.refl I) (by show Rep K S _ _;unfold Rep;simp)⟩
theorem xK{xs:List PV}{vs:List V}{bs:List Bool}(h:nF xs=some bs)(r:bj K S xs vs):vs=bs.map V.bl:=by
 induction xs generalizing bs vs with
 |nil=>cases h;exact r.nil_inv
 | cons x xs ih=>
   cases x with
   | bl i=>
     obtain⟨ms,e1,e2⟩:=Option.map_eq_some_iff.mp h;subst e2;obtain⟨v,t,rfl,h1,h2⟩:=r.cons_inv;unfold Rep at h1;rw[ih e1 h2,h1];rfl
   |_=>cases h
theorem G1{A:Around}(hh:A.handled=none):JU K (fun xs H Q=>∃(p:Addr) (bs:List Bool),xs=[.ref p] /\ SqL K H p (bs.map V.bl) /\ A.handled=none /\ Q (.bl (bs.all id)) H) E6:=by
 intro S H x v rr Q I hx e k
 cases x with
 | lst xs=>
   obtain⟨bs,e1,e2⟩:=Option.map_eq_some_iff.mp e;obtain⟨p,vs,rfl,hq,r⟩:=gz hx;rw[xK e1 r]at hq;subst e2
   exact⟨p,bs,rfl,hq,hh,k _ S H (bc.refl I) (by show Rep K S _ _;unfold Rep;rfl)⟩
 |_=>cases e
theorem FR{T:String}{x:PV}{v:V}{b:Bool}(s:aH S H)(hx:RdV K S H x v)(e:isP T x=some b):IsV K T v H b:=by
 cases x with
 | int i=>
   have:=cV hx;subst this;simp only[isP]at e;split at e
   . cases e;exact .inl ⟨by assumption,rfl⟩
   . split at e
     . rename_i h;cases e;rcases h with h|h|h|h
       . exact .inr (.inl ⟨h,rfl⟩)
       . exact .inr (.inr (.inl ⟨h,rfl⟩))
       . exact .inr (.inr (.inr (.inl ⟨h,rfl⟩)))
       . exact .inr (.inr (.inr (.inr ⟨h,rfl⟩)))
     . cases e
 | bl i=>
   have:=lU hx;subst this;simp only[isP]at e;split at e
   . rename_i h;cases e;rcases h with h|h
     . exact .inl ⟨h,rfl⟩
     . exact .inr (.inl ⟨h,rfl⟩)
   . split at e
     . rename_i h;cases e;rcases h with h|h|h
       . exact .inr (.inr (.inl ⟨h,rfl⟩))
       . exact .inr (.inr (.inr (.inl ⟨h,rfl⟩)))
       . exact .inr (.inr (.inr (.inr ⟨h,rfl⟩)))
     . cases e
 | non=>
   have:=iL hx;subst this;simp only[isP]at e;split at e
   . rename_i h;cases e;rcases h with h|h|h|h|h
     . exact .inl ⟨h,rfl⟩
     . exact .inr (.inl ⟨h,rfl⟩)
     . exact .inr (.inr (.inl ⟨h,rfl⟩))
     . exact .inr (.inr (.inr (.inl ⟨h,rfl⟩)))
     . exact .inr (.inr (.inr (.inr ⟨h,rfl⟩)))
   . cases e
 | str i=>
   have:=iy hx;subst this;simp only[isP]at e;split at e
   . cases e;exact .inr (.inr (.inr (.inr ⟨by assumption,rfl⟩)))
   . split at e
     . rename_i h;cases e;rcases h with h|h|h|h
       . exact .inl ⟨h,rfl⟩
       . exact .inr (.inl ⟨h,rfl⟩)
       . exact .inr (.inr (.inl ⟨h,rfl⟩))
       . exact .inr (.inr (.inr (.inl ⟨h,rfl⟩)))
     . cases e
 | lst xs=>
   obtain⟨p,vs,rfl,hq,r⟩:=gz hx;refine .inl ⟨⟨vs,hq⟩,?_⟩;simp only[isP]at e;split at e
   . cases e;exact .inr (.inr (.inl ⟨by assumption,rfl⟩))
   . split at e
     . rename_i h;cases e;rcases h with h|h|h|h
       . exact .inl ⟨h,rfl⟩
       . exact .inr (.inl ⟨h,rfl⟩)
       . exact .inr (.inr (.inr (.inl ⟨h,rfl⟩)))
       . exact .inr (.inr (.inr (.inr ⟨h,rfl⟩)))
     . cases e
 | tup xs=>
   obtain⟨p,vs,rfl,hq,r⟩:=mH hx;refine .inr ⟨⟨vs,aH.tup s hq⟩,?_⟩;simp only[isP]at e;split at e
   . cases e;exact .inr (.inr (.inr (.inl ⟨by assumption,rfl⟩)))
   . split at e
     . rename_i h;cases e;rcases h with h|h|h|h
       . exact .inl ⟨h,rfl⟩
       . exact .inr (.inl ⟨h,rfl⟩)
       . exact .inr (.inr (.inl ⟨h,rfl⟩))
       . exact .inr (.inr (.inr (.inr ⟨h,rfl⟩)))
     . cases e
theorem qI{T:String}{ta:TE}{ma:ah->OE}(ha:JE K cls W ta ma):
  JE K cls W (tCB (fun xs H Q=>∃ x T b,xs=[x,.ty T] /\ IsV K T x H b /\ Q (.bl b) H) (iT ta (iT (tC (.ty T)) j9))) (mIs T ma):=by
 intro Av G S₀ ρ σ S H Q I p
 refine ha.go I p fun a v S1 H1 I1 w1 r1 p1=>?_
 show ∃ x T' b,[v,V.ty T]=[x,V.ty T'] /\ _
 dsimp only at p1
 cases e:isP T a.pv with
 |none=>rw[e]at p1;exact p1.elim
 | some b=>
   rw[e]at p1
   exact⟨v,T,b,rfl,FR I1.sh (r1.rd I1.sh) e,p1 _ S1 H1 (bc.refl I1.sh) (by show Rep K S1 _ _;unfold Rep;rfl)⟩
end
section
variable{K:PySem.W.Frag}{cls:String->Option Addr}{W:XW}{Av G S₀ S S' H H' B B':Hp}{ρ:ah}{σ:St}{Q:VK}
theorem oW{xs:List PV}{vs:List V}(h:bj K S xs vs):vs.isEmpty=xs.isEmpty:=by
 cases xs with
 |nil=>rw[h.nil_inv];rfl
 |cons x xs=>obtain⟨v,r,rfl,_⟩:=h.cons_inv;rfl
theorem yY(s:aH S H)(hx:RdV K S H x v)(e:ka x=some b):wL K v H b:=by
 cases x with
 |non=>have:=iL hx;subst this;cases e;rfl
 |bl c=>have:=lU hx;subst this;cases e;rfl
 |int i=>have:=cV hx;subst this;cases e;rfl
 |str z=>cases e
 | lst xs=>
   obtain⟨p,vs,rfl,hq,r⟩:=gz hx;cases e;exact .inl ⟨vs,hq,by rw[oW r]⟩
 | tup xs=>
   obtain⟨p,vs,rfl,hq,r⟩:=mH hx;cases e;exact .inr (.inl ⟨vs,aH.tup s hq,by rw[oW r]⟩)
theorem dD{ma:ah->OE}(ha:JE K cls W ta ma):JT K cls W (fun σ H Q=>ta σ H fun x H'=>∃ k,wL K x H' k /\ Q k H') (b4 ma):=by
 intro Av G S₀ ρ σ S H Q I p
 refine ha.goT I p fun r v S1 H1 I1 w1 r1 p1=>?_
 cases e:ka r.pv with
 |none=>rw[e]at p1;exact p1.elim
 |some b=>rw[e]at p1;exact⟨b,yY I1.sh (r1.rd I1.sh) e,p1 S1 H1 (bc.refl I1.sh)⟩
theorem uS{r:RV}(h:r.pv=.bl b)(r1:kM K H S1 H1 r v)(s:aH S1 H1):v=.bl b:=by
 have:=r1.rd s;rw[h]at this;exact lU this
theorem ay{ma:ah->OE}(ha:JE K cls W ta ma):JT K cls W (tM ta) (az ma):=by
 intro Av G S₀ ρ σ S H Q I p
 refine ha.goT I p fun r v S1 H1 I1 w1 r1 p1=>?_
 cases e:r.pv with
 |bl b=>rw[e]at p1;exact⟨b,uS e r1 I1.sh,p1 S1 H1 (bc.refl I1.sh)⟩
 |_=>rw[e]at p1;exact p1.elim
theorem Bd{ma:ah->OT}(ha:JT K cls W ta ma):JT K cls W (DJ ta) (yL ma):=by
 intro Av G S₀ ρ σ S H Q I p
 exact ha.goT I p fun b S1 H1 I1 w1 p1=>p1 S1 H1 (bc.refl I1.sh)
theorem om{ma mb:ah->OT}(ha:JT K cls W ta ma)(hb:JT K cls W tb mb):JT K cls W (Gh ta tb) (jF ma mb):=by
 intro Av G S₀ ρ σ S H Q I p
 refine ha.goT I p fun b S1 H1 I1 w1 p1=>?_
 cases b with
 |true=>exact vn (hb Av G S₀ ρ σ S1 H1 Q I1 p1)
 |false=>exact vh (p1 S1 H1 (bc.refl I1.sh))
theorem Hk{ma mb:ah->OT}(ha:JT K cls W ta ma)(hb:JT K cls W tb mb):JT K cls W (tOr ta tb) (FK ma mb):=by
 intro Av G S₀ ρ σ S H Q I p
 refine ha.goT I p fun b S1 H1 I1 w1 p1=>?_
 cases b with
 |false=>exact vh (hb Av G S₀ ρ σ S1 H1 Q I1 p1)
 |true=>exact vn (p1 S1 H1 (bc.refl I1.sh))
theorem kz:kM K B S H (.sh (.bl b)) (.bl b):=by show Rep K S _ _;unfold Rep;rfl
theorem xo{ma mb:ah->OE}(ha:JE K cls W ta ma)(hb:JE K cls W tb mb):JE K cls W (BI ta tb) (tI ma mb):=by
 intro Av G S₀ ρ σ S H Q I p
 refine ha.go I p fun r v S1 H1 I1 w1 r1 p1=>?_
 cases e:r.pv with
 | bl b=>
   rw[e]at p1
   refine⟨b,uS e r1 I1.sh,?_⟩
   cases b with
   |true=>exact vn (hb Av G S₀ ρ σ S1 H1 Q I1 p1)
   |false=>exact vh (p1 _ S1 H1 (bc.refl I1.sh) kz)
 |_=>rw[e]at p1;exact p1.elim
theorem GH{ma:ah->OE}(ha:JE K cls W ta ma):JE K cls W (Ap ta) (B3 ma):=by
 intro Av G S₀ ρ σ S H Q I p
 refine ha.go I p fun r v S1 H1 I1 w1 r1 p1=>?_
 cases e:r.pv with
 |bl b=>rw[e]at p1;exact⟨b,uS e r1 I1.sh,p1 _ S1 H1 (bc.refl I1.sh) kz⟩
 |_=>rw[e]at p1;exact p1.elim
theorem iU{mc:ah->OT}{ma mb:ah->OE}(hc:JT K cls W tc mc)(ha:JE K cls W ta ma)(hb:JE K cls W tb mb):JE K cls W (tIf tc ta tb) (ju mc ma mb):=by
 intro Av G S₀ ρ σ S H Q I p
 refine hc.go I p fun b S1 H1 I1 w1 p1=>?_
 cases b with
 |true=>exact vn (ha Av G S₀ ρ σ S1 H1 Q I1 p1)
 |false=>exact vh (hb Av G S₀ ρ σ S1 H1 Q I1 p1)
theorem ji{g g':PV->PV->Option RV}{ma mb mc:ah->OE}(hr:JR K r g)(hr':JR K r' g')(ha:JE K cls W ta ma)(hb:JE K cls W tb mb)(hc:JE K cls W tc mc):
  JE K cls W (rQ r r' ta tb tc) (kx g g' ma mb mc):=by
 intro Av G S₀ ρ σ S H Q I p
 refine ha.go I p fun a v S1 H1 I1 w1 r1 p1=>hb.go I1 p1 fun b u S2 H2 I2 w2 r2 p2=>?_
 cases e:g a.pv b.pv with
 |none=>rw[e]at p2;exact p2.elim
 | some rr=>
   rw[e]at p2
   refine hr S2 H2 a.pv b.pv v u rr _ I2.sh ((r1.rd I1.sh).mono w2.s w2.g) (r2.rd I2.sh) e fun z S3 H3 w3 r3=>?_
   have I3:=I2.grow w3;simp only[oE,OE.bind]at p2
   cases e3:rr.pv with
   | bl k=>
     rw[e3]at p2;have hz:=uS e3 r3 I3.sh
     refine⟨k,hz,?_⟩
     cases k with
     |false=>exact vh (p2 _ S3 H3 w3 kz)
     | true=>
       refine vn (hc.go I3 (p2.back w3) fun c y S4 H4 I4 w4 r4 p4=>?_)
       cases e4:g' b.pv c.pv with
       |none=>rw[e4]at p4;exact p4.elim
       |some r'=>rw[e4]at p4;exact hr' S4 H4 b.pv c.pv u y r' Q I4.sh (((r2.rd I2.sh).mono w3.s w3.g).mono w4.s w4.g) (r4.rd I4.sh) e4 p4
   |_=>rw[e3]at p2;exact p2.elim
theorem ax{ma mb:ah->OS}(ha:JS K cls W ta ma)(hb:JS K cls W tb mb):JS K cls W (GG ta tb) (aK ma mb):=by
 intro Av G S₀ ρ σ S H D I p;refine ha Av G S₀ ρ σ S H _ I ?_;unfold aK at p
 cases e:ma ρ with
 |nx ρ'=>rw[e]at p;exact fun σ' S' H' I' s'=>hb Av G S₀ ρ' σ' S' H' D I' (p.back s')
 |bk ρ'=>rw[e]at p;exact p
 |ct ρ'=>rw[e]at p;exact p
 |rt ρ' r=>rw[e]at p;exact p
 |exc ρ' c fs=>rw[e]at p;exact p
 |bad=>rw[e]at p;exact p
theorem aG:JS K cls W Ba aR:=fun Av G S₀ ρ σ S H D I p=>p σ S H I (aH.refl _)
theorem aO{me:ah->OE}(he:JE K cls W te me):JS K cls W (sN te (jb i)) (aV i me):=by
 intro Av G S₀ ρ σ S H D I p
 refine he.goS I p fun r v S1 H1 I1 w1 r1 p1=>?_
 show D.nx (σ.set i (some v)) H1
 cases r with
 |sh x=>exact p1 _ S1 H1 (I1.yl r1) (aH.refl _)
 |fr xs=>exact p1 _ S1 H1 (I.Io w1 r1) (aH.refl _)
 |al xs=>exact p1.elim
theorem aU{mc:ah->OT}{ma mb:ah->OS}(hc:JT K cls W tc mc)(ha:JS K cls W ta ma)(hb:JS K cls W tb mb):JS K cls W (C9 tc ta tb) (bf mc ma mb):=by
 intro Av G S₀ ρ σ S H D I p
 refine hc.goS I p fun b S1 H1 I1 w1 p1=>?_
 cases b with
 |true=>exact vn (ha Av G S₀ ρ σ S1 H1 D I1 p1)
 |false=>exact vh (hb Av G S₀ ρ σ S1 H1 D I1 p1)
theorem aB{me:ah->OE}(he:JE K cls W te me):JS K cls W (DB te) (ba me):=by
 intro Av G S₀ ρ σ S H D I p
 refine he.goS I p fun r v S1 H1 I1 w1 r1 p1=>?_
 cases r with
 |sh x=>exact p1 v σ S1 H1 I1 (aH.refl _) r1
 |fr xs=>exact p1 v σ S1 H1 I1 (aH.refl _) (r1.back I.gh)
 |al xs=>exact p1.elim
theorem sY:JS K cls W (DB (wU i)) (oY i):=by
 intro Av G S₀ ρ σ S H D I p;unfold oY at p;split at p
 . rename_i x e;obtain⟨v,e1,r⟩:=I.good i _ e
   exact⟨v,e1,p v σ S H I (aH.refl _) r⟩
 . rename_i xs e;obtain⟨v,e1,a,vs,e2,h1,h2,h3,h4⟩:=I.good i _ e
   exact⟨v,e1,p v σ S H I.drop (aH.refl _) ⟨a,vs,e2,h1,h2,h3,h4⟩⟩
 . exact p.elim
theorem jQ{m:ah->OS}(h:JS K cls W ts m):JS K cls W ts (eR i m):=by
 intro Av G S₀ ρ σ S H D I p;unfold eR jN at p;split at p
 . rename_i xs e;obtain⟨S',s,J⟩:=I.Ic e;exact h Av G S₀ _ σ S' H D J (p.back s)
 . exact h Av G S₀ ρ σ S H D I p
theorem jP{me:ah->OE}(he:JE K cls W te me):JS K cls W (sq (tBM K "list" yV (wU i) (iT te j9))) (dY i me):=by
 intro Av G S₀ ρ σ S H D I p;unfold dY at p;split at p
 . rename_i xs e;obtain⟨v,e1,a,vs,rfl,h1,h2,h3,h4⟩:=I.good i _ e
   refine⟨_,e1,.inl ⟨rfl,_,SqL.new h3⟩,?_⟩
   refine he Av G S₀ ρ σ S H _ I ?_
   cases em:me ρ with
   |exc c fs=>rw[em]at p;exact fun a C S' H' w x=>p a C σ S' H' (I.grow w) w.s x
   |bad=>rw[em]at p;exact p
   | ok r=>
     rw[em]at p;intro u S1 H1 w1 r1;simp only[OE.cD]at p
     cases es:jn r with
     |none=>rw[es]at p;exact p.elim
     | some y=>
       rw[es]at p
       dsimp only at p
       split at p
       . rename_i hl;obtain⟨S2,w2,s2,rx⟩:=r1.share w1 es;have I2:=I.grow w2
         refine⟨a,vs,u,rfl,rfl,w2.g _ _ h3,by rw[h4.length];exact hl,?_⟩
         exact p σ S2 _ (I2.mut e e1 ((h4.mono w2.s).append (.cons rx .nil))) w2.s
       . exact p.elim
 . exact p.elim
theorem tJ{mb:ah->OS}{D:Ends}{N:St->Hp->Prop}(hb:JS K cls W tb mb)(I:SR K cls Av G S₀ ρ σ S H)(hx:Rep K S x v)
  (p:iO K cls W Av G S₀ S D (iR i mb (x ::xs) ρ)) (hN:∀ ρ' σ' S' H',SR K cls Av G S₀ ρ' σ' S' H'->aH S S'->iO K cls W Av G S₀ S' D (iR i mb xs ρ')->N σ' H'):
  jb i v σ H fun σ2 H2=>tb { D with nx:=N,ct:=N,bk:=D.nx } σ2 H2:=by
 refine hb Av G S₀ _ _ S H _ (I.yl hx) ?_;rw[j4]at p
 cases e:mb (ρ.set i (some (.sh x)))with
 |nx ρ'=>rw[e]at p;exact fun σ' S' H' I' s'=>hN ρ' σ' S' H' I' s' (p.back s')
 |ct ρ'=>rw[e]at p;exact fun σ' S' H' I' s'=>hN ρ' σ' S' H' I' s' (p.back s')
 |bk ρ'=>rw[e]at p;exact p
 |rt ρ' r=>rw[e]at p;exact p
 |exc ρ' c fs=>rw[e]at p;exact p
 |bad=>rw[e]at p;exact p
theorem qr{ml:ah->OE}{mb:ah->OS}(hl:JE K cls W tl ml)(hb:JS K cls W tb mb):JS K cls W (Bs (vt K tl) (jb i) tb) (nU i ml mb):=by
 intro Av G S₀ ρ σ S H D I p;refine hl Av G S₀ ρ σ S H _ I ?_;unfold nU at p
 cases em:ml ρ with
 |exc c fs=>rw[em]at p;exact fun a C S' H' w x=>p a C σ S' H' (I.grow w) w.s x
 |bad=>rw[em]at p;exact p
 | ok r=>
   rw[em]at p;intro v S1 H1 w1 r1;simp only[OE.cD]at p
   cases ei:vk r with
   |none=>rw[ei]at p;exact p.elim
   | some xs=>
     rw[ei]at p
     have es:jn r=some (.lst xs):=by
      cases r with
      |sh y=>cases y<;>cases ei<;>rfl
      |fr ys=>cases ei;rfl
      |al ys=>cases ei
     obtain⟨S2,w2,s2,rx⟩:=r1.share w1 es;have I2:=I.grow w2;unfold Rep at rx;obtain⟨a,vs,rfl,hq,hr⟩:=rx
     refine⟨a,rfl,⟨vs,aH.seq I2.sh hq⟩,?_⟩
     refine Bu (xs:=vs) (fun k σ' H'=>∃ ρ' S',SR K cls Av G S₀ ρ' σ' S' H' /\ aH S2 S' /\ iO K cls W Av G S₀ S' D (iR i mb (xs.drop k) ρ'))
      ⟨ρ,S2,I2,aH.refl _,p.back w2.s⟩ ?_ ?_ ?_
     . rintro k σ' H' _ ⟨ρ',S',I',s',_⟩
       exact aH.seq (s'.trans I'.sh) hq
     . rintro k x σ' H' hx ⟨ρ',S',I',s',p'⟩
       obtain⟨y,hy,ry⟩:=hr.Hq hx
       have hd:xs.drop k=y ::xs.drop (k+1):=by
        have hk:k<xs.length:=(List.getElem?_eq_some_iff.mp hy).1
        rw[List.drop_eq_getElem_cons hk]
        congr 1
        have:=List.getElem?_eq_getElem hk;rw[hy]at this
        exact(Option.some.inj this).symm
       rw[hd]at p'
       exact tJ hb I' (Rep.mono s' ry) p' fun ρ2 σ2 S3 H3 I3 s3 p3=>⟨ρ2,S3,I3,s'.trans s3,p3⟩
     . rintro σ' H' ⟨ρ',S',I',s',p'⟩
       rw[List.drop_of_length_le (by rw[hr.length];exact Nat.le_refl _)]at p';exact p' σ' S' H' I' (aH.refl _)
theorem we(h:k<n):(cO n).drop k=.int (k:Int) ::(cO n).drop (k+1):=by
 have hk:k<(cO n).length:=by unfold cO;simpa using h
 rw[List.drop_eq_getElem_cons hk]
 congr 1
 simp[cO]
theorem yh{me:ah->OE}{mb:ah->OS}(he:JE K cls W te me)(hb:JS K cls W tb mb):JS K cls W (Bs (va (iT te j9)) (jb i) tb) (yf i me mb):=by
 intro Av G S₀ ρ σ S H D I p
 refine he.goS I p fun r v S1 H1 I1 w1 r1 p1=>?_
 cases e:r.pv with
 | int j=>
   rw[e]at p1
   have hv:v=.int j:=by have:=r1.rd I1.sh;rw[e]at this;exact cV this
   subst hv
   dsimp only at p1
   split at p1
   . rename_i hj
     refine⟨j,rfl,hj.1,hj.2,?_⟩
     refine Aj (n:=j.toNat) (fun k σ' H'=>∃ ρ' S',SR K cls Av G S₀ ρ' σ' S' H' /\ aH S1 S' /\ iO K cls W Av G S₀ S' D (iR i mb ((cO j.toNat).drop k) ρ'))
      ⟨ρ,S1,I1,aH.refl _,p1⟩ ?_ ?_
     . rintro k σ' H' hk ⟨ρ',S',I',s',p'⟩
       rw[we hk]at p'
       refine tJ hb I' ?_ p' fun ρ2 σ2 S3 H3 I3 s3 p3=>⟨ρ2,S3,I3,s'.trans s3,p3⟩
       unfold Rep;rw[Int.zero_add]
     . rintro σ' H' ⟨ρ',S',I',s',p'⟩
       rw[List.drop_of_length_le (by unfold cO;simp)]at p';exact p' σ' S' H' I' (aH.refl _)
   . exact p1.elim
 |_=>rw[e]at p1;exact p1.elim
theorem qL{mc:ah->OT}{mb:ah->OS}(hc:JT K cls W tc mc)(hb:JS K cls W tb mb):JS K cls W (xH tc tb) (dO mc mb n):=by
 intro Av G S₀ ρ σ S H D I p
 refine⟨fun m σ' H'=>∃ ρ' S',SR K cls Av G S₀ ρ' σ' S' H' /\ aH S S' /\ iO K cls W Av G S₀ S' D (dO mc mb m ρ'),⟨n,ρ,S,I,aH.refl _,p⟩,?_⟩
 rintro m σ1 H1 ⟨ρ1,S1,I1,s1,p1⟩
 cases m with
 |zero=>exact p1.elim
 | succ m=>
   unfold dO at p1
   refine hc.goS I1 p1 fun b S2 H2 I2 w2 p2=>?_
   cases b with
   |false=>exact vh (p2 σ1 S2 H2 I2 (aH.refl _))
   | true=>
     refine vn ⟨fun σ' H'=>∃ ρ' S',SR K cls Av G S₀ ρ' σ' S' H' /\ aH S S' /\ iO K cls W Av G S₀ S' D (dO mc mb m ρ'),fun σ' H' h=>⟨m,Nat.lt_succ_self m,h⟩,?_⟩;refine hb Av G S₀ ρ1 σ1 S2 H2 _ I2 ?_;simp only[if_true]at p2
     cases e:mb ρ1 with
     |nx ρ'=>rw[e]at p2;exact fun σ' S' H' I' s'=>⟨ρ',S',I',(s1.trans w2.s).trans s',p2.back s'⟩
     |ct ρ'=>rw[e]at p2;exact fun σ' S' H' I' s'=>⟨ρ',S',I',(s1.trans w2.s).trans s',p2.back s'⟩
     |bk ρ'=>rw[e]at p2;exact p2
     |rt r=>rw[e]at p2;exact p2
     |exc ρ' c fs=>rw[e]at p2;exact p2
     |bad=>rw[e]at p2;exact p2
end
section
variable{K:PySem.W.Frag}{cls:String->Option Addr}{W:XW}{Av G S₀ S S' H H' B B':Hp}{ρ:ah}{σ:St}{Q:VK}
noncomputable def B8:V->Option Int
 |.int i=>some i
 |_=>none
noncomputable def JO(K:PySem.W.Frag)(cls:String->Option Addr)(W:XW)(to:TO)(m:ah->OE):Prop:=∀ Av G S₀ ρ σ S H (Q:Option Int->Hp->Prop),SR K cls Av G S₀ ρ σ S H ->
 kn K cls W σ S H (fun v H'=>Q (B8 v) H') (m ρ)->to σ H Q
theorem nC:JO K cls W ui (mC .non):=fun Av G S₀ ρ σ S H Q I p=>p .non S H (bc.refl I.sh) (by show Rep K S _ _;unfold Rep;rfl)
theorem gK{m:ah->OE}(h:JE K cls W te m):JO K cls W (B6 te) (eh m):=by
 intro Av G S₀ ρ σ S H Q I p
 refine h.go I p fun r v S1 H1 I1 w1 r1 p1=>?_
 cases e:r.pv with
 | int i=>
   rw[e]at p1
   have hv:v=.int i:=by have:=r1.rd I1.sh;rw[e]at this;exact cV this
   exact⟨i,hv,p1 (.int i) S1 H1 (bc.refl I1.sh) (by show Rep K S1 _ _;unfold Rep;rfl)⟩
 |_=>rw[e]at p1;exact p1.elim
theorem JO.go{m:ah->OE}{f:RV->OE}{Q':Option Int->Hp->Prop}(h:JO K cls W to m)(I:SR K cls Av G S₀ ρ σ S H)(p:kn K cls W σ S H Q ((m ρ).bind f))
  (k:∀ r v S1 H1,SR K cls Av G S₀ ρ σ S1 H1->bc S H S1 H1->kM K H S1 H1 r v->kn K cls W σ S1 H1 Q (f r)->Q' (B8 v) H1):to σ H Q':=by
 refine h Av G S₀ ρ σ S H Q' I ?_
 cases e:m ρ with
 |ok r=>rw[e]at p;exact fun v S1 H1 w r1=>k r v S1 H1 (I.grow w) w r1 (p.back w)
 |exc c fs=>rw[e]at p;exact p
 |bad=>rw[e]at p;exact p
theorem part_of(h:RdV K S H x v):B8 v=j0 x:=by
 cases x with
 |int i=>rw[cV h];rfl
 |non=>rw[iL h];rfl
 |bl b=>rw[lU h];rfl
 |str b=>rw[iy h];rfl
 |lst xs=>obtain⟨p,vs,rfl,_⟩:=gz h;rfl
 |tup xs=>obtain⟨p,vs,rfl,_⟩:=mH h;rfl
theorem bj.cut(h:bj K S xs vs)(lo hi:Option Int):bj K S (qm xs lo hi) (zL vs lo hi):=by
 have es:∀ n d o,sM n d o=HT.sIx n d o:=fun n d o=>by cases o<;>rfl
 unfold qm zL;simp only[es];rw[h.length]
 exact(h.drop _).take _
theorem lb{ma ml mh:ah->OE}(ha:JE K cls W te ma)(hl:JO K cls W tl ml)(hh:JO K cls W th mh):JE K cls W (tSl (Hg K) te tl th) (jx ma ml mh):=by
 intro Av G S₀ ρ σ S H Q I p
 refine ha.go I p fun a v S1 H1 I1 w1 r1 p1=>hl.go I1 p1 fun l u S2 H2 I2 w2 r2 p2=>hh.go I2 p2 fun h z S3 H3 I3 w3 r3 p3=>?_
 rw[part_of (r2.rd I2.sh),part_of (r3.rd I3.sh)];have ra:=((r1.rd I1.sh).mono w2.s w2.g).mono w3.s w3.g
 cases e:a.pv with
 | lst xs=>
   rw[e]at p3 ra;obtain⟨q,vs,rfl,hq,hr⟩:=gz ra
   exact⟨q,vs,rfl,hq,fun b hb=>p3 _ S3 _ (bc.heap I3.sh hb) ⟨b,_,rfl,hb,I3.sh.free hb,bw,hr.cut _ _⟩⟩
 |_=>rw[e]at p3;exact p3.elim
theorem join_some{α:Type}{o:Option (Option α)}{s:α}(h:o.join=some s):o=some (some s):=by
 cases o with
 |none=>cases h
 | some x=>cases x with
   |none=>cases h
   |some y=>rw[show y=s from Option.some.inj h]
theorem CO{α:Type}{l:List (Option α)}{ι:List Nat}{j:Nat}{s:α}(h:(ι.map fun i=>(l[i]?).join)[j]?=some (some s)):∃ i,ι[j]?=some i /\ l[i]?=some (some s):=by
 rw[List.getElem?_map]at h
 cases e:ι[j]? with
 |none=>rw[e]at h;cases h
 |some i=>rw[e]at h;exact⟨i,rfl,join_some (Option.some.inj h)⟩
noncomputable def EE(ι:List Nat)(Av:Hp):Hp:=fun j=>match ι[j]? with
 |some i=>Av i
 |none=>none
noncomputable def u9(ι:List Nat)(F:Nat->List Addr):Nat->List Addr:=fun j=>match ι[j]? with
 |some i=>F i
 |none=>[]
theorem qq.at(h:qq K cls Av G S H i s v fp)(e:Av' j=Av i):qq K cls Av' G S H j s v fp:=by
 cases s with
 |sh x=>exact h
 |ow xs=>exact h
 |ex c fs=>exact h
 |tr io t=>exact⟨h.1,h.2.1,h.2.2.1,fun z=>by rw[e];exact h.2.2.2 z⟩
 |bo t=>exact h
theorem SR.pick{ι:List Nat}{x:PV}{v:V}(I:SR K cls Av G S₀ ρ σ S H)(hι:ι.Nodup)(hx:Rep K S x v):SR K cls (EE ι Av) G S₀ (cQ ι ρ++[some (.sh x)]) (L2.E.pick ι σ++[some v]) S H:=by
 obtain⟨F,J⟩:=I
 have hl:(cQ ι ρ).length=(L2.E.pick ι σ).length:=by unfold cQ L2.E.pick;simp
 have hp:(cQ ι ρ).length=ι.length:=by unfold cQ;simp
 refine⟨u9 ι F,J.gh,J.s0,J.sh,J.new,fun j s e=>?_,fun j k a h1 h2=>?_,fun j a h=>?_,by unfold cQ L2.E.pick;simp⟩
 . by_cases hj:j<(cQ ι ρ).length
   . rw[List.getElem?_append_left hj]at e;obtain⟨i,e1,e2⟩:=CO e;obtain⟨u,e3,r⟩:=J.own i s e2
     refine⟨u,?_,?_⟩
     . rw[List.getElem?_append_left (by rw[<- hl];exact hj)];unfold L2.E.pick;rw[List.getElem?_map,e1];show some (σ[i]?).join=_;rw[e3];rfl
     . unfold u9;rw[e1];exact r.at (by unfold EE;rw[e1])
   . have hj':(cQ ι ρ).length<=j:=Nat.le_of_not_lt hj
     rw[List.getElem?_append_right hj']at e
     have h0:j - (cQ ι ρ).length=0:=by
      by_cases h:j - (cQ ι ρ).length=0
      . exact h
      . rw[List.getElem?_eq_none (by simp;omega)]at e;cases e
     rw[h0]at e;cases e
     refine⟨v,?_,?_,hx⟩
     . rw[List.getElem?_append_right (by rw[<- hl];exact hj'),<- hl,h0];rfl
     . unfold u9;rw[List.getElem?_eq_none (by rw[<- hp];exact hj')]
 . unfold u9 at h1 h2
   cases e1:ι[j]? with
   |none=>rw[e1]at h1;cases h1
   | some i=>
     cases e2:ι[k]? with
     |none=>rw[e2]at h2;cases h2
     | some i'=>
       rw[e1]at h1;rw[e2]at h2;have z:=J.apart i i' a h1 h2;subst z;obtain⟨ha,ea⟩:=List.getElem?_eq_some_iff.mp e1;obtain⟨hb,eb⟩:=List.getElem?_eq_some_iff.mp e2
       exact(List.getElem_inj hι).mp (ea.trans eb.symm)
 . unfold u9 at h
   cases e1:ι[j]? with
   |none=>rw[e1]at h;cases h
   |some i=>rw[e1]at h;exact J.live i a h
theorem B9{me:ah->OE}(h:dg me ρ (x ::xs)=.ok ys):∃ r y zs,me (ρ++[some (.sh x)])=.ok r /\ jn r=some y /\ dg me ρ xs=.ok zs /\ ys=y ::zs:=by
 unfold dg at h
 cases e:me (ρ++[some (.sh x)])with
 | ok r=>
   rw[e]at h;simp only[OE.eW]at h
   cases e2:jn r with
   |none=>rw[e2]at h;cases h
   | some y=>
     rw[e2]at h
     dsimp only at h
     cases e3:dg me ρ xs with
     |ok zs=>rw[e3]at h;cases h;exact⟨r,y,zs,rfl,e2,rfl,rfl⟩
     |exc c fs=>rw[e3]at h;cases h
     |bad=>rw[e3]at h;cases h
 |exc c fs=>rw[e]at h;cases h
 |bad=>rw[e]at h;cases h
theorem nu{J:It}{ι:List Nat}{me:ah->OE}{xs ys:List PV}(hι:ι.Nodup)(he:JE K cls (fun _ _ _ _=>False) te me)(I:SR K cls Av G S₀ ρ σ S H)(hy:dg me (cQ ι ρ) xs=.ok ys)(hl:ys.length<=lim)
  (go:∀ k H' x,aH H H'->xs[k]?=some x->J.go k H' /\ ∀ v H2,J.yld k H' v H2->H2=H' /\ Rep K S x v) (stop:∀ H',aH H H'->J.stop xs.length H')
  (hQ:∀ D S' H',bc S H S' H'->H D=none->S' D=none->(∃ us,H' D=some (.lst us) /\ bj K S' ys us)->Q (.ref D) H'):
  ∀ D,H D=none->∃ W:Nat->Nat->List V->Hp->Prop,(∃ m,W 0 m [] (upd H D (.lst []))) /\ ∀ i m us H',W i m us H' ->
    H' D=some (.lst us) /\ ((J.stop i H' /\ Q (.ref D) H') \/ (J.go i H' /\ ∀ x H2,J.yld i H' x H2->te (L2.E.pick ι σ++[some x]) H2 fun y H3=>H3 D=some (.lst us) /\ us.length<sizeLine /\ ∃ m',m'<m /\ W (i+1) m' (us++[y]) (upd H3 D (.lst (us++[y]))))):=by
 intro D nD
 refine⟨fun k m us H'=>m+k=xs.length /\ H' D=some (.lst us) /\ ∃ S' zs ws,aH S S' /\ aH H H' /\ aH S' H' /\ (∀ b,S' b≠none->S b≠none \/ (H b=none /\ b≠D)) /\ bj K S' zs us /\ dg me (cQ ι ρ) (xs.drop k)=.ok ws /\ ys=zs++ws,
  ⟨xs.length,rfl,bw,S,[],ys,aH.refl _,aH.new nD,I.sh.trans (aH.new nD),fun b z=>.inl z,.nil,hy,rfl⟩,?_⟩
 rintro k m us H' ⟨hm,hD,S',zs,ws,s1,g1,sh1,n1,r1,e1,rfl⟩
 refine⟨hD,?_⟩
 have hSD:S' D=none:=by
  cases q:S' D with
  |none=>rfl
  | some o=>
    rcases n1 D (by rw[q];simp)with z|⟨_,z⟩
    . exact absurd (I.sh.free nD) z
    . exact absurd rfl z
 by_cases hk:k<xs.length
 . refine .inr ?_
   have hx:xs[k]?=some xs[k]:=by simp[hk]
   obtain⟨hgo,hyld⟩:=go k H' xs[k] g1 hx
   refine⟨hgo,fun v H2 hv=>?_⟩
   obtain⟨rfl,rv⟩:=hyld v H2 hv;rw[List.drop_eq_getElem_cons hk]at e1;obtain⟨r,y,zs',em,es,e2,rfl⟩:=B9 e1
   have I1:SR K cls Av G S₀ ρ σ S' H2:=I.grow ⟨s1,g1,sh1,fun b z=>by
    rcases n1 b z with z|⟨z,_⟩
    . exact .inl z
    . exact .inr z⟩
   refine he _ G S₀ _ _ S' H2 _ (I1.pick hι (Rep.mono s1 rv)) ?_;rw[em];intro u S2 H3 w2 r2;obtain⟨S3,w3,s3,ru⟩:=r2.share w2 es
   have hl2:(zs++y ::zs').length<=lim:=hl
   have hSD3:S3 D=none:=by
    cases q:S3 D with
    |none=>rfl
    | some o=>
      rcases w3.new D (by rw[q];simp)with z|z
      . exact absurd hSD z
      . rw[hD]at z;cases z
   refine⟨w3.g _ _ hD,?_,m - 1,by omega,by omega,bw,S3,zs++[y],zs',s1.trans w3.s,(g1.trans w3.g).upd nD,w3.sh.upd hSD3,fun b z=>?_,(r1.mono w3.s).append (.cons ru .nil),e2,by simp⟩
   . rw[r1.length,<- xg];rw[List.length_append,List.length_cons]at hl2;omega
   . rcases w3.new b z with z|z
     . exact n1 b z
     . refine .inr ⟨g1.free z,fun e=>?_⟩;rw[e,hD]at z;cases z
 . have hk':k=xs.length:=by omega
   subst hk';refine .inl ⟨stop H' g1,?_⟩;rw[List.drop_length]at e1;cases e1
   exact hQ D S' H' ⟨s1,g1,sh1,fun b z=>by
    rcases n1 b z with z|⟨z,_⟩
    . exact .inl z
    . exact .inr z⟩ nD hSD ⟨us,hD,by rw[List.append_nil];exact r1⟩
theorem vp{ml me:ah->OE}{ι:List Nat}(hι:ι.Nodup)(hl:JE K cls W tl ml)(he:JE K cls (fun _ _ _ _=>False) te me):JE K cls W (pZ (vt K tl) ι te) (rG ml ι me):=by
 intro Av G S₀ ρ σ S H Q I p
 refine hl.go I p fun r v S1 H1 I1 w1 r1 p1=>?_
 have ra:=r1.rd I1.sh
 cases e:r.pv with
 | lst xs=>
   rw[e]at p1 ra;obtain⟨a,vs,rfl,hq,hr⟩:=gz ra
   refine⟨a,rfl,⟨vs,hq⟩,?_⟩
   dsimp only at p1
   cases em:dg me (cQ ι ρ) xs with
   |exc c fs=>rw[em]at p1;exact p1.elim
   |bad=>rw[em]at p1;exact p1.elim
   | ok ys=>
     rw[em]at p1;simp only[noX]at p1;split at p1
     . rename_i hlen
       refine nu hι he I1 em hlen (fun k H' x g hx=>?_) (fun H' g=>⟨vs,aH.seq g hq,by rw[hr.length];exact Nat.le_refl _⟩) fun D S' H' w nD sD ⟨us,hD,rr⟩=>p1 (.ref D) S' H' w ⟨D,us,rfl,nD,sD,hD,rr⟩
       obtain⟨u,hu,ru⟩:=hr.get hx
       refine⟨⟨vs,u,aH.seq g hq,hu⟩,?_⟩
       rintro v' H2 ⟨rfl,hv⟩
       have:=hv vs (aH.seq g hq);rw[hu]at this;cases this
       exact⟨rfl,ru⟩
     . exact p1.elim
 |_=>rw[e]at p1;exact p1.elim
theorem Bq{mn me:ah->OE}{ι:List Nat}(hι:ι.Nodup)(hn:JE K cls W tn mn)(he:JE K cls (fun _ _ _ _=>False) te me):JE K cls W (pZ (va (iT tn j9)) ι te) (uj mn ι me):=by
 intro Av G S₀ ρ σ S H Q I p
 refine hn.go I p fun r v S1 H1 I1 w1 r1 p1=>?_
 have ra:=r1.rd I1.sh
 cases e:r.pv with
 | int j=>
   rw[e]at p1 ra;have hv:=cV ra;subst hv
   dsimp only at p1
   split at p1
   . rename_i hj
     refine⟨j,rfl,hj.1,hj.2,?_⟩
     cases em:dg me (cQ ι ρ) (cO j.toNat)with
     |exc c fs=>rw[em]at p1;exact p1.elim
     |bad=>rw[em]at p1;exact p1.elim
     | ok ys=>
       rw[em]at p1;simp only[noX]at p1;split at p1
       . rename_i hlen
         have hln:(cO j.toNat).length=j.toNat:=by unfold cO;simp
         refine nu hι he I1 em hlen (fun k H' x g hx=>?_) (fun H' g=>by rw[hln];exact Nat.le_refl _) fun D S' H' w nD sD ⟨us,hD,rr⟩=>p1 (.ref D) S' H' w ⟨D,us,rfl,nD,sD,hD,rr⟩
         have hk:k<j.toNat:=by rw[<- hln];exact(List.getElem?_eq_some_iff.mp hx).1
         refine⟨hk,?_⟩
         rintro v' H2 ⟨rfl,rfl⟩
         refine⟨rfl,?_⟩
         have:x=.int (k:Int):=by
          unfold cO at hx;rw[List.getElem?_map,List.getElem?_range hk]at hx
          exact(Option.some.inj hx).symm
         subst this;unfold Rep;rw[Int.zero_add]
       . exact p1.elim
   . exact p1.elim
 |_=>rw[e]at p1;exact p1.elim
theorem bj.begin(h:bj K S xs vs)(N:List Str)(i:Nat)(s:Sl)(e:(jy N.length xs)[i]?=some (some s)):∃ x v,s=.sh x /\ (L2.start N vs)[i]?=some (some v) /\ Rep K S x v:=by
 unfold jy at e
 by_cases hi:i<xs.length
 . rw[List.getElem?_append_left (by simpa using hi),List.getElem?_map]at e
   have hx:xs[i]?=some xs[i]:=by simp[hi]
   rw[hx]at e;cases e;obtain⟨v,hv,r⟩:=h.get hx
   refine⟨_,v,rfl,?_,r⟩
   unfold L2.start;rw[List.getElem?_append_left (by rw[List.length_map,h.length];exact hi),List.getElem?_map,hv];rfl
 . rw[List.getElem?_append_right (by simpa using hi)]at e;rw[List.getElem?_replicate]at e
   split at e<;>cases e
theorem Jd{P:Program}{w:World}{mg:Str->Option Value}{base:Heap}{x qual:Str}{st:Stmt}{f:Addr}{fd:FuncData}{N ps:List Str}{k:Nat}{m:ah->OS}(F:Fun K x qual st f fd)(Sc:aZ N ps (aD st))
  (hbody:∀(cdv:Value) (A:Around) (outer:List Env) (s:Shared) (H:Hp) (E:XK),gw k (A.deeper (envOfC qual (aD st) s.heap.objs.size f cdv)) ->
    ∃ t,PSs (pC (CXE P w) P w K mg base N qual (aD st) f cdv A outer s H E) (dE st) t /\ JS K cls (fun C a _ H=>∀ H',aH H H'->E C a H') t m):cw P w K mg base (CXE P w) (k+1) f fd ps (spP K cls (fnP ps.length N.length m)):=by
 refine okX F Sc (fun vs H Q E h=>?_) fun cdv A outer s H vs Q E hr h=>?_
 . obtain⟨S,xs,_,r,q⟩:=h;unfold fnP at q;split at q
   . rw[r.length];assumption
   . exact q.elim
 . obtain⟨S,xs,sS,r,q⟩:=h;unfold fnP at q;split at q
   . rename_i hl;obtain⟨t,ht,J⟩:=hbody cdv A outer s H E hr
     refine⟨t,ht,?_⟩
     refine J (fun _=>none) H S (jy N.length xs) (start N vs) S H _ ⟨fun _=>[],aH.refl _,aH.refl _,sS,fun _ z=>.inl z,fun i s e=>?_,fun i j a h=>(nomatch h),fun i a h=>(nomatch h),?_⟩ ?_
     . obtain⟨x,v,rfl,e1,rx⟩:=r.begin N i s e
       exact⟨v,e1,rfl,rx⟩
     . unfold jy L2.start;simp[r.length]
     . cases e:m (jy N.length xs)with
       |nx ρ'=>rw[e]at q;exact fun σ' S' H' I' s'=>q .non S' H' ⟨I'.s0,I'.gh,I'.sh,I'.new⟩ (by show Rep K S' _ _;unfold Rep;rfl)
       |bk ρ'=>rw[e]at q;exact q.elim
       |ct ρ'=>rw[e]at q;exact q.elim
       |bad=>rw[e]at q;exact q.elim
       | rt ρ' r=>
         rw[e]at q
         cases r with
         |al ys=>exact q.elim
         |sh y=>exact fun v σ' S' H' b' s' rr=>q v S' H' ⟨b'.s0,b'.gh,b'.sh,b'.new⟩ rr
         |fr ys=>exact fun v σ' S' H' b' s' rr=>q v S' H' ⟨b'.s0,b'.gh,b'.sh,b'.new⟩ rr
       | exc ρ' c fs=>
         rw[e]at q
         exact fun a C σ' S' H' I' s' x H2 g2=>q a C S' H2 ⟨I'.s0,I'.gh.trans g2,I'.sh.trans g2,I'.new⟩ (x.mono (aH.refl _) g2)
   . exact q.elim
noncomputable def ub(K:PySem.W.Frag):Sp:=fun vs H Q _=>∃(a:Addr) (ns:List Int),vs=[.ref a] /\ SqL K H a (ns.map V.int) /\ ns.length<=63 /\ ∀ H',Q (.bl true) H'
theorem Dz{f:List PV->OE}(h:∀ ns:List Int,ns.length<=63->f [.lst (ns.map .int)]=.ok (.sh (.bl true)))(vs:List V)(H:Hp)(Q:VK)(E:XK)(q:ub K vs H Q E):spP K cls f vs H Q E:=by
 obtain⟨a,ns,rfl,hS,hl,q⟩:=q
 refine⟨H,[.lst (ns.map .int)],aH.refl _,.cons (by unfold Rep;exact⟨a,_,rfl,hS,bj.ints⟩) .nil,?_⟩
 rw[h ns hl];intro v S' H' w r
 have:v=.bl true:=by have r':Rep K S' (.bl true) v:=r;unfold Rep at r';exact r'
 subst this;exact q H'
end
section
variable{K:PySem.W.Frag}{cls:String->Option Addr}{W:XW}{Av G S₀ S S' H H' B B':Hp}{ρ:ah}{σ:St}{Q:VK}
theorem tF{x:PV}{v:V}(h:RdV K S H x v):decide (v=.non)=cu x:=by
 cases x with
 |non=>rw[iL h];rfl
 |bl b=>rw[lU h];rfl
 |int b=>rw[cV h];rfl
 |str b=>rw[iy h];rfl
 |lst xs=>obtain⟨p,vs,rfl,_⟩:=gz h;rfl
 |tup xs=>obtain⟨p,vs,rfl,_⟩:=mH h;rfl
theorem sm:JR K (fun x y H Q=>y=.non /\ Q (.bl (decide (x=.non))) H) vC:=by
 intro S H x y v u rr Q I hx hy e k;unfold vC at e;split at e
 . cases e
   exact⟨iL hy,k _ S H (bc.refl I) (by rw[tF hx];exact kz)⟩
 . cases e
theorem yw:JR K (fun x y H Q=>y=.non /\ Q (.bl (!decide (x=.non))) H) v9:=by
 intro S H x y v u rr Q I hx hy e k;unfold v9 at e;split at e
 . cases e
   exact⟨iL hy,k _ S H (bc.refl I) (by rw[tF hx];exact kz)⟩
 . cases e
end
end L2.P
namespace L2
open PySem PySem.Spec PyProof.Rows
structure QE(X:Cx)(e:Expr)(t:TE):Prop where
 out:PE X e t
structure QA(X:Cx)(es:List Expr)(t:TA):Prop where
 out:PA X es t
structure QS(X:Cx)(st:Stmt)(t:TS):Prop where
 out:PS X st t
structure QSs(X:Cx)(st:List Stmt)(t:TS):Prop where
 out:PSs X st t
structure QT(X:Cx)(e:Expr)(t:TT):Prop where
 out:PT X e t
structure QW(X:Cx)(e:Expr)(t:TT):Prop where
 out:PW X e t
structure QI(X:Cx)(tg e:Expr)(t:TI):Prop where
 out:PI X tg e t
structure QG(X:Cx)(e:Expr)(t:TG):Prop where
 out:PG X e t
structure QO(X:Cx)(e:Option Expr)(t:TO):Prop where
 out:PO X e t
end L2
namespace L2
theorem qau(h:True:=by first|rfl|decide|exact .inl rfl|exact .inr rfl|exact .inr (.inl rfl)|exact .inr (.inr rfl)|assumption|(intro _;rfl)|with_unfolding_all rfl):True:=h
end L2
namespace L2.E
open PySem PySem.Spec PyProof.Rows L2
theorem D4:QE X (Expr.Constant (Const.bool b) j pos) (tC (V.bl b)):=⟨HG ⟩
theorem ai:QE X (Expr.Constant (Const.int i) j pos) (tC (V.int i)):=⟨GW ⟩
theorem aL:QE X (Expr.Constant (Const.str x) j pos) (tC (V.str x)):=⟨FC ⟩
theorem de:QE X (Expr.Constant Const.none j pos) (tC V.non):=⟨GP ⟩
theorem qv{X:Cx}(h1:Nat)(h4:autoParam (X.N[h1]?=some x) qau._auto_1)(h5:autoParam (Vis X.env.scope x) qau._auto_1)(h6:autoParam ((x==Str.ofString "__debug__")=false) qau._auto_1)(h7:autoParam ((x==Str.ofString "__classdict__")=false) qau._auto_1):QE X (Expr.Name x pos) (wU h1):=⟨pv h1 h4 h5 h6 h7⟩
theorem aY{X:Cx}(h5:Gl X x)(h6:X.mg x=some u)(h7:RelV v u)(h8:autoParam ((x==Str.ofString "__debug__")=false) qau._auto_1):QE X (Expr.Name x pos) (tC v):=⟨DI h5 h6 h7 h8⟩
theorem o2{X:Cx}(h5:Gl X x)(h6:X.mg x=none)(h7:bootBuiltins x=some u)(h8:RelV v u)(h9:autoParam (x≠Str.ofString "__name__") qau._auto_1)(h10:autoParam ((x==Str.ofString "__debug__")=false) qau._auto_1):QE X (Expr.Name x pos) (tC v):=⟨CG h5 h6 h7 h8 h9 h10⟩
theorem Gd(h4:QE X a ta):QE X (Expr.UnaryOp UnaryOp.Not a pos) (Ap ta):=⟨G2 h4.out⟩
theorem vH{r:V->Hp->VK->Prop}(h6:UnR X (unaryOp op) r)(h7:QE X a ta):QE X (Expr.UnaryOp op a pos) (tUn r ta):=⟨Hv h6 h7.out⟩
theorem aC(h8:OpR X (binaryOp op) r)(h9:QE X a ta)(h10:QE X b tb):QE X (Expr.BinOp a op b pos) (tOp r ta tb):=⟨Ht h8 h9.out h10.out⟩
theorem fg(h8:OpR X (compareOp op) r)(h9:QE X a ta)(h10:QE X b tb)(h11:behindInMarks op b=false):QE X (Expr.Compare a [op] [b] pos) (tOp r ta tb):=⟨C7 h8 h9.out h10.out h11⟩
theorem AJ(h12:OpR X (compareOp op) r)(h13:OpR X (compareOp op') r')(h14:QE X a ta)(h15:QE X b tb)(h16:QE X c tc)(h17:autoParam (lastMarks [op,op'] [b,c]=false) qau._auto_1):QE X (Expr.Compare a [op,op'] [b,c] pos) (rQ r r' ta tb tc):=⟨Bc h12 h13 h14.out h15.out h16.out h17⟩
theorem xY(h5:QE X a t):QE X (Expr.BoolOp op [a] pos) t:=⟨Gz h5.out⟩
theorem xj{X:Cx}{a:Expr}{b:Expr}{ta:TE}{tb:TE}{pos:Pos}{rest:List Expr}(h7:QE X a ta)(h8:QE X (Expr.BoolOp BoolOp.And (b ::rest) pos) tb):QE X (Expr.BoolOp BoolOp.And (a ::b ::rest) pos) (BI ta tb):=⟨FX h7.out h8.out⟩
theorem dh(h8:QT X c tA)(h9:QE X a ta)(h10:QE X b tb):QE X (Expr.IfExp c a b pos) (tIf tA ta tb):=⟨BK h8.out h9.out h10.out⟩
theorem aI(h4:QA X es t):QE X (Expr.List es pos) (FF t):=⟨E2 h4.out⟩
theorem dG(h5:QA X es t):QE X (Expr.Tuple es x1 pos) (FN t):=⟨ES h5.out⟩
theorem iw{X:Cx}{e:Expr}{te:TE}{lo:Option Expr}{hi:Option Expr}{tl:TO}{th:TO}{pos:Pos}{p2:Pos}{r:V->Option Int->Option Int->Hp->VK->Prop}(h10:SlR X r)(h11:QE X e te)(h12:QO X lo tl)(h13:QO X hi th):QE X (Expr.Subscript e (Expr.Slice lo hi none p2) pos) (tSl r te tl th):=⟨A1 h10 h11.out h12.out h13.out⟩
theorem Ih(h7:IxR X r)(h8:QE X a ta)(h9:QE X b tb)(h10:uF b):QE X (Expr.Subscript a b pos) (tOp r ta tb):=⟨Hz h7 h8.out h9.out h10⟩
theorem qu{X:Cx}{cl:List (Str×Addr)}(h12:j7 X scope cl M ι x)(h13:X.calm=true)(h14:QI X (Expr.Name x px) iter wi)(h15:∀(C:Addr) (s₀:Shared) (H₀:Hp) (ex:List Addr),QE (blk X scope cl (M++[x]) C s₀ H₀ ex) elt te)(h16:autoParam (∀(v:Value),foldedSetIterable iter X.env v=pure v) qau._auto_1):QE X (Expr.ListComp elt [Comprehension.mk (Expr.Name x px) iter [] 0] scope pos) (pZ wi ι te):=⟨C6 h12 h13 h14.out (fun z0 z1 z2 z3=>(h15 z0 z1 z2 z3).out) h16⟩
theorem AZ{X:Cx}{x:Str}(h15:cw X.prog X.w X.K X.mg X.base (CXE X.prog X.w) k f fd ps sp)(h16:gw k X.A)(h17:Gl X x)(h18:X.mg x=some (Value.ref f))(h19:PySem.W.keepIn X.K (Value.ref f)=true)(h20:Binds X.K fd ps ds)(h21:Vals dvs ds)(h22:Thr X W)(h23:QA X (e ::es) t)(h24:autoParam ((x==Str.ofString "__debug__")=false) qau._auto_1)(h25:autoParam (starEach (e ::es) X.env=(false,eval e X.env) ::starEach es X.env) qau._auto_1)(h26:autoParam ((List.any (backTo pos (starEach es X.env)) fun x=>x.fst)=false) qau._auto_1):QE X (Expr.Call (Expr.Name x p) (e ::es) [] pos) (pD sp dvs W t):=⟨A2 h15 h16 h17 h18 h19 h20 h21 h22 h23.out h24 h25 h26⟩
theorem jg{X:Cx}{x:Str}{p:Pos}{pos:Pos}{e:Expr}{es:List Expr}{t:TA}{id:String}{r:List V->Hp->VK->Prop}(h9:my X (Value.builtin id) r)(h10:Gl X x)(h11:X.mg x=none)(h12:bootBuiltins x=some (Value.builtin id))(h13:QA X (e ::es) t)(h14:autoParam (x≠Str.ofString "__name__") qau._auto_1)(h15:autoParam ((x==Str.ofString "__debug__")=false) qau._auto_1)(h16:autoParam (starEach (e ::es) X.env=(false,eval e X.env) ::starEach es X.env) qau._auto_1)(h17:autoParam ((List.any (backTo pos (starEach es X.env)) fun x=>x.fst)=false) qau._auto_1):QE X (Expr.Call (Expr.Name x p) (e ::es) [] pos) (tCB r t):=⟨Bh h9 h10 h11 h12 h13.out h14 h15 h16 h17⟩
theorem ij{X:Cx}{x:Str}{r:List V->Hp->VK->Prop}(h9:my X (Value.type T) r)(h10:Gl X x)(h11:X.mg x=none)(h12:bootBuiltins x=some (Value.type T))(h13:QA X (e ::es) t)(h14:autoParam (x≠Str.ofString "__name__") qau._auto_1)(h15:autoParam ((x==Str.ofString "__debug__")=false) qau._auto_1)(h16:autoParam (starEach (e ::es) X.env=(false,eval e X.env) ::starEach es X.env) qau._auto_1)(h17:autoParam ((List.any (backTo pos (starEach es X.env)) fun x=>x.fst)=false) qau._auto_1):QE X (Expr.Call (Expr.Name x p) (e ::es) [] pos) (tCB r t):=⟨zI h9 h10 h11 h12 h13.out h14 h15 h16 h17⟩
theorem Ei{X:Cx}{o:Expr}{e:Expr}{es:List Expr}{to:TE}{t:TA}{name:Str}{apos:Pos}{cpos:Pos}{T:String}{id:String}{r:V->List V->Hp->VK->Prop}(h12:PlainAttrs T)(h13:Slot T name id)(h14:typeOf (Value.builtin id)=pure (Value.type "method_descriptor"))(h15:MtR X id r)(h16:QE X o to)(h17:QA X (e ::es) t)(h18:autoParam (attributeBase o name X.env (eval o X.env)=eval o X.env) qau._auto_1)(h19:autoParam ((((List.all (backTo cpos (starEach (e ::es) X.env)) fun x=>!x.fst)&&List.all (backToKw cpos (keywordEach [] X.env)) fun x=>Option.isSome x.fst)&&Decidable.decide ((List.length (e ::es)+List.length ([]:List Keyword)+if List.isEmpty ([]:List Keyword)=true then 0 else 1)<30))=true) qau._auto_1)(h20:autoParam ((apos.endLine==cpos.line)=true) qau._auto_1)(h21:autoParam (starEach (e ::es) X.env=(false,eval e X.env) ::starEach es X.env) qau._auto_1)(h22:autoParam ((List.any (backTo cpos (starEach es X.env)) fun x=>x.fst)=false) qau._auto_1):QE X (Expr.Call (Expr.Attribute o name apos) (e ::es) [] cpos) (tBM X.K T r to t):=⟨Hr h12 h13 h14 h15 h16.out h17.out h18 h19 h20 h21 h22⟩
theorem FJ{X:Cx}{o:Expr}{to:TE}{name:Str}{apos:Pos}{cpos:Pos}{T:String}{id:String}{r:V->List V->Hp->VK->Prop}(h9:PlainAttrs T)(h10:Slot T name id)(h11:typeOf (Value.builtin id)=pure (Value.type "method_descriptor"))(h12:MtR X id r)(h13:QE X o to)(h14:autoParam (attributeBase o name X.env (eval o X.env)=eval o X.env) qau._auto_1)(h15:autoParam ((apos.endLine==cpos.line)=true) qau._auto_1):QE X (Expr.Call (Expr.Attribute o name apos) [] [] cpos) (Ge X.K T r to):=⟨EL h9 h10 h11 h12 h13.out h14 h15⟩
theorem nB:QO X none ui:=⟨CP ⟩
theorem gL(h3:QE X e te):QO X (some e) (B6 te):=⟨CA h3.out⟩
theorem au:QA X [] j9:=⟨EU ⟩
theorem aa(h5:QE X e te)(h6:QA X es t)(h7:autoParam (isStar e=false) qau._auto_1):QA X (e ::es) (iT te t):=⟨AD h5.out h6.out h7⟩
theorem iN(h8:OpR X (compareOp op) r)(h9:QE X a ta)(h10:QE X b tb)(h11:behindInMarks op b=false):QT X (Expr.Compare a [op] [b] pos) (tM (tOp r ta tb)):=⟨CZ h8 h9.out h10.out h11⟩
theorem jW(h12:OpR X (compareOp op) r)(h13:OpR X (compareOp op') r')(h14:QE X a ta)(h15:QE X b tb)(h16:QE X c tc)(h17:autoParam (lastMarks [op,op'] [b,c]=false) qau._auto_1):QT X (Expr.Compare a [op,op'] [b,c] pos) (tM (rQ r r' ta tb tc)):=⟨BO h12 h13 h14.out h15.out h16.out h17⟩
theorem wR(h4:QT X a tA):QT X (Expr.UnaryOp UnaryOp.Not a pos) (DJ tA):=⟨FH h4.out⟩
theorem dk{X:Cx}(h3:QE X a ta)(h4:∀(whole:Sem Value),
 isTrue a X.env whole=do
  let v <- whole
  standAt (Expr.pos a)
  holding [v] (truthy v)):QT X a fun σ H Q=>ta σ H fun x H'=>∃ k,wL X.K x H' k /\ Q k H':=⟨Bk h3.out h4⟩
theorem vZ(h3:QW X e t):QT X e t:=⟨PW.pt h3.out⟩
theorem qF(h4:QT X a tA):QW X (Expr.BoolOp BoolOp.And [a] pos) tA:=⟨CQ h4.out⟩
theorem Gw(h4:QT X a tA):QW X (Expr.BoolOp BoolOp.Or [a] pos) tA:=⟨GX h4.out⟩
theorem n8{X:Cx}{a:Expr}{b:Expr}{pos:Pos}{tA:TT}{tB':TT}{rest:List Expr}(h7:QT X a tA)(h8:QW X (Expr.BoolOp BoolOp.And (b ::rest) pos) tB'):QW X (Expr.BoolOp BoolOp.And (a ::b ::rest) pos) (Gh tA tB'):=⟨Gk h7.out h8.out⟩
theorem Ik{X:Cx}{a:Expr}{b:Expr}{pos:Pos}{tA:TT}{tB':TT}{rest:List Expr}(h7:QT X a tA)(h8:QW X (Expr.BoolOp BoolOp.Or (b ::rest) pos) tB'):QW X (Expr.BoolOp BoolOp.Or (a ::b ::rest) pos) (tOr tA tB'):=⟨HA h7.out h8.out⟩
theorem nA{X:Cx}(h6:Gl X (Str.ofString "range"))(h7:X.mg (Str.ofString "range")=none)(h8:QA X [a] ta)(h9:autoParam (starEach [a] X.env=[(false,eval a X.env)]) qau._auto_1):QI X tg (Expr.Call (Expr.Name (Str.ofString "range") p) [a] [] pos) (va ta):=⟨zW h6 h7 h8.out h9⟩
theorem lJ{X:Cx}(h4:QE X l tl):QI X tg l (vt X.K tl):=⟨Dp h4.out⟩
theorem Gx{X:Cx}(h4:QE X l tl):QI X tg l (Fi X.K tl):=⟨GC h4.out⟩
theorem FD{X:Cx}{pos:Pos}(h7:List.Nodup X.N)(h8:X.N[i]?=some x)(h9:Loc X.env.scope x)(h10:QE X e te)(h11:autoParam (swapsWith e (some (Expr.Name x pos')) pos.line X.env=pure false) qau._auto_1)(h12:autoParam (X.fn x=true \/ List.lookup x X.env.scope.names=some NameKind.local) qau._auto_1):QS X (Stmt.Assign [Expr.Name x pos'] e pos) (sN te (jb i)):=⟨EK h7 h8 h9 h10.out h11 h12⟩
theorem aT(h8:QT X c tc)(h9:QSs X a t)(h10:QSs X b u):QS X (Stmt.If c a b pos) (C9 tc t u):=⟨Hh h8.out h9.out h10.out⟩
theorem aA(h4:QE X e te):QS X (Stmt.Return (some e) pos) (DB te):=⟨EJ h4.out⟩
theorem y0{X:Cx}{pos:Pos}(h4:QE X e te)(h5:autoParam (swapsWith e none pos.line X.env=pure false) qau._auto_1):QS X (Stmt.Expr e pos) (sq te):=⟨CF h4.out h5⟩
theorem qG{X:Cx}(h6:PassesOwn (model X.prog X.w) X.A X.env X.xe)(h7:QT X c tc)(h8:QSs X body tb):QS X (Stmt.While c body [] pos) (xH tc tb):=⟨AA h6 h7.out h8.out⟩
theorem ou{X:Cx}(h8:PassesOwn (model X.prog X.w) X.A X.env X.xe)(h9:X.calm=true)(h10:QI X tg iter wi)(h11:QG X tg g)(h12:QSs X body tb)(h13:autoParam (∀(x:Value),foldedSetIterable iter X.env x=pure x) qau._auto_1):QS X (Stmt.For tg iter body [] pos) (Bs wi g tb):=⟨GO h8 h9 h10.out h11.out h12.out h13⟩
theorem kd{X:Cx}(h4:List.Nodup X.N)(h5:X.N[i]?=some x)(h6:Loc X.env.scope x)(h7:autoParam (X.fn x=true \/ List.lookup x X.env.scope.names=some NameKind.local) qau._auto_1):QG X (Expr.Name x pos) (jb i):=⟨Cr h4 h5 h6 h7⟩
theorem aF:QSs X [] Ba:=⟨DE ⟩
theorem av{X:Cx}{st:Stmt}{t:TS}(h3:QS X st t):QSs X [st] t:=⟨Co h3.out⟩
theorem ak{X:Cx}{st:Stmt}{rest:List Stmt}{t:TS}{u:TS}(h5:QS X st t)(h6:QSs X rest u):QSs X (st ::rest) (GG t u):=⟨B7 h5.out h6.out⟩
end L2.E
namespace L2.P
open PySem PySem.Spec PyProof.Rows L2 L2.E
theorem fF{K:PySem.W.Frag}{cls:String->Option Addr}{P:Program}{w:World}{mg:Str->Option Value}{base:Heap}{x qual:Str}{st:Stmt}{f:Addr}{fd:FuncData}{N ps:List Str}{k:Nat}{m:ah->OS}(F:Fun K x qual st f fd)(Sc:aZ N ps (aD st))
  (hbody:∀(cdv:Value) (A:Around) (outer:List Env) (s:Shared) (H:Hp) (E:XK),gw k (A.deeper (envOfC qual (aD st) s.heap.objs.size f cdv)) ->
    ∃ t,QSs (pC (CXE P w) P w K mg base N qual (aD st) f cdv A outer s H E) (dE st) t /\ JS K cls (fun C a _ H=>∀ H',aH H H'->E C a H') t m):cw P w K mg base (CXE P w) (k+1) f fd ps (spP K cls (fnP ps.length N.length m)):=
 Jd F Sc fun cdv A outer s H E hr=>let ⟨t,h1,h2⟩:=hbody cdv A outer s H E hr;⟨t,h1.out,h2⟩
end L2.P
namespace L2.E
open PySem PySem.Spec PyProof.Rows L2
end L2.E
namespace L2.P
open PySem PySem.Spec PyProof.Rows L2 L2.E
end L2.P
namespace L2.E
open PySem PySem.Spec PyProof.Rows L2
section
variable{prog:Program}{w:World}{A:Around}{E:Value->Shared->Prop}{s:Shared}{K:PySem.W.Frag}{x C:Addr}{name:Str}{v:Value}
open PySem.W in
open PySem.W in
end
noncomputable def HM(a C:Addr)(dx:Option Addr)(h:Heap):Prop:=∃ o t,h.get? a=some o /\ o.cls=.ref C /\ o.dict=dx /\ o.data=.fields #[.ref t,.none,.none,.none,.bool false,.none]
theorem HM.exc{a C:Addr}{dx:Option Addr}{h:Heap}(x:HM a C dx h):Fb a C dx h:=let ⟨o,t,e,c,d,f⟩:=x;⟨o,_,e,c,d,f,rfl⟩
section
variable{prog:Program}{w:World}{A:Around}{E:Value->Shared->Prop}{s:Shared}{K:PySem.W.Frag}{x C:Addr}{name:Str}{v:Value}{tk:Tok}
open PySem.W in
end
section
variable{prog:Program}{w:World}{A:Around}{E:Value->Shared->Prop}{hh:Heap}{g:Array GenState}{d:Drawn}{t:Nat}{os:OsState}{K:PySem.W.Frag}{x C:Addr}{name:Str}{v:Value}{tk:Tok}
open PySem.W in
end
section
variable{prog:Program}{w:World}{A:Around}{E:Value->Shared->Prop}{s:Shared}{K:PySem.W.Frag}{x C:Addr}{name:Str}{v:Value}
open PySem.W in
end
section
variable{prog:Program}{w:World}{A:Around}{E:Value->Shared->Prop}{h:Heap}{g:Array GenState}{d:Drawn}{t:Nat}{os:OsState}{K:PySem.W.Frag}
variable{nm q:Str}{C N:Addr}{bs bm bmB:List Value}{hdct:Bool}{sn:List Str}{sub:List Value}{ab:Bool}{col:Option Bool}{dd:Option Addr}{k0 k1 k2 k3 k5:Option Value}{B newId initId:String}
open PySem.W in
open PySem.W in
end
end L2.E
namespace L2.P
open PySem PySem.Spec PyProof.Rows L2 L2.E
section
variable{K:PySem.W.Frag}{cls:String->Option Addr}{W:XW}{S H:Hp}
theorem bj.rep{xs:List PV}{vs:List V}(h:bj K S xs vs)(k:Nat):bj K S (List.replicate k xs).flatten (List.replicate k vs).flatten:=by
 induction k with
 |zero=>exact .nil
 |succ k ih=>rw[List.replicate_succ,List.replicate_succ,List.flatten_cons,List.flatten_cons];exact h.append ih
theorem xR{ta tb:TE}{ma mb:ah->OE}(ha:JE K cls W ta ma)(hb:JE K cls W tb mb):JE K cls W (tOp HD ta tb) (wK ma mb):=by
 intro Av G S₀ ρ σ S H Q I p
 refine ha.go I p fun a v S1 H1 I1 w1 r1 p1=>hb.go I1 p1 fun b u S2 H2 I2 w2 r2 p2=>?_
 cases a with
 |sh x=>exact p2.elim
 |al xs=>exact p2.elim
 | fr xs=>
   have rb:=r2.rd I2.sh
   cases e:b.pv with
   | int k=>
     rw[e]at p2 rb;obtain⟨q,vs,rfl,k1,k2,k3,k4⟩:=r1;have hu:=cV rb;subst hu
     dsimp only at p2
     split at p2
     . rename_i hc
       refine⟨q,k,vs,rfl,rfl,w2.g _ _ k3,hc.1.1,hc.1.2,by rw[k4.length,<- xg];exact hc.2,fun z hz=>p2 _ S2 _ (bc.heap I2.sh hz) ⟨z,_,rfl,hz,I2.sh.free hz,bw,(k4.mono w2.s).rep _⟩⟩
     . exact p2.elim
   |_=>rw[e]at p2;exact p2.elim
end
end L2.P
namespace L2.P
open PySem
inductive Stp where
 |ix (k:Nat)|fd (f:Str)
noncomputable def mN:List Str->List OV->Str->Option OV
 |k ::ks,t ::ts,f=>if k=f then some t else mN ks ts f
 |_,_,_=>none
noncomputable def sE:List Str->List OV->Str->OV->List OV
 |k ::ks,t ::ts,f,u=>if k=f then u ::ts else t ::sE ks ts f u
 |_,ts,_,_=>ts
noncomputable def OV.at1:OV->Stp->Option OV
 |.ol ts,.ix k=>ts[k]?
 |.ob _ ks ts,.fd f=>mN ks ts f
 |_,_=>none
noncomputable def OV.BL:OV->Stp->OV->OV
 |.ol ts,.ix k,u=>.ol (ts.set k u)
 |.ob c ks ts,.fd f,u=>.ob c ks (sE ks ts f u)
 |t,_,_=>t
noncomputable def OV.get:OV->List Stp->Option OV
 |t,[]=>some t
 |t,s ::π=>(t.at1 s).bind fun u=>u.get π
noncomputable def OV.put:OV->List Stp->OV->OV
 |_,[],u=>u
 | t,s ::π,u=>match t.at1 s with
   |some t'=>t.BL s (t'.put π u)
   |none=>t
noncomputable def slT:Sl->Option OV
 |.tr _ t=>some t
 |.bo t=>some t
 |_=>none
noncomputable def jl(i:Nat)(ρ:ah):Option OV:=match ρ[i]? with
 |some (some s)=>slT s
 |_=>none
abbrev MP:=ah->Option (List Stp)
noncomputable def eP:MP:=fun _=>some []
noncomputable def pIx(i:Nat)(mp:MP)(mk:ah->OE):MP:=fun ρ=>match jl i ρ with
 | some t=>(match mp ρ with
   | some π=>(match t.get π with
     | some (.ol ts)=>(match mk ρ with
       | .ok r=>(match r.pv with
         |.int k=>(ixP ts.length k).map fun j=>π++[.ix j]
         |_=>none)
       |_=>none)
     |_=>none)
   |none=>none)
 |none=>none
noncomputable def subAt(i:Nat)(mp:MP)(ρ:ah):Option OV:=match jl i ρ with
 | some t=>(match mp ρ with
   |some π=>t.get π
   |none=>none)
 |none=>none
noncomputable def pFd(i:Nat)(mp:MP)(f:Str)(ok:String->Bool):MP:=fun ρ=>match subAt i mp ρ with
 |some (.ob c ks ts)=>if(ok c&&(mN ks ts f).isSome)=true then(mp ρ).map fun π=>π++[.fd f]else none
 |_=>none
noncomputable def vA:List OV->Option (List PV)
 |[]=>some []
 |.sh x ::r=>(vA r).map (x ::·)
 |_ ::_=>none
@[simp] theorem tP(xs:List PV):vA (xs.map .sh)=some xs:=by
  induction xs with
  |nil=>rfl
  |cons x xs ih=>show(vA (xs.map .sh)).map (x ::·)=_;rw[ih];rfl
noncomputable def qe(i:Nat)(mp:MP):ah->OE:=fun ρ=>match subAt i mp ρ with
 |some (.sh x)=>.ok (.sh x)
 | some (.ol ts)=>(match vA ts with
   |some xs=>.ok (.al xs)
   |none=>.bad)
 |_=>.bad
noncomputable def o6(i:Nat)(mp:MP):ah->OT:=fun ρ=>match subAt i mp ρ with
 |some (.ol ts)=>.ok (!ts.isEmpty)
 |_=>.bad
inductive OD where
 |ok (t:OV)|exc (c:String) (fs:XF)|bad
inductive ODs where
 |ok (ts:List OV)|exc (c:String) (fs:XF)|bad
noncomputable def mD(me:ah->OE):ah->OD:=fun ρ=>match me ρ with
 |.ok (.sh x)=>.ok (.sh x)
 |.ok (.fr xs)=>.ok (.ol (xs.map .sh))
 |.ok (.al _)=>.bad
 |.exc c fs=>.exc c fs
 |.bad=>.bad
noncomputable def mDc(md:ah->OD)(mr:ah->ODs):ah->ODs:=fun ρ=>match md ρ with
 | .ok t=>(match mr ρ with
   |.ok ts=>.ok (t ::ts)
   |.exc c fs=>.exc c fs
   |.bad=>.bad)
 |.exc c fs=>.exc c fs
 |.bad=>.bad
noncomputable def qb(i:Nat)(md:ah->OD):ah->OS:=fun ρ=>match md ρ with
 |.ok t=>.nx (ρ.set i (some (.tr false t)))
 |.exc c fs=>.exc ρ c fs
 |.bad=>.bad
noncomputable def wQ(i:Nat)(mp:MP)(ρ:ah)(k:OV->(OV->ah)->OS):OS:=match ρ[i]? with
 | some (some (.tr io t))=>(match mp ρ with
   | some π=>(match t.get π with
     |some u=>k u fun u'=>ρ.set i (some (.tr io (t.put π u')))
     |none=>.bad)
   |none=>.bad)
 |_=>.bad
noncomputable def Cc(i:Nat)(mp:MP)(f:Str)(okc:String->Bool)(md:ah->OD):ah->OS:=fun ρ=>match md ρ with
 | .ok x=>wQ i mp ρ fun u put=>(match u with
   |.ob c ks ts=>if(okc c&&decide (ks.length<1000))=true then(if ks.contains f=true then .nx (put (.ob c ks (sE ks ts f x)))else .nx (put (.ob c (ks++[f]) (ts++[x]))))else .bad
   |_=>.bad)
 |.exc c fs=>.exc ρ c fs
 |.bad=>.bad
inductive OX where
 |ok (ρ:ah) (s:Sl)|exc (ρ:ah) (c:String) (fs:XF)|bad
noncomputable def slO:OV->Sl
 |.sh x=>.sh x
 |t=>.tr false t
noncomputable def sU(i:Nat)(mp:MP):ah->OX:=fun ρ=>match ρ[i]? with
 | some (some (.tr io t))=>(match mp ρ with
   | some π=>(match t.get π with
     | some (.ol ts)=>(match ts.getLast? with
       |some x=>.ok (ρ.set i (some (.tr io (t.put π (.ol ts.dropLast))))) (slO x)
       |none=>.bad)
     |_=>.bad)
   |none=>.bad)
 |_=>.bad
noncomputable def nio:Sl->Bool
 |.tr true _=>false
 |.bo _=>false
 |_=>true
noncomputable def qa(i:Nat)(m:ah->OX):ah->OS:=fun ρ=>match m ρ with
 |.ok ρ' s=>if nio s then .nx (ρ'.set i (some s))else .bad
 |.exc ρ' c fs=>.exc ρ' c fs
 |.bad=>.bad
noncomputable def Dl(neg:Bool)(m:ah->OX)(a b:ah->OS):ah->OS:=fun ρ=>match m ρ with
 | .ok ρ' (.sh x)=>(match ka x with
   |some k=>if(k != neg)=true then a ρ' else b ρ'
   |none=>.bad)
 |.ok _ _=>.bad
 |.exc ρ' c fs=>.exc ρ' c fs
 |.bad=>.bad
mutual
noncomputable def pvO:OV->Option PV
 |.sh x=>some x
 |.ol ts=>(zO ts).map .lst
 |.ob _ _ _=>none
 |.di _=>none
 |.dt _=>none
noncomputable def zO:List OV->Option (List PV)
 |[]=>some []
 |t ::ts=>(pvO t).bind fun x=>(zO ts).map (x ::·)
end
noncomputable def uK(i:Nat)(ρ:ah):ah:=match ρ[i]? with
 | some (some (.tr false t))=>(match pvO t with
   |some x=>ρ.set i (some (.sh x))
   |none=>ρ)
 |_=>ρ
noncomputable def oR(i:Nat)(m:ah->OS):ah->OS:=fun ρ=>m (uK i ρ)
inductive OI where
 |ok (x:PV) (outs:List (Option OV))|exc (c:String) (fs:XF) (outs:List (Option OV))|bad
inductive Arg where
 |e (me:ah->OE)|t (i:Nat) (mp:MP)|b (i:Nat) (mp:MP)
noncomputable def tq:Option Sl->Option OV
 |some (.tr true t)=>some t
 |_=>none
noncomputable def zM(np:Nat):OS->OI
 |.nx ρ=>.ok .non ((ρ.take np).map tq)
 |.rt ρ (.sh x)=>.ok x ((ρ.take np).map tq)
 |.exc ρ c fs=>.exc c fs ((ρ.take np).map tq)
 |_=>.bad
noncomputable def nj(n:Nat)(as:List Sl):ah:=as.map some++List.replicate (n - as.length) none
noncomputable def fnI(np n:Nat)(m:ah->OS)(as:List Sl):OI:=if as.length=np then zM np (m (nj n as))else .bad
noncomputable def mM(a:Arg)(ρ:ah):Option Sl:=match a with
 | .e me=>(match me ρ with
   |.ok r=>(jn r).map .sh
   |_=>none)
 | .t i mp=>(match ρ[i]? with
   |some (some (.tr _ t))=>((mp ρ).bind fun π=>t.get π).map (.tr true)
   |_=>none)
 |.b i mp=>(subAt i mp ρ).map .bo
noncomputable def lV:List Arg->ah->Option (List Sl)
 |[],_=>some []
 |a ::as,ρ=>(mM a ρ).bind fun s=>(lV as ρ).map (s ::·)
noncomputable def kC(ρ₀:ah):Arg->Option OV->ah->ah
 | .t i mp,some u,ρ=>(match ρ[i]? with
   | some (some (.tr io t))=>(match mp ρ₀ with
     |some π=>ρ.set i (some (.tr io (t.put π u)))
     |none=>ρ.set i none)
   |_=>ρ.set i none)
 |.t i _,none,ρ=>ρ.set i none
 |_,_,ρ=>ρ
noncomputable def fK(ρ₀:ah):List Arg->List (Option OV)->ah->ah
 |[],_,ρ=>ρ
 |a ::as,us,ρ=>fK ρ₀ as us.tail (kC ρ₀ a us.head?.join ρ)
noncomputable def uy(f:List Sl->OI)(as:List Arg):ah->OX:=fun ρ=>match lV as ρ with
 | some ss=>(match f ss with
   |.ok x outs=>.ok (fK ρ as outs ρ) (.sh x)
   |.exc c fs outs=>.exc (fK ρ as outs ρ) c fs
   |.bad=>.bad)
 |none=>.bad
noncomputable def xk(f:List Sl->OI)(as:List Arg):ah->OE:=fun ρ=>match lV as ρ with
 | some ss=>(match f ss with
   |.ok x _=>.ok (.sh x)
   |.exc c fs _=>.exc c fs
   |.bad=>.bad)
 |none=>.bad
noncomputable def recv(c:String)(m:Str):Option Sl->Bool
 |some (.tr true (.ob c' ks _))=>c'==c && !ks.contains m
 |some (.bo (.ob c' ks _))=>c'==c && !ks.contains m
 |_=>false
noncomputable def mx(c:String)(m:Str)(f:List Sl->OI)(as:List Arg):ah->OX:=fun ρ=>match as with
 |a ::_=>if recv c m (mM a ρ)=true then uy f as ρ else .bad
 |[]=>.bad
noncomputable def pM(c:String)(m:Str)(f:List Sl->OI)(as:List Arg):ah->OE:=fun ρ=>match as with
 |a ::_=>if recv c m (mM a ρ)=true then xk f as ρ else .bad
 |[]=>.bad
noncomputable def wu(c:String)(f:List Sl->OI):ah->OD:=fun _=>match f [.tr true (.ob c [] [])]with
 |.ok .non (some t ::_)=>.ok t
 |_=>.bad
noncomputable def lB(i j:Nat)(mb:ah->OS):List PV->ah->OS
 |[],ρ=>.nx ρ
 |.tup [x,y] ::xs,ρ=>(mb ((ρ.set i (some (.sh x))).set j (some (.sh y)))).turn (lB i j mb xs)
 |_ ::_,_=>.bad
noncomputable def qd(k:Nat):List PV->List PV
 |[]=>[]
 |x ::xs=>.tup [.int k,x] ::qd (k+1) xs
noncomputable def yj(i j:Nat)(ml:ah->OE)(mb:ah->OS):ah->OS:=fun ρ=>(ml ρ).cD ρ fun r=>match vk r with
 |some xs=>lB i j mb (qd 0 xs) ρ
 |none=>.bad
noncomputable def qH(ml:ah->OE)(ι:List Nat)(me:ah->OE):ah->OE:=fun ρ=>(ml ρ).bind fun r=>match r.pv with
 |.tup xs=>noX (dg me (cQ ι ρ) xs)
 |_=>.bad
noncomputable def dM(mc:ah->OT)(me:ah->OE)(ρ:ah):List PV->OA
 |[]=>.ok []
 | x ::xs=>(match mc (ρ++[some (.sh x)])with
   | .ok true=>(me (ρ++[some (.sh x)])).eW fun r=>(match jn r with
     |some y=>(dM mc me ρ xs).eW fun ys=>.ok (y ::ys)
     |none=>.bad)
   |.ok false=>dM mc me ρ xs
   |_=>.bad)
noncomputable def qP(ml:ah->OE)(ι:List Nat)(mc:ah->OT)(me:ah->OE):ah->OE:=fun ρ=>(ml ρ).bind fun r=>match r.pv with
 |.lst xs=>noX (dM mc me (cQ ι ρ) xs)
 |_=>.bad
noncomputable def zF(ma ms:ah->OE):ah->OE:=fun ρ=>(ma ρ).bind fun a=>(ms ρ).bind fun k=>match a.pv,k.pv with
 |.lst xs,.int k=>if k=-1 then .ok (.fr xs.reverse)else .bad
 |_,_=>.bad
noncomputable def JQ:PV->Option RV
 |.lst xs=>some (.sh (.tup xs))
 |.tup xs=>some (.sh (.tup xs))
 |_=>none
mutual
noncomputable def fH:PV->PV->Bool
 |.non,y=>(match y with|.non=>true|_=>false)
 |.bl a,y=>(match y with|.bl b=>a==b|.int j=>(if a then 1 else 0)==j|_=>false)
 |.int i,y=>(match y with|.bl b=>i==(if b then 1 else 0)|.int j=>i==j|_=>false)
 |.str x,y=>(match y with|.str z=>x==z|_=>false)
 |.lst xs,y=>(match y with|.lst ys=>nX xs ys|_=>false)
 |.tup xs,y=>(match y with|.tup ys=>nX xs ys|_=>false)
noncomputable def nX:List PV->List PV->Bool
 |[],ys=>(match ys with|[]=>true|_ ::_=>false)
 |x ::xs,ys=>(match ys with|y ::ys=>fH x y&&nX xs ys|[]=>false)
end
mutual
noncomputable def og:PV->Nat->Bool
 |.str x,_=>x.cps.all (·<0x110000)
 |.lst xs,n=>(match n with|0=>false|n+1=>kK xs n)
 |.tup xs,n=>(match n with|0=>false|n+1=>kK xs n)
 |_,_=>true
noncomputable def kK:List PV->Nat->Bool
 |[],_=>true
 |x ::xs,n=>og x n&&kK xs n
end
theorem xB(ns:List Int):∀ ms:List Int,nX (ns.map .int) (ms.map .int)=decide (ns=ms):=by
 induction ns with
 |nil=>intro ms;cases ms<;>simp[nX]
 | cons n ns ih=>
   intro ms
   cases ms with
   |nil=>simp[nX]
   |cons m ms=>simp[nX,fH,ih,Bool.beq_eq_decide_eq]
theorem rZ(ns:List Int)(n:Nat):kK (ns.map .int) n=true:=by
 induction ns with
 |nil=>simp[kK]
 |cons n ns ih=>simp[kK,og,ih]
noncomputable def eG:PV->Bool
 |.lst _=>false
 |.tup _=>false
 |_=>true
noncomputable def mf:PV->PV->Option Bool
 |x,.tup ys=>if ys.all eG=true then some (ys.any fun y=>fH y x)else none
 |x,.lst ys=>if ys.all eG=true then some (ys.any fun y=>fH y x)else none
 |_,_=>none
noncomputable def gIn:PV->PV->Option RV:=fun x y=>(mf x y).map fun b=>.sh (.bl b)
noncomputable def uY:PV->PV->Option RV:=fun x y=>(mf x y).map fun b=>.sh (.bl (!b))
noncomputable def fQ(kvs:List (Int×PV)):PV->Option RV
 |.int n=>some (.sh ((kvs.lookup n).getD .non))
 |_=>none
end L2.P
namespace L2
open PySem PySem.Spec PyProof.Rows
section
variable{X:Cx}{pins:List (Addr×Obj)}{σ:St}{H:Hp}{s:Shared}{h':Heap}
theorem Inv.zq{t':Nat}{its:List Addr}{a:Addr}{o:HO}(I:Inv X pins σ H s)(k:∀ b u,b∉its->s.heap.get? b=some u->h'.get? b=some u)(hf:∀ b∈its,kI X pins H b)
  (hp:s.heap.objs.size<=a) (new:gc X.prog X.w (upd H a o) h' a o):Inv X pins σ (upd H a o) { s with heap:=h',toks:=t' }:=by
 have hn:=I.hok.fresh hp
 have nit:∀ b u,H b=some u->b∉its:=fun b u e z=>by rw[(hf b z).1]at e;cases e
 refine I.step (g':=s.gens) (d':=s.drawn) (ch:=its) (fun b hb=>?_) (fun b u _ _ hc e _=>k b u hc e) (fun b u _ _ hc e _=>⟨u.slots,k b u hc e⟩)
  (fun b u _ q n=>by rw[bB (Nat.ne_of_lt (Nat.lt_of_lt_of_le (Heap.lt_size q) hp))];exact n)
  (fun b u hc e=>⟨u,k b u hc e⟩) (fun b xs q=>by rw[bB (dS q hn)];exact q) (fun b u xs q=>by rw[bB (dS q hn)];exact q) (fun b ps q=>⟨#[],by rw[bB (dS q hn),q];simp⟩) (fun m hm=>?_) (fun b u e=>?_) I.bare
 . obtain⟨_,f1,f2,f3,f4,f5⟩:=hf b hb
   exact⟨f3,f1,f4,f5⟩
 . obtain⟨ob,es,ep,ho,r⟩:=hm
   exact⟨ob,es,ep,k _ ob (fun z=>(hf _ z).2.1 rfl) ho,r⟩
 . by_cases hb:b=a
   . subst hb;rw[bw]at e;cases e;exact new
   . rw[bB hb]at e
     refine(I.hok b u e).qk (fun c v hc q=>k c v ?_ q) (fun c q=>by rw[bB (dS q hn)];exact q) fun c xs q=>by rw[bB (dS q hn)];exact q
     rcases hc with z|z
     . rw[z];exact nit b u e
     . exact nit c _ z
end
noncomputable def Ite(K:PySem.W.Frag)(a:Addr):It:=
 ⟨fun i H=>∃ xs x,SqL K H a xs /\ xs[i]?=some x,fun i H v H'=>∃ t x,(∀ xs,SqL K H a xs->xs[i]?=some x) /\ H t=none /\ v=.ref t /\ H'=upd H t (.tup [.int i,x]),fun i H=>∃ xs,SqL K H a xs /\ xs.length<=i⟩
theorem zK{P:Program}{w:World}{K:PySem.W.Frag}{elts:List Expr}{k:Nat}{pos:Pos}(a e it:Addr)(hei:e≠it):
  Turn P w K (.Tuple elts k pos) (Ite K a) [e,it] e (fun i h=>(∃ old,IsEnum h e it i old) /\ h.IsListIter it a i) where
 mem:=by simp
 obj:=fun i h st b hb=>by
  obtain⟨⟨old,h1⟩,o,h2,c,d⟩:=st
  rcases List.mem_cons.mp hb with z|z
  . subst z;exact⟨_,h1,fun v z=>by cases z⟩
  . have z':b=it:=by simpa using z
    subst z';exact⟨o,h2,fun v z=>by rw[d]at z;cases z⟩
 keep:=fun i h h' st k=>by
  obtain⟨⟨old,h1⟩,h2⟩:=st
  exact⟨⟨old,k e (by simp) _ h1⟩,h2.at fun o x=>k it (by simp) o x⟩
 item:=by
  intro X hP hw hK hc i pins s σ H E I hf st hg;subst hP hw hK;obtain⟨xs,x,hq,hx⟩:=hg;obtain⟨its,rv,p,hz⟩:=I.list hq;obtain⟨u,hu,ru⟩:=rv.get hx;obtain⟨⟨old,he⟩,hit⟩:=st
  refine wpAny_pyNext_enum_item he hit p.isList (x:=u) (by simpa using hu) hei fun h1 ho hit1 hT hsz hk=>⟨_,rfl,?_⟩
  refine wpAny_letOwnedTupleGo_enum ho fun h2 he2 hs2=>?_
  have hT2:h2.get? s.heap.objs.size=some { cls:=.type "tuple",data:=.seq #[.int i s.toks,u] }:=(hs2.2 _ (Nat.ne_of_gt (Heap.lt_size he))).trans hT
  have nH:H s.heap.objs.size=none:=I.hok.fresh (Nat.le_refl _)
  refine⟨.ref s.heap.objs.size,upd H s.heap.objs.size (.tup [.int i,x]),I.zq (its:=[e,it]) (t':=s.toks+1) (fun b o hb q=>?_) hf (Nat.le_refl _) ?_,rfl,⟨_,x,fun ys hy=>by rw[I.vK hy hq];exact hx,nH,rfl,rfl⟩,⟨⟨u,by simpa using he2⟩,?_⟩,fun b hb=>?_⟩
  . have nb:b≠e /\ b≠it:=by simpa using hb
    exact(hs2.2 b nb.1).trans (hk b o nb.1 nb.2 q)
  . exact⟨by show 2<=sizeLine;decide,[.int i s.toks,u],.cons ⟨_,rfl⟩ (.cons ru .nil),⟨_,hT2,rfl,_,rfl⟩⟩
  . exact hit1.at fun o y=>(hs2.2 it hei.symm).trans y
  . have:b < s.heap.objs.size:=by
     rcases List.mem_cons.mp hb with z|z
     . subst z;exact Heap.lt_size he
     . have z':b=it:=by simpa using z
       subst z';obtain⟨_,y,_⟩:=hit;exact Heap.lt_size y
    rw[bB (Nat.ne_of_lt this)]
    exact(hf b hb).1
 done:=by
  intro X hP hw hK hc i pins s σ H E I hf st hg;subst hP hw hK;obtain⟨xs,hq,hx⟩:=hg;obtain⟨its,rv,p,hz⟩:=I.list hq;obtain⟨⟨old,he⟩,hit⟩:=st;obtain⟨f0,f1,f2,f3,f4,f5⟩:=hf it (by simp);have hl:=rv.length
  exact wpAny_pyNext_enum_end (I.ok.hd hc) he hit p.isList (by simp;omega) fun h' eb=>⟨rfl,I.turned (t':=s.toks) (fun b o hb e=>eb b o hb e) f0 f1 f3 f4 f5⟩
 self:=fun _ _ _ _ _ st h=>by
  obtain⟨⟨old,he⟩,_⟩:=st;exact wpAny_pyIter_enum he h
section
variable{X:Cx}
noncomputable def Br(K:PySem.W.Frag)(ta:TA):TI:=fun σ H R=>ta σ H fun vs H1=>∃ a,vs=[.ref a] /\ (∃ xs,SqL K H1 a xs) /\ R (Ite K a) H1
theorem CJ{elts:List Expr}{k:Nat}{tp:Pos}{a:Expr}{ta:TA}{p pos:Pos}(hg:Gl X "enumerate")(hm:X.mg "enumerate" = none)(ha:PA X [a] ta)(hs:starEach [a] X.env=[(false,eval a X.env)]:=by rfl):
  PI X (.Tuple elts k tp) (.Call (.Name "enumerate" p) [a] [] pos) (Br X.K ta):=by
 intro pins s σ H R I h;refine Call_ (sd I hg hm (show bootBuiltins "enumerate" = some (.type "enumerate") by rfl) (PyProof.Rows.callWith_type1 (thn (ha pos pins s σ H _ I h) fun us s1 ⟨vs,H1,I1,r1,q1⟩=>?_) hs rfl));obtain⟨l,e,⟨xs,hq⟩,q⟩:=q1;subst e
 cases r1 with
 | cons r rr=>
   cases rr;cases r;obtain⟨its,rv,p,hz⟩:=I1.list hq
   refine call_enumerate_list p.isList fun h' he hit hsz hk=>?_
   refine wpAny_pyIter_enum he ?_
   have I2:Inv X pins σ H1 { s1 with heap:=h' }:=I1.kept (t':=s1.toks) hk
   refine⟨s1.heap.objs.size+1,[s1.heap.objs.size+1,s1.heap.objs.size],_,_,H1,rfl,I2,zK l _ _ (Nat.succ_ne_self _),⟨⟨.none,he⟩,hit⟩,fun b hb=>?_,q⟩
   have:s1.heap.objs.size<=b:=by
    rcases List.mem_cons.mp hb with z|z
    . subst z;exact Nat.le_succ _
    . have z':b=s1.heap.objs.size:=by simpa using z
      subst z';exact Nat.le_refl _
   exact I1.wX this (I1.hok.fresh this)
end
theorem Ao{K:PySem.W.Frag}{a:Addr}{xs:List V}{g:TG}{tb:TS}{D:Ends}{σ:St}{H:Hp}(Pv:Nat->St->Hp->Prop)(h0:Pv 0 σ H)(hl:∀ i σ H,i<=xs.length->Pv i σ H->SqL K H a xs)
  (hs:∀ i x σ H t,xs[i]?=some x->Pv i σ H->H t=none->g (.ref t) σ (upd H t (.tup [.int i,x])) fun σ2 H2=>tb { D with nx:=Pv (i+1),ct:=Pv (i+1),bk:=D.nx } σ2 H2) (hd:∀ σ H,Pv xs.length σ H->D.nx σ H):
  ∃ W:Nat->Nat->St->Hp->Prop,(∃ m,W 0 m σ H) /\ ∀ i m σ H,W i m σ H ->
    ((Ite K a).stop i H /\ D.nx σ H) \/ ((Ite K a).go i H /\ ∃ N:St->Hp->Prop,(∀ σ' H',N σ' H'->∃ m',m'<m /\ W (i+1) m' σ' H') /\ ∀ x H',(Ite K a).yld i H x H'->g x σ H' fun σ2 H2=>tb { D with nx:=N,ct:=N,bk:=D.nx } σ2 H2):=by
 refine⟨fun i m σ H=>m=xs.length - i /\ i<=xs.length /\ Pv i σ H,⟨xs.length,by simp,Nat.zero_le _,h0⟩,?_⟩
 rintro i m σ H ⟨rfl,hi,p⟩
 have q:=hl i σ H hi p
 by_cases hlt:i<xs.length
 . refine .inr ⟨⟨xs,xs[i],q,by simp[hlt]⟩,Pv (i+1),fun σ' H' p'=>⟨xs.length - (i+1),by omega,rfl,hlt,p'⟩,fun x H' y=>?_⟩;obtain⟨t,z,y1,y3,e1,e2⟩:=y;subst e1 e2;exact hs i z σ _ t (y1 xs q) p y3
 . have e:i=xs.length:=by omega
   subst e;exact .inl ⟨⟨xs,q,Nat.le_refl _⟩,hd σ H p⟩
end L2
namespace L2.P
open PySem PySem.Spec PyProof.Rows L2 L2.E PySem.SeqAt
mutual
noncomputable def dOf:PV->PyData
 |.non=>.none
 |.bl b=>.bool b
 |.int i=>.int i
 |.str x=>.str x
 |.lst xs=>.list (lh xs)
 |.tup xs=>.tuple (lh xs)
noncomputable def lh:List PV->List PyData
 |[]=>[]
 |x ::xs=>dOf x ::lh xs
end
mutual
theorem yx:∀ x y:PV,PyData.eqv (dOf x) (dOf y)=fH x y
 |.non,y=>by cases y<;>simp[dOf,PyData.eqv,fH]
 |.bl a,y=>by cases y<;>simp[dOf,PyData.eqv,fH]
 |.int a,y=>by cases y<;>simp[dOf,PyData.eqv,fH]
 |.str a,y=>by cases y<;>simp[dOf,PyData.eqv,fH]
 |.lst xs,y=>by cases y<;>simp[dOf,PyData.eqv,fH,sA xs]
 |.tup xs,y=>by cases y<;>simp[dOf,PyData.eqv,fH,sA xs]
theorem sA:∀ xs ys:List PV,PyData.eqvAll (lh xs) (lh ys)=nX xs ys
 |[],ys=>by cases ys<;>simp[lh,PyData.eqvAll,nX]
 |x ::xs,ys=>by cases ys<;>simp[lh,PyData.eqvAll,nX,yx x,sA xs]
end
mutual
theorem AH:∀(x:PV) (n:Nat),og x n=true->(dOf x).canLay0=true /\ (dOf x).depth<=n
 |.non,n,h=>by simp[dOf,PyData.canLay0,PyData.depth]
 |.bl a,n,h=>by simp[dOf,PyData.canLay0,PyData.depth]
 |.int a,n,h=>by simp[dOf,PyData.canLay0,PyData.depth]
 |.str a,n,h=>by simp[dOf,PyData.canLay0,PyData.depth];exact h
 | .lst xs,n,h=>by
   cases n with
   |zero=>simp[og]at h
   | succ n=>
     have:=qt xs n (by simpa [og]using h);simp[dOf,PyData.canLay0,PyData.depth]
     exact⟨this.1,by omega⟩
 | .tup xs,n,h=>by
   cases n with
   |zero=>simp[og]at h
   | succ n=>
     have:=qt xs n (by simpa [og]using h);simp[dOf,PyData.canLay0,PyData.depth]
     exact⟨this.1,by omega⟩
theorem qt:∀(xs:List PV) (n:Nat),kK xs n=true->PyData.canLayAll0 (lh xs)=true /\ PyData.depthAll (lh xs)<=n
 |[],n,h=>by simp[lh,PyData.canLayAll0,PyData.depthAll]
 | x ::xs,n,h=>by
   simp[kK]at h;have h1:=AH x n h.1;have h2:=qt xs n h.2;simp[lh,PyData.canLayAll0,PyData.depthAll]
   exact⟨⟨h1.1,h2.1⟩,by omega⟩
end
section
variable{X:Cx}{pins:List (Addr×Obj)}{σ:St}{H:Hp}{s:Shared}
mutual
theorem oQ(I:Inv X pins σ H s):∀(x:PV) (v:V) (u:Value),Rep X.K H x v->RelV v u->∃ as,Reads s.heap u (dOf x) as
 |.non,v,u,h,r=>by unfold Rep at h;subst h;cases r;exact⟨_,.none⟩
 |.bl b,v,u,h,r=>by unfold Rep at h;subst h;cases r;exact⟨_,.bool b⟩
 |.int i,v,u,h,r=>by unfold Rep at h;subst h;obtain⟨t,rfl⟩:=r;exact⟨_,.int i t⟩
 |.str x,v,u,h,r=>by unfold Rep at h;subst h;obtain⟨t,rfl⟩:=r;exact⟨_,.str x t⟩
 | .lst xs,v,u,h,r=>by
   unfold Rep at h;obtain⟨p,vs,rfl,hq,hr⟩:=h;cases r;obtain⟨its,rv,pl,hz⟩:=I.list hq;obtain⟨as,ra⟩:=mI I xs vs its hr rv;obtain⟨o,e,c,n,d⟩:=pl.isList
   exact⟨_,.list (xs:=lh xs) e c d (by simpa using ra)⟩
 | .tup xs,v,u,h,r=>by
   unfold Rep at h;obtain⟨p,vs,rfl,hq,hr⟩:=h;cases r;obtain⟨its,rv,pl,hz⟩:=I.tuple hq;obtain⟨as,ra⟩:=mI I xs vs its hr rv;obtain⟨o,e,c,n,d⟩:=pl
   exact⟨_,.tuple (xs:=lh xs) e c d (by simpa using ra)⟩
theorem mI(I:Inv X pins σ H s):∀(xs:List PV) (vs:List V) (us:List Value),bj X.K H xs vs->Vals vs us->∃ as,ReadsAll s.heap us (lh xs) as
 |[],vs,us,h,r=>by rw[h.nil_inv]at r;cases r;exact⟨_,.nil⟩
 | x ::xs,vs,us,h,r=>by
   obtain⟨v,t,rfl,h1,h2⟩:=h.cons_inv
   cases r with
   | cons r1 r2=>
     obtain⟨as,ra⟩:=oQ I x _ _ h1 r1;obtain⟨bs,rb⟩:=mI I xs _ _ h2 r2
     exact⟨_,.cons ra rb⟩
end
end
section
variable{K:PySem.W.Frag}{S H:Hp}
theorem RdV.rep{x:PV}{v:V}(h:RdV K S H x v)(s:aH S H):Rep K H x v:=by
 cases x with
 |lst xs=>obtain⟨p,vs,e,q,r⟩:=h;unfold Rep;exact⟨p,vs,e,q,r.mono s⟩
 |non=>exact Rep.mono s h
 |bl b=>exact Rep.mono s h
 |int i=>exact Rep.mono s h
 |str x=>exact Rep.mono s h
 |tup xs=>exact Rep.mono s h
end
section
variable{X:Cx}{K:PySem.W.Frag}{S H:Hp}
theorem qO{x:PV}{v:V}(h:Rep K H x v)(f:eG x=true):nV v=true:=by
 cases x with
 |lst xs=>cases f
 |tup xs=>cases f
 |non=>unfold Rep at h;subst h;rfl
 |bl b=>unfold Rep at h;subst h;rfl
 |int b=>unfold Rep at h;subst h;rfl
 |str b=>unfold Rep at h;subst h;rfl
theorem Cn{x y:PV}{v u:V}(h:Rep K H x v)(k:Rep K H y u)(f:eG x=true)(g:eG y=true):eqV u v=fH y x:=by
 cases x<;>first|(cases f;done)|skip
 all_goals(unfold Rep at h;subst h;cases y<;>first|(cases g;done)|(unfold Rep at k;subst k;simp[eqV,fH]))
theorem tL{xs:List PV}{vs:List V}(h:bj K H xs vs)(f:xs.all eG=true):vs.all nV=true:=by
 induction xs generalizing vs with
 |nil=>rw[h.nil_inv];rfl
 | cons x xs ih=>
   obtain⟨v,r,rfl,h1,h2⟩:=h.cons_inv
   rw[List.all_cons,Bool.and_eq_true]at f ⊢
   exact⟨qO h1 f.1,ih h2 f.2⟩
theorem vE{x:PV}{v:V}{xs:List PV}{vs:List V}(hx:Rep K H x v)(g:eG x=true)(h:bj K H xs vs)(f:xs.all eG=true):inV v vs=xs.any fun y=>fH y x:=by
 induction xs generalizing vs with
 |nil=>rw[h.nil_inv];rfl
 | cons y xs ih=>
   obtain⟨u,r,rfl,h1,h2⟩:=h.cons_inv;rw[List.all_cons,Bool.and_eq_true]at f;have:=ih h2 f.2
   unfold inV at this ⊢
   rw[List.any_cons,List.any_cons,this,Cn hx h1 g f.1]
theorem vT{x:PV}{xs:List PV}(g:eG x=false)(f:xs.all eG=true):(xs.any fun y=>fH y x)=false:=by
 induction xs with
 |nil=>rfl
 | cons y xs ih=>
   rw[List.all_cons,Bool.and_eq_true]at f;rw[List.any_cons,ih f.2,Bool.or_false];have f1:=f.1
   cases y<;>first|(cases f1;done)|(cases x<;>first|(cases g;done)|simp[fH])
theorem uI{α:Type}(l:List α):(l.any fun _=>false)=false:=by induction l<;>simp_all
theorem oI{A:Around}{s:Shared}{pins:List (Addr×Obj)}{σ:St}(I:Inv X pins σ H s)(hu:A.units<cLine){x:PV}{v:V}{a:Value}(hx:Rep X.K H x v)(ra:RelV v a)(g:eG x=false):
  ∀{xs:List PV} {vs:List V} {us:List Value},bj X.K H xs vs->Vals vs us->xs.all eG=true->∀ u∈us,EqAt A s u a false:=by
 intro xs
 induction xs with
 |nil=>intro vs us h r _ u hu;rw[h.nil_inv]at r;cases r;cases hu
 | cons y xs ih=>
   intro vs us h r f u hm;obtain⟨w,t,rfl,h1,h2⟩:=h.cons_inv;rw[List.all_cons,Bool.and_eq_true]at f
   cases r with
   | cons r1 r2=>
     rcases List.mem_cons.mp hm with rfl|hm
     . cases x with
       |non=>cases g
       |bl b=>cases g
       |int b=>cases g
       |str b=>cases g
       | lst zs=>
         unfold Rep at hx;obtain⟨p,us',rfl,hq,_⟩:=hx;cases ra;obtain⟨its,_,pl,_⟩:=I.list hq
         cases y with
         |non=>unfold Rep at h1;subst h1;cases r1;exact EqAt.none_list pl.isList hu
         |bl b=>unfold Rep at h1;subst h1;cases r1;exact EqAt.bool_list b pl.isList hu
         |int b=>unfold Rep at h1;subst h1;obtain⟨t',rfl⟩:=r1;exact EqAt.int_list b t' pl.isList hu
         |str b=>unfold Rep at h1;subst h1;obtain⟨t',rfl⟩:=r1;exact EqAt.str_list b t' pl.isList hu
         |lst _=>cases f.1
         |tup _=>cases f.1
       | tup zs=>
         unfold Rep at hx;obtain⟨p,us',rfl,hq,_⟩:=hx;cases ra;obtain⟨its,_,pl,_⟩:=I.tuple hq
         cases y with
         |non=>unfold Rep at h1;subst h1;cases r1;exact EqAt.none_tuple pl hu
         |bl b=>unfold Rep at h1;subst h1;cases r1;exact EqAt.bool_tuple b pl hu
         |int b=>unfold Rep at h1;subst h1;obtain⟨t',rfl⟩:=r1;exact EqAt.int_tuple b t' pl hu
         |str b=>unfold Rep at h1;subst h1;obtain⟨t',rfl⟩:=r1;exact EqAt.str_tuple b t' pl hu
         |lst _=>cases f.1
         |tup _=>cases f.1
     . exact ih h2 r2 f.2 u hm
noncomputable def Bz(K:PySem.W.Frag)(A:Around)(neg:Bool):R2:=fun v u H Q=>∃ x ys p vs,Rep K H x v /\ u=.ref p /\ (SqL K H p vs \/ SqT K H p vs) /\ bj K H ys vs /\ ys.all eG=true /\ A.units+64<cLine /\ Q (.bl (if neg then !(ys.any fun y=>fH y x)else ys.any fun y=>fH y x)) H
theorem kE:OpR X (compareOp .In) (Bz X.K X.A false):=by
 intro pins s σ H v u a b Q I rx ry h;obtain⟨x,ys,p,vs,hx,rfl,hq,hr,hf,hu,q⟩:=h
 cases g:eG x with
 |true=>exact Ah pins s σ H v _ a b Q I rx ry ⟨p,vs,rfl,hq,qO hx g,tL hr hf,by rw[vE hx g hr hf];exact q⟩
 | false=>
   rw[vT g hf]at q;cases ry
   rcases hq with hq|hq
   . obtain⟨its,r,pl,hz⟩:=I.list hq;refine SeqAt.in_listAt (fun _=>false) pl.isList (fun w hw=>oI I (by show X.A.units+1<cLine;omega) hx rx g hr r hf w (by simpa using hw)) ⟨.bl _,H,I,rfl,?_⟩;rw[show(its.toArray.any fun _=>false)=false by simp[uI]];exact q
   . obtain⟨its,r,pl,hz⟩:=I.tuple hq;refine SeqAt.in_tupleAt (fun _=>false) pl (fun w hw=>oI I (by show X.A.units+1<cLine;omega) hx rx g hr r hf w (by simpa using hw)) ⟨.bl _,H,I,rfl,?_⟩;rw[show(its.toArray.any fun _=>false)=false by simp[uI]];exact q
theorem Ai:OpR X (compareOp .NotIn) (Bz X.K X.A true):=by
 intro pins s σ H v u a b Q I rx ry h;obtain⟨x,ys,p,vs,hx,rfl,hq,hr,hf,hu,q⟩:=h
 cases g:eG x with
 |true=>exact ur pins s σ H v _ a b Q I rx ry ⟨p,vs,rfl,hq,qO hx g,tL hr hf,by rw[vE hx g hr hf];exact q⟩
 | false=>
   rw[vT g hf]at q;cases ry
   rcases hq with hq|hq
   . obtain⟨its,r,pl,hz⟩:=I.list hq;refine SeqAt.notIn_listAt (fun _=>false) pl.isList (fun w hw=>oI I (by show X.A.units+1<cLine;omega) hx rx g hr r hf w (by simpa using hw)) ⟨.bl _,H,I,rfl,?_⟩;rw[show(its.toArray.any fun _=>false)=false by simp[uI]];exact q
   . obtain⟨its,r,pl,hz⟩:=I.tuple hq;refine SeqAt.notIn_tupleAt (fun _=>false) pl (fun w hw=>oI I (by show X.A.units+1<cLine;omega) hx rx g hr r hf w (by simpa using hw)) ⟨.bl _,H,I,rfl,?_⟩;rw[show(its.toArray.any fun _=>false)=false by simp[uI]];exact q
theorem yS{A:Around}{neg:Bool}{x y:PV}{v u:V}{b:Bool}{Q:VK}(hu:A.units+64<cLine)(I:aH S H)(hx:RdV K S H x v)(hy:RdV K S H y u)(e:mf x y=some b)(k:∀ z S' H',bc S H S' H'->kM K H S' H' (.sh (.bl (if neg then !b else b))) z->Q z H'):Bz K A neg v u H Q:=by
 cases y with
 | tup ys=>
   simp only[mf]at e
   by_cases hf:ys.all eG=true
   . rw[if_pos hf]at e;cases e;obtain⟨p,vs,rfl,hq,hr⟩:=mH hy
     exact⟨x,ys,p,vs,hx.rep I,rfl,.inr (aH.tup I hq),hr.mono I,hf,hu,k _ S H (bc.refl I) kz⟩
   . rw[if_neg hf]at e;cases e
 | lst ys=>
   simp only[mf]at e
   by_cases hf:ys.all eG=true
   . rw[if_pos hf]at e;cases e;obtain⟨p,vs,rfl,hq,hr⟩:=gz hy
     exact⟨x,ys,p,vs,hx.rep I,rfl,.inl hq,hr.mono I,hf,hu,k _ S H (bc.refl I) kz⟩
   . rw[if_neg hf]at e;cases e
 |_=>simp only[mf]at e;cases e
theorem nT{A:Around}(hu:A.units+64<cLine):JR K (Bz K A false) gIn:=by
 intro S H x y v u rr Q I hx hy e k;obtain⟨b,e1,e2⟩:=Option.map_eq_some_iff.mp e;subst e2;exact yS hu I hx hy e1 k
theorem Aw{A:Around}(hu:A.units+64<cLine):JR K (Bz K A true) uY:=by
 intro S H x y v u rr Q I hx hy e k;obtain⟨b,e1,e2⟩:=Option.map_eq_some_iff.mp e;subst e2;exact yS hu I hx hy e1 k
end
end L2.P
namespace L2.P
open PySem PySem.Spec PyProof.Rows L2 L2.E
section
variable{K:PySem.W.Frag}{cls:String->Option Addr}{W:XW}{Av G S₀ S S' H H' B B':Hp}{ρ:ah}{σ:St}{Q:VK}
noncomputable abbrev g2(K:PySem.W.Frag)(i j:Nat):TG:=E4 K 2 (yn (jb i) (yn (jb j) F3))
theorem xQ{mb:ah->OS}{D:Ends}{N:St->Hp->Prop}(hb:JS K cls W tb mb)(I:SR K cls Av G S₀ ρ σ S H)(hx:Rep K S x v)(hy:Rep K S y u)(ht:SqT K H t [v,u])
  (p:iO K cls W Av G S₀ S D (lB i j mb (.tup [x,y] ::xs) ρ)) (hN:∀ ρ' σ' S' H',SR K cls Av G S₀ ρ' σ' S' H'->aH S S'->iO K cls W Av G S₀ S' D (lB i j mb xs ρ')->N σ' H'):
  g2 K i j (.ref t) σ H fun σ2 H2=>tb { D with nx:=N,ct:=N,bk:=D.nx } σ2 H2:=by
 refine⟨t,_,rfl,ht,rfl,_,_,rfl,_,_,rfl,rfl,?_⟩
 refine hb Av G S₀ _ _ S H _ ((I.yl hx).yl hy) ?_;unfold lB at p
 cases e:mb ((ρ.set i (some (.sh x))).set j (some (.sh y)))with
 |nx ρ'=>rw[e]at p;exact fun σ' S' H' I' s'=>hN ρ' σ' S' H' I' s' (p.back s')
 |ct ρ'=>rw[e]at p;exact fun σ' S' H' I' s'=>hN ρ' σ' S' H' I' s' (p.back s')
 |bk ρ'=>rw[e]at p;exact p
 |rt ρ' r=>rw[e]at p;exact p
 |exc ρ' c fs=>rw[e]at p;exact p
 |bad=>rw[e]at p;exact p
theorem xP(xs:List PV):∀(k n:Nat) (y:PV),xs[k]?=some y->qd (n+k) (xs.drop k)=.tup [.int ((n+k:Nat):Int),y] ::qd (n+(k+1)) (xs.drop (k+1)):=by
 intro k n y hy
 have hk:k<xs.length:=(List.getElem?_eq_some_iff.mp hy).1
 rw[List.drop_eq_getElem_cons hk]
 have:xs[k]=y:=(List.getElem?_eq_some_iff.mp hy).2
 rw[this];rfl
theorem C5{ml:ah->OE}{mb:ah->OS}(hl:JE K cls W tl ml)(hb:JS K cls W tb mb):JS K cls W (Bs (Br K (iT tl j9)) (g2 K i j) tb) (yj i j ml mb):=by
 intro Av G S₀ ρ σ S H D I p;refine hl Av G S₀ ρ σ S H _ I ?_;unfold yj at p
 cases em:ml ρ with
 |exc c fs=>rw[em]at p;exact fun a C S' H' w x=>p a C σ S' H' (I.grow w) w.s x
 |bad=>rw[em]at p;exact p
 | ok r=>
   rw[em]at p;intro v S1 H1 w1 r1;simp only[OE.cD]at p
   cases ei:vk r with
   |none=>rw[ei]at p;exact p.elim
   | some xs=>
     rw[ei]at p
     have es:jn r=some (.lst xs):=by
      cases r with
      |sh y=>cases y<;>cases ei<;>rfl
      |fr ys=>cases ei;rfl
      |al ys=>cases ei
     obtain⟨S2,w2,s2,rx⟩:=r1.share w1 es;have I2:=I.grow w2;unfold Rep at rx;obtain⟨a,vs,rfl,hq,hr⟩:=rx
     show ∃ a',[V.ref a]=[V.ref a'] /\ _
     refine⟨a,rfl,⟨vs,aH.seq I2.sh hq⟩,?_⟩
     refine Ao (xs:=vs) (fun k σ' H'=>∃ ρ' S',SR K cls Av G S₀ ρ' σ' S' H' /\ aH S2 S' /\ iO K cls W Av G S₀ S' D (lB i j mb (qd (0+k) (xs.drop k)) ρ'))
      ⟨ρ,S2,I2,aH.refl _,p.back w2.s⟩ ?_ ?_ ?_
     . rintro k σ' H' _ ⟨ρ',S',I',s',_⟩
       exact aH.seq (s'.trans I'.sh) hq
     . rintro k x σ' H' t hx ⟨ρ',S',I',s',p'⟩ ht
       obtain⟨y,hy,ry⟩:=hr.Hq hx;rw[xP xs k 0 y hy]at p'
       have w3:bc S' H' S' (upd H' t (.tup [.int k,x])):=bc.heap I'.sh ht
       refine xQ hb (I'.grow w3) (x:=.int ((0+k:Nat):Int)) (v:=.int k) (by unfold Rep;rw[Nat.zero_add]) (Rep.mono s' ry) (SqT.new bw) p' fun ρ2 σ2 S3 H3 I3 s3 p3=>⟨ρ2,S3,I3,s'.trans s3,p3⟩
     . rintro σ' H' ⟨ρ',S',I',s',p'⟩
       rw[List.drop_of_length_le (by rw[hr.length];exact Nat.le_refl _)]at p';exact p' σ' S' H' I' (aH.refl _)
end
end L2.P
namespace L2.E
open PySem PySem.Spec PyProof.Rows L2
theorem Cp{X:Cx}(hg:Gl X "enumerate")(hm:X.mg "enumerate" = none)(ha:QA X [a] ta)(hs:starEach [a] X.env=[(false,eval a X.env)]:=by rfl):
  QI X (.Tuple elts k tp) (.Call (.Name "enumerate" p) [a] [] pos) (Br X.K ta):=⟨CJ hg hm ha.out hs⟩
structure QGs(X:Cx)(es:List Expr)(t:TGs):Prop where
 out:PGs X es t
theorem DA:QGs X [] F3:=⟨Df⟩
theorem vg{X:Cx}(h1:QG X e t)(h2:QGs X es u)
  (hs:(assignEach (e ::es) X.env).map (·.2)=assign e X.env ::(assignEach es X.env).map (·.2):=by rfl):QGs X (e ::es) (yn t u):=⟨A3 h1.out h2.out hs⟩
theorem F9{X:Cx}(hc:X.calm=true)(h:QGs X es t)
  (hn:(assignEach es X.env).length=n:=by rfl) (hst:(assignEach es X.env).findIdx? (·.1)=none:=by rfl):QG X (.Tuple es k pos) (E4 X.K n t):=⟨Gv hc h.out hn hst⟩
end L2.E
namespace L2.P
open PySem PySem.Spec PyProof.Rows L2 L2.E
section
variable{K:PySem.W.Frag}{cls:String->Option Addr}{W:XW}{Av G S₀ S S' H H' B B':Hp}{ρ:ah}{σ:St}{Q:VK}{F:Nat->List Addr}
theorem bD.length{ts:List OV}{vs:List V}(h:bD K cls S H ts vs f):vs.length=ts.length:=by
 induction ts generalizing vs f with
 |nil=>unfold bD at h;rw[h.1];rfl
 | cons t ts ih=>
   unfold bD at h;obtain⟨v,r,f1,f2,rfl,_,_,h2⟩:=h;simp[ih h2]
theorem bD.cons_inv(h:bD K cls S H (t ::ts) vs fp):∃ v r f1 f2,vs=v ::r /\ fp=f1++f2 /\ bu K cls S H t v f1 /\ bD K cls S H ts r f2:=by unfold bD at h;exact h
theorem bD.cons(h:bu K cls S H t v f1)(r:bD K cls S H ts vs f2):bD K cls S H (t ::ts) (v ::vs) (f1++f2):=by unfold bD;exact⟨v,vs,f1,f2,rfl,rfl,h,r⟩
theorem bD.nil:bD K cls S H [] [] []:=by unfold bD;exact⟨rfl,rfl⟩
theorem bD.append(h:bD K cls S H ts vs f)(k:bD K cls S H us ws g):bD K cls S H (ts++us) (vs++ws) (f++g):=by
 induction ts generalizing vs f with
 |nil=>unfold bD at h;rw[h.1,h.2];exact k
 | cons t ts ih=>
   obtain⟨v,r,f1,f2,rfl,rfl,h1,h2⟩:=h.cons_inv;have:=bD.cons h1 (ih h2);rw[List.append_assoc];exact this
theorem bD.shs{xs:List PV}(h:bj K S xs vs):bD K cls S H (xs.map .sh) vs []:=by
 induction xs generalizing vs with
 |nil=>rw[h.nil_inv];exact .nil
 | cons x xs ih=>
   obtain⟨v,r,rfl,h1,h2⟩:=h.cons_inv;exact bD.cons (f1:=[]) (by unfold bu;exact⟨rfl,h1⟩) (ih h2)
theorem bD.flat(e:vA ts=some xs)(h:bD K cls S H ts vs f):bj K S xs vs /\ f=[]:=by
 induction ts generalizing xs vs f with
 |nil=>cases e;unfold bD at h;rw[h.1,h.2];exact⟨.nil,rfl⟩
 | cons t ts ih=>
   cases t with
   | sh x=>
     obtain⟨ys,e1,e2⟩:=Option.map_eq_some_iff.mp e;subst e2;obtain⟨v,r,f1,f2,rfl,rfl,h1,h2⟩:=h.cons_inv;unfold bu at h1;obtain⟨h3,h4⟩:=ih e1 h2
     exact⟨.cons h1.2 h3,by rw[h1.1,h4];rfl⟩
   |ol _=>cases e
   |ob _ _ _=>cases e
   |di _=>cases e
   |dt _=>cases e
theorem bD.at{ts:List OV}{vs:List V}{f:List Addr}(h:bD K cls S H ts vs f)(e:ts[k]?=some u):
  ∃ w f1 rest,vs[k]?=some w /\ bu K cls S H u w f1 /\ f.Perm (f1++rest) /\
    ∀ S' H' u' w' f',aH S S'->bu K cls S' H' u' w' f'->(∀ a∈rest,∀ o,H a=some o->H' a=some o)->∃ g,bD K cls S' H' (ts.set k u') (vs.set k w') g /\ g.Perm (f'++rest):=by
 induction ts generalizing vs f k with
 |nil=>simp at e
 | cons t ts ih=>
   obtain⟨v,r,f1,f2,rfl,rfl,h1,h2⟩:=h.cons_inv
   cases k with
   | zero=>
     simp at e;subst e
     refine⟨v,f1,f2,rfl,h1,List.Perm.refl _,fun S' H' u' w' f' s r' g=>?_⟩
     exact⟨f'++f2,bD.cons r' (h2.mono s g),List.Perm.refl _⟩
   | succ k=>
     simp at e;obtain⟨w,g1,rest,e1,r1,p1,c1⟩:=ih h2 e
     refine⟨w,g1,f1++rest,by simpa using e1,r1,?_,fun S' H' u' w' f' s r' g=>?_⟩
     . have:(f1++f2).Perm (f1++(g1++rest)):=List.Perm.append_left f1 p1
       refine this.trans ?_;rw[<- List.append_assoc,<- List.append_assoc];exact List.Perm.append_right rest List.perm_append_comm
     . obtain⟨g2,r2,p2⟩:=c1 S' H' u' w' f' s r' fun a ha=>g a (List.mem_append_right _ ha)
       refine⟨f1++g2,bD.cons (h1.mono s fun a ha=>g a (List.mem_append_left _ ha)) r2,?_⟩
       refine(List.Perm.append_left f1 p2).trans ?_
       rw[<- List.append_assoc,<- List.append_assoc];exact List.Perm.append_right rest List.perm_append_comm
theorem zb{ts:List OV}(h:mN ks ts f=some u):∃ k,ts[k]?=some u /\ ks[k]?=some f /\ (∀ u',sE ks ts f u'=ts.set k u') /\ ∀{α:Type} (us:List (Str×α)),us.map (·.1)=ks->us.lookup f=(us.map (·.2))[k]?:=by
 induction ks generalizing ts with
 |nil=>simp[mN]at h
 | cons g ks ih=>
   cases ts with
   |nil=>simp[mN]at h
   | cons t ts=>
     unfold mN at h;split at h
     . rename_i e;subst e;cases h
       refine⟨0,rfl,rfl,fun u'=>by simp[sE],fun us eu=>?_⟩
       cases us with
       |nil=>cases eu
       | cons q us=>
         simp at eu;obtain⟨a,b⟩:=q;simp at eu;rw[<- eu.1];simp[List.lookup]
     . rename_i ne;obtain⟨k,e1,e2,e3,e4⟩:=ih h
       refine⟨k+1,by simpa using e1,by simpa using e2,fun u'=>by simp[sE,ne,e3],fun us eu=>?_⟩
       cases us with
       |nil=>cases eu
       | cons q us=>
         obtain⟨a,b⟩:=q;simp at eu
         have:(f==a)=false:=by rw[eu.1];simpa using Ne.symm ne
         simp[List.lookup,this,e4 us eu.2]
noncomputable def tD(H:Hp):Stp->V->V->Prop
 |.ix k,v,w=>∃ p vs,v=.ref p /\ H p=some (.lst vs) /\ vs[k]?=some w
 |.fd f,v,w=>∃ p C dx us,v=.ref p /\ H p=some (.ins C dx us) /\ us.lookup f=some w
noncomputable def je(H:Hp):V->List Stp->V->Prop
 |v,[],w=>w=v
 |v,s ::π,w=>∃ u,tD H s v u /\ je H u π w
theorem tD.inj(h:tD H s v w)(k:tD H s v w'):w=w':=by
 cases s with
 | ix n=>
   obtain⟨p,vs,rfl,e1,e2⟩:=h;obtain⟨p',vs',e3,e4,e5⟩:=k;cases e3;rw[e1]at e4;cases e4;rw[e2]at e5;cases e5;rfl
 | fd f=>
   obtain⟨p,C,dx,us,rfl,e1,e2⟩:=h;obtain⟨p',C',dx',us',e3,e4,e5⟩:=k;cases e3;rw[e1]at e4;cases e4;rw[e2]at e5;cases e5;rfl
theorem je.inj:∀{v w w':V},je H v π w->je H v π w'->w=w':=by
 induction π with
 |nil=>intro v w w' h k;rw[h,k]
 | cons s π ih=>
   rintro v w w' ⟨u,h1,h2⟩ ⟨u',k1,k2⟩
   have:=h1.inj k1;subst this;exact ih h2 k2
theorem je.snoc:∀{v w u:V},je H v π w->tD H s w u->je H v (π++[s]) u:=by
 induction π with
 |nil=>intro v w u h k;rw[h]at k;exact⟨u,k,rfl⟩
 | cons t π ih=>
   rintro v w u ⟨x,h1,h2⟩ k
   exact⟨x,h1,ih h2 k⟩
theorem je.mono(g:aH H H'):∀{v w:V},je H v π w->je H' v π w:=by
 induction π with
 |nil=>intro v w h;exact h
 | cons t π ih=>
   rintro v w ⟨x,h1,h2⟩
   refine⟨x,?_,ih h2⟩
   cases t with
   |ix k=>obtain⟨p,vs,e,e1,e2⟩:=h1;exact⟨p,vs,e,g _ _ e1,e2⟩
   |fd f=>obtain⟨p,C,dx,us,e,e1,e2⟩:=h1;exact⟨p,C,dx,us,e,g _ _ e1,e2⟩
theorem bu.step{t u:OV}{fp:List Addr}(h:bu K cls S H t v fp)(e:t.at1 s=some u):
  ∃ w f1 rest,tD H s v w /\ bu K cls S H u w f1 /\ fp.Perm (f1++rest) /\
    ∀ S' H' u' f',aH S S'->bu K cls S' H' u' w f'->(∀ a∈rest,∀ o,H a=some o->H' a=some o)->∃ g,bu K cls S' H' (t.BL s u') v g /\ g.Perm (f'++rest):=by
 cases t with
 |sh x=>cases s<;>cases e
 |di x=>cases s<;>cases e
 |dt x=>cases s<;>cases e
 | ol ts=>
   cases s with
   |fd f=>cases e
   | ix k=>
     unfold bu at h;obtain⟨p,vs,f,rfl,hp,rfl,r⟩:=h;obtain⟨w,f1,rest,e1,r1,p1,c1⟩:=r.at e
     refine⟨w,f1,p ::rest,⟨p,vs,rfl,hp,e1⟩,r1,?_,fun S' H' u' f' s r' g=>?_⟩
     . exact(List.Perm.cons p p1).trans (List.perm_middle.symm)
     . obtain⟨g2,r2,p2⟩:=c1 S' H' u' w f' s r' fun a ha=>g a (by simp[ha])
       refine⟨p ::g2,?_,(List.Perm.cons p p2).trans List.perm_middle.symm⟩
       rw[j2 e1]at r2;unfold OV.BL bu
       exact⟨p,vs,g2,rfl,g p (by simp) _ hp,rfl,r2⟩
 | ob c ks ts=>
   cases s with
   |ix k=>cases e
   | fd f=>
     unfold bu at h;obtain⟨p,C,dx,us,ff,rfl,hc,hp,hd,hk,rfl,r⟩:=h;obtain⟨k,e1,e2,e3,e4⟩:=zb e;obtain⟨w,f1,rest,q1,r1,p1,c1⟩:=r.at e1
     refine⟨w,f1,p ::dx ::rest,⟨p,C,dx,us,rfl,hp,by rw[e4 us hk];exact q1⟩,r1,?_,fun S' H' u' f' s r' g=>?_⟩
     . exact((List.Perm.cons p ((List.Perm.cons dx p1).trans List.perm_middle.symm))).trans List.perm_middle.symm
     . obtain⟨g2,r2,p2⟩:=c1 S' H' u' w f' s r' fun a ha=>g a (by simp[ha])
       refine⟨p ::dx ::g2,?_,(List.Perm.cons p ((List.Perm.cons dx p2).trans List.perm_middle.symm)).trans List.perm_middle.symm⟩
       rw[j2 q1]at r2;unfold OV.BL bu
       exact⟨p,C,dx,us,g2,rfl,hc,g p (by simp) _ hp,g dx (by simp) _ hd,hk,rfl,by rw[e3];exact r2⟩
theorem bu.focus:∀{t u:OV} {v:V} {fp:List Addr},bu K cls S H t v fp->t.get π=some u ->
  ∃ w f1 rest,je H v π w /\ bu K cls S H u w f1 /\ fp.Perm (f1++rest) /\
    ∀ S' H' u' f',aH S S'->bu K cls S' H' u' w f'->(∀ a∈rest,∀ o,H a=some o->H' a=some o)->∃ g,bu K cls S' H' (t.put π u') v g /\ g.Perm (f'++rest):=by
 induction π with
 | nil=>
   intro t u v fp h e;cases e
   exact⟨v,fp,[],rfl,h,by simp,fun S' H' u' f' _ r' _=>⟨f',by unfold OV.put;exact r',by simp⟩⟩
 | cons s π ih=>
   intro t u v fp h e;unfold OV.get at e;obtain⟨t1,e1,e2⟩:=Option.bind_eq_some_iff.mp e;obtain⟨w1,f1,rest1,st,r1,p1,c1⟩:=h.step e1;obtain⟨w,f2,rest2,wk,r2,p2,c2⟩:=ih r1 e2
   refine⟨w,f2,rest2++rest1,⟨w1,st,wk⟩,r2,?_,fun S' H' u' f' s' r' g=>?_⟩
   . rw[<- List.append_assoc];exact p1.trans (List.Perm.append_right rest1 p2)
   . obtain⟨g1,q1,k1⟩:=c2 S' H' u' f' s' r' fun a ha=>g a (List.mem_append_left _ ha)
     obtain⟨g2,q2,k2⟩:=c1 S' H' _ g1 s' q1 fun a ha=>g a (List.mem_append_right _ ha)
     refine⟨g2,?_,?_⟩
     . unfold OV.put;rw[e1];exact q2
     . rw[<- List.append_assoc];exact k2.trans (List.Perm.append_right rest1 k1)
theorem SR.tree(I:SR K cls Av G S₀ ρ σ S H)(e:jl i ρ=some t):∃ v fp,σ[i]?=some (some v) /\ bu K cls S H t v fp:=by
 obtain⟨F,J⟩:=I;unfold jl at e
 cases q:ρ[i]? with
 |none=>rw[q]at e;cases e
 | some o=>
   cases o with
   |none=>rw[q]at e;cases e
   | some s=>
     rw[q]at e;obtain⟨v,e1,r⟩:=J.own i s q
     cases s with
     |tr io t'=>cases e;exact⟨v,_,e1,r.1⟩
     | bo t'=>
       cases e;obtain⟨_,f,r⟩:=r
       exact⟨v,f,e1,r.mono (aH.refl _) fun _ _ _ h=>J.gh _ _ h⟩
     |sh x=>cases e
     |ow xs=>cases e
     |ex c fs=>cases e
noncomputable def JP(K:PySem.W.Frag)(cls:String->Option Addr)(te:TE)(i:Nat)(mp:MP):Prop:=∀ Av G S₀ ρ σ S H Q v0 t π,SR K cls Av G S₀ ρ σ S H->jl i ρ=some t->σ[i]?=some (some v0)->mp ρ=some π->(t.get π).isSome=true ->
 (∀ w S' H',bc S H S' H'->je H' v0 π w->Q w H')->te σ H Q
theorem jE:JP K cls (wU i) i eP:=by
 intro Av G S₀ ρ σ S H Q v0 t π I e ev ep _ k;cases ep
 exact⟨v0,ev,k v0 S H (bc.refl I.sh) rfl⟩
theorem JP.sub(hp:JP K cls te i mp)(I:SR K cls Av G S₀ ρ σ S H)(e:subAt i mp ρ=some u)
  (k:∀ w S' H' f,bc S H S' H'->SR K cls Av G S₀ ρ σ S' H'->bu K cls S' H' u w f->Q w H'):te σ H Q:=by
 unfold subAt at e;split at e
 . rename_i t et;split at e
   . rename_i π eπ;obtain⟨v0,fp0,ev,_⟩:=I.tree et
     refine hp Av G S₀ ρ σ S H _ v0 t π I et ev eπ (by rw[e];rfl) fun w S1 H1 w1 wk=>?_
     obtain⟨v,fp,ev',ro⟩:=(I.grow w1).tree et;rw[ev]at ev';cases ev';obtain⟨w',f1,rest,wk',r',_,_⟩:=ro.focus e;have:=wk.inj wk';subst this;exact k w S1 H1 f1 w1 (I.grow w1) r'
   . cases e
 . cases e
theorem wA{ok:String->Bool}(hp:JP K cls te i mp)(ha:∀ c C,cls c=some C->ok c=true->Cls K C /\ kF K C f):JP K cls (FT K te f) i (pFd i mp f ok):=by
 intro Av G S₀ ρ σ S H Q v0 t π I e ev ep hs k;unfold pFd at ep;split at ep
 . rename_i c ks ts es;split at ep
   . rename_i hok;rw[Bool.and_eq_true]at hok;obtain⟨π0,e0,rfl⟩:=Option.map_eq_some_iff.mp ep
     have e1:t.get π0=some (.ob c ks ts):=by
      unfold subAt at es;rw[e]at es
      dsimp only at es
      rw[e0]at es;exact es
     refine hp Av G S₀ ρ σ S H _ v0 t π0 I e ev e0 (by rw[e1];rfl) fun w S1 H1 w1 wk=>?_
     have I1:=I.grow w1;obtain⟨v,fp,ev',ro⟩:=I1.tree e;rw[ev]at ev';cases ev';obtain⟨w',f1,rest,wk',r',_,_⟩:=ro.focus e1;have:=wk.inj wk';subst this;unfold bu at r';obtain⟨p,C,dx,us,ff,rfl,hcl,hp',hd,hk,rfl,r⟩:=r';obtain⟨a1,a2⟩:=ha c C hcl hok.1
     cases q:mN ks ts f with
     |none=>rw[q]at hok;cases hok.2
     | some u=>
       obtain⟨n,h1,h2,h3,h4⟩:=zb q
       have hn:n<(us.map (·.2)).length:=by rw[r.length];exact(List.getElem?_eq_some_iff.mp h1).1
       have hx:us.lookup f=some (us.map (·.2))[n]:=by rw[h4 us hk];exact List.getElem?_eq_getElem hn
       exact⟨p,C,dx,us,_,rfl,hp',a1,a2,hx,k _ S1 H1 w1 (wk'.snoc ⟨p,C,dx,us,rfl,hp',hx⟩)⟩
   . cases ep
 . cases ep
theorem yu(hp:JP K cls te i mp):JE K cls W te (qe i mp):=by
 intro Av G S₀ ρ σ S H Q I p;unfold qe at p;split at p
 . rename_i x e
   refine hp.sub I e fun w S1 H1 f w1 _ r=>?_
   unfold bu at r;exact p w S1 H1 w1 r.2
 . rename_i ts e;split at p
   . rename_i xs ex
     refine hp.sub I e fun w S1 H1 f w1 _ r=>?_
     unfold bu at r;obtain⟨q,vs,ff,rfl,hq,_,rs⟩:=r;exact p _ S1 H1 w1 ⟨q,vs,rfl,SqL.new hq,(rs.flat ex).1⟩
   . exact p.elim
 . exact p.elim
theorem zi(hp:JP K cls te i mp):JT K cls W (fun σ H Q=>te σ H fun x H'=>∃ k,wL K x H' k /\ Q k H') (o6 i mp):=by
 intro Av G S₀ ρ σ S H Q I p;unfold o6 at p;split at p
 . rename_i ts e
   refine hp.sub I e fun w S1 H1 f w1 _ r=>?_
   unfold bu at r;obtain⟨q,vs,ff,rfl,hq,_,rs⟩:=r
   refine⟨_,.inl ⟨vs,SqL.new hq,rfl⟩,?_⟩
   have:vs.isEmpty=ts.isEmpty:=by
    have:=rs.length
    cases vs<;>cases ts<;>simp_all
   rw[this];exact p S1 H1 w1
 . exact p.elim
end
section
variable{K:PySem.W.Frag}{cls:String->Option Addr}{W:XW}{Av G S₀ S S' H H' B B':Hp}{ρ:ah}{σ:St}{Q:VK}{F:Nat->List Addr}
theorem SRF.part{t u:OV}(J:SRF K cls Av G S₀ ρ σ S H F)(hi:ρ[i]?=some (some (.tr io t)))(hv:σ[i]?=some (some v0))(e:t.get π=some u):
  ∃ w f1 rest,je H v0 π w /\ bu K cls S H u w f1 /\ (F i).Perm (f1++rest) /\ (f1++rest).Nodup /\ (∀ a∈f1,G a=none /\ S a=none) /\
    ∀ S' H' u' f',aH S S'->aH S' H'->aH G H'->(∀ b,S' b≠none->S₀ b≠none \/ G b=none)->bu K cls S' H' u' w f'->f'.Nodup->(∀ a∈f',a∈f1 \/ H a=none)->(∀ a∈f',S' a=none) ->
      (∀ a o,a∉f1->H a=some o->H' a=some o)->(∀ a,S' a≠none->S a≠none \/ H a=none \/ a∈f1) ->
      ∃ g,SRF K cls Av G S₀ (ρ.set i (some (.tr io (t.put π u')))) σ S' H' (mm F i g) /\ g.Perm (f'++rest):=by
 obtain⟨v,ev,ro,nd,gs,hio⟩:=J.own i _ hi;rw[hv]at ev;cases ev;obtain⟨w,f1,rest,wk,r1,p1,c1⟩:=ro.focus e
 have nd1:(f1++rest).Nodup:=p1.nodup_iff.mp nd
 have in1:∀ a,a∈f1->a∈F i:=fun a ha=>p1.mem_iff.mpr (List.mem_append_left _ ha)
 have inr:∀ a,a∈rest->a∈F i:=fun a ha=>p1.mem_iff.mpr (List.mem_append_right _ ha)
 have off1:∀ a,a∈rest->a∉f1:=fun a ha hb=>(List.nodup_append.mp nd1).2.2 a hb a ha rfl
 refine⟨w,f1,rest,wk,r1,p1,nd1,fun a ha=>gs a (in1 a ha),fun S' H' u' f' s sh gh new r' nd' fr nS keep nw=>?_⟩
 obtain⟨g,rg,pg⟩:=c1 S' H' u' f' s r' fun a ha o h=>keep a o (off1 a ha) h
 have noS:∀ j a,a∈F j->a∉f1->S' a=none:=fun j a ha hb=>by
  cases q:S' a with
  |none=>rfl
  | some o=>
    obtain⟨⟨o',h1,_⟩,_,h3⟩:=J.live j a ha
    rcases nw a (by rw[q];simp)with z|z|z
    . exact absurd h3 z
    . rw[h1]at z;cases z
    . exact absurd z hb
 have J1:SRF K cls Av G S₀ (ρ.set i none) (σ.set i none) S H (mm F i []):=J.put (fun t e=>nomatch e) (fun a ha=>nomatch ha) fun j a _ ha=>nomatch ha
 have off:∀ j a,a∈mm F i [] j->a∉f1 /\ j≠i:=fun j a ha=>by
  by_cases ej:j=i
  . subst ej;rw[iD]at ha;cases ha
  . rw[eS ej]at ha
    exact⟨fun hb=>ej (J.apart j i a ha (in1 a hb)),ej⟩
 have J2:=J1.change (S':=S') (H':=H') gh s sh new (fun j a ha o h=>keep a o (off j a ha).1 h)
  (fun b o hx h=>keep b o (fun hb=>by
    obtain⟨⟨o',h1,h2⟩,_⟩:=J.live i b (in1 b hb)
    rw[h]at h1;cases h1;rw[hx]at h2;cases h2) h)
  fun j a ha=>by
   have hj:=off j a ha;rw[eS hj.2]at ha;exact noS j a ha hj.1
 have mem:∀ a,a∈g->a∈f' \/ a∈rest:=fun a ha=>List.mem_append.mp (pg.mem_iff.mp ha)
 have hlive:∀ a∈g,(∃ o,H' a=some o /\ isX o=false) /\ G a=none /\ S' a=none:=fun a ha=>by
  refine⟨rg.live a ha,?_,?_⟩
  . rcases mem a ha with z|z
    . rcases fr a z with y|y
      . exact(gs a (in1 a y)).1
      . exact J.gh.free y
    . exact(gs a (inr a z)).1
  . rcases mem a ha with z|z
    . exact nS a z
    . exact noS i a (inr a z) (off1 a z)
 have ndg:g.Nodup:=pg.nodup_iff.mpr (List.nodup_append.mpr ⟨nd',(List.nodup_append.mp nd1).2.1,fun a ha b hb z=>by
  subst z
  rcases fr a ha with y|y
  . exact off1 a hb y
  . obtain⟨⟨o',h1,_⟩,_⟩:=J.live i a (inr a hb)
    rw[y]at h1;cases h1⟩)
 have J3:=J2.put (i:=i) (s:=some (.tr io (t.put π u'))) (u:=some v0) (fp:=g) (fun t' e=>by
  cases e
  exact⟨v0,rfl,rg,ndg,fun a ha=>⟨(hlive a ha).2.1,(hlive a ha).2.2⟩,hio⟩) hlive fun j a hj ha hz=>by
   rw[eS hj]at hz
   rcases mem a ha with z|z
   . rcases fr a z with y|y
     . exact hj (J.apart j i a hz (in1 a y))
     . obtain⟨⟨o',h1,_⟩,_⟩:=J.live j a hz;rw[y]at h1;cases h1
   . exact hj (J.apart j i a hz (inr a z))
 rw[List.set_set,List.set_set,j2 hv]at J3
 have eF:mm (mm F i []) i g=mm F i g:=by
  funext j
  by_cases ej:j=i
  . subst ej;rw[iD,iD]
  . rw[eS ej,eS ej,eS ej]
 rw[eF]at J3
 exact⟨g,J3,pg⟩
theorem SRF.more(I:SRF K cls Av G S₀ ρ σ S H F)(h:∀ t,s=some t->∃ v,u=some v /\ qq K cls Av G S H ρ.length t v fp)
  (hl:∀ a∈fp,(∃ o,H a=some o /\ isX o=false) /\ G a=none /\ S a=none) (ap:∀ j a,j<ρ.length->a∈fp->a∉F j):∃ F',SRF K cls Av G S₀ (ρ++[s]) (σ++[u]) S H F':=by
 refine⟨fun j=>if j<ρ.length then F j else if j=ρ.length then fp else[],I.gh,I.s0,I.sh,I.new,fun j t e=>?_,fun j k a h1 h2=>?_,fun j a ha=>?_,by simp[I.len]⟩
 . by_cases hj:j<ρ.length
   . rw[List.getElem?_append_left hj]at e;rw[List.getElem?_append_left (by rw[<- I.len];exact hj)];simp only[hj,if_true];exact I.own j t e
   . rw[List.getElem?_append_right (Nat.le_of_not_lt hj)]at e
     have h0:j - ρ.length=0:=by
      by_cases h:j - ρ.length=0
      . exact h
      . rw[List.getElem?_eq_none (by simp;omega)]at e;cases e
     rw[h0]at e
     have ej:j=ρ.length:=by omega
     obtain⟨v,e2,r⟩:=h t (Option.some.inj e)
     refine⟨v,?_,?_⟩
     . rw[List.getElem?_append_right (by rw[<- I.len];omega),<- I.len,h0,e2];rfl
     . subst ej;simp only[Nat.lt_irrefl,if_false,if_true];exact r
 . by_cases hj:j<ρ.length
   . simp only[hj,if_true]at h1
     by_cases hk:k<ρ.length
     . simp only[hk,if_true]at h2;exact I.apart j k a h1 h2
     . simp only[hk,if_false]at h2;split at h2
       . exact absurd h1 (ap j a hj h2)
       . cases h2
   . simp only[hj,if_false]at h1;split at h1
     . rename_i ej
       by_cases hk:k<ρ.length
       . simp only[hk,if_true]at h2;exact absurd h2 (ap k a hk h1)
       . simp only[hk,if_false]at h2;split at h2
         . rename_i ek;rw[ej,ek]
         . cases h2
     . cases h1
 . by_cases hj:j<ρ.length
   . simp only[hj,if_true]at ha;exact I.live j a ha
   . simp only[hj,if_false]at ha;split at ha
     . exact hl a ha
     . cases ha
theorem SR.fold(I:SR K cls Av G S₀ (ρ++[some s]) (σ++[some v]) S H)(hs:nio s=true):SR K cls Av G S₀ (ρ.set i (some s)) (σ.set i (some v)) S H:=by
 obtain⟨F,J⟩:=I
 have hlen:ρ.length=σ.length:=by have:=J.len;simpa using this
 obtain⟨v',ev,r⟩:=J.own ρ.length s (by simp)
 have ev':v'=v:=by
  rw[List.getElem?_append_right (by rw[hlen];exact Nat.le_refl _),hlen,Nat.sub_self]at ev
  cases ev;rfl
 subst ev'
 have J1:SRF K cls Av G S₀ ρ σ S H (fun j=>if j<ρ.length then F j else[]):=by
  refine⟨J.gh,J.s0,J.sh,J.new,fun j t e=>?_,fun j k a h1 h2=>?_,fun j a ha=>?_,hlen⟩
  . have hj:j<ρ.length:=(List.getElem?_eq_some_iff.mp e).1
    obtain⟨v2,e2,r2⟩:=J.own j t (by rw[List.getElem?_append_left hj];exact e);rw[List.getElem?_append_left (by rw[<- hlen];exact hj)]at e2;simp only[hj,if_true]
    exact⟨v2,e2,r2⟩
  . split at h1
    . split at h2
      . exact J.apart j k a h1 h2
      . cases h2
    . cases h1
  . split at ha
    . exact J.live j a ha
    . cases ha
 refine⟨_,J1.put (i:=i) (s:=some s) (u:=some v') (fp:=F ρ.length) (fun t e=>?_) (fun a ha=>J.live _ a ha) fun j a hj ha hz=>?_⟩
 . cases e
   refine⟨v',rfl,?_⟩
   cases s with
   |sh x=>exact r
   |ow xs=>exact r
   |ex c fs=>exact r
   | tr io t=>
     cases io with
     |true=>cases hs
     |false=>exact⟨r.1,r.2.1,r.2.2.1,fun z=>nomatch z⟩
   |bo t=>cases hs
 . split at hz
   . rename_i hj';have:=J.apart j ρ.length a hz ha;omega
   . cases hz
theorem SR.zd(I:SR K cls Av G S₀ (ρ++[s]) (σ++[u]) S H):SR K cls Av G S₀ ρ σ S H:=by
 obtain⟨F,J⟩:=I
 have hlen:ρ.length=σ.length:=by have:=J.len;simpa using this
 refine⟨F,J.gh,J.s0,J.sh,J.new,fun j t e=>?_,J.apart,J.live,hlen⟩
 have hj:j<ρ.length:=(List.getElem?_eq_some_iff.mp e).1
 obtain⟨v2,e2,r2⟩:=J.own j t (by rw[List.getElem?_append_left hj];exact e);rw[List.getElem?_append_left (by rw[<- hlen];exact hj)]at e2
 exact⟨v2,e2,r2⟩
noncomputable def A9(K:PySem.W.Frag)(cls:String->Option Addr)(B S H:Hp)(t:OV)(v:V):Prop:=∃ fp,bu K cls S H t v fp /\ fp.Nodup /\ ∀ a∈fp,B a=none /\ S a=none
noncomputable def Ia(K:PySem.W.Frag)(cls:String->Option Addr)(W:XW)(σ:St)(S H:Hp)(Q:VK):OD->Prop
 |.ok t=>∀ v S' H',bc S H S' H'->A9 K cls H S' H' t v->Q v H'
 |.exc c fs=>∀ a C S' H',bc S H S' H'->nM K cls S' H' c fs a C->W (.ref C) (some a) σ H'
 |.bad=>False
noncomputable def JD(K:PySem.W.Frag)(cls:String->Option Addr)(W:XW)(te:TE)(m:ah->OD):Prop:=∀ Av G S₀ ρ σ S H Q,SR K cls Av G S₀ ρ σ S H->Ia K cls W σ S H Q (m ρ)->te σ H Q
theorem A9.grow(h:A9 K cls B S H t v)(w:bc S H S1 H1):A9 K cls B S1 H1 t v:=by
 obtain⟨fp,r,nd,g⟩:=h
 refine⟨fp,r.mono w.s fun a _ o z=>w.g _ _ z,nd,fun a ha=>⟨(g a ha).1,?_⟩⟩
 obtain⟨o,h1,_⟩:=r.live a ha
 cases q:S1 a with
 |none=>rfl
 | some o'=>
   rcases w.new a (by rw[q];simp)with z|z
   . exact absurd (g a ha).2 z
   . rw[h1]at z;cases z
theorem HZ{me:ah->OE}(h:JE K cls W te me):JD K cls W te (mD me):=by
 intro Av G S₀ ρ σ S H Q I p;refine h Av G S₀ ρ σ S H Q I ?_;unfold mD at p
 cases e:me ρ with
 |exc c fs=>rw[e]at p;exact p
 |bad=>rw[e]at p;exact p
 | ok r=>
   rw[e]at p
   cases r with
   |sh x=>exact fun v S' H' w r=>p v S' H' w ⟨[],by unfold bu;exact⟨rfl,r⟩,List.nodup_nil,fun a ha=>nomatch ha⟩
   |al xs=>exact p.elim
   | fr xs=>
     intro v S' H' w r;obtain⟨q,vs,rfl,hB,hS,hH,hr⟩:=r;refine p _ S' H' w ⟨[q],by unfold bu;exact⟨q,vs,[],rfl,hH,rfl,.shs hr⟩,by simp,fun a ha=>?_⟩
     have z:a=q:=by simpa using ha
     subst z;exact⟨hB,hS⟩
theorem SR.HF(I:SR K cls Av G S₀ ρ σ S H)(w:bc S H S' H')(h:A9 K cls H S' H' t v):SR K cls Av G S₀ (ρ.set i (some (.tr false t))) (σ.set i (some v)) S' H':=by
 obtain⟨F,J⟩:=I;obtain⟨fp,r,nd,g⟩:=h
 refine⟨_,(J.grow w).put (fp:=fp) (fun t' e=>by cases e;exact⟨v,rfl,r,nd,fun a ha=>⟨J.gh.free (g a ha).1,(g a ha).2⟩,fun z=>nomatch z⟩) (fun a ha=>⟨r.live a ha,J.gh.free (g a ha).1,(g a ha).2⟩) fun j a _ ha hz=>?_⟩
 obtain⟨⟨o,h1,_⟩,_⟩:=J.live j a hz;rw[(g a ha).1]at h1;cases h1
theorem uk{md:ah->OD}(h:JD K cls W te md):JS K cls W (sN te (jb i)) (qb i md):=by
 intro Av G S₀ ρ σ S H D I p;refine h Av G S₀ ρ σ S H _ I ?_;unfold qb at p
 cases e:md ρ with
 |exc c fs=>rw[e]at p;exact fun a C S' H' w x=>p a C σ S' H' (I.grow w) w.s x
 |bad=>rw[e]at p;exact p
 |ok t=>rw[e]at p;exact fun v S1 H1 w1 r1=>p _ S1 H1 (I.HF w1 r1) w1.s
end
section
variable{K:PySem.W.Frag}{cls:String->Option Addr}{W:XW}{Av G S₀ S S' H H' B B':Hp}{ρ:ah}{σ:St}{Q:VK}{F:Nat->List Addr}
theorem bu.AV{ts:List OV}{v:V}{fp:List Addr}(h:bu K cls S H (.ol ts) v fp):∃ p vs f,v=.ref p /\ H p=some (.lst vs) /\ fp=p ::f /\ bD K cls S H ts vs f:=by unfold bu at h;exact h
theorem SRF.uq{i:Nat}{io:Bool}{t:OV}{ts:List OV}{v0:V}{π:List Stp}(J:SRF K cls Av G S₀ ρ σ S H F)(hi:ρ[i]?=some (some (.tr io t)))(hv:σ[i]?=some (some v0))(e:t.get π=some (.ol ts)):
  ∃ q vs ff rest,je H v0 π (.ref q) /\ H q=some (.lst vs) /\ vs.length=ts.length /\ bD K cls S H ts vs ff /\ (F i).Perm ((q ::ff)++rest) /\ ((q ::ff)++rest).Nodup /\
    ∀ S' H' ts' vs' f',bc S H S' H'->bD K cls S' H' ts' vs' f'->f'.Nodup->(∀ a∈f',a∈ff \/ (H a=none /\ S' a=none)) ->
      ∃ g,SRF K cls Av G S₀ (ρ.set i (some (.tr io (t.put π (.ol ts'))))) σ S' (upd H' q (.lst vs')) (mm F i g) /\ g.Perm ((q ::f')++rest):=by
 obtain⟨w,f1,rest,wk,r1,p1,nd1,gs,c⟩:=J.part hi hv e;obtain⟨q,vs,ff,rfl,hq,rfl,rs⟩:=r1.AV
 refine⟨q,vs,ff,rest,wk,hq,rs.length,rs,p1,nd1,fun S' H' ts' vs' f' wg r' nd' fr=>?_⟩
 have hGq:=(gs q (by simp)).1;have hSq:=(gs q (by simp)).2
 have hS'q:S' q=none:=by
  cases z:S' q with
  |none=>rfl
  | some o=>
    rcases wg.new q (by rw[z];simp)with y|y
    . exact absurd hSq y
    . rw[hq]at y;cases y
 have nq:q∉f':=fun z=>by
  rcases fr q z with y|y
  . exact(List.nodup_cons.mp (List.nodup_append.mp nd1).1).1 y
  . rw[y.1]at hq;cases hq
 have nS:∀ a∈f',S' a=none:=fun a ha=>by
  rcases fr a ha with y|y
  . cases z:S' a with
    |none=>rfl
    | some o=>
      obtain⟨o',h1,_⟩:=rs.live a y
      rcases wg.new a (by rw[z];simp)with k|k
      . exact absurd (gs a (by simp[y])).2 k
      . rw[h1]at k;cases k
  . exact y.2
 refine c S' (upd H' q (.lst vs')) (.ol ts') (q ::f') wg.s (wg.sh.upd hS'q) ((J.gh.trans wg.g).upd hGq) (fun b h=>?_) ?_ (List.nodup_cons.mpr ⟨nq,nd'⟩) (fun a ha=>?_) (fun a ha=>?_) (fun a o hn h=>?_) fun a h=>?_
 . rcases wg.new b h with z|z
   . exact J.new b z
   . exact .inr (J.gh.free z)
 . unfold bu
   exact⟨q,vs',f',rfl,bw,rfl,r'.mono (aH.refl _) fun a ha o h=>by rw[bB (fun z=>nq (by rw[<- z];exact ha))];exact h⟩
 . rcases List.mem_cons.mp ha with z|z
   . subst z;exact .inl (by simp)
   . rcases fr a z with y|y
     . exact .inl (by simp[y])
     . exact .inr y.1
 . rcases List.mem_cons.mp ha with z|z
   . subst z;exact hS'q
   . exact nS a z
 . rw[bB (fun z=>hn (by rw[z];simp))];exact wg.g _ _ h
 . rcases wg.new a h with z|z
   . exact .inl z
   . exact .inr (.inl z)
theorem JP.at{i:Nat}{te:TE}{mp:MP}{io:Bool}{t u:OV}{v0:V}{π:List Stp}{Q:VK}(hp:JP K cls te i mp)(I:SR K cls Av G S₀ ρ σ S H)(hi:ρ[i]?=some (some (.tr io t)))(hv:σ[i]?=some (some v0))(e0:mp ρ=some π)(e1:t.get π=some u)
  (k:∀ w S' H',bc S H S' H'->SR K cls Av G S₀ ρ σ S' H'->je H' v0 π w->Q w H'):te σ H Q:=
 hp Av G S₀ ρ σ S H Q v0 t π I (by unfold jl;rw[hi];rfl) hv e0 (by rw[e1];rfl) fun w S1 H1 w1 wk=>k w S1 H1 w1 (I.grow w1) wk
theorem rX{i:Nat}{mp:MP}{k:OV->(OV->ah)->OS}{D:Ends}(p:iO K cls W Av G S₀ S D (wQ i mp ρ k)):∃ io t π u,ρ[i]?=some (some (.tr io t)) /\ mp ρ=some π /\ t.get π=some u /\ iO K cls W Av G S₀ S D (k u fun u'=>ρ.set i (some (.tr io (t.put π u')))):=by
 unfold wQ at p;split at p
 . rename_i io t hi;split at p
   . rename_i π e0;split at p
     . rename_i u e1
       exact⟨io,t,π,u,hi,e0,e1,p⟩
     . exact p.elim
   . exact p.elim
 . exact p.elim
theorem SR.val{i:Nat}{s:Sl}(I:SR K cls Av G S₀ ρ σ S H)(e:ρ[i]?=some (some s)):∃ v,σ[i]?=some (some v):=let ⟨v,h,_⟩:=I.good i s e;⟨v,h⟩
end
section
variable{K:PySem.W.Frag}{cls:String->Option Addr}{W:XW}{Av G S₀ S S' H H' B B':Hp}{ρ:ah}{σ:St}{Q:VK}{F:Nat->List Addr}
noncomputable def DW(K:PySem.W.Frag)(cls:String->Option Addr)(W:XW)(Av G S₀:Hp)(σ:St)(S:Hp)(Q:VK):OX->Prop
 |.ok ρ' s=>∀ v S' H',SR K cls Av G S₀ (ρ'++[some s]) (σ++[some v]) S' H'->aH S S'->Q v H'
 |.exc ρ' c fs=>∀ a C S' H',SR K cls Av G S₀ ρ' σ S' H'->aH S S'->nM K cls S' H' c fs a C->W (.ref C) (some a) σ H'
 |.bad=>False
noncomputable def JX(K:PySem.W.Frag)(cls:String->Option Addr)(W:XW)(te:TE)(m:ah->OX):Prop:=∀ Av G S₀ ρ σ S H Q,SR K cls Av G S₀ ρ σ S H->DW K cls W Av G S₀ σ S Q (m ρ)->te σ H Q
theorem ym{i:Nat}{te:TE}{m:ah->OX}(h:JX K cls W te m):JS K cls W (sN te (jb i)) (qa i m):=by
 intro Av G S₀ ρ σ S H D I p;refine h Av G S₀ ρ σ S H _ I ?_;unfold qa at p
 cases e:m ρ with
 |exc ρ' c fs=>rw[e]at p;exact fun a C S' H' I' s' x=>p a C σ S' H' I' s' x
 |bad=>rw[e]at p;exact p
 | ok ρ' s=>
   rw[e]at p
   dsimp only at p
   split at p
   . rename_i hs
     exact fun v S' H' I' s'=>p _ S' H' (I'.fold hs) s'
   . exact p.elim
theorem SR.FP{x:PV}{v:V}(I:SR K cls Av G S₀ (ρ++[some (.sh x)]) (σ++[some v]) S H):Rep K S x v:=by
 obtain⟨F,J⟩:=I
 have hlen:ρ.length=σ.length:=by have:=J.len;simpa using this
 obtain⟨v',ev,r⟩:=J.own ρ.length (.sh x) (by simp);rw[List.getElem?_append_right (by rw[hlen];exact Nat.le_refl _),hlen,Nat.sub_self]at ev;cases ev;exact r.2
theorem DL{te:TE}{m:ah->OX}{ta tb:TS}{ma mb:ah->OS}(h:JX K cls W te m)(ha:JS K cls W ta ma)(hb:JS K cls W tb mb):
  JS K cls W (C9 (DJ (fun σ H Q=>te σ H fun x H'=>∃ k,wL K x H' k /\ Q k H')) ta tb) (Dl true m ma mb):=by
 intro Av G S₀ ρ σ S H D I p;refine h Av G S₀ ρ σ S H _ I ?_;unfold Dl at p
 cases e:m ρ with
 |exc ρ' c fs=>rw[e]at p;exact fun a C S' H' I' s' x=>p a C σ S' H' I' s' x
 |bad=>rw[e]at p;exact p
 | ok ρ' s=>
   rw[e]at p
   cases s with
   | sh x=>
     dsimp only at p
     intro v S' H' I' s'
     cases et:ka x with
     |none=>rw[et]at p;exact p.elim
     | some k=>
       rw[et]at p
       refine⟨k,yY I'.sh (I'.FP.rd I'.sh) et,?_⟩
       cases k with
       |false=>exact vn (ha Av G S₀ ρ' σ S' H' D I'.zd (p.back s'))
       |true=>exact vh (hb Av G S₀ ρ' σ S' H' D I'.zd (p.back s'))
   |ow xs=>exact p.elim
   |ex c fs=>exact p.elim
   |tr io t=>exact p.elim
   |bo t=>exact p.elim
theorem bD.last{ts:List OV}{vs:List V}{f:List Addr}{x:OV}(h:bD K cls S H ts vs f)(e:ts.getLast?=some x):∃ y f1 f2,vs[vs.length - 1]?=some y /\ bD K cls S H ts.dropLast vs.dropLast f1 /\ bu K cls S H x y f2 /\ f=f1++f2:=by
 induction ts generalizing vs f with
 |nil=>cases e
 | cons t ts ih=>
   obtain⟨v,r,f1,f2,rfl,rfl,h1,h2⟩:=h.cons_inv
   cases ts with
   | nil=>
     unfold bD at h2;obtain⟨rfl,rfl⟩:=h2;simp at e;subst e
     exact⟨v,[],f1,rfl,.nil,h1,by simp⟩
   | cons t2 ts2=>
     rw[List.getLast?_cons_cons]at e;obtain⟨y,g1,g2,e1,r1,r2,rfl⟩:=ih h2 e
     have hr:r≠[]:=by intro z;subst z;have:=h2.length;simp at this
     refine⟨y,f1++g1,g2,?_,?_,r2,by simp⟩
     . cases r with
       |nil=>exact absurd rfl hr
       |cons a r'=>simpa using e1
     . cases r with
       |nil=>exact absurd rfl hr
       |cons a r'=>exact bD.cons h1 r1
theorem Dw{x:OV}{v:V}{fp:List Addr}{i:Nat}(h:bu K cls S H x v fp)(nd:fp.Nodup)(g:∀ a∈fp,G a=none /\ S a=none):qq K cls Av G S H i (slO x) v fp:=by
 cases x with
 |sh y=>unfold bu at h;exact h
 |ol ts=>exact⟨h,nd,g,fun z=>nomatch z⟩
 |ob c ks ts=>exact⟨h,nd,g,fun z=>nomatch z⟩
 |di x=>exact⟨h,nd,g,fun z=>nomatch z⟩
 |dt x=>exact⟨h,nd,g,fun z=>nomatch z⟩
theorem C3{i:Nat}{te:TE}{mp:MP}(hp:JP K cls te i mp):JX K cls W (Ge K "list" Hy te) (sU i mp):=by
 intro Av G S₀ ρ σ S H Q I p;unfold sU at p;split at p
 . rename_i io t hi;split at p
   . rename_i π e0;split at p
     . rename_i ts e1;split at p
       . rename_i x ex;obtain⟨v0,hv⟩:=I.val hi
         refine hp.at I hi hv e0 e1 fun w S1 H1 w1 I1 wk=>?_
         obtain⟨F,J1⟩:=id I1;obtain⟨q,vs,ff,rest,wk',hq,hl,rs,pF,nd,c⟩:=J1.uq hi hv e1;have:=wk.inj wk';subst this;obtain⟨y,f1,f2,ey,ri,rx,rfl⟩:=rs.last ex
         have ndf:(f1++f2).Nodup:=(List.nodup_cons.mp (List.nodup_append.mp nd).1).2
         have nq:q∉f1++f2:=(List.nodup_cons.mp (List.nodup_append.mp nd).1).1
         refine⟨.inl ⟨rfl,_,SqL.new hq⟩,q,vs,y,rfl,rfl,hq,ey,?_⟩
         obtain⟨g,J3,pg⟩:=c S1 H1 ts.dropLast vs.dropLast f1 (bc.refl J1.sh) ri (List.nodup_append.mp ndf).1 fun a ha=>.inl (List.mem_append_left _ ha)
         have in2:∀ a∈f2,a∈F i:=fun a ha=>pF.mem_iff.mpr (by simp[ha])
         have rx':bu K cls S1 (upd H1 q (.lst vs.dropLast)) x y f2:=rx.mono (aH.refl _) fun a ha o h=>by rw[bB (fun z=>nq (by rw[<- z];simp[ha]))];exact h
         have gs2:∀ a∈f2,G a=none /\ S1 a=none:=fun a ha=>(J1.live i a (in2 a ha)).2
         obtain⟨F',J4⟩:=J3.more (s:=some (slO x)) (u:=some y) (fp:=f2) (fun t' e=>by cases e;exact⟨y,rfl,Dw rx' (List.nodup_append.mp ndf).2.1 gs2⟩) (fun a ha=>⟨rx'.live a ha,gs2 a ha⟩) fun j a hj ha hz=>by
          by_cases ej:j=i
          . subst ej;rw[iD]at hz;have hm:=pg.mem_iff.mp hz;have hd:=List.nodup_append.mp nd
            rcases List.mem_append.mp hm with z|z
            . rcases List.mem_cons.mp z with z|z
              . subst z;exact nq (by simp[ha])
              . exact(List.nodup_append.mp ndf).2.2 a z a ha rfl
            . exact hd.2.2 a (by simp[ha]) a z rfl
          . rw[eS ej]at hz;exact ej (J1.apart j i a hz (in2 a ha))
         exact p y S1 _ ⟨F',J4⟩ w1.s
       . exact p.elim
     . exact p.elim
   . exact p.elim
 . exact p.elim
end
section
variable{K:PySem.W.Frag}{cls:String->Option Addr}{W:XW}{Av G S₀ S S' H H' B B':Hp}{ρ:ah}{σ:St}{Q:VK}{F:Nat->List Addr}
mutual
theorem bu.frozen(s:aH S S'):∀{t:OV} {v:V} {fp:List Addr} {x:PV},bu K cls S H t v fp->pvO t=some x->(∀ a∈fp,S' a=H a)->Rep K S' x v
 | .sh y,v,fp,x,h,e,g=>by
   unfold pvO at e;cases e;unfold bu at h;exact Rep.mono s h.2
 | .ol ts,v,fp,x,h,e,g=>by
   unfold pvO at e;obtain⟨xs,e1,rfl⟩:=Option.map_eq_some_iff.mp e;obtain⟨p,vs,f,rfl,hp,rfl,rs⟩:=h.AV;unfold Rep
   exact⟨p,vs,rfl,SqL.new (by rw[g p (by simp)];exact hp),bD.frozen s rs e1 fun a ha=>g a (by simp[ha])⟩
 |.ob c ks ts,v,fp,x,h,e,g=>by unfold pvO at e;cases e
 |.di c,v,fp,x,h,e,g=>by unfold pvO at e;cases e
 |.dt c,v,fp,x,h,e,g=>by unfold pvO at e;cases e
theorem bD.frozen(s:aH S S'):∀{ts:List OV} {vs:List V} {fp:List Addr} {xs:List PV},bD K cls S H ts vs fp->zO ts=some xs->(∀ a∈fp,S' a=H a)->bj K S' xs vs
 | [],vs,fp,xs,h,e,g=>by
   unfold zO at e;cases e;unfold bD at h;rw[h.1];exact .nil
 | t ::ts,vs,fp,xs,h,e,g=>by
   unfold zO at e;obtain⟨x,e1,e2⟩:=Option.bind_eq_some_iff.mp e;obtain⟨ys,e3,rfl⟩:=Option.map_eq_some_iff.mp e2;obtain⟨v,r,f1,f2,rfl,rfl,h1,h2⟩:=h.cons_inv;exact .cons (bu.frozen s h1 e1 fun a ha=>g a (by simp[ha])) (bD.frozen s h2 e3 fun a ha=>g a (by simp[ha]))
end
theorem SR.Fw{i:Nat}{t:OV}{x:PV}(I:SR K cls Av G S₀ ρ σ S H)(hi:ρ[i]?=some (some (.tr false t)))(ex:pvO t=some x):∃ S',aH S S' /\ SR K cls Av G S₀ (ρ.set i (some (.sh x))) σ S' H:=by
 obtain⟨F,J⟩:=I;obtain⟨v,hv,ro,nd,gs,_⟩:=J.own i _ hi
 have J1:SRF K cls Av G S₀ (ρ.set i none) (σ.set i none) S H (mm F i []):=J.put (fun t e=>nomatch e) (fun a ha=>nomatch ha) fun j a _ ha=>nomatch ha
 let S':Hp:=fun a=>if a∈F i then H a else S a
 have sS:aH S S':=fun b u h=>by
  show(if b∈F i then H b else S b)=some u
  rw[if_neg (fun z=>by rw[(gs b z).2]at h;cases h)];exact h
 have sH:aH S' H:=fun b u h=>by
  have h':(if b∈F i then H b else S b)=some u:=h
  split at h'
  . exact h'
  . exact J.sh b u h'
 have off:∀ j a,a∈mm F i [] j->a∉F i:=fun j a ha z=>by
  by_cases ej:j=i
  . subst ej;rw[iD]at ha;cases ha
  . rw[eS ej]at ha;exact ej (J.apart j i a ha z)
 have J2:=J1.change (S':=S') (H':=H) J.gh sS sH (fun b h=>by
   have h':(if b∈F i then H b else S b)≠none:=h
   split at h'
   . rename_i hb;exact .inr (gs b hb).1
   . exact J.new b h') (fun _ _ _ _ h=>h) (fun _ _ _ h=>h) fun j a ha=>by
     show(if a∈F i then H a else S a)=none
     rw[if_neg (off j a ha)];exact(J1.live j a ha).2.2
 have J3:=J2.put (i:=i) (s:=some (.sh x)) (u:=some v) (fp:=[]) (fun t' e=>by
  cases e
  exact⟨_,rfl,rfl,ro.frozen sS ex fun a ha=>by show(if a∈F i then H a else S a)=H a;rw[if_pos ha]⟩) (fun a ha=>nomatch ha) fun j a _ ha=>nomatch ha
 rw[List.set_set,List.set_set,j2 hv]at J3
 exact⟨S',sS,_,J3⟩
theorem xV{i:Nat}{ts:TS}{m:ah->OS}(h:JS K cls W ts m):JS K cls W ts (oR i m):=by
 intro Av G S₀ ρ σ S H D I p;unfold oR uK at p;split at p
 . rename_i t e;split at p
   . rename_i x ex;obtain⟨S',s,J⟩:=I.Fw e ex;exact h Av G S₀ _ σ S' H D J (p.back s)
   . exact h Av G S₀ ρ σ S H D I p
 . exact h Av G S₀ ρ σ S H D I p
theorem Dm{ks:List Str}{us:List (Str×V)}{f:Str}{y:V}(hk:us.map (·.1)=ks){k:Nat}(hf:∀ j,ks[j]?=some f->k<=j)(he:ks[k]?=some f):(jk f y us).map (·.1)=ks /\ (jk f y us).map (·.2)=(us.map (·.2)).set k y:=by
 induction us generalizing ks k with
 |nil=>subst hk;cases he
 | cons q us ih=>
   obtain⟨g,x⟩:=q;subst hk;unfold jk
   by_cases e:g=f
   . rw[if_pos e]
     have k0:k=0:=by have:=hf 0 (by simp[e]);omega
     subst k0
     exact⟨rfl,rfl⟩
   . rw[if_neg e]
     cases k with
     |zero=>simp at he;exact absurd he e
     | succ k=>
       obtain⟨h1,h2⟩:=ih (ks:=us.map (·.1)) (k:=k) rfl (fun j hj=>by have:=hf (j+1) (by simpa using hj);omega) (by simpa using he);simp[h1,h2]
theorem BX{us:List (Str×V)}{f:Str}{y:V}(h:f∉us.map (·.1)):jk f y us=us++[(f,y)]:=by
 induction us with
 |nil=>rfl
 | cons q us ih=>
   obtain⟨g,x⟩:=q;simp at h;unfold jk;rw[if_neg (fun z=>h.1 z.symm),ih (by simpa using h.2)];rfl
theorem xM{ks:List Str}{ts:List OV}{f:Str}(hl:ts.length=ks.length)(h:f∈ks):∃ k,ks[k]?=some f /\ (∀ j,ks[j]?=some f->k<=j) /\ k<ts.length /\ ∀ u,sE ks ts f u=ts.set k u:=by
 induction ks generalizing ts with
 |nil=>cases h
 | cons g ks ih=>
   cases ts with
   |nil=>cases hl
   | cons t ts=>
     by_cases e:g=f
     . subst e
       exact⟨0,rfl,fun j _=>Nat.zero_le _,by simp,fun u=>by simp[sE]⟩
     . obtain ⟨k,h1,h2,h3,h4⟩:=ih (ts:=ts) (by simpa using hl) (by
        rcases List.mem_cons.mp h with z|z
        . exact absurd z.symm e
        . exact z)
       refine⟨k+1,by simpa using h1,fun j hj=>?_,by simpa using h3,fun u=>by simp[sE,e,h4]⟩
       cases j with
       |zero=>simp at hj;exact absurd hj e
       |succ j=>have:=h2 j (by simpa using hj);omega
theorem Dg{i:Nat}{te tx:TE}{mp:MP}{f:Str}{okc:String->Bool}{md:ah->OD}(hp:JP K cls te i mp)(hx:JD K cls W tx md)(ha:∀ c C,cls c=some C->okc c=true->Cls K C /\ kF K C f):JS K cls W (GN K te tx f) (Cc i mp f okc md):=by
 intro Av G S₀ ρ σ S H D I p;refine hx Av G S₀ ρ σ S H _ I ?_;unfold Cc at p
 cases ed:md ρ with
 |exc c fs=>rw[ed]at p;exact fun a C S' H' w x=>p a C σ S' H' (I.grow w) w.s x
 |bad=>rw[ed]at p;exact p
 | ok x=>
   rw[ed]at p
   dsimp only at p
   obtain⟨io,t,π,u,hi,e0,e1,p⟩:=rX p;obtain⟨v0,hv⟩:=I.val hi
   cases u with
   |sh x=>exact p.elim
   |ol ts=>exact p.elim
   |di x=>exact p.elim
   |dt x=>exact p.elim
   | ob c ks ts=>
     dsimp only at p
     split at p
     . rename_i hok;rw[Bool.and_eq_true,decide_eq_true_eq]at hok;intro v S1 H1 w1 r1
       refine hp.at (I.grow w1) hi hv e0 e1 fun w S2 H2 w2 I2 wk=>?_
       obtain⟨F,J⟩:=id I;obtain⟨w0,f1,rest,wk',ro,pF,nd,gs,cc⟩:=J.part hi hv e1
       have wg:bc S H S2 H2:=w1.trans w2
       have:=wk.inj (wk'.mono wg.g);subst this;unfold bu at ro;obtain⟨q,C,dx,us,ff,rfl,hcl,hq,hd,hk,rfl,rs⟩:=ro;obtain⟨a1,a2⟩:=ha c C hcl hok.1;have nd1:=(List.nodup_append.mp nd).1
       have nq:q∉dx ::ff:=(List.nodup_cons.mp nd1).1
       have ndx':dx∉ff:=(List.nodup_cons.mp (List.nodup_cons.mp nd1).2).1
       have ndf:ff.Nodup:=(List.nodup_cons.mp (List.nodup_cons.mp nd1).2).2
       have hlen:us.length<1000:=by have:=congrArg List.length hk;simp at this;omega
       obtain⟨fx,rx,nx,gx⟩:=r1.grow w2
       refine⟨q,C,dx,us,rfl,wg.g _ _ hq,a1,a2,hlen,?_⟩
       have noS:∀ a∈q ::dx ::ff,S2 a=none:=fun a ha=>by
        cases z:S2 a with
        |none=>rfl
        | some o=>
          obtain⟨⟨o',h1,_⟩,_,h3⟩:=J.live i a (pF.mem_iff.mpr (List.mem_append_left _ ha))
          rcases wg.new a (by rw[z];simp)with y|y
          . exact absurd h3 y
          . rw[h1]at y;cases y
       have fin:∀ ks' ts' f',(jk f v us).map (·.1)=ks'->bD K cls S2 H2 ts' ((jk f v us).map (·.2)) f'->f'.Nodup->(∀ a∈f',a∈ff \/ (H a=none /\ S2 a=none)) ->
         SR K cls Av G S₀ (ρ.set i (some (.tr io (t.put π (.ob c ks' ts'))))) σ S2 (upd H2 q (.ins C dx (jk f v us))):=by
        intro ks' ts' f' hk' rs' nd' fr
        have nqf:q∉f':=fun z=>by
         rcases fr q z with y|y
         . exact nq (by simp[y])
         . rw[y.1]at hq;cases hq
        have ndf':dx∉f':=fun z=>by
         rcases fr dx z with y|y
         . exact ndx' y
         . rw[y.1]at hd;cases hd
        have ndq:dx≠q:=fun z=>nq (by simp[z])
        obtain⟨g,J3,_⟩:=cc S2 (upd H2 q (.ins C dx (jk f v us))) (.ob c ks' ts') (q ::dx ::f') wg.s (wg.sh.upd (noS q (by simp))) ((J.gh.trans wg.g).upd (gs q (by simp)).1) (fun b h=>by
          rcases wg.new b h with z|z
          . exact J.new b z
          . exact .inr (J.gh.free z)) (by
          unfold bu
          exact⟨q,C,dx,_,f',rfl,hcl,bw,by rw[bB ndq];exact wg.g _ _ hd,hk',rfl,rs'.mono (aH.refl _) fun a ha o h=>by rw[bB (fun z=>nqf (by rw[<- z];exact ha))];exact h⟩)
         (List.nodup_cons.mpr ⟨fun z=>by
           rcases List.mem_cons.mp z with z|z
           . exact ndq z.symm
           . exact nqf z,List.nodup_cons.mpr ⟨ndf',nd'⟩⟩) (fun a ha=>by
           rcases List.mem_cons.mp ha with z|z
           . subst z;exact .inl (by simp)
           . rcases List.mem_cons.mp z with z|z
             . subst z;exact .inl (by simp)
             . rcases fr a z with y|y
               . exact .inl (by simp[y])
               . exact .inr y.1) (fun a ha=>by
           rcases List.mem_cons.mp ha with z|z
           . subst z;exact noS _ (by simp)
           . rcases List.mem_cons.mp z with z|z
             . subst z;exact noS _ (by simp)
             . rcases fr a z with y|y
               . exact noS a (by simp[y])
               . exact y.2) (fun a o hn h=>by rw[bB (fun z=>hn (by rw[z];simp))];exact wg.g _ _ h) fun a h=>by
           rcases wg.new a h with z|z
           . exact .inl z
           . exact .inr (.inl z)
        exact⟨_,J3⟩
       have hlts:ts.length=ks.length:=by rw[<- rs.length,<- hk];simp
       split at p
       . rename_i hc;obtain⟨k,h1,h2,h3,h4⟩:=xM hlts (by simpa using hc);obtain⟨k1,k2⟩:=Dm (y:=v) hk h2 h1;obtain⟨w3,g1,rest3,e3,r3,p3,c3⟩:=rs.at (k:=k) (u:=ts[k]) (by simp[h3])
         obtain⟨g,rg,pg⟩:=c3 S2 H2 x v fx wg.s rx fun a _ o h=>wg.g _ _ h
         have inff:∀ a∈rest3,a∈ff:=fun a ha=>p3.mem_iff.mpr (List.mem_append_right _ ha)
         have ndr:rest3.Nodup:=(List.nodup_append.mp (p3.nodup_iff.mp ndf)).2.1
         have ndg:g.Nodup:=pg.nodup_iff.mpr (List.nodup_append.mpr ⟨nx,ndr,fun a ha b hb z=>by
          subst z;obtain⟨o,h1,_⟩:=rs.live a (inff a hb)
          rw[(gx a ha).1]at h1;cases h1⟩)
         have q1:=fin ks (ts.set k x) g k1 (by rw[k2];exact rg) ndg fun a ha=>by
          rcases List.mem_append.mp (pg.mem_iff.mp ha)with z|z
          . exact .inr (gx a z)
          . exact .inl (inff a z)
         rw[h4]at p;exact p σ S2 _ q1 wg.s
       . rename_i hc
         have hn:f∉us.map (·.1):=by rw[hk];simpa using hc
         have e2:=BX (y:=v) hn
         have ndg:(ff++(fx++[])).Nodup:=by
          rw[List.append_nil]
          exact List.nodup_append.mpr ⟨ndf,nx,fun a ha b hb z=>by
           subst z;obtain⟨o,h1,_⟩:=rs.live a ha
           rw[(gx a hb).1]at h1;cases h1⟩
         have q1:=fin (ks++[f]) (ts++[x]) (ff++(fx++[])) (by rw[e2];simp[hk]) (by rw[e2,List.map_append];exact(rs.mono wg.s fun a _ o h=>wg.g _ _ h).append (.cons rx .nil)) ndg fun a ha=>by
          rw[List.append_nil]at ha
          rcases List.mem_append.mp ha with z|z
          . exact .inl z
          . exact .inr (gx a z)
         exact p σ S2 _ q1 wg.s
     . exact p.elim
end
open Classical in
noncomputable def minus(H:Hp)(Fc:Nat->List Addr):Hp:=fun a=>if ∃ k,a∈Fc k then none else H a
section
variable{K:PySem.W.Frag}{cls:String->Option Addr}{W:XW}{Av G S₀ S S' H H' B B':Hp}{ρ:ah}{σ:St}{Q:VK}{F Fc Fc':Nat->List Addr}
theorem vQ(h:a∈Fc k):minus H Fc a=none:=by unfold minus;rw[if_pos ⟨k,h⟩]
theorem iY(h:∀ k,a∉Fc k):minus H Fc a=H a:=by unfold minus;rw[if_neg (fun ⟨k,z⟩=>h k z)]
theorem qV:aH (minus H Fc) H:=fun b u h=>by
 unfold minus at h;split at h
 . cases h
 . exact h
theorem lS(h:minus H Fc a=none):H a=none \/ ∃ k,a∈Fc k:=by
 unfold minus at h;split at h
 . rename_i z;exact .inr z
 . exact .inl h
noncomputable def JV(K:PySem.W.Frag)(cls:String->Option Addr)(S H Hm:Hp):Sl->V->List Addr->Prop
 |.sh x,v,fp=>fp=[] /\ Rep K S x v
 |.tr true t,v,fp=>bu K cls S H t v fp /\ fp.Nodup
 |.bo t,v,fp=>fp=[] /\ ∃ f,bu K cls S Hm t v f
 |_,_,_=>False
structure By(K:PySem.W.Frag)(cls:String->Option Addr)(vs:List V)(S H:Hp)(Fc:Nat->List Addr)(outs:List (Option OV))(S' H':Hp)(Fc':Nat->List Addr):Prop where
 s:aH S S'
 sh:aH S' H'
 keep:aH (minus H Fc) H'
 new:∀ b,S' b≠none->S b≠none \/ H b=none \/ ∃ k,b∈Fc k
 out:∀ k t',outs[k]?=some (some t')->∃ u,vs[k]?=some u /\ bu K cls S' H' t' u (Fc' k) /\ (Fc' k).Nodup
 apart:∀ j k a,a∈Fc' j->a∈Fc' k->j=k
 live:∀ k a,a∈Fc' k->minus H Fc a=none /\ S' a=none
noncomputable def Ie(K:PySem.W.Frag)(cls:String->Option Addr)(vs:List V)(S H:Hp)(Fc:Nat->List Addr)(Q:VK)(E:XK):OI->Prop
 |.ok x outs=>∀ v S' H' Fc',By K cls vs S H Fc outs S' H' Fc'->Rep K S' x v->Q v H'
 |.exc c fs outs=>∀ a C S' H' Fc',By K cls vs S H Fc outs S' H' Fc'->nM K cls S' H' c fs a C->E (.ref C) (some a) H'
 |.bad=>False
structure A5(K:PySem.W.Frag)(cls:String->Option Addr)(as:List Sl)(vs:List V)(S H:Hp)(Fc:Nat->List Addr):Prop where
 sh:aH S H
 len:as.length=vs.length
 rel:∀(k:Nat) (s:Sl),as[k]?=some s->∃ v,vs[k]?=some v /\ JV K cls S H (minus H Fc) s v (Fc k)
 apart:∀ j k a,a∈Fc j->a∈Fc k->j=k
 live:∀ k a,a∈Fc k->(∃ o,H a=some o /\ isX o=false) /\ S a=none
noncomputable def spI(K:PySem.W.Frag)(cls:String->Option Addr)(f:List Sl->OI):Sp:=fun vs H Q E=>∃ S as Fc,A5 K cls as vs S H Fc /\ Ie K cls vs S H Fc Q E (f as)
theorem CH{as:List Sl}{vs:List V}{N:List Str}{i:Nat}{s:Sl}(hl:as.length=vs.length)(e:(nj N.length as)[i]?=some (some s)):as[i]?=some s /\ (L2.start N vs)[i]?=some ((vs[i]?)):=by
 unfold nj at e
 by_cases hi:i<as.length
 . rw[List.getElem?_append_left (by simpa using hi),List.getElem?_map]at e
   have hx:as[i]?=some as[i]:=by simp[hi]
   rw[hx]at e;cases e
   refine⟨hx,?_⟩
   unfold L2.start;rw[List.getElem?_append_left (by rw[List.length_map,<- hl];exact hi),List.getElem?_map]
   have hv:vs[i]?=some (vs[i]'(by rw[<- hl];exact hi)):=by simp[<- hl,hi]
   rw[hv];rfl
 . rw[List.getElem?_append_right (by simpa using hi)]at e;rw[List.getElem?_replicate]at e
   split at e<;>cases e
noncomputable def Bf(vs:List V):Hp:=fun i=>(vs[i]?).map fun v=>.lst [v]
theorem SR.E0{ρ':ah}(A:aH S H)(I:SR K cls (Bf vs) (minus H Fc) S ρ' σ' S' H'):∃ Fc',By K cls vs S H Fc ((ρ'.take np).map tq) S' H' Fc':=by
 obtain⟨F,J⟩:=I
 refine⟨F,J.s0,J.sh,J.gh,fun b h=>?_,fun k t' e=>?_,J.apart,fun k a ha=>(J.live k a ha).2⟩
 . rcases J.new b h with z|z
   . exact .inl z
   . rcases lS z with y|y
     . exact .inr (.inl y)
     . exact .inr (.inr y)
 . rw[List.getElem?_map]at e;obtain⟨s,e1,e2⟩:=Option.map_eq_some_iff.mp e
   have e3:ρ'[k]?=some s:=by
    rw[List.getElem?_take]at e1;split at e1
    . exact e1
    . cases e1
   cases s with
   |none=>cases e2
   | some s=>
     cases s with
     | tr io t=>
       cases io with
       |false=>cases e2
       | true=>
         cases e2;obtain⟨v,ev,ro,nd,_,hio⟩:=J.own k _ e3;have:=hio rfl;unfold Bf at this;obtain⟨u,eu,e4⟩:=Option.map_eq_some_iff.mp this;cases e4
         exact⟨v,eu,ro,nd⟩
     |sh x=>cases e2
     |ow x=>cases e2
     |ex c fs=>cases e2
     |bo t=>cases e2
theorem yM{P:Program}{w:World}{mg:Str->Option Value}{base:Heap}{x qual:Str}{st:Stmt}{f:Addr}{fd:FuncData}{N ps:List Str}{k:Nat}{m:ah->OS}(Fn:Fun K x qual st f fd)(Sc:aZ N ps (aD st))
  (hbody:∀(cdv:Value) (A:Around) (outer:List Env) (s:Shared) (H:Hp) (E:XK),gw k (A.deeper (envOfC qual (aD st) s.heap.objs.size f cdv)) ->
    ∃ t,QSs (pC (CXE P w) P w K mg base N qual (aD st) f cdv A outer s H E) (dE st) t /\ JS K cls (fun C a _ H=>∀ H',aH H H'->E C a H') t m):cw P w K mg base (CXE P w) (k+1) f fd ps (spI K cls (fnI ps.length N.length m)):=by
 refine okX Fn Sc (fun vs H Q E h=>?_) fun cdv A outer s H vs Q E hr h=>?_
 . obtain⟨S,as,Fc,a,q⟩:=h;unfold fnI at q;split at q
   . rw[<- a.len];assumption
   . exact q.elim
 . obtain⟨S,as,Fc,a,q⟩:=h;unfold fnI at q;split at q
   . rename_i hl;obtain⟨t,ht,J⟩:=hbody cdv A outer s H E hr
     refine⟨t,ht.out,?_⟩
     have start:SR K cls (Bf vs) (minus H Fc) S (nj N.length as) (L2.start N vs) S H:=by
      refine⟨Fc,qV,aH.refl _,a.sh,fun _ z=>.inl z,fun i s e=>?_,a.apart,fun i b hb=>⟨(a.live i b hb).1,vQ hb,(a.live i b hb).2⟩,?_⟩
      . obtain⟨e1,e2⟩:=CH a.len e;obtain⟨v,ev,r⟩:=a.rel i s e1;rw[ev]at e2
        refine⟨v,e2,?_⟩
        cases s with
        |sh x=>exact r
        |ow x=>exact r.elim
        |ex c fs=>exact r.elim
        | tr io t=>
          cases io with
          |false=>exact r.elim
          |true=>exact⟨r.1,r.2,fun b hb=>⟨vQ hb,(a.live i b hb).2⟩,fun _=>by unfold Bf;rw[ev];rfl⟩
        |bo t=>exact r
      . unfold nj L2.start;simp[a.len]
     refine J (Bf vs) (minus H Fc) S (nj N.length as) (L2.start N vs) S H _ start ?_
     cases e:m (nj N.length as)with
     |nx ρ'=>rw[e]at q;exact fun σ' S' H' I' s'=>let ⟨Fc',E'⟩:=I'.E0 (np:=ps.length) a.sh;q .non S' H' Fc' E' (by unfold Rep;rfl)
     |bk ρ'=>rw[e]at q;exact q.elim
     |ct ρ'=>rw[e]at q;exact q.elim
     |bad=>rw[e]at q;exact q.elim
     | rt ρ' r=>
       rw[e]at q
       cases r with
       |al ys=>exact q.elim
       |fr ys=>exact q.elim
       |sh y=>exact fun v σ' S' H' I' s' rr=>let ⟨Fc',E'⟩:=I'.E0 (np:=ps.length) a.sh;q v S' H' Fc' E' rr
     | exc ρ' c fs=>
       rw[e]at q
       exact fun b C σ' S' H' I' s' x H2 g2=>let ⟨Fc',E'⟩:=(I'.same g2).E0 (np:=ps.length) a.sh;q b C S' H2 Fc' E' (x.mono (aH.refl _) g2)
   . exact q.elim
noncomputable def AR1(K:PySem.W.Frag)(S H:Hp)(ρ:ah)(σ:St):Arg->Sl->V->Prop
 |.e _,.sh x,v=>Rep K S x v
 |.t i mp,.tr true u,v=>∃ io t π v0,ρ[i]?=some (some (.tr io t)) /\ mp ρ=some π /\ t.get π=some u /\ σ[i]?=some (some v0) /\ je H v0 π v
 |.b i mp,.bo u,v=>∃ t π v0,jl i ρ=some t /\ mp ρ=some π /\ t.get π=some u /\ σ[i]?=some (some v0) /\ je H v0 π v
 |_,_,_=>False
noncomputable def ARs(K:PySem.W.Frag)(S H:Hp)(ρ:ah)(σ:St):List Arg->List Sl->List V->Prop
 |[],ss,vs=>ss=[] /\ vs=[]
 |a ::as,ss,vs=>∃ s sr v vr,ss=s ::sr /\ vs=v ::vr /\ AR1 K S H ρ σ a s v /\ ARs K S H ρ σ as sr vr
theorem AR1.mono(h:AR1 K S H ρ σ a s v)(s1:aH S S')(g:aH H H'):AR1 K S' H' ρ σ a s v:=by
 cases a with
 |e me=>cases s<;>first|exact h.elim|exact Rep.mono s1 h
 | t i mp=>
   cases s with
   | tr io u=>
     cases io with
     |false=>exact h.elim
     |true=>obtain⟨io,t,π,v0,h1,h2,h3,h4,h5⟩:=h;exact⟨io,t,π,v0,h1,h2,h3,h4,h5.mono g⟩
   |_=>exact h.elim
 | b i mp=>
   cases s with
   |bo u=>obtain⟨t,π,v0,h1,h2,h3,h4,h5⟩:=h;exact⟨t,π,v0,h1,h2,h3,h4,h5.mono g⟩
   |_=>exact h.elim
theorem ARs.at:∀{ss:List Sl} {vs:List V} {k:Nat} {a:Arg},ARs K S H ρ σ as ss vs->as[k]?=some a->∃ s v,ss[k]?=some s /\ vs[k]?=some v /\ AR1 K S H ρ σ a s v:=by
 induction as with
 |nil=>intro ss vs k a _ e;simp at e
 | cons b as ih=>
   rintro ss vs k a ⟨s,sr,v,vr,rfl,rfl,h1,h2⟩ e
   cases k with
   |zero=>simp at e;subst e;exact⟨s,v,rfl,rfl,h1⟩
   |succ k=>simp at e;obtain⟨s',v',e1,e2,r⟩:=ih h2 e;exact⟨s',v',by simpa using e1,by simpa using e2,r⟩
theorem ARs.len{as:List Arg}:∀{ss:List Sl} {vs:List V},ARs K S H ρ σ as ss vs->ss.length=as.length /\ vs.length=as.length:=by
 induction as with
 |nil=>intro ss vs h;rw[h.1,h.2];exact⟨rfl,rfl⟩
 | cons b as ih=>
   rintro ss vs ⟨s,sr,v,vr,rfl,rfl,h1,h2⟩
   have:=ih h2;simp[this]
noncomputable def JAI(K:PySem.W.Frag)(cls:String->Option Addr)(t:TA)(as:List Arg):Prop:=∀ Av G S₀ ρ σ S H Q ss,SR K cls Av G S₀ ρ σ S H->lV as ρ=some ss->(∀ vs S' H',bc S H S' H'->ARs K S' H' ρ σ as ss vs->Q vs H')->t σ H Q
noncomputable def JA1(K:PySem.W.Frag)(cls:String->Option Addr)(te:TE)(a:Arg):Prop:=∀ Av G S₀ ρ σ S H Q s,SR K cls Av G S₀ ρ σ S H->mM a ρ=some s->(∀ v S' H',bc S H S' H'->AR1 K S' H' ρ σ a s v->Q v H')->te σ H Q
theorem DU{me:ah->OE}(h:JE K cls W te me):JA1 K cls te (.e me):=by
 intro Av G S₀ ρ σ S H Q s I e k;unfold mM at e
 dsimp only at e
 refine h Av G S₀ ρ σ S H Q I ?_
 cases em:me ρ with
 |exc c fs=>rw[em]at e;cases e
 |bad=>rw[em]at e;cases e
 | ok r=>
   rw[em]at e;obtain⟨x,e1,rfl⟩:=Option.map_eq_some_iff.mp e;intro v S1 H1 w1 r1;obtain⟨S2,w2,s2,rx⟩:=r1.share w1 e1;exact k v S2 H1 w2 rx
theorem Ek(h:JP K cls te i mp):JA1 K cls te (.t i mp):=by
 intro Av G S₀ ρ σ S H Q s I e k;unfold mM at e
 dsimp only at e
 split at e
 . rename_i io t hi;obtain⟨u,e1,rfl⟩:=Option.map_eq_some_iff.mp e;obtain⟨π,e2,e3⟩:=Option.bind_eq_some_iff.mp e1;obtain⟨v0,hv⟩:=I.val hi
   exact h.at I hi hv e2 e3 fun w S1 H1 w1 I1 wk=>k w S1 H1 w1 ⟨io,t,π,v0,hi,e2,e3,hv,wk⟩
 . cases e
theorem Iu(h:JP K cls te i mp):JA1 K cls te (.b i mp):=by
 intro Av G S₀ ρ σ S H Q s I e k;unfold mM at e
 dsimp only at e
 obtain⟨u,e1,rfl⟩:=Option.map_eq_some_iff.mp e;unfold subAt at e1;split at e1
 . rename_i t et;split at e1
   . rename_i π eπ;obtain⟨v0,fp,hv,_⟩:=I.tree et
     exact h Av G S₀ ρ σ S H Q v0 t π I et hv eπ (by rw[e1];rfl) fun w S1 H1 w1 wk=>k w S1 H1 w1 ⟨t,π,v0,et,eπ,e1,hv,wk⟩
   . cases e1
 . cases e1
theorem tX:JAI K cls j9 []:=by
 intro Av G S₀ ρ σ S H Q ss I e k;cases e;exact k [] S H (bc.refl I.sh) ⟨rfl,rfl⟩
theorem v5(h:JA1 K cls te a)(r:JAI K cls t as):JAI K cls (iT te t) (a ::as):=by
 intro Av G S₀ ρ σ S H Q ss I e k;unfold lV at e;obtain⟨s,e1,e2⟩:=Option.bind_eq_some_iff.mp e;obtain⟨sr,e3,rfl⟩:=Option.map_eq_some_iff.mp e2
 refine h Av G S₀ ρ σ S H _ s I e1 fun v S1 H1 w1 h1=>?_
 refine r Av G S₀ ρ σ S1 H1 _ sr (I.grow w1) e3 fun vs S2 H2 w2 h2=>?_
 exact k (v ::vs) S2 H2 (w1.trans w2) ⟨s,sr,v,vs,rfl,rfl,h1.mono w2.s w2.g,h2⟩
end
section
variable{K:PySem.W.Frag}{cls:String->Option Addr}{W:XW}{Av G S₀ S S' H H' B B':Hp}{ρ:ah}{σ:St}{Q:VK}{F Fc Fc':Nat->List Addr}
noncomputable def cM:List Arg->List Nat
 |[]=>[]
 |.t i _ ::as=>i ::cM as
 |_ ::as=>cM as
noncomputable def pq:List Arg->List Nat
 |[]=>[]
 |.b i _ ::as=>i ::pq as
 |_ ::as=>pq as
noncomputable def argsOk(as:List Arg):Bool:=decide (cM as).Nodup&&(pq as).all fun i=>!(cM as).contains i
theorem gf{as:List Arg}{k i:Nat}{mp:MP}(h:as[k]?=some (.t i mp)):i∈cM as:=by
 induction as generalizing k with
 |nil=>simp at h
 | cons a as ih=>
   cases k with
   |zero=>simp at h;subst h;simp[cM]
   | succ k=>
     simp at h;have:=ih h
     cases a<;>simp[cM,this]
theorem w9{as:List Arg}{k i:Nat}{mp:MP}(h:as[k]?=some (.b i mp)):i∈pq as:=by
 induction as generalizing k with
 |nil=>simp at h
 | cons a as ih=>
   cases k with
   |zero=>simp at h;subst h;simp[pq]
   | succ k=>
     simp at h;have:=ih h
     cases a<;>simp[pq,this]
theorem lM{as:List Arg}(nd:(cM as).Nodup){j k i:Nat}{mp mp':MP}(h:as[j]?=some (.t i mp))(h':as[k]?=some (.t i mp')):j=k:=by
 induction as generalizing j k with
 |nil=>simp at h
 | cons a as ih=>
   cases j with
   | zero=>
     simp at h;subst h
     cases k with
     |zero=>rfl
     | succ k=>
       simp at h';have:=gf h';simp[cM]at nd;exact absurd this nd.1
   | succ j=>
     cases k with
     | zero=>
       simp at h';subst h';simp at h;have:=gf h;simp[cM]at nd;exact absurd this nd.1
     | succ k=>
       simp at h h'
       have nd':(cM as).Nodup:=by
        cases a with
        |t i' mp=>simp[cM]at nd;exact nd.2
        |e me=>exact nd
        |b i' mp=>exact nd
       rw[ih nd' h h']
theorem pz{as:List Arg}{i:Nat}(h:i∈cM as):∃(k:Nat) (mp:MP),as[k]?=some (.t i mp):=by
 induction as with
 |nil=>simp[cM]at h
 | cons a as ih=>
   cases a with
   | t j mp=>
     simp[cM]at h
     rcases h with h|h
     . subst h;exact⟨0,mp,rfl⟩
     . obtain⟨k,mp',e⟩:=ih h;exact⟨k+1,mp',by simpa using e⟩
   |e me=>obtain⟨k,mp',e⟩:=ih h;exact⟨k+1,mp',by simpa using e⟩
   |b j mp=>obtain⟨k,mp',e⟩:=ih h;exact⟨k+1,mp',by simpa using e⟩
theorem p0{as:List Arg}{ρ₀:ah}:∀{us:List (Option OV)} {ρ:ah} {i:Nat},i∉cM as->(fK ρ₀ as us ρ)[i]?=ρ[i]?:=by
 induction as with
 |nil=>intro us ρ i _;rfl
 | cons a as ih=>
   intro us ρ i h;unfold fK
   cases a with
   |e me=>rw[ih h];rfl
   |b j mp=>rw[ih h];rfl
   | t j mp=>
     simp[cM]at h;rw[ih h.2]
     have:∀ x:Option Sl,(ρ.set j x)[i]?=ρ[i]?:=fun x=>List.getElem?_set_ne (Ne.symm h.1)
     cases us.head?.join with
     |none=>exact this _
     | some u=>
       unfold kC;dsimp only;split
       . split
         . exact this _
         . exact this _
       . exact this _
theorem xX{as:List Arg}{ρ₀:ah}:∀{us:List (Option OV)} {ρ:ah} {i k:Nat} {mp:MP} {s:Sl},(cM as).Nodup->as[k]?=some (.t i mp)->(fK ρ₀ as us ρ)[i]?=some (some s) ->
  ∃ io t π u,us[k]?=some (some u) /\ ρ[i]?=some (some (.tr io t)) /\ mp ρ₀=some π /\ s=.tr io (t.put π u):=by
 induction as with
 |nil=>intro us ρ i k mp s _ h;simp at h
 | cons a as ih=>
   intro us ρ i k mp s nd h e;unfold fK at e
   cases k with
   | zero=>
     simp at h;subst h;simp[cM]at nd;rw[p0 nd.1]at e
     cases us with
     | nil=>
       unfold kC at e;simp at e;rw[List.getElem?_set]at e;simp at e
     | cons u us=>
       cases u with
       | none=>
         unfold kC at e;simp at e;rw[List.getElem?_set]at e;simp at e
       | some u=>
         unfold kC at e;simp only[List.head?_cons,Option.join_some]at e;split at e
         . rename_i io t hi;split at e
           . rename_i π hπ;rw[List.getElem?_set]at e;simp at e
             exact⟨io,t,π,u,rfl,hi,hπ,e.2.symm⟩
           . rw[List.getElem?_set]at e;simp at e
         . rw[List.getElem?_set]at e;simp at e
   | succ k=>
     simp at h
     have nd':(cM as).Nodup:=by
      cases a with
      |t i' mp=>simp[cM]at nd;exact nd.2
      |e me=>exact nd
      |b i' mp=>exact nd
     obtain⟨io,t,π,u,e1,e2,e3,e4⟩:=ih nd' h e
     refine⟨io,t,π,u,?_,?_,e3,e4⟩
     . cases us with
       |nil=>simp at e1
       |cons _ us=>simpa using e1
     . cases a with
       |e me=>exact e2
       |b j mp=>exact e2
       | t j mp'=>
         have hij:i≠j:=by
          intro z;subst z;simp[cM]at nd;exact nd.1 (gf h)
         have:∀ x:Option Sl,(ρ.set j x)[i]?=ρ[i]?:=fun x=>List.getElem?_set_ne (Ne.symm hij)
         cases q:us.head?.join with
         |none=>rw[q]at e2;unfold kC at e2;simp only at e2;rw[this]at e2;exact e2
         | some u=>
           rw[q]at e2;unfold kC at e2;simp only at e2;split at e2
           . split at e2
             . rw[this]at e2;exact e2
             . rw[this]at e2;exact e2
           . rw[this]at e2;exact e2
theorem u4{as:List Arg}{ρ₀:ah}:∀{us:List (Option OV)} {ρ:ah},(fK ρ₀ as us ρ).length=ρ.length:=by
 induction as with
 |nil=>intro us ρ;rfl
 | cons a as ih=>
   intro us ρ;unfold fK;rw[ih];unfold kC;split
   . split
     . split<;>simp
     . simp
   . simp
   . rfl
theorem SR.Ig{as:List Arg}{ss:List Sl}{vs:List V}(I:SR K cls Av G S₀ ρ σ S H)(ok:argsOk as=true)(h:ARs K S H ρ σ as ss vs):
  ∃ Fc,A5 K cls ss vs S H Fc /\ ∀ outs S' H' Fc',By K cls vs S H Fc outs S' H' Fc'->SR K cls Av G S₀ (fK ρ as outs ρ) σ S' H':=by
 obtain⟨F,J⟩:=I;unfold argsOk at ok;rw[Bool.and_eq_true,decide_eq_true_eq]at ok;obtain⟨nd,hb⟩:=ok
 have cell:∀ k:Nat,∃ d:List Addr×List Addr,(∀ i mp,as[k]?=some (.t i mp)->∃ io t π u v0 w,ss[k]?=some (.tr true u) /\ vs[k]?=some w /\ ρ[i]?=some (some (.tr io t)) /\ mp ρ=some π /\ t.get π=some u /\ σ[i]?=some (some v0) /\ bu K cls S H u w d.1 /\ (F i).Perm (d.1++d.2) /\ (d.1++d.2).Nodup /\ (io=true->Av i=some (.lst [v0])) /\
   ∀ S' H' u' f',aH S S'->bu K cls S' H' u' w f'->(∀ a∈d.2,∀ o,H a=some o->H' a=some o)->∃ g,bu K cls S' H' (t.put π u') v0 g /\ g.Perm (f'++d.2)) /\ ((∀ i mp,as[k]?≠some (.t i mp))->d=([],[])):=by
  intro k
  by_cases hk:∃ i mp,as[k]?=some (.t i mp)
  . obtain⟨i,mp,e⟩:=hk;obtain⟨s,w,es,ev,r⟩:=h.at e
    cases s with
    | tr io' u=>
      cases io' with
      |false=>exact r.elim
      | true=>
        obtain⟨io,t,π,v0,h1,h2,h3,h4,h5⟩:=r;obtain⟨v,ev',ro,ndf,gs,hio⟩:=J.own i _ h1;rw[h4]at ev';cases ev';obtain⟨w',f1,rest,wk,r1,p1,c1⟩:=ro.focus h3;have:=h5.inj wk;subst this
        refine⟨(f1,rest),fun i' mp' e'=>?_,fun z=>absurd e (z i mp)⟩
        rw[e]at e'
        cases e'
        exact⟨io,t,π,u,v0,w,es,ev,h1,h2,h3,h4,r1,p1,p1.nodup_iff.mp ndf,hio,c1⟩
    |sh x=>exact r.elim
    |ow x=>exact r.elim
    |ex c fs=>exact r.elim
    |bo x=>exact r.elim
  . exact⟨([],[]),fun i mp e=>absurd ⟨i,mp,e⟩ hk,fun _=>rfl⟩
 obtain⟨d,hd⟩:=Classical.axiomOfChoice cell
 have tOf:∀ k a,a∈(d k).1->∃ i mp,as[k]?=some (.t i mp) /\ a∈F i:=by
  intro k a ha
  by_cases hk:∃ i mp,as[k]?=some (.t i mp)
  . obtain⟨i,mp,e⟩:=hk;obtain⟨io,t,π,u,v0,w,_,_,_,_,_,_,_,p1,_⟩:=(hd k).1 i mp e
    exact⟨i,mp,e,p1.mem_iff.mpr (List.mem_append_left _ ha)⟩
  . rw[(hd k).2 fun i mp e=>hk ⟨i,mp,e⟩]at ha;cases ha
 have hlen:=h.len
 have qk:∀ i a,a∈F i->(∀ k mp,as[k]?=some (.t i mp)->a∉(d k).1)->∀ k,a∉(d k).1:=by
  intro i a ha hn k hk;obtain⟨i',mp,e,ha'⟩:=tOf k a hk;have:=J.apart i i' a ha ha';subst this;exact hn k mp e hk
 refine⟨fun k=>(d k).1,⟨J.sh,by rw[hlen.1,hlen.2],fun k s es=>?_,fun j k a h1 h2=>?_,fun k a ha=>?_⟩,fun outs S' H' Fc' E=>?_⟩
 . have hk:k<as.length:=by rw[<- hlen.1];exact(List.getElem?_eq_some_iff.mp es).1
   obtain⟨s',w,es',ev,r⟩:=h.at (k:=k) (a:=as[k]) (by simp[hk]);rw[es]at es';cases es'
   refine⟨w,ev,?_⟩
   cases q:as[k]with
   | e me=>
     rw[q]at r
     have hz:=(hd k).2 fun i mp e=>by rw[List.getElem?_eq_getElem hk,q]at e;cases e
     cases s<;>first|exact r.elim|exact⟨by rw[hz],r⟩
   | t i mp=>
     have eq:as[k]?=some (.t i mp):=by rw[List.getElem?_eq_getElem hk,q]
     obtain⟨io,t,π,u,v0,w',es',ev',_,_,_,_,r1,_,nd1,_⟩:=(hd k).1 i mp eq;rw[es]at es';cases es';rw[ev]at ev';cases ev'
     exact⟨r1,(List.nodup_append.mp nd1).1⟩
   | b i mp=>
     have eq:as[k]?=some (.b i mp):=by rw[List.getElem?_eq_getElem hk,q]
     rw[q]at r
     have hz:=(hd k).2 fun i mp e=>by rw[eq]at e;cases e
     cases s with
     | bo u=>
       obtain⟨t,π,v0,h1,h2,h3,h4,h5⟩:=r
       refine⟨by rw[hz],?_⟩
       have nt:i∉cM as:=by
        have:=List.all_eq_true.mp hb i (w9 eq)
        simpa using this
       have ro:∃ f,bu K cls S (minus H fun k=>(d k).1) t v0 f:=by
        unfold jl at h1
        cases q1:ρ[i]? with
        |none=>rw[q1]at h1;cases h1
        | some o=>
          cases o with
          |none=>rw[q1]at h1;cases h1
          | some s1=>
            rw[q1]at h1;obtain⟨v,ev',r⟩:=J.own i s1 q1;rw[h4]at ev';cases ev'
            cases s1 with
            | tr io t'=>
              cases h1
              exact⟨_,r.1.mono (aH.refl _) fun a ha o ho=>by
               rw[iY (qk i a ha fun k' mp' e'=>absurd (gf e') nt)];exact ho⟩
            | bo t'=>
              cases h1;obtain⟨_,f,r⟩:=r
              exact⟨f,r.mono (aH.refl _) fun a ha o ho=>by
               rw[iY fun k' hk'=>?_]
               . exact J.gh _ _ ho
               . obtain⟨i',mp',_,ha'⟩:=tOf k' a hk'
                 rw[(J.live i' a ha').2.1]at ho;cases ho⟩
            |sh x=>cases h1
            |ow x=>cases h1
            |ex c fs=>cases h1
       obtain⟨f,ro⟩:=ro;obtain⟨w',f1,rest,wk,r1,_,_⟩:=ro.focus h3;have:=h5.inj (wk.mono qV);subst this
       exact⟨f1,r1⟩
     |sh x=>exact r.elim
     |ow x=>exact r.elim
     |ex c fs=>exact r.elim
     |tr io x=>exact r.elim
 . obtain⟨i,mp,e1,m1⟩:=tOf j a h1;obtain⟨i',mp',e2,m2⟩:=tOf k a h2;have:=J.apart i i' a m1 m2;subst this;exact lM nd e1 e2
 . obtain⟨i,mp,e1,m1⟩:=tOf k a ha
   exact⟨(J.live i a m1).1,(J.live i a m1).2.2⟩
 .
  have noS:∀ i a,a∈F i->(∀ k,a∉(d k).1)->S' a=none:=fun i a ha hn=>by
   cases z:S' a with
   |none=>rfl
   | some o=>
     obtain⟨⟨o',h1,_⟩,_,h3⟩:=J.live i a ha
     rcases E.new a (by rw[z];simp)with y|y|⟨k,y⟩
     . exact absurd h3 y
     . rw[h1]at y;cases y
     . exact absurd y (hn k)
  have keep:∀ a o,(∀ k,a∉(d k).1)->H a=some o->H' a=some o:=fun a o hn ho=>E.keep a o (by rw[iY hn];exact ho)
  have restOff:∀ k i mp,as[k]?=some (.t i mp)->∀ a∈(d k).2,a∈F i /\ ∀ k',a∉(d k').1:=fun k i mp e a ha=>by
   obtain⟨io,t,π,u,v0,w,_,_,_,_,_,_,_,p1,nd1,_⟩:=(hd k).1 i mp e
   have m:a∈F i:=p1.mem_iff.mpr (List.mem_append_right _ ha)
   refine⟨m,qk i a m fun k' mp' e' hk'=>?_⟩
   have:=lM nd e e';subst this
   exact(List.nodup_append.mp nd1).2.2 a hk' a ha rfl
  have gcell:∀ k:Nat,∃ g:List Addr,∀ i mp u',as[k]?=some (.t i mp)->outs[k]?=some (some u')->∀ io t π,ρ[i]?=some (some (.tr io t))->mp ρ=some π->∃ v0,σ[i]?=some (some v0) /\ (io=true->Av i=some (.lst [v0])) /\ bu K cls S' H' (t.put π u') v0 g /\ g.Perm (Fc' k++(d k).2):=by
   intro k
   by_cases hk:∃ i mp u',as[k]?=some (.t i mp) /\ outs[k]?=some (some u')
   . obtain⟨i,mp,u',e,eo⟩:=hk;obtain⟨io,t,π,u,v0,w,es,ev,h1,h2,h3,h4,r1,p1,nd1,hio,c1⟩:=(hd k).1 i mp e;obtain⟨w',ew,r',ndf'⟩:=E.out k u' eo;rw[ev]at ew;cases ew
     obtain⟨g,rg,pg⟩:=c1 S' H' u' (Fc' k) E.s r' fun a ha o ho=>keep a o (restOff k i mp e a ha).2 ho
     refine⟨g,fun i' mp' u'' e' eo' io' t' π' h1' h2'=>?_⟩
     rw[e]at e';cases e';rw[eo]at eo';cases eo';rw[h1]at h1';cases h1';rw[h2]at h2';cases h2'
     exact⟨v0,h4,hio,rg,pg⟩
   . exact⟨[],fun i mp u' e eo=>absurd ⟨i,mp,u',e,eo⟩ hk⟩
  obtain⟨g,hg⟩:=Classical.axiomOfChoice gcell
  have fcell:∀ i:Nat,∃ f:List Addr,(i∉cM as->f=F i) /\ ∀ k mp,as[k]?=some (.t i mp)->((∃ io t π u',ρ[i]?=some (some (.tr io t)) /\ mp ρ=some π /\ outs[k]?=some (some u'))->f=g k) /\ ((¬ ∃ io t π u',ρ[i]?=some (some (.tr io t)) /\ mp ρ=some π /\ outs[k]?=some (some u'))->f=[]):=by
   intro i
   by_cases hi:i∈cM as
   . obtain⟨k,mp,e⟩:=pz hi
     by_cases hx:∃ io t π u',ρ[i]?=some (some (.tr io t)) /\ mp ρ=some π /\ outs[k]?=some (some u')
     . refine⟨g k,fun z=>absurd hi z,fun k' mp' e'=>?_⟩
       have:=lM nd e e';subst this;rw[e]at e';cases e'
       exact⟨fun _=>rfl,fun z=>absurd hx z⟩
     . refine⟨[],fun z=>absurd hi z,fun k' mp' e'=>?_⟩
       have:=lM nd e e';subst this;rw[e]at e';cases e'
       exact⟨fun z=>absurd z hx,fun _=>rfl⟩
   . exact⟨F i,fun _=>rfl,fun k mp e=>absurd (gf e) hi⟩
  obtain⟨F',hF'⟩:=Classical.axiomOfChoice fcell
  have memF:∀ i a,a∈F' i->(i∉cM as /\ a∈F i /\ ∀ k,a∉(d k).1) \/ (∃ k mp,as[k]?=some (.t i mp) /\ F' i=g k /\ ((a∈Fc' k) \/ (a∈F i /\ ∀ k,a∉(d k).1)) /\ ∃ io t π u',ρ[i]?=some (some (.tr io t)) /\ mp ρ=some π /\ outs[k]?=some (some u')):=by
   intro i a ha
   by_cases hi:i∈cM as
   . obtain⟨k,mp,e⟩:=pz hi
     by_cases hx:∃ io t π u',ρ[i]?=some (some (.tr io t)) /\ mp ρ=some π /\ outs[k]?=some (some u')
     . have e1:=((hF' i).2 k mp e).1 hx;refine .inr ⟨k,mp,e,e1,?_,hx⟩;obtain⟨io,t,π,u',h1,h2,h3⟩:=hx;obtain⟨v0,_,_,rg,pg⟩:=hg k i mp u' e h3 io t π h1 h2;rw[e1]at ha
       rcases List.mem_append.mp (pg.mem_iff.mp ha)with z|z
       . exact .inl z
       . exact .inr (restOff k i mp e a z)
     . rw[((hF' i).2 k mp e).2 hx]at ha;cases ha
   . have e1:=(hF' i).1 hi;rw[e1]at ha;exact .inl ⟨hi,ha,qk i a ha fun k mp e=>absurd (gf e) hi⟩
  refine⟨F',?_,J.s0.trans E.s,E.sh,fun b hbn=>?_,fun i s e=>?_,fun i j a h1 h2=>?_,fun i a ha=>?_,?_⟩
  . intro b u hu;refine keep b u (fun k hk=>?_) (J.gh b u hu);obtain⟨i,mp,_,m⟩:=tOf k b hk;rw[(J.live i b m).2.1]at hu;cases hu
  . rcases E.new b hbn with z|z|⟨k,z⟩
    . exact J.new b z
    . exact .inr (J.gh.free z)
    . obtain⟨i,mp,_,m⟩:=tOf k b z;exact .inr (J.live i b m).2.1
  . by_cases hi:i∈cM as
    . obtain⟨k,mp,ek⟩:=pz hi;obtain⟨io,t,π,u,e1,e2,e3,rfl⟩:=xX nd ek e;obtain⟨v0,h1,hio,rg,pg⟩:=hg k i mp u ek e1 io t π e2 e3;have e4:=((hF' i).2 k mp ek).1 ⟨io,t,π,u,e2,e3,e1⟩;rw[e4];obtain⟨w',ew,r',ndf'⟩:=E.out k u e1
      refine⟨v0,h1,rg,pg.nodup_iff.mpr (List.nodup_append.mpr ⟨ndf',?_,fun a ha b hb' z=>?_⟩),fun a ha=>?_,hio⟩
      . obtain⟨_,_,_,_,_,_,_,_,_,_,_,_,_,_,nd1,_⟩:=(hd k).1 i mp ek
        exact(List.nodup_append.mp nd1).2.1
      . subst z;obtain⟨m,off⟩:=restOff k i mp ek a hb';have:=(E.live k a ha).1;rw[iY off]at this;obtain⟨⟨o,ho,_⟩,_⟩:=J.live i a m;rw[this]at ho;cases ho
      . rcases List.mem_append.mp (pg.mem_iff.mp ha)with z|z
        . refine⟨?_,(E.live k a z).2⟩
          rcases lS (E.live k a z).1 with y|⟨k',y⟩
          . exact J.gh.free y
          . obtain⟨i',mp',_,m⟩:=tOf k' a y
            exact(J.live i' a m).2.1
        . obtain⟨m,off⟩:=restOff k i mp ek a z
          exact⟨(J.live i a m).2.1,noS i a m off⟩
    . rw[p0 hi]at e;obtain⟨v,ev,r⟩:=J.own i s e;rw[(hF' i).1 hi]
      have off:∀ a∈F i,∀ k,a∉(d k).1:=fun a ha=>qk i a ha fun k mp e=>absurd (gf e) hi
      exact⟨v,ev,r.mono E.s (fun a ha o ho=>keep a o (off a ha) ho) (fun b o hx ho=>keep b o (fun k hk=>by
       obtain⟨i',mp',_,m⟩:=tOf k b hk;obtain⟨⟨o',h1,h2⟩,_⟩:=J.live i' b m
       rw[ho]at h1;cases h1;rw[hx]at h2;cases h2) ho) fun a ha=>noS i a ha (off a ha)⟩
  .
   have key:∀ i j a,a∈F' i->a∈F' j->(∃ k,a∈Fc' k)->∃ k mp,as[k]?=some (.t i mp) /\ a∈Fc' k:=by
    intro i j a ha _ ⟨k0,hk0⟩
    have no:∀ i',a∈F i'->¬ ∀ k,a∉(d k).1:=fun i' m off=>by
     have:=(E.live k0 a hk0).1;rw[iY off]at this;obtain⟨⟨o,ho,_⟩,_⟩:=J.live i' a m;rw[this]at ho;cases ho
    rcases memF i a ha with⟨_,m,off⟩|⟨k,mp,e,_,z,_⟩
    . exact absurd off (no i m)
    . rcases z with z|⟨m,off⟩
      . exact⟨k,mp,e,z⟩
      . exact absurd off (no i m)
   by_cases hk:∃ k,a∈Fc' k
   . obtain⟨k1,mp1,e1,z1⟩:=key i j a h1 h2 hk;obtain⟨k2,mp2,e2,z2⟩:=key j i a h2 h1 hk;have:=E.apart k1 k2 a z1 z2;subst this;rw[e1]at e2;cases e2;rfl
   . have fromF:∀ i,a ∈ F' i -> a ∈ F i:=fun i ha=>by
      rcases memF i a ha with⟨_,m,_⟩|⟨k,mp,e,_,z,_⟩
      . exact m
      . rcases z with z|⟨m,_⟩
        . exact absurd ⟨k,z⟩ hk
        . exact m
     exact J.apart i j a (fromF i h1) (fromF j h2)
  . rcases memF i a ha with⟨_,m,off⟩|⟨k,mp,e,eg,z,io,t,π,u',x1,x2,x3⟩
    . obtain⟨⟨o,ho,hx⟩,hg',_⟩:=J.live i a m
      exact⟨⟨o,keep a o off ho,hx⟩,hg',noS i a m off⟩
    . obtain⟨v0,_,_,rg,pg⟩:=hg k i mp u' e x3 io t π x1 x2;rw[eg]at ha
      refine⟨rg.live a ha,?_⟩
      rcases z with z|⟨m,off⟩
      . refine⟨?_,(E.live k a z).2⟩
        rcases lS (E.live k a z).1 with y|⟨k',y⟩
        . exact J.gh.free y
        . obtain⟨i',mp',_,m⟩:=tOf k' a y
          exact(J.live i' a m).2.1
      . exact⟨(J.live i a m).2.1,noS i a m off⟩
  . rw[u4];exact J.len
end
end L2.P
namespace L2.E
open PySem PySem.Spec PyProof.Rows L2
section
variable{X:Cx}{k:Nat}{f C:Addr}{fd:FuncData}{ps:List Str}{sp:Sp}{ds:List Value}{W:XW}{x m:Str}{p pos apos:Pos}{e o:Expr}{es:List Expr}{ta:TE}{t:TA}
noncomputable def tW(C:Addr)(m:Str)(sp:Sp)(W:XW)(ta:TE)(t:TA):TE:=fun σ H Q=>ta σ H fun x H1=>∃ a dx fs,x=.ref a /\ H1 a=some (.ins C dx fs) /\ fs.lookup m=none /\
 t σ H1 fun vs H2=>sp (x ::vs) H2 Q fun C a H'=>W C a σ H'
theorem vU{pl:Sem Bool}(he:QE X o ta)(c:Cls X.K C)(hm:Meth X.K C m f)(F:cw X.prog X.w X.K X.mg X.base (CXE X.prog X.w) k f fd ps sp)(hr:gw k X.A)(hb:Binds X.K fd ps [])(hx:Thr X W)(ha:QA X (e ::es) t)
  (hst:starEach (e ::es) X.env=(false,eval e X.env) ::starEach es X.env:=by rfl) (hpl:(backTo pos (starEach es X.env)).any (·.1)=false:=by rfl)
  (ht:eval (.Call (.Attribute o m apos) (e ::es) [] pos) X.env=(do
    let ov <- eval o X.env
    standAt apos.atName
    let (f,first) <- holding [ov] (getMethod ov m pl)
    callWith pos f first (backTo pos (starEach (e ::es) X.env)) (backToKw pos (keywordEach [] X.env))):=by rfl):
  QE X (.Call (.Attribute o m apos) (e ::es) [] pos) (tW C m sp W ta t):=⟨by
 intro pins s σ H Q I h;refine PySem.W.methodCall_KW (pl:=pl) (thn (he.out pins s σ H _ I h) fun u s1 ⟨x,H1,I1,rx,a,dx,fs,ex,ea,l,q⟩=>?_) ht;subst ex
 obtain rfl:u=Value.ref a:=rx
 refine rK I1 ea c hm l ?_;refine PySem.W.callWith_K (first:=[.ref a]) (h₀:=X.base) I.ok.mod.kin hm.kp (thn (ha.out pos pins s1 σ H1 _ I1 q) fun us s2 ⟨vs,H2,I2,r,q2⟩=>⟨I2.kIn,?_⟩) hst hpl
 exact qA (us:=.ref a ::us) (vs:=.ref a ::vs) (dvs:=[]) F hr hb .nil hx I2 (.cons rfl r) (by rw[List.append_nil];exact q2)⟩
theorem zf{pl:Sem Bool}(he:QE X o ta)(c:Cls X.K C)(hm:Meth X.K C m f)(F:cw X.prog X.w X.K X.mg X.base (CXE X.prog X.w) k f fd ps sp)(hr:gw k X.A)(hb:Binds X.K fd ps [])(hx:Thr X W)
  (ht:eval (.Call (.Attribute o m apos) [] [] pos) X.env=(do
    let ov <- eval o X.env
    standAt apos.atName
    let (f,first) <- holding [ov] (getMethod ov m pl)
    callWith pos f first (backTo pos (starEach [] X.env)) (backToKw pos (keywordEach [] X.env))):=by rfl):
  QE X (.Call (.Attribute o m apos) [] [] pos) (tW C m sp W ta j9):=⟨by
 intro pins s σ H Q I h;refine PySem.W.methodCall_KW (pl:=pl) (thn (he.out pins s σ H _ I h) fun u s1 ⟨x,H1,I1,rx,a,dx,fs,ex,ea,l,q⟩=>?_) ht;subst ex
 obtain rfl:u=Value.ref a:=rx
 refine rK I1 ea c hm l ?_
 exact PySem.W.callWith_K0 (first:=[.ref a]) I1.kIn hm.kp (qA (us:=[.ref a]) (vs:=[.ref a]) (dvs:=[]) F hr hb .nil hx I1 (.cons rfl .nil) q)⟩
theorem sX(F:cw X.prog X.w X.K X.mg X.base (CXE X.prog X.w) k f fd ps sp)(hr:gw k X.A)(hg:Gl X x)(hm:X.mg x=some (.ref f))(hk:PySem.W.keepIn X.K (.ref f)=true)(hb:Binds X.K fd ps [])(hx:Thr X W)
  (hdb:(x==("__debug__":Str))=false:=by decide):QE X (.Call (.Name x p) [] [] pos) (pD sp [] W j9):=⟨Aa F hr hg hm hk hb .nil hx hdb⟩
theorem Bt(M:Mk X.K C f)(F:cw X.prog X.w X.K X.mg X.base (CXE X.prog X.w) k f fd ps sp)(hr:gw (k+1) X.A)(hg:Gl X x)(hm:X.mg x=some (.ref C))(hb:Binds X.K fd ps [])(hdb:(x==("__debug__":Str))=false:=by decide):
  QE X (.Call (.Name x p) [] [] pos) (BE C sp [] (fun _ _ _=>False) j9):=⟨A4 M F hr hg hm hb .nil (fun pins σ H s e s' I h=>by obtain⟨a,C,dx,H',_,_,_,_,_,_,z⟩:=h;exact z.elim) hdb⟩
theorem rO{f:Str}(he:QE X e ta)(hb:attributeBase e f X.env (eval e X.env)=eval e X.env:=by rfl):QE X (.Attribute e f pos) (FT X.K ta f):=⟨EX he.out hb⟩
theorem GJ{f:Str}{value:Expr}{tv:TE}{pos':Pos}(ha:QE X o ta)(hv:QE X value tv)(hs:swapsWith value (some (.Attribute o f pos')) pos.line X.env=pure false:=by rfl):QS X (.Assign [.Attribute o f pos'] value pos) (GN X.K ta tv f):=⟨GB ha.out hv.out hs⟩
end
end L2.E
namespace L2.P
open PySem PySem.Spec PyProof.Rows L2 L2.E
section
variable{K:PySem.W.Frag}{cls:String->Option Addr}{W:XW}{Av G S₀ S S' H H' B B':Hp}{ρ:ah}{σ:St}{Q:VK}{F Fc Fc':Nat->List Addr}
theorem SR.more(I:SR K cls Av G S₀ ρ σ S H)(h:Rep K S x v):SR K cls Av G S₀ (ρ++[some (.sh x)]) (σ++[some v]) S H:=by
 obtain⟨F,J⟩:=I
 exact J.more (fp:=[]) (fun t e=>by cases e;exact⟨v,rfl,rfl,h⟩) (fun a ha=>nomatch ha) fun j a _ ha=>nomatch ha
theorem xE{f:List Sl->OI}(ok:argsOk as=true)(I:SR K cls Av G S₀ ρ σ S1 H1)(s1:aH S S1)(ar:ARs K S1 H1 ρ σ as ss vs)
  (p:DW K cls W Av G S₀ σ S Q (match f ss with
    |.ok x outs=>.ok (fK ρ as outs ρ) (.sh x)
    |.exc c fs outs=>.exc (fK ρ as outs ρ) c fs
    |.bad=>.bad)):spI K cls f vs H1 Q fun C a H'=>W C a σ H':=by
 obtain⟨Fc,A,fin⟩:=I.Ig ok ar
 refine⟨S1,ss,Fc,A,?_⟩
 cases e:f ss with
 |bad=>rw[e]at p;exact p
 |ok x outs=>rw[e]at p;exact fun v S' H' Fc' E r=>p v S' H' ((fin outs S' H' Fc' E).more r) (s1.trans E.s)
 |exc c fs outs=>rw[e]at p;exact fun a C S' H' Fc' E r=>p a C S' H' (fin outs S' H' Fc' E) (s1.trans E.s) r
theorem yg(hc:cls c=some C)(I:SR K cls Av G S₀ ρ σ S H)(r:AR1 K S H ρ σ a s v)(h:recv c m (some s)=true):∃ q dx us,v=.ref q /\ H q=some (.ins C dx us) /\ us.lookup m=none:=by
 have main:∀(ks:List Str) (ts:List OV) (f:List Addr),(c==c && !ks.contains m)=true->bu K cls S H (.ob c ks ts) v f->∃ q dx us,v=.ref q /\ H q=some (.ins C dx us) /\ us.lookup m=none:=by
  intro ks ts f hk ro;unfold bu at ro;obtain⟨q,C',dx,us,ff,rfl,hcl,hq,hd,hks,rfl,rs⟩:=ro;rw[hc]at hcl;cases hcl
  refine⟨q,dx,us,rfl,hq,?_⟩
  have hn:m∉us.map (·.1):=by rw[hks];simpa using hk
  clear hks hk rs hq
  induction us with
  |nil=>rfl
  | cons p us ih=>
    obtain⟨g,y⟩:=p;simp at hn
    have:(m==g)=false:=by simpa using hn.1
    simp[List.lookup,this,ih (by simpa using hn.2)]
 cases a with
 |e me=>cases s<;>first|exact r.elim|cases h
 | t i mp=>
   cases s with
   | tr io u=>
     cases io with
     |false=>cases h
     | true=>
       cases u with
       |sh x=>cases h
       |ol ts=>cases h
       |di x=>cases h
       |dt x=>cases h
       | ob c' ks ts=>
         obtain⟨io,t,π,v0,h1,h2,h3,h4,h5⟩:=r
         have h':(c'==c && !ks.contains m)=true:=h
         have hcc:c'=c:=by rw[Bool.and_eq_true]at h';simpa using h'.1
         subst hcc;obtain⟨v',fp,ev,ro⟩:=I.tree (i:=i) (t:=t) (by unfold jl;rw[h1];rfl);rw[h4]at ev;cases ev;obtain⟨w,f1,rest,wk,r1,_,_⟩:=ro.focus h3;have:=h5.inj wk;subst this;exact main ks ts f1 h' r1
   |sh x=>exact r.elim
   |ow x=>exact r.elim
   |ex c fs=>exact r.elim
   |bo x=>exact r.elim
 | b i mp=>
   cases s with
   | bo u=>
     cases u with
     |sh x=>cases h
     |ol ts=>cases h
     |di x=>cases h
     |dt x=>cases h
     | ob c' ks ts=>
       obtain⟨t,π,v0,h1,h2,h3,h4,h5⟩:=r
       have h':(c'==c && !ks.contains m)=true:=h
       have hcc:c'=c:=by rw[Bool.and_eq_true]at h';simpa using h'.1
       subst hcc;obtain⟨v',fp,ev,ro⟩:=I.tree h1;rw[h4]at ev;cases ev;obtain⟨w,f1,rest,wk,r1,_,_⟩:=ro.focus h3;have:=h5.inj wk;subst this;exact main ks ts f1 h' r1
   |sh x=>exact r.elim
   |ow x=>exact r.elim
   |ex c fs=>exact r.elim
   |tr io x=>exact r.elim
theorem vR{f:List Sl->OI}(hc:cls c=some C)(ok:argsOk (a ::as)=true)(ha:JA1 K cls ta a)(h:JAI K cls t as):JX K cls W (tW C m (spI K cls f) W ta t) (mx c m f (a ::as)):=by
 intro Av G S₀ ρ σ S H Q I p;unfold mx at p
 dsimp only at p
 split at p
 . rename_i hr;unfold uy at p
   cases e:lV (a ::as) ρ with
   |none=>rw[e]at p;exact p.elim
   | some ss=>
     rw[e]at p
     have e':=e
     unfold lV at e';obtain⟨s,e1,e2⟩:=Option.bind_eq_some_iff.mp e';obtain⟨sr,e3,rfl⟩:=Option.map_eq_some_iff.mp e2;rw[e1]at hr
     refine ha Av G S₀ ρ σ S H _ s I e1 fun v S1 H1 w1 r1=>?_
     have I1:=I.grow w1;obtain⟨q,dx,us,rfl,hq,hl⟩:=yg hc I1 r1 hr
     refine⟨q,dx,us,rfl,hq,hl,?_⟩
     refine h Av G S₀ ρ σ S1 H1 _ sr I1 e3 fun vs S2 H2 w2 ar=>?_
     exact xE (ss:=s ::sr) ok (I1.grow w2) (w1.s.trans w2.s) ⟨s,sr,_,vs,rfl,rfl,r1.mono w2.s w2.g,ar⟩ p
 . exact p.elim
theorem xv{f:List Sl->OI}(ok:cM as=[])(I:SR K cls Av G S₀ ρ σ S H)(ar:ARs K S H ρ σ as ss vs)
  (p:kn K cls W σ S H Q (match f ss with
    |.ok x _=>.ok (.sh x)
    |.exc c fs _=>.exc c fs
    |.bad=>.bad)):spI K cls f vs H Q fun C a H'=>W C a σ H':=by
 have hm:minus H (fun _=>[])=H:=by funext a;exact iY fun k h=>nomatch h
 have hlen:=ar.len
 refine⟨S,ss,fun _=>[],⟨I.sh,by rw[hlen.1,hlen.2],fun k s es=>?_,fun j k a h=>(nomatch h),fun k a h=>(nomatch h)⟩,?_⟩
 . have hk:k<as.length:=by rw[<- hlen.1];exact(List.getElem?_eq_some_iff.mp es).1
   obtain⟨s',w,es',ev,r⟩:=ar.at (k:=k) (a:=as[k]) (by simp[hk]);rw[es]at es';cases es'
   refine⟨w,ev,?_⟩
   cases q:as[k]with
   | e me=>
     rw[q]at r
     cases s<;>first|exact r.elim|exact⟨rfl,r⟩
   | t i mp=>
     have:=gf (as:=as) (k:=k) (i:=i) (mp:=mp) (by rw[List.getElem?_eq_getElem hk,q]);rw[ok]at this;cases this
   | b i mp=>
     rw[q]at r
     cases s with
     | bo u=>
       obtain⟨t,π,v0,h1,h2,h3,h4,h5⟩:=r;obtain⟨v',fp,ev',ro⟩:=I.tree h1;rw[h4]at ev';cases ev';obtain⟨w',f1,rest,wk,r1,_,_⟩:=ro.focus h3;have:=h5.inj wk;subst this
       exact⟨rfl,f1,by rw[hm];exact r1⟩
     |sh x=>exact r.elim
     |ow x=>exact r.elim
     |ex c fs=>exact r.elim
     |tr io x=>exact r.elim
 . have gr:∀ {outs S' H' Fc'},By K cls vs S H (fun _=>[]) outs S' H' Fc' -> bc S H S' H':=fun {outs S' H' Fc'} E=>⟨E.s,by have:=E.keep; rwa [hm] at this,E.sh,fun b hb=>by
    rcases E.new b hb with z|z|⟨k,z⟩
    . exact .inl z
    . exact .inr z
    . cases z⟩
   cases e:f ss with
   |bad=>rw[e]at p;exact p
   |ok x outs=>rw[e]at p;exact fun v S' H' Fc' E r=>p v S' H' (gr E) r
   |exc c fs outs=>rw[e]at p;exact fun a C S' H' Fc' E r=>p a C S' H' (gr E) r
theorem Bx{f:List Sl->OI}(hc:cls c=some C)(ok:cM (a ::as)=[])(ha:JA1 K cls ta a)(h:JAI K cls t as):JE K cls W (tW C m (spI K cls f) W ta t) (pM c m f (a ::as)):=by
 intro Av G S₀ ρ σ S H Q I p;unfold pM at p
 dsimp only at p
 split at p
 . rename_i hr;unfold xk at p
   cases e:lV (a ::as) ρ with
   |none=>rw[e]at p;exact p.elim
   | some ss=>
     rw[e]at p
     have e':=e
     unfold lV at e';obtain⟨s,e1,e2⟩:=Option.bind_eq_some_iff.mp e';obtain⟨sr,e3,rfl⟩:=Option.map_eq_some_iff.mp e2;rw[e1]at hr
     refine ha Av G S₀ ρ σ S H _ s I e1 fun v S1 H1 w1 r1=>?_
     have I1:=I.grow w1;obtain⟨q,dx,us,rfl,hq,hl⟩:=yg hc I1 r1 hr
     refine⟨q,dx,us,rfl,hq,hl,?_⟩
     refine h Av G S₀ ρ σ S1 H1 _ sr I1 e3 fun vs S2 H2 w2 ar=>?_
     exact xv (ss:=s ::sr) ok (I1.grow w2) ⟨s,sr,_,vs,rfl,rfl,r1.mono w2.s w2.g,ar⟩ (p.back (w1.trans w2))
 . exact p.elim
theorem DD{f:List Sl->OI}(hc:cls c=some C):JD K cls W (BE C (spI K cls f) [] (fun _ _ _=>False) j9) (wu c f):=by
 intro Av G S₀ ρ σ S H Q I p;unfold wu at p
 show ∀ x dx,H x=none->H dx=none->dx≠x->_
 intro x dx hx hdx ne
 have gS:∀ a,H a=none->S a=none:=fun a h=>I.sh.free h
 let H1:=upd (upd H dx (.own x)) x (.ins C dx [])
 have h1x:H1 x=some (.ins C dx []):=bw
 have h1d:H1 dx=some (.own x):=by show upd _ x _ dx=_;rw[bB ne,bw]
 have h1o:∀ a,a≠x->a≠dx->H1 a=H a:=fun a n1 n2=>by show upd _ x _ a=_;rw[bB n1,bB n2]
 let Fc:Nat->List Addr:=fun k=>if k=0 then[x,dx]else[]
 have mF:∀ k a,a∈Fc k->k=0 /\ (a=x \/ a=dx):=fun k a h=>by
  have h':a∈(if k=0 then[x,dx]else[]):=h
  split at h'
  . rename_i e;exact⟨e,by simpa using h'⟩
  . cases h'
 have A:A5 K cls [.tr true (.ob c [] [])] [.ref x] S H1 Fc:=by
  refine⟨fun b u h=>?_,rfl,fun k s e=>?_,fun j k a h1 h2=>?_,fun k a h=>?_⟩
  . have hb:=I.sh b u h;rw[h1o b (fun z=>by rw[z,hx]at hb;cases hb) (fun z=>by rw[z,hdx]at hb;cases hb)];exact hb
  . cases k with
    | zero=>
      cases e
      refine⟨.ref x,rfl,?_,?_⟩
      . unfold bu
        exact⟨x,C,dx,[],[],rfl,hc,h1x,h1d,rfl,rfl,.nil⟩
      . show[x,dx].Nodup
        simp[Ne.symm ne]
    |succ k=>simp at e
  . rw[(mF j a h1).1,(mF k a h2).1]
  . rcases(mF k a h).2 with z|z
    . subst z;exact⟨⟨_,h1x,rfl⟩,gS _ hx⟩
    . subst z;exact⟨⟨_,h1d,rfl⟩,gS _ hdx⟩
 refine⟨S,_,Fc,A,?_⟩
 have free:∀ a,minus H1 Fc a=none->H a=none:=fun a h=>by
  rcases lS h with z|⟨k,z⟩
  . by_cases n1:a=x
    . rw[n1];exact hx
    . by_cases n2:a=dx
      . rw[n2];exact hdx
      . rw[h1o a n1 n2]at z;exact z
  . rcases(mF k a z).2 with y|y
    . rw[y];exact hx
    . rw[y];exact hdx
 cases e:f [.tr true (.ob c [] [])]with
 |bad=>rw[e]at p;exact p.elim
 |exc c fs outs=>rw[e]at p;exact p.elim
 | ok y outs=>
   rw[e]at p
   cases y with
   | non=>
     cases outs with
     |nil=>exact p.elim
     | cons o outs=>
       cases o with
       |none=>exact p.elim
       | some t=>
         dsimp only at p
         intro v S' H' Fc' E r;unfold Rep at r
         refine⟨r,p (.ref x) S' H' ⟨E.s,fun b u h=>?_,E.sh,fun b h=>?_⟩ ?_⟩
         . have n1:b≠x:=fun z=>by rw[z,hx]at h;cases h
           have n2:b≠dx:=fun z=>by rw[z,hdx]at h;cases h
           refine E.keep b u ?_;rw[iY fun k z=>?_]
           . exact(h1o b n1 n2).trans h
           . rcases(mF k b z).2 with y|y
             . exact n1 y
             . exact n2 y
         . rcases E.new b h with z|z|⟨k,z⟩
           . exact .inl z
           . refine .inr ?_
             by_cases n1:b=x
             . rw[n1];exact hx
             . by_cases n2:b=dx
               . rw[n2];exact hdx
               . exact(h1o b n1 n2).symm.trans z
           . rcases(mF k b z).2 with y|y
             . rw[y];exact .inr hx
             . rw[y];exact .inr hdx
         . obtain⟨u,eu,ro,nd⟩:=E.out 0 t rfl;cases eu
           exact⟨Fc' 0,ro,nd,fun a ha=>⟨free a (E.live 0 a ha).1,(E.live 0 a ha).2⟩⟩
   |bl b=>exact p.elim
   |int b=>exact p.elim
   |str b=>exact p.elim
   |lst b=>exact p.elim
   |tup b=>exact p.elim
end
end L2.P
namespace L2.E
open PySem PySem.Spec PyProof.Rows L2
noncomputable def nz(wi:TI)(ι:List Nat)(tc:TT)(te:TE):TE:=fun σ H Q=>wi σ H fun J H1=>∀ D,H1 D=none->∃ W:Nat->Nat->List V->Hp->Prop,(∃ m,W 0 m [] (upd H1 D (.lst []))) /\ ∀ i m ys H,W i m ys H ->
 H D=some (.lst ys) /\ ((J.stop i H /\ Q (.ref D) H) \/ (J.go i H /\ ∀ x H',J.yld i H x H'->tc (pick ι σ++[some x]) H' fun b H3=>H3 D=some (.lst ys) /\ if b=true then
   te (pick ι σ++[some x]) H3 fun y H2=>H2 D=some (.lst ys) /\ ys.length<sizeLine /\ ∃ m',m'<m /\ W (i+1) m' (ys++[y]) (upd H2 D (.lst (ys++[y])))else ∃ m',m'<m /\ W (i+1) m' ys H3))
section
variable{X:Cx}{scope:Scope}{cl:List (Str×Addr)}{M:List Str}{ι:List Nat}{x:Str}
theorem zG{elt iter c:Expr}{px pos:Pos}{wi:TI}{tc:TT}{te:TE}(S:j7 X scope cl M ι x)(hc:X.calm=true)(hi:PI X (.Name x px) iter wi)(hcd:∀ C s₀ H₀ ex,PT (blk X scope cl (M++[x]) C s₀ H₀ ex) c tc)(he:∀ C s₀ H₀ ex,PE (blk X scope cl (M++[x]) C s₀ H₀ ex) elt te)
  (hs:∀ v,foldedSetIterable iter X.env v=pure v:=by intro _;rfl):PE X (.ListComp elt [⟨.Name x px,iter,[c],0⟩] scope pos) (nz wi ι tc te):=by
 intro pins s σ H Q I h;rw[eval_ListComp];refine wpAny_comprehension_free (use:=none) rfl hs S.clos S.kind (fun y hy hl=>?_) (wpAny_mono (hi pins s σ H _ I h) (fun v s1 h1=>wpAny_mono h1 (fun itv s2 h2=>?_) fun _ _ z=>z) fun _ _ z=>z)
 . have q:=List.all_eq_true.mp S.locs y hy;rw[hl]at q
   simpa using q
 obtain⟨it,fp,tn,J,H2,rfl,I2,T,st2,f2,hW⟩:=h2;have I3:=I2.Ag (ys:=[]) (its:=[]) (t':=s2.toks) .nil (Nat.zero_le _);obtain⟨W,⟨m0,w0⟩,turn⟩:=hW s2.heap.objs.size I2.fresh
 have fpo:∀ b∈fp,b<s2.heap.objs.size:=fun b hb=>let ⟨_,e,_⟩:=T.obj _ _ st2 b hb;Heap.lt_size e
 have f3:∀ b∈fp,kI X pins (upd H2 s2.heap.objs.size (.lst [])) b:=fun b hb=>by
  obtain⟨q0,q⟩:=f2 b hb
  exact⟨by rw[bB (Nat.ne_of_lt (fpo b hb))];exact q0,q⟩
 show wpAny _ _ (newObj (.type "list") _ none) _ _ s2;refine wpAny_newObj_type (wpAny_newFunctionEnv (fun y hy=>?_) (by intro y hy;simp at hy) (fun h₁ hn₁ sb₁=>?_) S.kind)
 . have q:=List.all_eq_true.mp S.nocell y hy
   simpa using q
 have hsz:(s2.heap.push { cls:=.type "list",dict:=none,data:=.seq ([]:List Value).toArray }).objs.size=s2.heap.objs.size+1:=Heap.size_push ..
 have hk₁:∀ b o,(s2.heap.push { cls:=.type "list",dict:=none,data:=.seq ([]:List Value).toArray }).get? b=some o->h₁.get? b=some o:=fun b o e=>
  (sb₁.2 b (Nat.ne_of_lt (Heap.lt_size e))).trans (Heap.get?_push_of_some _ e)
 have J0:=uJ (t':=s2.toks+([]:List (Str×Value)).length) S I3 (ex:=fp) (fun b hb=>⟨f3 b hb,Nat.lt_of_lt_of_le (fpo b hb) (by rw[hsz];exact Nat.le_succ _)⟩) hn₁ hk₁
 have old:∀ b∈fp,∀ o,s2.heap.get? b=some o->h₁.get? b=some o:=fun b _ o e=>hk₁ b o (Heap.get?_push_of_some _ e)
 have st₁:tn 0 h₁:=T.keep _ _ _ st2 old
 have loop:codeAny (model X.prog X.w) X.A (.compLoop (.ListComp elt [⟨.Name x px,iter,[c],0⟩] scope pos) 0 (.ref it) (.ref s2.heap.objs.size) (compEnvC scope cl (s2.heap.objs.size+1) X.env))
   (compPost (model X.prog X.w) X.A X.xe none (EP X pins σ Q) (.ref s2.heap.objs.size) (s2.heap.objs.size+1)) { s2 with heap:=h₁,toks:=s2.toks+([]:List (Str×Value)).length }:=by
  rw[hsz]at J0
  refine codeAny_loop rfl (fun n s'=>∃ i H' ys v,Inv (blk X scope cl (M++[x]) (s2.heap.objs.size+1) { s2 with heap:=s2.heap.push { cls:=.type "list",data:=.seq ([]:List Value).toArray },toks:=s2.toks } (upd H2 s2.heap.objs.size (.lst [])) fp) [] (pick ι σ++[v]) H' s' /\ tn i s'.heap /\ (∀ b∈fp,H' b=none) /\ W i n ys H')
   (fun n s' hI=>?_) m0 ⟨0,_,[],none,J0,st₁,fun b hb=>(f3 b hb).1,w0⟩
  obtain⟨i,H',ys,v,J',st',fr',w'⟩:=hI;obtain⟨hD,alt⟩:=turn i n ys H' w'
  have fpY:∀{G:Hp},(∀ b∈fp,G b=none)->∀ b∈fp,kI (blk X scope cl (M++[x]) (s2.heap.objs.size+1) { s2 with heap:=s2.heap.push { cls:=.type "list",data:=.seq ([]:List Value).toArray },toks:=s2.toks } (upd H2 s2.heap.objs.size (.lst [])) fp) [] G b:=fun hG b hb=>
   ⟨hG b hb,(J'.ok.exf b hb).1,J'.ok.exfs b hb,.inl hb,(J'.ok.exf b hb).2,fun p hp=>absurd (show p∈([]:List (Addr×Obj)) from hp) (by simp)⟩
  show wpAny _ _ ((compTurn _ 0 (.ref it) (.ref s2.heap.objs.size) (compEnvC scope cl (s2.heap.objs.size+1) X.env)).onRaise _) _ _ s';refine wpAny_noted (wpAny_noRaise ?_);rw[compTurn_list];refine wpAny_bind (wpAny_standAt (wpAny_bind ?_))
  rcases alt with⟨stop,qn⟩|⟨go,step⟩
  . refine thn (T.done (blk X scope cl (M++[x]) (s2.heap.objs.size+1) _ _ fp) rfl rfl rfl hc i [] s' _ H' _ J' (fpY fr') st' stop) fun r s4 ⟨hr,J4⟩=>?_
    subst hr;refine wpAny_pure ?_;obtain⟨m,hm,_⟩:=id J4.loc
    refine⟨m,hm,fun h' sb=>⟨.ref s2.heap.objs.size,H',qE I3 hsz.symm f3 J4 sb,rfl,qn⟩⟩
  . refine thn (T.item (blk X scope cl (M++[x]) (s2.heap.objs.size+1) _ _ fp) rfl rfl rfl hc i [] s' _ H' _ J' (fpY fr') st' go) fun r s4 ⟨u,hr,h4⟩=>?_
    subst hr;refine wpAny_bind (thn h4 fun _ s5 ⟨z,H5,J5,r5,y5,st5,fr5⟩=>?_)
    have J5':=J5.pinned (fpY fr5) (T.obj _ _ st5)
    have hxN:(M++[x])[M.length]?=some x:=by simp
    refine wpAny_bind ?_;refine wpAny_assign_Name ?_;refine jc (X:=blk X scope cl (M++[x]) (s2.heap.objs.size+1) _ _ fp) (i:=M.length) (v:=z) J5' S.nd hxN (.inl (lookup_relabel_local S.var)) r5 (fun s6 J6=>?_) (.inr (lookup_relabel_local S.var))
    have hlp:(pick ι σ).length=M.length:=by
     have q:=congrArg List.length S.names;rw[List.length_map,List.length_map]at q;unfold pick;rw[List.length_map,q]
    have hset:(pick ι σ++[v]).set M.length (some z)=pick ι σ++[some z]:=by
     rw[<- hlp,List.set_append_right _ _ (Nat.le_refl _),Nat.sub_self];rfl
    rw[hset]at J6;refine wpAny_bind (wpAny_tests_one (thn (hcd _ _ _ _ _ s6 _ H5 _ J6 (step z H5 y5)) fun b s7 ⟨H7,J7,hD7,q7⟩=>?_))
    cases b with
    | true=>
      rw[if_pos rfl]at q7;refine wpAny_bind (wpAny_bind (thn (he _ _ _ _ _ s7 _ H7 _ J7 q7) fun yv s8 ⟨y,H8,J8,r8,hD8,hz8,m',hm',w8⟩=>?_));refine wpAny_bind (thn (fE (X:=blk X scope cl (M++[x]) (s2.heap.objs.size+1) _ _ fp) _ s8 _ H8 (.ref s2.heap.objs.size) [y] (.ref s2.heap.objs.size) [yv] (fun _ G=>G=upd H8 s2.heap.objs.size (.lst (ys++[y]))) J8 rfl (.cons r8 .nil) ⟨_,_,y,rfl,rfl,hD8,hz8,rfl⟩) fun _ s9 ⟨_,H9,J9,_,e9⟩=>?_);subst e9;refine wpAny_pure (wpAny_pure ⟨rfl,m',hm',i+1,_,_,some z,J9.fY,?_,fun b hb=>?_,w8⟩)
      . exact T.keep _ _ _ st5 fun b hb o e=>(J9.pin (b,o) (List.mem_append_right _ (List.mem_append_right _ (cq hb e)))).1
      . obtain⟨o,e,d⟩:=T.obj _ _ st5 b hb
        exact(J9.pin (b,o) (List.mem_append_right _ (List.mem_append_right _ (cq hb e)))).2.1
    | false=>
      rw[if_neg (by decide)]at q7;obtain⟨m',hm',w8⟩:=q7;refine wpAny_pure ⟨rfl,m',hm',i+1,_,_,some z,J7.fY,?_,fun b hb=>?_,w8⟩
      . exact T.keep _ _ _ st5 fun b hb o e=>(J7.pin (b,o) (List.mem_append_right _ (List.mem_append_right _ (cq hb e)))).1
      . obtain⟨o,e,d⟩:=T.obj _ _ st5 b hb
        exact(J7.pin (b,o) (List.mem_append_right _ (List.mem_append_right _ (cq hb e)))).2.1
 rw[hsz]at *;exact codeAny_compStart_list loop (T.self X.A 0 _ _ _ st₁ loop)
end
theorem Ca(its:List Value):slicePick its.toArray none none (some (-1))=its.reverse.toArray:=by
 unfold slicePick
 have hb:sliceBounds none none (some (-1)) its.toArray.size=((its.length:Int) - 1,-1,-1):=by simp[sliceBounds]
 rw[hb]
 congr 1
 have hr:sliceRange ((its.length:Int) - 1) (-1) (-1)=(List.range its.length).map fun i=>its.length - 1 - i:=by
  unfold sliceRange;rw[if_neg (by decide)]
  have hc:(if((its.length:Int) - 1) > -1 then(((its.length:Int) - 1) - -1 - -1 - 1)/(- -1)else 0).toNat=its.length:=by
   split
   . rw[show(- -1:Int)=1 by decide,Int.ediv_one];omega
   . omega
  dsimp only;rw[hc]
  refine List.map_congr_left fun k hk=>?_
  have:=List.mem_range.mp hk;omega
 rw[hr];apply List.ext_getElem?;intro n;rw[List.filterMap_map]
 have hall:∀ m,m<=its.length->List.filterMap ((fun x=>its.toArray[x]?) ∘ fun i=>its.length - 1 - i) (List.range m)=(its.reverse).take m:=by
  intro m
  induction m with
  |zero=>intro _;simp
  | succ m ih=>
    intro hm;rw[List.range_succ,List.filterMap_append,ih (by omega)]
    have h1:its.length - 1 - m<its.length:=by omega
    have h2:m<its.reverse.length:=by rw[List.length_reverse];omega
    rw[List.take_succ_eq_append_getElem h2]
    congr 1
    simp[h1]
 rw[hall its.length (Nat.le_refl _),List.take_of_length_le (by simp)]
theorem wo:∀{xs:List V} {us:List Value},Vals xs us->Vals xs.reverse us.reverse
 |_,_,.nil=>.nil
 | _,_,.cons r t=>by
   rw[List.reverse_cons,List.reverse_cons]
   exact(wo t).append (.cons r .nil)
section
variable{X:Cx}{e st:Expr}{te ts:TE}{pos p2:Pos}
noncomputable def Fm(K:PySem.W.Frag)(te ts:TE):TE:=fun σ H Q=>te σ H fun x H1=>ts σ H1 fun k H2=>k=.int (-1) /\ ∃ a xs,x=.ref a /\ SqL K H2 a xs /\ ∀ p,H2 p=none->Q (.ref p) (upd H2 p (.lst xs.reverse))
theorem GK(he:PE X e te)(hk:PE X st ts):PE X (.Subscript e (.Slice none none (some st) p2) pos) (Fm X.K te ts):=by
 intro pins s σ H Q I h;refine Subscript_ (thn (he pins s σ H _ I h) fun v s1 ⟨x,H1,I1,r1,q1⟩=>?_);refine wpAny_Slice ?_;rw[evalPart_none];refine wpAny_pure (wpAny_pure ?_);rw[evalPart_some]
 refine thn (hk pins s1 σ H1 _ I1 q1) fun u s3 ⟨k,H3,I3,r3,q3⟩=>?_
 obtain⟨rfl,a,xs,rfl,hq,q⟩:=q3;obtain⟨t,rfl⟩:=r3;cases r1
 have I4:Inv X pins σ H3 { s3 with heap:=s3.heap.push { cls:=.type "slice",data:=.fields #[.none,.none,.int (-1) t] } }:=I3.kept (t':=s3.toks) fun b ob q=>Heap.get?_push_of_some _ q
 obtain⟨its,r,ht,hz⟩:=I4.list hq;have hlen:=r.length;show wpAny (model X.prog X.w) X.A (subscriptTail e (.Slice none none (some st) p2) (.ref a) (.ref s3.heap.objs.size)) (EP X pins σ Q) X.xe { s3 with heap:=s3.heap.push { cls:=.type "slice",data:=.fields #[.none,.none,.int (-1) t] } };refine tail_any (ops:=[.ref a,.ref s3.heap.objs.size]) ht.isList.typeIs slot_list_getitem.lookup ?_ (by with_unfolding_all rfl);refine wpAny_getItem_list_slice ht.isList (Heap.IsSliceOf.new ..) .none .none (.int (-1) t) (by decide) ?_ (by rw[List.size_toArray]<;>omega);rw[Ca]
 refine⟨.ref _,_,I4.laid (t':=s3.toks) (o:=.lst xs.reverse) (fun b ob q=>Heap.get?_push_of_some _ q) (Nat.le_refl _) ?_,rfl,q _ (I4.hok.fresh (Nat.le_refl _))⟩
 refine⟨by rw[List.length_reverse];exact hz,its.reverse,0,wo r,Heap.get?_push_size _ rfl⟩
end
section
variable{X:Cx}{scope:Scope}{cl:List (Str×Addr)}{M:List Str}{ι:List Nat}{x:Str}
theorem Cs{i:Nat}{y:Str}{py spos:Pos}{elt iter:Expr}{px pos:Pos}{wi:TI}{te:TE}(S:j7 X scope cl M ι x)(hc:X.calm=true)(hi:PI X (.Name x px) iter wi)(he:∀ C s₀ H₀ ex,PE (blk X scope cl (M++[x]) C s₀ H₀ ex) elt te)
  (hN:X.N.Nodup) (hiy:X.N[i]?=some y) (hy:Loc X.env.scope y) (hsw:swapsWith (.ListComp elt [⟨.Name x px,iter,[],0⟩] scope pos) (some (.Name y py)) spos.line X.env=pure true) (hf:X.fn y=true \/ X.env.scope.names.lookup y=some .local:=by first|exact .inl rfl|exact .inr rfl|assumption)
  (hs:∀ v,foldedSetIterable iter X.env v=pure v:=by intro _;rfl):PS X (.Assign [.Name y py] (.ListComp elt [⟨.Name x px,iter,[],0⟩] scope pos) spos) (sN (pZ wi ι te) (jb i)):=by
 intro pins s σ H D0 I h;rw[exec_Assign_Name_used _ _ _ _ hsw];refine wpAny_bind (wpAny_standAt (wpAny_bind ?_));show wpAny _ _ (do let _ <- comprehension (.ListComp elt [⟨.Name x px,iter,[],0⟩] scope pos) scope X.env _ (newList []) false (eval iter X.env) (some (assign (.Name y py) X.env))) _ _ s;refine wpAny_bind (wpAny_mono (wpAny_comprehension_free (use:=some (assign (.Name y py) X.env)) (Q:=fun _ s'=>∃ σ' H',Inv X pins σ' H' s' /\ D0.nx σ' H') rfl hs S.clos S.kind (fun y hy hl=>?_) (wpAny_mono (hi pins s σ H _ I h) (fun v s1 h1=>wpAny_mono h1 (fun itv s2 h2=>?_) fun _ _ z=>z) fun _ _ z=>z)) (fun _ s' hq=>wpAny_pure (wpAny_pure hq)) fun _ _ e=>e)
 . have q:=List.all_eq_true.mp S.locs y hy;rw[hl]at q
   simpa using q
 obtain⟨it,fp,tn,J,H2,rfl,I2,T,st2,f2,hW⟩:=h2;have I3:=I2.Ag (ys:=[]) (its:=[]) (t':=s2.toks) .nil (Nat.zero_le _);obtain⟨W,⟨m0,w0⟩,turn⟩:=hW s2.heap.objs.size I2.fresh
 have fpo:∀ b∈fp,b<s2.heap.objs.size:=fun b hb=>let ⟨_,e,_⟩:=T.obj _ _ st2 b hb;Heap.lt_size e
 have f3:∀ b∈fp,kI X pins (upd H2 s2.heap.objs.size (.lst [])) b:=fun b hb=>by
  obtain⟨q0,q⟩:=f2 b hb
  exact⟨by rw[bB (Nat.ne_of_lt (fpo b hb))];exact q0,q⟩
 show wpAny _ _ (newObj (.type "list") _ none) _ _ s2;refine wpAny_newObj_type (wpAny_newFunctionEnv (fun y hy=>?_) (by intro y hy;simp at hy) (fun h₁ hn₁ sb₁=>?_) S.kind)
 . have q:=List.all_eq_true.mp S.nocell y hy
   simpa using q
 have hsz:(s2.heap.push { cls:=.type "list",dict:=none,data:=.seq ([]:List Value).toArray }).objs.size=s2.heap.objs.size+1:=Heap.size_push ..
 have hk₁:∀ b o,(s2.heap.push { cls:=.type "list",dict:=none,data:=.seq ([]:List Value).toArray }).get? b=some o->h₁.get? b=some o:=fun b o e=>
  (sb₁.2 b (Nat.ne_of_lt (Heap.lt_size e))).trans (Heap.get?_push_of_some _ e)
 have J0:=uJ (t':=s2.toks+([]:List (Str×Value)).length) S I3 (ex:=fp) (fun b hb=>⟨f3 b hb,Nat.lt_of_lt_of_le (fpo b hb) (by rw[hsz];exact Nat.le_succ _)⟩) hn₁ hk₁
 have old:∀ b∈fp,∀ o,s2.heap.get? b=some o->h₁.get? b=some o:=fun b _ o e=>hk₁ b o (Heap.get?_push_of_some _ e)
 have st₁:tn 0 h₁:=T.keep _ _ _ st2 old
 have loop:codeAny (model X.prog X.w) X.A (.compLoop (.ListComp elt [⟨.Name x px,iter,[],0⟩] scope pos) 0 (.ref it) (.ref s2.heap.objs.size) (compEnvC scope cl (s2.heap.objs.size+1) X.env))
   (compPost (model X.prog X.w) X.A X.xe (some (assign (.Name y py) X.env)) (fun _ s'=>∃ σ' H',Inv X pins σ' H' s' /\ D0.nx σ' H') (.ref s2.heap.objs.size) (s2.heap.objs.size+1)) { s2 with heap:=h₁,toks:=s2.toks+([]:List (Str×Value)).length }:=by
  rw[hsz]at J0
  refine codeAny_loop rfl (fun n s'=>∃ i H' ys v,Inv (blk X scope cl (M++[x]) (s2.heap.objs.size+1) { s2 with heap:=s2.heap.push { cls:=.type "list",data:=.seq ([]:List Value).toArray },toks:=s2.toks } (upd H2 s2.heap.objs.size (.lst [])) fp) [] (pick ι σ++[v]) H' s' /\ tn i s'.heap /\ (∀ b∈fp,H' b=none) /\ W i n ys H')
   (fun n s' hI=>?_) m0 ⟨0,_,[],none,J0,st₁,fun b hb=>(f3 b hb).1,w0⟩
  obtain⟨i,H',ys,v,J',st',fr',w'⟩:=hI;obtain⟨hD,alt⟩:=turn i n ys H' w'
  have fpY:∀{G:Hp},(∀ b∈fp,G b=none)->∀ b∈fp,kI (blk X scope cl (M++[x]) (s2.heap.objs.size+1) { s2 with heap:=s2.heap.push { cls:=.type "list",data:=.seq ([]:List Value).toArray },toks:=s2.toks } (upd H2 s2.heap.objs.size (.lst [])) fp) [] G b:=fun hG b hb=>
   ⟨hG b hb,(J'.ok.exf b hb).1,J'.ok.exfs b hb,.inl hb,(J'.ok.exf b hb).2,fun p hp=>absurd (show p∈([]:List (Addr×Obj)) from hp) (by simp)⟩
  show wpAny _ _ ((compTurn _ 0 (.ref it) (.ref s2.heap.objs.size) (compEnvC scope cl (s2.heap.objs.size+1) X.env)).onRaise _) _ _ s';refine wpAny_noted (wpAny_noRaise ?_);rw[tK];refine wpAny_bind (wpAny_standAt (wpAny_bind ?_))
  rcases alt with⟨stop,qn⟩|⟨go,step⟩
  . refine thn (T.done (blk X scope cl (M++[x]) (s2.heap.objs.size+1) _ _ fp) rfl rfl rfl hc i [] s' _ H' _ J' (fpY fr') st' stop) fun r s4 ⟨hr,J4⟩=>?_
    subst hr;refine wpAny_pure ?_;obtain⟨m,hm,_⟩:=id J4.loc
    have I4:Inv X pins σ H' s4:=qE (h':=s4.heap) I3 hsz.symm f3 J4 ⟨rfl,fun _ _=>rfl⟩
    obtain⟨oC,es,ep,hoC,rC⟩:=id hm
    have fC:kI X pins H' (s2.heap.objs.size+1):=I3.wX (by rw[hsz];exact Nat.le_refl _) J4.free
    obtain⟨_,c1,c2,c3,c4,c5⟩:=id fC
    have I5:=I4.pinned (fp:=[s2.heap.objs.size+1]) (fun b hb=>by
     have z:b=s2.heap.objs.size+1:=by simpa using hb
     subst z;exact fC) fun b hb=>by
     have z:b=s2.heap.objs.size+1:=by simpa using hb
     subst z
     exact⟨oC,hoC,fun v z=>by rw[rC.1]at z;cases z⟩
    show wpAny _ _ (assign (.Name y py) X.env (.ref s2.heap.objs.size)) _ _ s4;refine wpAny_assign_Name (jc I5 hN hiy hy (v:=.ref s2.heap.objs.size) rfl (fun s5 I6=>?_) hf)
    have hC5:s5.heap.get? (s2.heap.objs.size+1)=some oC:=(I6.pin (_,oC) (List.mem_append_right _ (List.mem_append_right _ (cq (List.mem_singleton.mpr rfl) hoC)))).1
    refine⟨m,⟨oC,es,ep,hC5,rC⟩,fun h' sb=>⟨_,H',(I6.fY).turned (t':=s5.toks) (it:=s2.heap.objs.size+1) (fun b o hb e=>(sb.2 b hb).trans e) J4.free c1 c3 c4 c5,qn⟩⟩
  . refine thn (T.item (blk X scope cl (M++[x]) (s2.heap.objs.size+1) _ _ fp) rfl rfl rfl hc i [] s' _ H' _ J' (fpY fr') st' go) fun r s4 ⟨u,hr,h4⟩=>?_
    subst hr;refine wpAny_bind (thn h4 fun _ s5 ⟨z,H5,J5,r5,y5,st5,fr5⟩=>?_)
    have J5':=J5.pinned (fpY fr5) (T.obj _ _ st5)
    have hxN:(M++[x])[M.length]?=some x:=by simp
    refine wpAny_bind ?_;refine wpAny_assign_Name ?_;refine jc (X:=blk X scope cl (M++[x]) (s2.heap.objs.size+1) _ _ fp) (i:=M.length) (v:=z) J5' S.nd hxN (.inl (lookup_relabel_local S.var)) r5 (fun s6 J6=>?_) (.inr (lookup_relabel_local S.var))
    have hlp:(pick ι σ).length=M.length:=by
     have q:=congrArg List.length S.names;rw[List.length_map,List.length_map]at q;unfold pick;rw[List.length_map,q]
    have hset:(pick ι σ++[v]).set M.length (some z)=pick ι σ++[some z]:=by
     rw[<- hlp,List.set_append_right _ _ (Nat.le_refl _),Nat.sub_self];rfl
    rw[hset]at J6;refine wpAny_bind (wpAny_bind (thn (he _ _ _ _ _ s6 _ H5 _ J6 (step z H5 y5)) fun yv s7 ⟨y,H7,J7,r7,hD7,hz7,m',hm',w7⟩=>?_));refine wpAny_bind (thn (fE (X:=blk X scope cl (M++[x]) (s2.heap.objs.size+1) _ _ fp) _ s7 _ H7 (.ref s2.heap.objs.size) [y] (.ref s2.heap.objs.size) [yv] (fun _ G=>G=upd H7 s2.heap.objs.size (.lst (ys++[y]))) J7 rfl (.cons r7 .nil) ⟨_,_,y,rfl,rfl,hD7,hz7,rfl⟩) fun _ s8 ⟨_,H8,J8,_,e8⟩=>?_);subst e8;refine wpAny_pure (wpAny_pure ⟨rfl,m',hm',i+1,_,_,some z,J8.fY,?_,fun b hb=>?_,w7⟩)
    . exact T.keep _ _ _ st5 fun b hb o e=>(J8.pin (b,o) (List.mem_append_right _ (List.mem_append_right _ (cq hb e)))).1
    . obtain⟨o,e,d⟩:=T.obj _ _ st5 b hb
      exact(J8.pin (b,o) (List.mem_append_right _ (List.mem_append_right _ (cq hb e)))).2.1
 rw[hsz]at *;exact codeAny_compStart_list loop (T.self X.A 0 _ _ _ st₁ loop)
theorem An{i:Nat}{y:Str}{py spos:Pos}{elt iter c:Expr}{px pos:Pos}{wi:TI}{tc:TT}{te:TE}(S:j7 X scope cl M ι x)(hc:X.calm=true)(hi:PI X (.Name x px) iter wi)(hcd:∀ C s₀ H₀ ex,PT (blk X scope cl (M++[x]) C s₀ H₀ ex) c tc)(he:∀ C s₀ H₀ ex,PE (blk X scope cl (M++[x]) C s₀ H₀ ex) elt te)
  (hN:X.N.Nodup) (hiy:X.N[i]?=some y) (hy:Loc X.env.scope y) (hsw:swapsWith (.ListComp elt [⟨.Name x px,iter,[c],0⟩] scope pos) (some (.Name y py)) spos.line X.env=pure true) (hf:X.fn y=true \/ X.env.scope.names.lookup y=some .local:=by first|exact .inl rfl|exact .inr rfl|assumption)
  (hs:∀ v,foldedSetIterable iter X.env v=pure v:=by intro _;rfl):PS X (.Assign [.Name y py] (.ListComp elt [⟨.Name x px,iter,[c],0⟩] scope pos) spos) (sN (nz wi ι tc te) (jb i)):=by
 intro pins s σ H D0 I h;rw[exec_Assign_Name_used _ _ _ _ hsw];refine wpAny_bind (wpAny_standAt (wpAny_bind ?_));show wpAny _ _ (do let _ <- comprehension (.ListComp elt [⟨.Name x px,iter,[c],0⟩] scope pos) scope X.env _ (newList []) false (eval iter X.env) (some (assign (.Name y py) X.env))) _ _ s;refine wpAny_bind (wpAny_mono (wpAny_comprehension_free (use:=some (assign (.Name y py) X.env)) (Q:=fun _ s'=>∃ σ' H',Inv X pins σ' H' s' /\ D0.nx σ' H') rfl hs S.clos S.kind (fun y hy hl=>?_) (wpAny_mono (hi pins s σ H _ I h) (fun v s1 h1=>wpAny_mono h1 (fun itv s2 h2=>?_) fun _ _ z=>z) fun _ _ z=>z)) (fun _ s' hq=>wpAny_pure (wpAny_pure hq)) fun _ _ e=>e)
 . have q:=List.all_eq_true.mp S.locs y hy;rw[hl]at q
   simpa using q
 obtain⟨it,fp,tn,J,H2,rfl,I2,T,st2,f2,hW⟩:=h2;have I3:=I2.Ag (ys:=[]) (its:=[]) (t':=s2.toks) .nil (Nat.zero_le _);obtain⟨W,⟨m0,w0⟩,turn⟩:=hW s2.heap.objs.size I2.fresh
 have fpo:∀ b∈fp,b<s2.heap.objs.size:=fun b hb=>let ⟨_,e,_⟩:=T.obj _ _ st2 b hb;Heap.lt_size e
 have f3:∀ b∈fp,kI X pins (upd H2 s2.heap.objs.size (.lst [])) b:=fun b hb=>by
  obtain⟨q0,q⟩:=f2 b hb
  exact⟨by rw[bB (Nat.ne_of_lt (fpo b hb))];exact q0,q⟩
 show wpAny _ _ (newObj (.type "list") _ none) _ _ s2;refine wpAny_newObj_type (wpAny_newFunctionEnv (fun y hy=>?_) (by intro y hy;simp at hy) (fun h₁ hn₁ sb₁=>?_) S.kind)
 . have q:=List.all_eq_true.mp S.nocell y hy
   simpa using q
 have hsz:(s2.heap.push { cls:=.type "list",dict:=none,data:=.seq ([]:List Value).toArray }).objs.size=s2.heap.objs.size+1:=Heap.size_push ..
 have hk₁:∀ b o,(s2.heap.push { cls:=.type "list",dict:=none,data:=.seq ([]:List Value).toArray }).get? b=some o->h₁.get? b=some o:=fun b o e=>
  (sb₁.2 b (Nat.ne_of_lt (Heap.lt_size e))).trans (Heap.get?_push_of_some _ e)
 have J0:=uJ (t':=s2.toks+([]:List (Str×Value)).length) S I3 (ex:=fp) (fun b hb=>⟨f3 b hb,Nat.lt_of_lt_of_le (fpo b hb) (by rw[hsz];exact Nat.le_succ _)⟩) hn₁ hk₁
 have old:∀ b∈fp,∀ o,s2.heap.get? b=some o->h₁.get? b=some o:=fun b _ o e=>hk₁ b o (Heap.get?_push_of_some _ e)
 have st₁:tn 0 h₁:=T.keep _ _ _ st2 old
 have loop:codeAny (model X.prog X.w) X.A (.compLoop (.ListComp elt [⟨.Name x px,iter,[c],0⟩] scope pos) 0 (.ref it) (.ref s2.heap.objs.size) (compEnvC scope cl (s2.heap.objs.size+1) X.env))
   (compPost (model X.prog X.w) X.A X.xe (some (assign (.Name y py) X.env)) (fun _ s'=>∃ σ' H',Inv X pins σ' H' s' /\ D0.nx σ' H') (.ref s2.heap.objs.size) (s2.heap.objs.size+1)) { s2 with heap:=h₁,toks:=s2.toks+([]:List (Str×Value)).length }:=by
  rw[hsz]at J0
  refine codeAny_loop rfl (fun n s'=>∃ i H' ys v,Inv (blk X scope cl (M++[x]) (s2.heap.objs.size+1) { s2 with heap:=s2.heap.push { cls:=.type "list",data:=.seq ([]:List Value).toArray },toks:=s2.toks } (upd H2 s2.heap.objs.size (.lst [])) fp) [] (pick ι σ++[v]) H' s' /\ tn i s'.heap /\ (∀ b∈fp,H' b=none) /\ W i n ys H')
   (fun n s' hI=>?_) m0 ⟨0,_,[],none,J0,st₁,fun b hb=>(f3 b hb).1,w0⟩
  obtain⟨i,H',ys,v,J',st',fr',w'⟩:=hI;obtain⟨hD,alt⟩:=turn i n ys H' w'
  have fpY:∀{G:Hp},(∀ b∈fp,G b=none)->∀ b∈fp,kI (blk X scope cl (M++[x]) (s2.heap.objs.size+1) { s2 with heap:=s2.heap.push { cls:=.type "list",data:=.seq ([]:List Value).toArray },toks:=s2.toks } (upd H2 s2.heap.objs.size (.lst [])) fp) [] G b:=fun hG b hb=>
   ⟨hG b hb,(J'.ok.exf b hb).1,J'.ok.exfs b hb,.inl hb,(J'.ok.exf b hb).2,fun p hp=>absurd (show p∈([]:List (Addr×Obj)) from hp) (by simp)⟩
  show wpAny _ _ ((compTurn _ 0 (.ref it) (.ref s2.heap.objs.size) (compEnvC scope cl (s2.heap.objs.size+1) X.env)).onRaise _) _ _ s';refine wpAny_noted (wpAny_noRaise ?_);rw[compTurn_list];refine wpAny_bind (wpAny_standAt (wpAny_bind ?_))
  rcases alt with⟨stop,qn⟩|⟨go,step⟩
  . refine thn (T.done (blk X scope cl (M++[x]) (s2.heap.objs.size+1) _ _ fp) rfl rfl rfl hc i [] s' _ H' _ J' (fpY fr') st' stop) fun r s4 ⟨hr,J4⟩=>?_
    subst hr;refine wpAny_pure ?_;obtain⟨m,hm,_⟩:=id J4.loc
    have I4:Inv X pins σ H' s4:=qE (h':=s4.heap) I3 hsz.symm f3 J4 ⟨rfl,fun _ _=>rfl⟩
    obtain⟨oC,es,ep,hoC,rC⟩:=id hm
    have fC:kI X pins H' (s2.heap.objs.size+1):=I3.wX (by rw[hsz];exact Nat.le_refl _) J4.free
    obtain⟨_,c1,c2,c3,c4,c5⟩:=id fC
    have I5:=I4.pinned (fp:=[s2.heap.objs.size+1]) (fun b hb=>by
     have z:b=s2.heap.objs.size+1:=by simpa using hb
     subst z;exact fC) fun b hb=>by
     have z:b=s2.heap.objs.size+1:=by simpa using hb
     subst z
     exact⟨oC,hoC,fun v z=>by rw[rC.1]at z;cases z⟩
    show wpAny _ _ (assign (.Name y py) X.env (.ref s2.heap.objs.size)) _ _ s4;refine wpAny_assign_Name (jc I5 hN hiy hy (v:=.ref s2.heap.objs.size) rfl (fun s5 I6=>?_) hf)
    have hC5:s5.heap.get? (s2.heap.objs.size+1)=some oC:=(I6.pin (_,oC) (List.mem_append_right _ (List.mem_append_right _ (cq (List.mem_singleton.mpr rfl) hoC)))).1
    refine⟨m,⟨oC,es,ep,hC5,rC⟩,fun h' sb=>⟨_,H',(I6.fY).turned (t':=s5.toks) (it:=s2.heap.objs.size+1) (fun b o hb e=>(sb.2 b hb).trans e) J4.free c1 c3 c4 c5,qn⟩⟩
  . refine thn (T.item (blk X scope cl (M++[x]) (s2.heap.objs.size+1) _ _ fp) rfl rfl rfl hc i [] s' _ H' _ J' (fpY fr') st' go) fun r s4 ⟨u,hr,h4⟩=>?_
    subst hr;refine wpAny_bind (thn h4 fun _ s5 ⟨z,H5,J5,r5,y5,st5,fr5⟩=>?_)
    have J5':=J5.pinned (fpY fr5) (T.obj _ _ st5)
    have hxN:(M++[x])[M.length]?=some x:=by simp
    refine wpAny_bind ?_;refine wpAny_assign_Name ?_;refine jc (X:=blk X scope cl (M++[x]) (s2.heap.objs.size+1) _ _ fp) (i:=M.length) (v:=z) J5' S.nd hxN (.inl (lookup_relabel_local S.var)) r5 (fun s6 J6=>?_) (.inr (lookup_relabel_local S.var))
    have hlp:(pick ι σ).length=M.length:=by
     have q:=congrArg List.length S.names;rw[List.length_map,List.length_map]at q;unfold pick;rw[List.length_map,q]
    have hset:(pick ι σ++[v]).set M.length (some z)=pick ι σ++[some z]:=by
     rw[<- hlp,List.set_append_right _ _ (Nat.le_refl _),Nat.sub_self];rfl
    rw[hset]at J6;refine wpAny_bind (wpAny_tests_one (thn (hcd _ _ _ _ _ s6 _ H5 _ J6 (step z H5 y5)) fun b s7 ⟨H7,J7,hD7,q7⟩=>?_))
    cases b with
    | true=>
      rw[if_pos rfl]at q7;refine wpAny_bind (wpAny_bind (thn (he _ _ _ _ _ s7 _ H7 _ J7 q7) fun yv s8 ⟨y,H8,J8,r8,hD8,hz8,m',hm',w8⟩=>?_));refine wpAny_bind (thn (fE (X:=blk X scope cl (M++[x]) (s2.heap.objs.size+1) _ _ fp) _ s8 _ H8 (.ref s2.heap.objs.size) [y] (.ref s2.heap.objs.size) [yv] (fun _ G=>G=upd H8 s2.heap.objs.size (.lst (ys++[y]))) J8 rfl (.cons r8 .nil) ⟨_,_,y,rfl,rfl,hD8,hz8,rfl⟩) fun _ s9 ⟨_,H9,J9,_,e9⟩=>?_);subst e9;refine wpAny_pure (wpAny_pure ⟨rfl,m',hm',i+1,_,_,some z,J9.fY,?_,fun b hb=>?_,w8⟩)
      . exact T.keep _ _ _ st5 fun b hb o e=>(J9.pin (b,o) (List.mem_append_right _ (List.mem_append_right _ (cq hb e)))).1
      . obtain⟨o,e,d⟩:=T.obj _ _ st5 b hb
        exact(J9.pin (b,o) (List.mem_append_right _ (List.mem_append_right _ (cq hb e)))).2.1
    | false=>
      rw[if_neg (by decide)]at q7;obtain⟨m',hm',w8⟩:=q7;refine wpAny_pure ⟨rfl,m',hm',i+1,_,_,some z,J7.fY,?_,fun b hb=>?_,w8⟩
      . exact T.keep _ _ _ st5 fun b hb o e=>(J7.pin (b,o) (List.mem_append_right _ (List.mem_append_right _ (cq hb e)))).1
      . obtain⟨o,e,d⟩:=T.obj _ _ st5 b hb
        exact(J7.pin (b,o) (List.mem_append_right _ (List.mem_append_right _ (cq hb e)))).2.1
 rw[hsz]at *;exact codeAny_compStart_list loop (T.self X.A 0 _ _ _ st₁ loop)
end
end L2.E
namespace L2.P
open PySem PySem.Spec PyProof.Rows L2 L2.E
section
variable{K:PySem.W.Frag}{cls:String->Option Addr}{W:XW}{Av G S₀ S S' H H' B B':Hp}{ρ:ah}{σ:St}{Q:VK}
theorem Cg{ml me:ah->OE}{ι:List Nat}(hι:ι.Nodup)(hl:JE K cls W tl ml)(he:JE K cls (fun _ _ _ _=>False) te me):JE K cls W (pZ (Fi K tl) ι te) (qH ml ι me):=by
 intro Av G S₀ ρ σ S H Q I p
 refine hl.go I p fun r v S1 H1 I1 w1 r1 p1=>?_
 have ra:=r1.rd I1.sh
 cases e:r.pv with
 | tup xs=>
   rw[e]at p1 ra;obtain⟨a,vs,rfl,hq,hr⟩:=mH ra
   refine⟨a,rfl,⟨vs,aH.tup I1.sh hq⟩,?_⟩
   dsimp only at p1
   cases em:dg me (cQ ι ρ) xs with
   |exc c fs=>rw[em]at p1;exact p1.elim
   |bad=>rw[em]at p1;exact p1.elim
   | ok ys=>
     rw[em]at p1;simp only[noX]at p1;split at p1
     . rename_i hlen
       refine nu hι he I1 em hlen (fun k H' x g hx=>?_) (fun H' g=>⟨vs,aH.tup (I1.sh.trans g) hq,by rw[hr.length];exact Nat.le_refl _⟩) fun D S' H' w nD sD ⟨us,hD,rr⟩=>p1 (.ref D) S' H' w ⟨D,us,rfl,nD,sD,hD,rr⟩
       obtain⟨u,hu,ru⟩:=hr.get hx
       refine⟨⟨vs,u,aH.tup (I1.sh.trans g) hq,hu⟩,?_⟩
       rintro v' H2 ⟨rfl,hv⟩
       have:=hv vs (aH.tup (I1.sh.trans g) hq);rw[hu]at this;cases this
       exact⟨rfl,ru⟩
     . exact p1.elim
 |_=>rw[e]at p1;exact p1.elim
theorem p9{J:It}{ι:List Nat}{mc:ah->OT}{me:ah->OE}{xs ys:List PV}(hι:ι.Nodup)(hc:JT K cls (fun _ _ _ _=>False) tc mc)(he:JE K cls (fun _ _ _ _=>False) te me)(I:SR K cls Av G S₀ ρ σ S H)(hy:dM mc me (cQ ι ρ) xs=.ok ys)(hl:ys.length<=lim)
  (go:∀ k H' x,aH H H'->xs[k]?=some x->J.go k H' /\ ∀ v H2,J.yld k H' v H2->H2=H' /\ Rep K S x v) (stop:∀ H',aH H H'->J.stop xs.length H')
  (hQ:∀ D S' H',bc S H S' H'->H D=none->S' D=none->(∃ us,H' D=some (.lst us) /\ bj K S' ys us)->Q (.ref D) H'):
  ∀ D,H D=none->∃ W:Nat->Nat->List V->Hp->Prop,(∃ m,W 0 m [] (upd H D (.lst []))) /\ ∀ i m us H',W i m us H' ->
    H' D=some (.lst us) /\ ((J.stop i H' /\ Q (.ref D) H') \/ (J.go i H' /\ ∀ x H2,J.yld i H' x H2->tc (L2.E.pick ι σ++[some x]) H2 fun b H4=>H4 D=some (.lst us) /\ if b=true then te (L2.E.pick ι σ++[some x]) H4 fun y H3=>H3 D=some (.lst us) /\ us.length<sizeLine /\ ∃ m',m'<m /\ W (i+1) m' (us++[y]) (upd H3 D (.lst (us++[y])))else ∃ m',m'<m /\ W (i+1) m' us H4)):=by
 intro D nD
 refine⟨fun k m us H'=>m+k=xs.length /\ H' D=some (.lst us) /\ ∃ S' zs ws,aH S S' /\ aH H H' /\ aH S' H' /\ (∀ b,S' b≠none->S b≠none \/ (H b=none /\ b≠D)) /\ bj K S' zs us /\ dM mc me (cQ ι ρ) (xs.drop k)=.ok ws /\ ys=zs++ws,
  ⟨xs.length,rfl,bw,S,[],ys,aH.refl _,aH.new nD,I.sh.trans (aH.new nD),fun b z=>.inl z,.nil,hy,rfl⟩,?_⟩
 rintro k m us H' ⟨hm,hD,S',zs,ws,s1,g1,sh1,n1,r1,e1,rfl⟩
 refine⟨hD,?_⟩
 have hSD:S' D=none:=by
  cases q:S' D with
  |none=>rfl
  | some o=>
    rcases n1 D (by rw[q];simp)with z|⟨_,z⟩
    . exact absurd (I.sh.free nD) z
    . exact absurd rfl z
 by_cases hk:k<xs.length
 . refine .inr ?_
   have hx:xs[k]?=some xs[k]:=by simp[hk]
   obtain⟨hgo,hyld⟩:=go k H' xs[k] g1 hx
   refine⟨hgo,fun v H2 hv=>?_⟩
   obtain⟨rfl,rv⟩:=hyld v H2 hv;rw[List.drop_eq_getElem_cons hk]at e1
   have I1:SR K cls Av G S₀ ρ σ S' H2:=I.grow ⟨s1,g1,sh1,fun b z=>by
    rcases n1 b z with z|⟨z,_⟩
    . exact .inl z
    . exact .inr z⟩
   have Ip:=I1.pick hι (Rep.mono s1 rv);refine hc _ G S₀ _ _ S' H2 _ Ip ?_;unfold dM at e1;split at e1
   . rename_i ec;rw[ec];intro S2 H3 w2
     have hSD2:S2 D=none:=by
      cases q:S2 D with
      |none=>rfl
      | some o=>
        rcases w2.new D (by rw[q];simp)with z|z
        . exact absurd hSD z
        . rw[hD]at z;cases z
     refine⟨w2.g _ _ hD,?_⟩
     rw[if_pos rfl];refine he _ G S₀ _ _ S2 H3 _ (Ip.grow w2) ?_
     cases em:me (cQ ι ρ++[some (.sh xs[k])])with
     |exc c fs=>rw[em]at e1;cases e1
     |bad=>rw[em]at e1;cases e1
     | ok r=>
       rw[em]at e1;simp only[OE.eW]at e1
       cases es:jn r with
       |none=>rw[es]at e1;cases e1
       | some y=>
         rw[es]at e1
         dsimp only at e1
         cases e2:dM mc me (cQ ι ρ) (xs.drop (k+1))with
         |exc c fs=>rw[e2]at e1;cases e1
         |bad=>rw[e2]at e1;cases e1
         | ok zs'=>
           rw[e2]at e1;simp only[OA.eW]at e1;cases e1;intro u S4 H4 w4 r4;obtain⟨S3,w3,s3,ru⟩:=r4.share w4 es
           have hl2:(zs++y ::zs').length<=lim:=hl
           have w5:=w2.trans w3
           have hSD3:S3 D=none:=by
            cases q:S3 D with
            |none=>rfl
            | some o=>
              rcases w3.new D (by rw[q];simp)with z|z
              . exact absurd hSD2 z
              . rw[w2.g _ _ hD]at z;cases z
           refine⟨w5.g _ _ hD,?_,m - 1,by omega,by omega,bw,S3,zs++[y],zs',s1.trans w5.s,(g1.trans w5.g).upd nD,w3.sh.upd hSD3,fun b z=>?_,(r1.mono w5.s).append (.cons ru .nil),e2,by simp⟩
           . rw[r1.length,<- xg];rw[List.length_append,List.length_cons]at hl2;omega
           . rcases w5.new b z with z|z
             . exact n1 b z
             . refine .inr ⟨g1.free z,fun e=>?_⟩;rw[e,hD]at z;cases z
   . rename_i ec;rw[ec];intro S2 H3 w2
     refine⟨w2.g _ _ hD,?_⟩
     rw[if_neg (by decide)]
     refine⟨m - 1,by omega,by omega,w2.g _ _ hD,S2,zs,ws,s1.trans w2.s,g1.trans w2.g,w2.sh,fun b z=>?_,r1.mono w2.s,e1,rfl⟩
     rcases w2.new b z with z|z
     . exact n1 b z
     . refine .inr ⟨g1.free z,fun e=>?_⟩;rw[e,hD]at z;cases z
   . cases e1
 . have hk':k=xs.length:=by omega
   subst hk';refine .inl ⟨stop H' g1,?_⟩;rw[List.drop_length]at e1;cases e1
   exact hQ D S' H' ⟨s1,g1,sh1,fun b z=>by
    rcases n1 b z with z|⟨z,_⟩
    . exact .inl z
    . exact .inr z⟩ nD hSD ⟨us,hD,by rw[List.append_nil];exact r1⟩
theorem wN{ml me:ah->OE}{mc:ah->OT}{ι:List Nat}(hι:ι.Nodup)(hl:JE K cls W tl ml)(hc:JT K cls (fun _ _ _ _=>False) tc mc)(he:JE K cls (fun _ _ _ _=>False) te me):JE K cls W (nz (vt K tl) ι tc te) (qP ml ι mc me):=by
 intro Av G S₀ ρ σ S H Q I p
 refine hl.go I p fun r v S1 H1 I1 w1 r1 p1=>?_
 have ra:=r1.rd I1.sh
 cases e:r.pv with
 | lst xs=>
   rw[e]at p1 ra;obtain⟨a,vs,rfl,hq,hr⟩:=gz ra
   refine⟨a,rfl,⟨vs,hq⟩,?_⟩
   dsimp only at p1
   cases em:dM mc me (cQ ι ρ) xs with
   |exc c fs=>rw[em]at p1;exact p1.elim
   |bad=>rw[em]at p1;exact p1.elim
   | ok ys=>
     rw[em]at p1;simp only[noX]at p1;split at p1
     . rename_i hlen
       refine p9 hι hc he I1 em hlen (fun k H' x g hx=>?_) (fun H' g=>⟨vs,aH.seq g hq,by rw[hr.length];exact Nat.le_refl _⟩) fun D S' H' w nD sD ⟨us,hD,rr⟩=>p1 (.ref D) S' H' w ⟨D,us,rfl,nD,sD,hD,rr⟩
       obtain⟨u,hu,ru⟩:=hr.get hx
       refine⟨⟨vs,u,aH.seq g hq,hu⟩,?_⟩
       rintro v' H2 ⟨rfl,hv⟩
       have:=hv vs (aH.seq g hq);rw[hu]at this;cases this
       exact⟨rfl,ru⟩
     . exact p1.elim
 |_=>rw[e]at p1;exact p1.elim
theorem BQ{ma ms:ah->OE}(ha:JE K cls W ta ma)(hs:JE K cls W ts ms):JE K cls W (Fm K ta ts) (zF ma ms):=by
 intro Av G S₀ ρ σ S H Q I p
 refine ha.go I p fun a v S1 H1 I1 w1 r1 p1=>hs.go I1 p1 fun k u S2 H2 I2 w2 r2 p2=>?_
 have ra:=(r1.rd I1.sh).mono w2.s w2.g;have rk:=r2.rd I2.sh;split at p2
 . rename_i xs n ea ek;split at p2
   . rename_i hn;rw[ea]at ra;rw[ek]at rk;obtain⟨q,vs,rfl,hq,hr⟩:=gz ra
     refine⟨by rw[cV rk,hn],q,vs,rfl,hq,fun l hl=>?_⟩
     refine p2 _ S2 _ (bc.heap I2.sh hl) ⟨l,_,rfl,hl,I2.sh.free hl,bw,?_⟩;clear ea p2 hq ra
     induction xs generalizing vs with
     |nil=>rw[hr.nil_inv];exact .nil
     | cons x xs ih=>
       obtain⟨y,t,rfl,h1,h2⟩:=hr.cons_inv;rw[List.reverse_cons,List.reverse_cons]
       exact(ih _ h2).append (.cons h1 .nil)
   . exact p2.elim
 . exact p2.elim
end
end L2.P
namespace L2.E
open PySem PySem.Spec PyProof.Rows L2
theorem zB{X:Cx}{cl:List (Str×Addr)}(S:j7 X scope cl M ι x)(hc:X.calm=true)(hi:QI X (.Name x px) iter wi)(hcd:∀ C s₀ H₀ ex,QT (blk X scope cl (M++[x]) C s₀ H₀ ex) c tc)(he:∀ C s₀ H₀ ex,QE (blk X scope cl (M++[x]) C s₀ H₀ ex) elt te)
  (hs:∀ v,foldedSetIterable iter X.env v=pure v:=by intro _;rfl):QE X (.ListComp elt [⟨.Name x px,iter,[c],0⟩] scope pos) (nz wi ι tc te):=⟨zG S hc hi.out (fun a b c d=>(hcd a b c d).out) (fun a b c d=>(he a b c d).out) hs⟩
theorem B4{X:Cx}{e st:Expr}{te ts:TE}{pos p2:Pos}(he:QE X e te)(hk:QE X st ts):QE X (.Subscript e (.Slice none none (some st) p2) pos) (Fm X.K te ts):=⟨GK he.out hk.out⟩
theorem yi{X:Cx}{cl:List (Str×Addr)}{py spos:Pos}(hN:X.N.Nodup)(hiy:X.N[i]?=some y)(hy:Loc X.env.scope y)(S:j7 X scope cl M ι x)(hc:X.calm=true)(hi:QI X (.Name x px) iter wi)(he:∀ C s₀ H₀ ex,QE (blk X scope cl (M++[x]) C s₀ H₀ ex) elt te)
  (hsw:swapsWith (.ListComp elt [⟨.Name x px,iter,[],0⟩] scope pos) (some (.Name y py)) spos.line X.env=pure true:=by rfl) (hf:X.fn y=true \/ X.env.scope.names.lookup y=some .local:=by first|exact .inl rfl|exact .inr rfl|assumption)
  (hs:∀ v,foldedSetIterable iter X.env v=pure v:=by intro _;rfl):QS X (.Assign [.Name y py] (.ListComp elt [⟨.Name x px,iter,[],0⟩] scope pos) spos) (sN (pZ wi ι te) (jb i)):=⟨Cs S hc hi.out (fun a b c d=>(he a b c d).out) hN hiy hy hsw hf hs⟩
theorem zQ{X:Cx}{cl:List (Str×Addr)}{py spos:Pos}(hN:X.N.Nodup)(hiy:X.N[i]?=some y)(hy:Loc X.env.scope y)(S:j7 X scope cl M ι x)(hc:X.calm=true)(hi:QI X (.Name x px) iter wi)(hcd:∀ C s₀ H₀ ex,QT (blk X scope cl (M++[x]) C s₀ H₀ ex) c tc)(he:∀ C s₀ H₀ ex,QE (blk X scope cl (M++[x]) C s₀ H₀ ex) elt te)
  (hsw:swapsWith (.ListComp elt [⟨.Name x px,iter,[c],0⟩] scope pos) (some (.Name y py)) spos.line X.env=pure true:=by rfl) (hf:X.fn y=true \/ X.env.scope.names.lookup y=some .local:=by first|exact .inl rfl|exact .inr rfl|assumption)
  (hs:∀ v,foldedSetIterable iter X.env v=pure v:=by intro _;rfl):QS X (.Assign [.Name y py] (.ListComp elt [⟨.Name x px,iter,[c],0⟩] scope pos) spos) (sN (nz wi ι tc te) (jb i)):=⟨An S hc hi.out (fun a b c d=>(hcd a b c d).out) (fun a b c d=>(he a b c d).out) hN hiy hy hsw hf hs⟩
noncomputable def Hw(p:Int×V)(e:DictEntry):Prop:=e.hash=hashInt p.1 /\ (∃ t,e.key=.int p.1 t) /\ RelV p.2 e.val
noncomputable def DKI(K:PySem.W.Frag)(d:Addr)(kvs:List (Int×V)):Prop:=(d==sysModules)=false /\ (kvs.map (·.1)).Nodup /\ ∃(es:List DictEntry) (ep:Nat),K.lookup d=some ⟨.type "dict",none,.dict es.toArray ep,#[]⟩ /\ Paired Hw kvs es
theorem vD{prog:Program}{w:World}:∀{kvs:List (Int×V)} {es:List DictEntry},Paired Hw kvs es ->
  ∃ us:List (Int×Value),us.map (·.1)=kvs.map (·.1) /\ Pairs (intKind prog w) es us /\ (∀ e∈es,∃ k,(intKind prog w).is k e.key=true /\ e.hash=(intKind prog w).hash k) /\
    ∀ n,match kvs.lookup n with
      |some v=>∃ u,valueAt us n=some u /\ RelV v u
      |none=>valueAt us n=none
 |_,_,.nil=>⟨[],rfl,.nil,fun e he=>(nomatch he),fun n=>rfl⟩
 | (n,v) ::kvs,e ::es,.cons h t=>by
   obtain⟨us,h1,h2,h3,h4⟩:=vD (prog:=prog) (w:=w) t;obtain⟨k1,⟨tk,k2⟩,k3⟩:=h
   have hk:(intKind prog w).is n e.key=true:=by rw[k2];show Value.isInt n (.int n tk)=true;simp[Value.isInt]
   refine⟨(n,e.val) ::us,by simp[h1],.cons hk rfl h2,fun e' he'=>?_,fun m=>?_⟩
   . rcases List.mem_cons.mp he' with z|z
     . subst z;exact⟨n,hk,k1⟩
     . exact h3 e' z
   . have:=h4 m
     by_cases hm:m=n
     . subst hm;simp[List.lookup,valueAt];exact k3
     . have hb:(m==n)=false:=by simpa using hm
       have hn:¬ n=m:=fun z=>hm z.symm
       simp only[List.lookup,hb]
       unfold valueAt at this ⊢
       simp only[List.find?_cons,hn,decide_false];exact this
theorem DKI.at{X:Cx}{pins:List (Addr×Obj)}{σ:St}{H:Hp}{s:Shared}{d:Addr}{kvs:List (Int×V)}(D:DKI X.K d kvs)(I:Inv X pins σ H s):
  ∃ us:List (Int × Value),s.heap.DictOf (intKind X.prog X.w) d us /\ ∀ n,match kvs.lookup n with
     |some v=>∃ u,valueAt us n=some u /\ RelV v u
     |none=>valueAt us n=none:=by
 obtain⟨_,nd,es,ep,hk,pr⟩:=D;obtain⟨us,h1,h2,h3,h4⟩:=vD (prog:=X.prog) (w:=X.w) pr
 exact⟨us,⟨_,es.toArray,ep,I.kIn d _ hk,⟨rfl,rfl,rfl⟩,rfl,fun e he=>h3 e (by simpa using he),by simpa using h2,by rw[h1];exact nd⟩,h4⟩
section
variable{X:Cx}
noncomputable def Bv(K:PySem.W.Frag)(td te:TE):TE:=fun σ H Q=>td σ H fun x H1=>∃ d kvs,x=.ref d /\ DKI K d kvs /\ te σ H1 fun y H2=>∃ n,y=.int n /\ Q ((kvs.lookup n).getD .non) H2
theorem wq{o e:Expr}{td te:TE}{apos cpos:Pos}(ho:QE X o td)(he:QE X e te)(hbase:attributeBase o "get" X.env (eval o X.env)=eval o X.env:=by rfl)
  (few:((backTo cpos (starEach [e] X.env)).all (fun x=>!x.1)&&(backToKw cpos (keywordEach [] X.env)).all (fun x=>x.1.isSome)&&decide (([e]:List Expr).length+([]:List Keyword).length+(if([]:List Keyword).isEmpty then 0 else 1)<30))=true:=by rfl)
  (line:(apos.endLine==cpos.line)=true:=by rfl) (trees:backTo cpos (starEach [e] X.env)=[(false,eval e X.env)]:=by rfl):QE X (.Call (.Attribute o "get" apos) [e] [] cpos) (Bv X.K td te):=⟨by
 intro pins s σ H Q I h;refine wpAny_Call_method hbase few line PySem.F.plainAttrs_dict PySem.F.slot_dict_get PySem.F.type_dict_get (thn (ho.out pins s σ H _ I h) fun u s1 ⟨x,H1,I1,rx,d,kvs,ex,D,q1⟩=>?_);subst ex
 obtain rfl:u=Value.ref d:=rx
 obtain⟨us,dd,hv⟩:=D.at I1;obtain⟨_,nd,es,ep,hk,pr⟩:=id D
 refine⟨dd.typeIs,fun b hb=>by cases hb;exact⟨_,I1.kIn d _ hk,rfl⟩,?_⟩
 rw[trees];refine Calls.callWith_builtin rfl (Calls.evalArgs_plain (Calls.spliced_cons (thn (he.out pins s1 σ H1 _ I1 q1) fun iv s2 ⟨y,H2,I2,ry,n,ey,q2⟩=>Calls.spliced_nil ?_)));subst ey;obtain⟨t,rfl⟩:=ry;obtain⟨us2,dd2,hv2⟩:=D.at I2;refine call_meetsIn PySem.F.slot_dict_get dd2.typeIs PySem.F.entry_dict_get (PySem.F.args_dict_get_2 _ _) (meets_dict_get (intKind X.prog X.w) d (k:=n) (key:=.int n t) (by show Value.isInt n (.int n t)=true;simp[Value.isInt]) D.1) ⟨_,dd2.mapOf,⟨_,H2,I2.tok _,?_,q2⟩⟩;have h2:=hv2 n
 cases q:kvs.lookup n with
 |none=>rw[q]at h2;rw[h2];rfl
 |some v=>rw[q]at h2;obtain⟨u,e,r⟩:=h2;rw[e];exact r⟩
end
end L2.E
namespace L2.P
open PySem PySem.Spec PyProof.Rows L2 L2.E
section
variable{K:PySem.W.Frag}{cls:String->Option Addr}{W:XW}{Av G S₀ S S' H H' B B':Hp}{ρ:ah}{σ:St}{Q:VK}
noncomputable def DKP(K:PySem.W.Frag)(d:Addr)(kvs:List (Int×PV)):Prop:=∃ us,DKI K d us /\ Paired (fun (p:Int×PV) (q:Int×V)=>p.1=q.1 /\ ∀ S,Rep K S p.2 q.2) kvs us
theorem DKP.look{d:Addr}:∀{kvs:List (Int×PV)} {us:List (Int×V)},Paired (fun (p:Int×PV) (q:Int×V)=>p.1=q.1 /\ ∀ S,Rep K S p.2 q.2) kvs us->∀ n,match kvs.lookup n with
  |some x=>∃ v,us.lookup n=some v /\ ∀ S,Rep K S x v
  |none=>us.lookup n=none
 |_,_,.nil,n=>rfl
 | (k,x) ::kvs,(k',v) ::us,.cons h t,n=>by
   obtain⟨rfl,hr⟩:=h;have:=DKP.look (d:=d) t n
   by_cases hm:n=k
   . subst hm;simp[List.lookup];exact hr
   . have hb:(n==k)=false:=by simpa using hm
     simp only[List.lookup,hb];exact this
theorem vG{d:Addr}{kvs:List (Int×PV)}{ta:TE}{ma:ah->OE}(D:DKP K d kvs)(ha:JE K cls W ta ma):JE K cls W (Bv K (tC (.ref d)) ta) (mUn (fQ kvs) ma):=by
 intro Av G S₀ ρ σ S H Q I p;obtain⟨us,D1,pr⟩:=D
 refine⟨d,us,rfl,D1,?_⟩
 refine ha.go I p fun a v S1 H1 I1 w1 r1 p1=>?_
 have ra:=r1.rd I1.sh
 cases e:a.pv with
 | int n=>
   rw[e]at p1 ra;have:=DKP.look (d:=d) pr n;simp only[fQ,oE]at p1
   refine⟨n,cV ra,?_⟩
   cases q:kvs.lookup n with
   | none=>
     rw[q]at p1 this;rw[this];exact p1 _ S1 H1 (bc.refl I1.sh) (by show Rep K S1 _ _;unfold Rep;rfl)
   | some x=>
     rw[q]at p1 this;obtain⟨u,eu,hr⟩:=this;rw[eu];exact p1 _ S1 H1 (bc.refl I1.sh) (hr S1)
 |_=>rw[e]at p1;exact p1.elim
end
end L2.P
namespace L2.E
open PySem PySem.Spec PyProof.Rows L2
end L2.E
namespace L2.P
open PySem PySem.Spec PyProof.Rows L2 L2.E
end L2.P
namespace L2.P
open PySem
end L2.P
namespace L2.P
open PySem PySem.Spec PyProof.Rows L2 L2.E
end L2.P
namespace L2.P
open PySem
noncomputable def u0(x:Str):List PV:=x.cps.toList.map fun c=>.str ⟨#[c]⟩
noncomputable def m4(ml:ah->OE)(ι:List Nat)(me:ah->OE):ah->OE:=fun ρ=>(ml ρ).bind fun r=>match r.pv with
 |.str x=>noX (dg me (cQ ι ρ) (u0 x))
 |_=>.bad
@[simp] theorem A7(ml:ah->OE)(ι:List Nat)(me:ah->OE)(ρ:ah):m4 ml ι me ρ=((ml ρ).bind fun r=>match r.pv with
  |.str x=>noX (dg me (cQ ι ρ) (u0 x))
  |_=>.bad):=rfl
noncomputable def BJ:PV->Option RV
 |.str x=>if x.length=1 then some (.sh (.int (x.cps.getD 0 0:Nat)))else none
 |_=>none
noncomputable def nk:PV->Option RV
 |.int i=>if i.natAbs.log2<1920 then some (.sh (.str (toString i)))else none
 |_=>none
end L2.P
namespace L2
open PySem PySem.Spec PyProof.Rows
noncomputable def Its(x:Str):It:=⟨fun i _=>i<x.cps.size,fun i H v H'=>H'=H /\ ∃ c,x.cps[i]?=some c /\ v=.str ⟨#[c]⟩,fun i _=>x.cps.size<=i⟩
theorem wC{P:Program}{w:World}{K:PySem.W.Frag}{tg:Expr}{it:Addr}{x:Str}{t:Tok}{n:String}(hn:["enumerate","zip","dict_itemiterator","dict_reverseitemiterator","odict_iterator","itertools.zip_longest","itertools.pairwise"].contains n=false)
  (W:∀ A:Around,A.handled=none->Walks P w A it [it] [it] x.cps.size (SignAt x) (fun i h=>h.IsStrIter it n x t i))
  (De:∀(A:Around) (s:Shared) (i:Nat) (Q:Option Value->Shared->Prop) (E:Value->Shared->Prop),A.handled=none->s.heap.IsStrIter it n x t i->x.cps[i]?=none->(∀ h',Heap.ExtBut it s.heap h'->Q none { s with heap:=h' })->wpAny (model P w) A (pyNext (.ref it)) Q E s)
  (Se:∀(A:Around) (i:Nat) (s:Shared) (Q:Value->Shared->Prop) (E:Value->Shared->Prop),s.heap.IsStrIter it n x t i->Q (.ref it) s->wpAny (model P w) A (pyIter (.ref it)) Q E s):Turn P w K tg (Its x) [it] it (fun i h=>h.IsStrIter it n x t i) where
 mem:=by simp
 obj:=fun i h st b hb=>by
  have e:b=it:=by simpa using hb
  subst e;obtain⟨o,e,c,d⟩:=st
  exact⟨o,e,fun v z=>by rw[d]at z;cases z⟩
 keep:=fun i h h' st k=>let ⟨o,e,r⟩:=st;⟨o,k it (by simp) o e,r⟩
 item:=by
  intro X hP hw hK hc i pins s σ H E I hf st hg;subst hP hw hK;obtain⟨f0,f1,f2,f3,f4,f5⟩:=hf it (by simp)
  refine(W X.A (I.ok.hd hc)).item i s _ _ hg st fun v h' tk hv st' kk=>?_
  obtain⟨c,u,hc1,rfl⟩:=hv
  have I1:Inv X pins σ H { s with heap:=h',toks:=tk }:=I.turned (fun b o hb e=>kk b o (by simpa using hb) e) f0 f1 f3 f4 f5
  obtain⟨o,e,cc,d⟩:=id st'
  exact⟨_,rfl,yt (s:={ s with heap:=h',toks:=tk }) e cc d hn ⟨.str ⟨#[c]⟩,H,I1,⟨u,rfl⟩,⟨rfl,c,hc1,rfl⟩,st',fun b hb=>(hf b hb).1⟩⟩
 done:=by
  intro X hP hw hK hc i pins s σ H E I hf st hg;subst hP hw hK;obtain⟨f0,f1,f2,f3,f4,f5⟩:=hf it (by simp)
  have hg':x.cps.size<=i:=hg
  exact De X.A s i _ _ (I.ok.hd hc) st (by simp;omega) fun h' eb=>⟨rfl,I.turned (t':=s.toks) (fun b o hb e=>eb b o hb e) f0 f1 f3 f4 f5⟩
 self:=fun A i s Q E st h=>Se A i s Q E st h
noncomputable def GU(tl:TE):TI:=fun σ H R=>tl σ H fun v H1=>∃ x,v=.str x /\ R (Its x) H1
theorem Fj{X:Cx}{tg:Expr}{l:Expr}{tl:TE}(hl:PE X l tl):PI X tg l (GU tl):=by
 intro pins s σ H R I h
 refine thn (hl pins s σ H _ I h) fun v s1 ⟨y,H1,I1,r1,q1⟩=>?_
 obtain⟨x,e,q⟩:=q1;subst e;obtain⟨t,rfl⟩:=r1
 have hf:∀ b∈[s1.heap.objs.size],kI X pins H1 b:=fun b hb=>by
  have e:b=s1.heap.objs.size:=by simpa using hb
  subst e;exact I1.wX (Nat.le_refl _) (I1.hok.fresh (Nat.le_refl _))
 cases ha:x.cps.all (·<128)with
 | false=>
   exact wpAny_pyIter_wide ha ⟨s1.heap.objs.size,[s1.heap.objs.size],_,_,H1,rfl,I1.kept (t':=s1.toks) fun b o e=>Heap.get?_push_of_some _ e,
    wC (n:="str_iterator") (x:=x) (t:=t) (by decide) (fun A' hA=>Walks.strWide hA _ x t) (fun A s i Q E hA st hx hQ=>wpAny_pyNext_wide_end hA st hx hQ) (fun A i s Q E st h=>wpAny_pyIter_striter_wide st h),⟨_,Heap.get?_push_size _ rfl,rfl,rfl⟩,hf,q⟩
 | true=>
   exact wpAny_pyIter_ascii ha ⟨s1.heap.objs.size,[s1.heap.objs.size],_,_,H1,rfl,I1.kept (t':=s1.toks) fun b o e=>Heap.get?_push_of_some _ e,
    wC (n:="str_ascii_iterator") (x:=x) (t:=t) (by decide) (fun A' hA=>Walks.strAscii hA _ x t) (fun A s i Q E hA st hx hQ=>wpAny_pyNext_ascii_end hA st hx hQ) (fun A i s Q E st h=>wpAny_pyIter_striter_ascii st h),⟨_,Heap.get?_push_size _ rfl,rfl,rfl⟩,hf,q⟩
end L2
theorem L2.E.boot_ord:PySem.bootBuiltins "ord" = some (.builtin "ord"):=by decide +kernel
namespace L2.P
open PySem PySem.Spec PyProof.Rows L2 L2.E
theorem AR{X:L2.Cx}{tg l:Expr}{tl:TE}(h:QE X l tl):QI X tg l (GU tl):=⟨Fj h.out⟩
section
variable{K:PySem.W.Frag}{cls:String->Option Addr}{W:XW}{Av G S₀ S S' H H' B B':Hp}{ρ:ah}{σ:St}{Q:VK}{F:Nat->List Addr}
theorem vo{tl te:TE}{ml me:ah->OE}{ι:List Nat}(hι:ι.Nodup)(hl:JE K cls W tl ml)(he:JE K cls (fun _ _ _ _=>False) te me):JE K cls W (pZ (GU tl) ι te) (m4 ml ι me):=by
 intro Av G S₀ ρ σ S H Q I p
 refine hl.go I p fun r v S1 H1 I1 w1 r1 p1=>?_
 have ra:=r1.rd I1.sh
 cases e:r.pv with
 | str x=>
   rw[e]at p1 ra;have hv:=iy ra;subst hv
   refine⟨x,rfl,?_⟩
   dsimp only at p1
   cases em:dg me (cQ ι ρ) (u0 x)with
   |exc c fs=>rw[em]at p1;exact p1.elim
   |bad=>rw[em]at p1;exact p1.elim
   | ok ys=>
     rw[em]at p1;simp only[noX]at p1;split at p1
     . rename_i hlen
       have hcl:(u0 x).length=x.cps.size:=by simp[u0]
       refine nu hι he I1 em hlen (fun k H' y g hx=>?_) (fun H' g=>by show x.cps.size<=(u0 x).length;rw[hcl];exact Nat.le_refl _) fun D S' H' w nD sD ⟨us,hD,rr⟩=>p1 (.ref D) S' H' w ⟨D,us,rfl,nD,sD,hD,rr⟩
       have hk:k<x.cps.size:=by rw[<- hcl];exact(List.getElem?_eq_some_iff.mp hx).1
       refine⟨hk,?_⟩
       rintro v' H2 ⟨rfl,c,hc,rfl⟩
       refine⟨rfl,?_⟩
       have hy:y=.str ⟨#[c]⟩:=by
        unfold u0 at hx;rw[List.getElem?_map]at hx
        have:x.cps.toList[k]?=some c:=by simpa using hc
        rw[this]at hx
        exact(Option.some.inj hx).symm
       subst hy;unfold Rep;rfl
     . exact p1.elim
 |_=>rw[e]at p1;exact p1.elim
theorem GR:JU K (fun xs H Q=>∃ x,xs=[.str x] /\ x.length=1 /\ Q (.int (x.cps.getD 0 0:Nat)) H) BJ:=by
 intro S H x v rr Q I hx e k
 cases x with
 | str x=>
   by_cases hl:x.length=1
   . have e':BJ (.str x)=some (.sh (.int (x.cps.getD 0 0:Nat))):=if_pos hl
     rw[e']at e;cases e
     exact⟨x,by rw[iy hx],hl,k _ S H (bc.refl I) (by show Rep K S _ _;unfold Rep;rfl)⟩
   . have e':BJ (.str x)=none:=if_neg hl
     rw[e']at e;cases e
 |_=>cases e
theorem Cj:JU K (fun xs H Q=>∃ i:Int,xs=[.int i] /\ i.natAbs.log2<1920 /\ Q (.str (toString i)) H) nk:=by
 intro S H x v rr Q I hx e k
 cases x with
 | int i=>
   by_cases hl:i.natAbs.log2<1920
   . have e':nk (.int i)=some (.sh (.str (toString i))):=if_pos hl
     rw[e']at e;cases e
     exact⟨i,by rw[cV hx],hl,k _ S H (bc.refl I) (by show Rep K S _ _;unfold Rep;rfl)⟩
   . have e':nk (.int i)=none:=if_neg hl
     rw[e']at e;cases e
 |_=>cases e
end
end L2.P
namespace HT
open PySem PyProof.Rows
end HT
namespace L2
open PySem PySem.Spec PyProof.Rows
end L2
namespace L2.P
open PySem PySem.Spec PyProof.Rows L2 L2.E
end L2.P
namespace HT
open PySem PyProof.Rows
open AutoSeq1 (wpAny_loadPart')
end HT
namespace L2
open PySem PySem.Spec PyProof.Rows
end L2
namespace L2.P
open PySem PySem.Spec PyProof.Rows L2 L2.E
end L2.P
namespace L2.P
open PySem
noncomputable def kX(kvs:List (Int×PV))(a b:RV):OE:=match a.pv,b with
 |.int n,.sh d=>.ok (.sh ((kvs.lookup n).getD d))
 |_,_=>.bad
noncomputable def uH(kvs:List (Int×PV))(ma mb:ah->OE):ah->OE:=fun ρ=>(ma ρ).bind fun a=>(mb ρ).bind fun b=>kX kvs a b
@[simp] theorem G7(kvs:List (Int×PV))(ma mb:ah->OE)(ρ:ah):uH kvs ma mb ρ=(ma ρ).bind fun a=>(mb ρ).bind fun b=>kX kvs a b:=rfl
noncomputable def Gf(kvs:List (Int×Int)):ah->OD:=fun _=>.ok (.di (kvs.map fun p=>(p.1,.int p.2)))
noncomputable def vV(neg:Bool)(me:ah->OE)(i:Nat)(mp:MP):ah->OE:=fun ρ=>(me ρ).bind fun r=>match r.pv with
 | .int n=>(match subAt i mp ρ with
   |some (.di kvs)=>.ok (.sh (.bl (if neg then !(kvs.lookup n).isSome else(kvs.lookup n).isSome)))
   |_=>.bad)
 |_=>.bad
noncomputable def za(i:Nat)(mp:MP)(me:ah->OE):ah->OE:=fun ρ=>match subAt i mp ρ with
 | some (.di kvs)=>(me ρ).bind fun r=>(match r.pv with
   |.int n=>oE ((kvs.lookup n).map .sh)
   |_=>.bad)
 |_=>.bad
noncomputable def BP:ah->OS:=fun _=>.bad
noncomputable def yq:PV->Option RV
 | .str x=>(match x.cps.toList with
   |[c]=>if 48<=c /\ c<=57 then some (.sh (.int ((c:Int) - 48)))else none
   |_=>none)
 |_=>none
noncomputable def mJ(i:Nat)(mp:MP)(me:ah->OE):ah->OS:=fun ρ=>wQ i mp ρ fun u put=>match u with
 | .ol ts=>(me ρ).cD ρ fun r=>(match r with
   |.fr ys=>if ts.length+ys.length<=lim then .nx (put (.ol (ts++ys.map .sh)))else .bad
   |.sh (.lst ys)=>if ts.length+ys.length<=lim then .nx (put (.ol (ts++ys.map .sh)))else .bad
   |_=>.bad)
 |_=>.bad
end L2.P
namespace L2
open PySem PySem.Spec PyProof.Rows
end L2
namespace L2.E
open PySem PySem.Spec PyProof.Rows L2
section
variable{X:Cx}
noncomputable def Ez:TS:=fun _ _ _=>False
theorem DK{e:Stmt}:QS X e Ez:=⟨fun _ _ _ _ _ _ h=>h.elim⟩
end
end L2.E
namespace L2.P
open PySem PySem.Spec PyProof.Rows L2 L2.E
section
variable{K:PySem.W.Frag}{cls:String->Option Addr}{W:XW}{S:Hp}
theorem Dy:JS K cls W Ez BP:=fun _ _ _ _ _ _ _ _ _ p=>p
end
end L2.P
namespace L2.E
open PySem PySem.Spec PyProof.Rows L2
section
variable{X:Cx}{o i:Expr}{td ty:TE}{pos:Pos}
theorem F8(hu:X.A.units+1<cLine)(hi:QE X i ty)(ho:QE X o td)(h1:behindInMarks .In o=false:=by first|exact vL _ (by decide) (by decide)|rfl):QT X (.Compare i [.In] [o] pos) (tB (Ga ty td)):=⟨Fl (E1 hu hi.out ho.out) h1⟩
theorem C4(hu:X.A.units+1<cLine)(ho:QE X o td)(hi:QE X i ty)(hs:E7 i):QE X (.Subscript o i pos) (BW td ty):=⟨DP hu ho.out hi.out hs⟩
structure QPs(X:Cx)(pos:Pos)(keys:List (Option Expr))(values:List Expr)(trs:List (TE×TE)):Prop where
 out:PPs X pos keys values trs
theorem yG:QPs X pos [] [] []:=⟨Cz⟩
theorem gF{ks:List (Option Expr)}{trs:List (TE×TE)}(hk:QE X k tk)(hv:QE X v tv)(hr:QPs X pos ks vs trs):QPs X pos (some k ::ks) (v ::vs) ((tk,tv) ::trs):=⟨AL hk.out hv.out hr.out⟩
theorem yA{keys:List (Option Expr)}{values:List Expr}{trs:List (TE×TE)}(h:QPs X pos keys values trs)(hall:keys.all (·.isSome)=true:=by rfl)(hl:keys.length=values.length:=by rfl)(h0:keys≠[]:=by intro z;cases z)(h15:keys.length<=15:=by decide):QE X (.Dict keys values pos) (yE trs):=⟨Dt h.out hall hl h0 h15⟩
end
end L2.E
namespace L2.P
open PySem PySem.Spec PyProof.Rows L2 L2.E
section
variable{K:PySem.W.Frag}{cls:String->Option Addr}{W:XW}{S H:Hp}
theorem pU(kvs:List (Int×Int))(σ:St):∀(H:Hp) (R:List (V×V)->Hp->Prop),R (kvs.map fun p=>(.int p.1,.int p.2)) H->uA (kvs.map fun p=>(tC (.int p.1),tC (.int p.2))) σ H R:=by
 induction kvs with
 |nil=>intro H R h;exact h
 |cons p kvs ih=>intro H R h;exact ih H _ h
theorem tO(more:List (Key×V)):∀ kvs:List (Key×V),((kvs++more).map (·.1)).Nodup->mQ kvs more=kvs++more:=by
 induction more with
 |nil=>intro kvs _;simp[mQ]
 | cons p more ih=>
   intro kvs h
   have hn:ku kvs p.1=none:=by
    unfold ku;rw[Option.map_eq_none_iff,List.find?_eq_none];intro q hq e
    have e':q.1=p.1:=of_decide_eq_true e
    rw[List.map_append,List.nodup_append]at h;exact h.2.2 q.1 (List.mem_map_of_mem hq) p.1 (by simp) e'
   show mQ (putK kvs p.1 p.2) more=_;rw[Bp _ hn,ih _ (by simpa using h)];simp
theorem GS{kvs:List (Int×Int)}(nd:(kvs.map (·.1)).Nodup)(h15:kvs.length<=15):JD K cls W (yE (kvs.map fun p=>(tC (.int p.1),tC (.int p.2)))) (Gf kvs):=by
 intro Av G S₀ ρ σ S H Q I p;intro q hq;refine pU kvs σ _ _ ⟨bw,kvs.map fun p=>(Sum.inl p.1,V.int p.2),by simp[kV],by simpa using h15,?_⟩
 rw[yc,tO _ [] (by
  rw[List.nil_append,List.map_map]
  have:((fun x:Key×V=>x.1) ∘ fun p:Int×Int=>((Sum.inl p.1:Key),V.int p.2))=(fun k:Int=>(Sum.inl k:Key)) ∘ fun p:Int×Int=>p.1:=rfl
  rw[this,<- List.map_map]
  exact List.pairwise_map.mpr (List.Pairwise.imp (fun h z=>h (Sum.inl.inj z)) nd)),List.nil_append]
 refine p (.ref q) S _ (bc.heap I.sh hq) ⟨[q],?_,by simp,fun a ha=>?_⟩
 . unfold bu
   refine⟨q,_,rfl,bw,rfl,?_⟩
   clear nd h15 p
   induction kvs with
   |nil=>exact .nil
   |cons x kvs ih=>exact .cons ⟨rfl,by unfold Rep;rfl⟩ ih
 . have z:a=q:=by simpa using ha
   subst z
   exact⟨hq,I.sh.free hq⟩
theorem sI.look{kvs:List (Int×PV)}{us:List (Key×V)}(h:sI K S kvs us)(n:Int):match kvs.lookup n with
  |some x=>∃ v,ku us (Sum.inl n:Key)=some v /\ Rep K S x v
  |none=>ku us (Sum.inl n:Key)=none:=by
 induction h with
 |nil=>rfl
 | @cons p q ps qs h t ih=>
   obtain⟨h1,h2⟩:=h;obtain⟨k,x⟩:=p;obtain⟨k',v⟩:=q
   dsimp only at h1 h2
   subst h1
   by_cases hm:n=k
   . subst hm;simp[List.lookup,ku];exact h2
   . have hb:(n==k)=false:=by simpa using hm
     have hd:decide ((Sum.inl k:Key)=Sum.inl n)=false:=decide_eq_false fun z=>hm (Sum.inl.inj z).symm
     simp only[List.lookup,hb]
     have e:ku ((Sum.inl k,v) ::qs) (Sum.inl n:Key)=ku qs (Sum.inl n):=by
      unfold ku;rw[List.find?_cons,hd]
     rw[e];exact ih
theorem sI.Dq{kvs:List (Int×PV)}{us:List (Key×V)}(h:sI K S kvs us)(n:Int):(ku us (Sum.inl n:Key)).isSome=(kvs.lookup n).isSome:=by
 have:=h.look n
 cases q:kvs.lookup n with
 |none=>rw[q]at this;rw[this];rfl
 |some x=>rw[q]at this;obtain⟨v,e,_⟩:=this;rw[e];rfl
theorem DN{ma:ah->OE}(ha:JE K cls W ta ma)(hp:JP K cls td i mp):JE K cls W (Ga ta td) (vV false ma i mp):=by
 intro Av G S₀ ρ σ S H Q I p
 refine ha.go I p fun a v S1 H1 I1 w1 r1 p1=>?_
 have ra:=r1.rd I1.sh
 cases e:a.pv with
 | int n=>
   rw[e]at p1 ra
   dsimp only at p1
   split at p1
   . rename_i kvs es
     refine hp.sub I1 es fun w S2 H2 f w2 _ r=>?_
     unfold bu at r;obtain⟨q,us,rfl,hq,_,hd⟩:=r;have hv:=cV ra;subst hv
     refine⟨q,_,rfl,qo.k (k:=Sum.inl n) hq,?_⟩
     rw[hd.Dq n];exact p1 _ S2 H2 w2 kz
   . exact p1.elim
 |_=>rw[e]at p1;exact p1.elim
theorem Dc{ma:ah->OE}(hp:JP K cls td i mp)(ha:JE K cls W ta ma):JE K cls W (BW td ta) (za i mp ma):=by
 intro Av G S₀ ρ σ S H Q I p;unfold za at p;split at p
 . rename_i kvs es
   refine hp.sub I es fun w S2 H2 f w2 I2 r=>?_
   refine ha.go I2 (p.back w2) fun a v S1 H1 I1 w1 r1 p1=>?_
   have ra:=r1.rd I1.sh
   have r':=r.mono w1.s fun a _ o z=>w1.g _ _ z
   unfold bu at r';obtain⟨q,us,rfl,hq,_,hd⟩:=r'
   cases e:a.pv with
   | int n=>
     rw[e]at p1 ra
     dsimp only at p1
     have hv:=cV ra;subst hv;have hl:=hd.look n
     cases el:kvs.lookup n with
     |none=>rw[el]at p1;exact p1.elim
     | some x=>
       rw[el]at p1 hl;obtain⟨u,eu,ru⟩:=hl
       refine⟨q,u,rfl,by have:=qo.k (k:=(Sum.inl n:Key)) hq;rw[eu]at this;exact this,p1 u S1 H1 (bc.refl I1.sh) ru⟩
   |_=>rw[e]at p1;exact p1.elim
 . exact p.elim
end
end L2.P
namespace L2.E
open PySem PySem.Spec PyProof.Rows L2
end L2.E
namespace L2.P
open PySem PySem.Spec PyProof.Rows L2 L2.E
end L2.P
namespace L2.E
open PySem PySem.Spec PyProof.Rows L2
theorem Ae{X:Cx}:my X (.type "int") (fun xs H Q=>∃ x n,xs=[.str x] /\ PySem.intText? x=some n /\ x.length<=640 /\ Q (.int n) H):=by
 intro pins s σ H xs us Q I r h;obtain⟨x,n,rfl,h1,h2,q⟩:=h;obtain⟨u,rfl,t,rfl⟩:=vals1 r;exact PySem.W.KIN.call_text h1 h2 ⟨.int n,H,I.tok _,⟨_,rfl⟩,q⟩
theorem xI{x:Str}{c:Nat}(h:x.cps.toList=[c])(h1:48<=c)(h2:c<=57):PySem.intText? x=some ((c:Int) - 48) /\ x.length<=640:=by
 have e:x=⟨#[c]⟩:=by
  cases x with
  | mk a=>cases a with
    |mk l=>simp at h;subst h;rfl
 subst e
 refine⟨?_,by show 1<=640;decide⟩
 have hc:c=48 \/ c=49 \/ c=50 \/ c=51 \/ c=52 \/ c=53 \/ c=54 \/ c=55 \/ c=56 \/ c=57:=by omega
 rcases hc with rfl|rfl|rfl|rfl|rfl|rfl|rfl|rfl|rfl|rfl<;>decide +kernel
end L2.E
namespace L2.P
open PySem PySem.Spec PyProof.Rows L2 L2.E
theorem Cu{K:PySem.W.Frag}:JU K (fun xs H Q=>∃ x n,xs=[.str x] /\ PySem.intText? x=some n /\ x.length<=640 /\ Q (.int n) H) yq:=by
 intro S H x v rr Q sh r e k
 cases x with
 | str z=>
   have hv:v=.str z:=by have r':Rep K S (.str z) v:=r;unfold Rep at r';exact r'
   subst hv;unfold yq at e
   dsimp only at e
   split at e
   . rename_i c hc;split at e
     . rename_i h;cases e;obtain⟨h1,h2⟩:=xI hc h.1 h.2
       exact⟨z,_,rfl,h1,h2,k _ S H (bc.refl sh) (by show Rep K S _ _;unfold Rep;rfl)⟩
     . cases e
   . cases e
 |_=>cases e
end L2.P
namespace L2.E
open PySem PySem.Spec PyProof.Rows L2
theorem uw(l:Addr)(items:Array Value)(n:Nat)(b:Addr)(items2:Array Value)(n2:Nat)(dd2:Option Addr)(sl2:Array (Option Value))(hc0:¬(!items.isEmpty&&Builtin.List.listTooLong (items.size+items2.size))=true)(hc1:items.size<=sizeLine)(hs2:items.size+items2.size<=sizeLine+1):
  Meets (Builtin.«list.extend» ⟨[.ref l,.ref b],[]⟩) (fun _ R s=>s.heap.get? l=some { cls:=.type "list",dict:=none,data:=.seq items n,slots:=#[] } /\ s.heap.get? b=some { cls:=.type "list",dict:=dd2,data:=.seq items2 n2,slots:=sl2 } /\ R (.ok (.ret Value.none)) { s with heap:=s.heap.update l (Obj.mapSeq fun x=>x++items2),toks:=s.toks }):=
 .of_wp fun prog w A R s h=>by
  obtain⟨hp,g,d,tk,os⟩:=s;obtain⟨hl,hb,h⟩:=h;have f1:=AutoSeq1.idx_int;have f2:=AutoSeq1.sub_tuple_tuple;have f3:=AutoSeq1.sub_list_list;have f4:=AutoSeq1.sub_tuple_list;have f5:=AutoSeq1.sub_list_tuple
  have hz':(items++items2).size<=sizeLine+1:=by rw[Array.size_append];exact hs2
  wp_walk using (wpAny_updateSeq hl rfl (hz:=hc1) (_hz':=hz')),wpAny_loadPart' hl,wpAny_loadPart' hb;exact⟨_,rfl,h⟩
noncomputable def wH(K:PySem.W.Frag):V->List V->Hp->VK->Prop:=fun x vs H Q=>∃ l b xs zs,x=.ref l /\ vs=[.ref b] /\ H l=some (.lst xs) /\ SqL K H b zs /\ xs.length+zs.length<=sizeLine /\ Q .non (upd H l (.lst (xs++zs)))
theorem xl{X:Cx}:MtM X "list.extend" (wH X.K):=by
 intro pins s σ H x vs v us Q I rx rv h;obtain⟨l,b,xs,zs,rfl,rfl,hH,hB,hz,q⟩:=h;cases rx;obtain⟨u,rfl,ru⟩:=rv.one;cases ru;obtain⟨z,its,n,r,hl,e⟩:=I.Bo hH;obtain⟨its2,r2,pl2,z2⟩:=I.list hB;obtain⟨⟨cls2,dd2,data2,sl2⟩,ho2,hc2,n2,hd2⟩:=pl2.isList;simp only at hc2 hd2;subst hc2 hd2;have hl2:=r2.length
 have hsz:its.toArray.size+its2.toArray.size<=sizeLine:=by rw[List.size_toArray,List.size_toArray];omega
 have hlong:¬ (!its.toArray.isEmpty&&Builtin.List.listTooLong (its.toArray.size+its2.toArray.size))=true:=by
  rw[sy hsz,Bool.and_false];exact Bool.false_ne_true
 refine call_meets F.slot_list_extend ⟨_,e,rfl⟩ F.entry_list_extend (F.args_list_extend_2 _ _)
  (uw l its.toArray n b its2.toArray n2 dd2 sl2 hlong (by rw[List.size_toArray];omega) (by omega)) ⟨e,ho2,?_⟩
 refine⟨.non,_,I.Cq (its':=its++its2) hH e (by simp) (r.append r2) ?_,rfl,q⟩
 rw[List.length_append];omega
end L2.E
namespace L2.P
open PySem PySem.Spec PyProof.Rows L2 L2.E
section
variable{K:PySem.W.Frag}{cls:String->Option Addr}{W:XW}{Av G S₀ S S' H H' B B':Hp}{ρ:ah}{σ:St}{Q:VK}{F:Nat->List Addr}
theorem xp{i:Nat}{te tx:TE}{mp:MP}{me:ah->OE}(hp:JP K cls te i mp)(hx:JE K cls W tx me):JS K cls W (sq (tBM K "list" (wH K) te (iT tx j9))) (mJ i mp me):=by
 intro Av G S₀ ρ σ S H D I p;obtain⟨io,t,π,u,hi,e0,e1,p⟩:=rX p;obtain⟨v0,hv⟩:=I.val hi
 cases u with
 |sh x=>exact p.elim
 |ob c ks us=>exact p.elim
 |di x=>exact p.elim
 |dt x=>exact p.elim
 | ol ts=>
   dsimp only at p
   refine hp.at I hi hv e0 e1 fun w S1 H1 w1 I1 wk=>?_
   have p1:=p.back w1.s;obtain⟨F,J1⟩:=id I1;obtain⟨q,vs,ff,rest,wk',hq,hl,rs,_,nd,c⟩:=J1.uq hi hv e1;have:=wk.inj wk';subst this
   refine⟨.inl ⟨rfl,_,SqL.new hq⟩,?_⟩
   refine hx.goS I1 p1 fun r v S2 H2 I2 w2 r2 p2=>?_
   have ndf:ff.Nodup:=(List.nodup_cons.mp (List.nodup_append.mp nd).1).2
   cases r with
   |al ys=>exact p2.elim
   | sh x=>
     cases x with
     | lst ys=>
       dsimp only at p2
       split at p2
       . rename_i hlt
         have r3:Rep K S2 (.lst ys) v:=r2
         unfold Rep at r3;obtain⟨b,us,rfl,k3,k4⟩:=r3
         refine⟨q,b,vs,us,rfl,rfl,w2.g _ _ hq,aH.seq w2.sh k3,by rw[hl,k4.length];exact hlt,?_⟩
         obtain⟨g,J3,_⟩:=c S2 H2 (ts++ys.map .sh) (vs++us) (ff++[]) w2 ((rs.mono w2.s fun a _ o h=>w2.g _ _ h).append (.shs k4)) (by rw[List.append_nil];exact ndf) fun a ha=>.inl (by simpa using ha)
         exact p2 σ S2 _ ⟨_,J3⟩ (aH.refl _)
       . exact p2.elim
     |_=>exact p2.elim
   | fr ys=>
     dsimp only at p2
     split at p2
     . rename_i hlt;obtain⟨b,us,rfl,k1,k2,k3,k4⟩:=r2
       refine⟨q,b,vs,us,rfl,rfl,w2.g _ _ hq,SqL.new k3,by rw[hl,k4.length];exact hlt,?_⟩
       obtain⟨g,J3,_⟩:=c S2 H2 (ts++ys.map .sh) (vs++us) (ff++[]) w2 ((rs.mono w2.s fun a _ o h=>w2.g _ _ h).append (.shs k4)) (by rw[List.append_nil];exact ndf) fun a ha=>.inl (by simpa using ha)
       exact p2 σ S2 _ ⟨_,J3⟩ (aH.refl _)
     . exact p2.elim
end
end L2.P
namespace L2.E
open PySem PySem.Spec PyProof.Rows L2
theorem eT{N P:List Str}{sc:Scope}(a:sc.kind=.function:=by rfl)(b:sc.isCoroutine=false:=by rfl)(c:sc.isGenerator=false:=by rfl)(d:N.Nodup:=by decide +kernel)(e:N.take P.length=P:=by rfl)
  (f:∀ x∈P,sc.names.lookup x=some .local \/ sc.names.lookup x=some .cell:=by decide +kernel) (g:∀ y∈sc.names,y.2≠.free:=by decide +kernel):aZ N P sc:=⟨a,b,c,d,e,f,g⟩
structure Ent(K:PySem.W.Frag)(mg:Str->Option Value)(x:Str)(st:Stmt)(f:Addr)(d:FuncData)(ps:List Str):Prop where
 F:Fun K x x st f d
 m:mg x=some (.ref f)
 b:Binds K d ps []
structure Fd(K:PySem.W.Frag)(x:Str)(st:Stmt)(f:Addr)(d:FuncData):Prop where
 a:PySem.W.nsIn K mainGlobals x=some (some (.ref f))
 F:Fun K x x st f d
section
variable{K:PySem.W.Frag}{mg:Str->Option Value}{h:Heap}{x:Str}{st:Stmt}{f:Addr}{d:FuncData}
theorem dj{oc:Value}{od an:Option Addr}{osl:Array (Option Value)}{kV doc pm cdv ct:Value}(a:PySem.W.nsIn K mainGlobals x=some (some (.ref f)))
  (l:K.lookup f=some ⟨oc,od,.func (PySem.W.fnOf x x (fh st) (dE st) (aD st) .none kV doc pm an cdv ct),osl⟩) (c:PySem.W.codeIn K cdv x=true) (k:PySem.W.keepIn K (.ref f)=true):
  Fd K x st f (PySem.W.fnOf x x (fh st) (dE st) (aD st) .none kV doc pm an cdv ct):=⟨a,lz l c k⟩
theorem Fd.e{ps:List Str}(H:Fd K x st f d)(X:K.In h)(G:h.Ns mainGlobals mg)
  (hb:∀(kV doc pm:Value) (an:Option Addr) (cdv ct:Value) (us:List Value),us.length=ps.length->bindArgs (PySem.W.fnOf x x (fh st) (dE st) (aD st) .none kV doc pm an cdv ct) ⟨us,[]⟩=pure (ps.zip us)):Ent K mg x st f d ps:=⟨H.F,PySem.W.mg_of X G H.a,H.F.binds hb⟩
theorem Fd.e0(H:Fd K x st f d)(X:K.In h)(G:h.Ns mainGlobals mg)
  (hb:∀(kV doc pm:Value) (an:Option Addr) (cdv ct:Value),bindArgs (PySem.W.fnOf x x (fh st) (dE st) (aD st) .none kV doc pm an cdv ct) ⟨[],[]⟩=pure []:=by intros;rfl):Ent K mg x st f d []:=
 H.e X G fun p q r s t u us hl=>match us,hl with|[],_=>hb p q r s t u
theorem Fd.e1{a:Str}(H:Fd K x st f d)(X:K.In h)(G:h.Ns mainGlobals mg)
  (hb:∀(kV doc pm:Value) (an:Option Addr) (cdv ct i:Value),bindArgs (PySem.W.fnOf x x (fh st) (dE st) (aD st) .none kV doc pm an cdv ct) ⟨[i],[]⟩=pure [(a,i)]:=by intros;rfl):Ent K mg x st f d [a]:=
 H.e X G fun p q r s t u us hl=>match us,hl with|[_],_=>hb p q r s t u _
theorem Fd.e2{a b:Str}(H:Fd K x st f d)(X:K.In h)(G:h.Ns mainGlobals mg)
  (hb:∀(kV doc pm:Value) (an:Option Addr) (cdv ct i j:Value),bindArgs (PySem.W.fnOf x x (fh st) (dE st) (aD st) .none kV doc pm an cdv ct) ⟨[i,j],[]⟩=pure [(a,i),(b,j)]:=by intros;rfl):Ent K mg x st f d [a,b]:=
 H.e X G fun p q r s t u us hl=>match us,hl with|[_,_],_=>hb p q r s t u _ _
end
theorem qz{X:Cx}{pos:Pos}(i:Nat)(h7:X.N.Nodup)(h10:QE X e te)(h8:X.N[i]?=some x:=by rfl)(h9:Loc X.env.scope x:=by first|exact Or.inl rfl|exact Or.inr rfl)
  (h11:autoParam (swapsWith e (some (.Name x pos')) pos.line X.env=pure false) L2.qau._auto_1) (h12:autoParam (X.fn x=true \/ X.env.scope.names.lookup x=some .local) L2.qau._auto_1):QS X (.Assign [.Name x pos'] e pos) (sN te (jb i)):=FD h7 h8 h9 h10 h11 h12
theorem qx{X:Cx}{j k:Nat}{f:Addr}{fd:FuncData}{ps:List Str}{sp:Sp}{W:XW}{x:Str}{st:Stmt}{p pos:Pos}{e:Expr}{es:List Expr}{t:TA}(h15:cw X.prog X.w X.K X.mg X.base (CXE X.prog X.w) j f fd ps sp)(E:Ent X.K X.mg x st f fd ps)(h16:gw k X.A)(h22:Thr X W)(h23:QA X (e ::es) t)
  (hj:j<=k:=by decide) (h17:Gl X x:=by rfl) (h24:autoParam ((x==Str.ofString "__debug__")=false) L2.qau._auto_1) (h25:autoParam (starEach (e ::es) X.env=(false,eval e X.env) ::starEach es X.env) L2.qau._auto_1) (h26:autoParam (((backTo pos (starEach es X.env)).any fun x=>x.1)=false) L2.qau._auto_1):
  QE X (.Call (.Name x p) (e ::es) [] pos) (pD sp [] W t):=AZ (h15.mono hj) h16 h17 E.m E.F.kp E.b .nil h22 h23 h24 h25 h26
theorem kR{X:Cx}(h11:X.mg "len" = none)(h:QE X e te)(h10:Gl X "len":=by rfl)(hs:isStar e=false:=by rfl)(h16:autoParam (starEach [e] X.env=(false,eval e X.env) ::starEach [] X.env) L2.qau._auto_1)(h17:autoParam (((backTo pos (starEach [] X.env)).any fun x=>x.1)=false) L2.qau._auto_1):
  QE X (.Call (.Name "len" p) [e] [] pos) (tCB (fun xs H Q=>∃ p ys,xs=[.ref p] /\ (SqL X.K H p ys \/ SqT X.K H p ys) /\ Q (.int ys.length) H) (iT te j9)):=jg uM h10 h11 boot_len (aa h au hs) (by decide) (by decide) h16 h17
theorem qi(h7:IxR X r)(h8:QE X a ta)(h9:QE X b tb)(h10:uF b:=by exact fun _ _=>rfl):QE X (.Subscript a b pos) (tOp r ta tb):=Ih h7 h8 h9 h10
theorem bQ(h8:OpR X (compareOp op) r)(h9:QE X a ta)(h10:QE X b tb)(h11:behindInMarks op b=false:=by exact iX _):QT X (.Compare a [op] [b] pos) (tM (tOp r ta tb)):=iN h8 h9 h10 h11
theorem qap{X:Cx}{apos cpos pos:Pos}{r:V->List V->Hp->VK->Prop}(h15:MtR X "list.append" r)(h16:QE X o to)(h:QE X e te)(hs:isStar e=false:=by rfl)
  (h18:autoParam (attributeBase o "append" X.env (eval o X.env)=eval o X.env) L2.qau._auto_1) (h19:autoParam (((((backTo cpos (starEach [e] X.env)).all fun x=>!x.1)&&(backToKw cpos (keywordEach [] X.env)).all fun x=>x.1.isSome)&&decide (([e].length+([]:List Keyword).length+if([]:List Keyword).isEmpty=true then 0 else 1)<30))=true) L2.qau._auto_1)
  (h20:autoParam ((apos.endLine==cpos.line)=true) L2.qau._auto_1) (h21:autoParam (starEach [e] X.env=(false,eval e X.env) ::starEach [] X.env) L2.qau._auto_1) (h22:autoParam (((backTo cpos (starEach [] X.env)).any fun x=>x.1)=false) L2.qau._auto_1) (h5:autoParam (swapsWith (.Call (.Attribute o "append" apos) [e] [] cpos) none pos.line X.env=pure false) L2.qau._auto_1):
  QS X (.Expr (.Call (.Attribute o "append" apos) [e] [] cpos) pos) (sq (tBM X.K "list" r to (iT te j9))):=y0 (Ei PySem.F.plainAttrs_list PySem.F.slot_list_append PySem.F.type_list_append h15 h16 (aa h au hs) h18 h19 h20 h21 h22) h5
theorem qex{X:Cx}{apos cpos pos:Pos}{r:V->List V->Hp->VK->Prop}(h15:MtR X "list.extend" r)(h16:QE X o to)(h:QE X e te)(hs:isStar e=false:=by rfl)
  (h18:autoParam (attributeBase o "extend" X.env (eval o X.env)=eval o X.env) L2.qau._auto_1) (h19:autoParam (((((backTo cpos (starEach [e] X.env)).all fun x=>!x.1)&&(backToKw cpos (keywordEach [] X.env)).all fun x=>x.1.isSome)&&decide (([e].length+([]:List Keyword).length+if([]:List Keyword).isEmpty=true then 0 else 1)<30))=true) L2.qau._auto_1)
  (h20:autoParam ((apos.endLine==cpos.line)=true) L2.qau._auto_1) (h21:autoParam (starEach [e] X.env=(false,eval e X.env) ::starEach [] X.env) L2.qau._auto_1) (h22:autoParam (((backTo cpos (starEach [] X.env)).any fun x=>x.1)=false) L2.qau._auto_1) (h5:autoParam (swapsWith (.Call (.Attribute o "extend" apos) [e] [] cpos) none pos.line X.env=pure false) L2.qau._auto_1):
  QS X (.Expr (.Call (.Attribute o "extend" apos) [e] [] cpos) pos) (sq (tBM X.K "list" r to (iT te j9))):=y0 (Ei PySem.F.plainAttrs_list PySem.F.slot_list_extend PySem.F.type_list_extend h15 h16 (aa h au hs) h18 h19 h20 h21 h22) h5
end L2.E
namespace L2.P
open PySem PySem.Spec PyProof.Rows L2 L2.E
end L2.P
namespace L2.P
open PySem
theorem OV.get_nil(t:OV):t.get []=some t:=by unfold OV.get;rfl
theorem OV.yp(t u:OV):t.put [] u=u:=by unfold OV.put;rfl
theorem cF{m n:ah->OS}{ρ ρ':ah}(h:m ρ=.nx ρ'):aK m n ρ=n ρ':=by unfold aK;rw[h];rfl
theorem pA{m n:ah->OS}{ρ ρ':ah}{v:RV}(h:m ρ=.rt ρ' v):aK m n ρ=.rt ρ' v:=by unfold aK;rw[h];rfl
theorem um(ρ:ah):aR ρ=.nx ρ:=rfl
theorem nh{c:ah->OT}{a b:ah->OS}{ρ:ah}(h:c ρ=.ok true):bf c a b ρ=a ρ:=by unfold bf;rw[h];rfl
theorem mR{c:ah->OT}{a b:ah->OS}{ρ:ah}(h:c ρ=.ok false):bf c a b ρ=b ρ:=by unfold bf;rw[h];rfl
theorem nv{f:List PV->OE}{x y:PV}{r:RV}(h:f [x,y]=.ok r)(hr:∀ xs,r≠.al xs):ba (bE f (aj (ao 0) (aj (ao 1) aE))) [some (.sh x),some (.sh y)]=.rt [some (.sh x),some (.sh y)] r:=by
 cases r with
 |al xs=>exact absurd rfl (hr xs)
 |sh z=>simp[h]
 |fr z=>simp[h]
theorem zS{f:List PV->OE}{x y:PV}{r:RV}(h:f [y]=.ok r)(hr:∀ xs,r≠.al xs):ba (bE f (aj (ao 1) aE)) [some (.sh x),some (.sh y)]=.rt [some (.sh x),some (.sh y)] r:=by
 cases r with
 |al xs=>exact absurd rfl (hr xs)
 |sh z=>simp[h]
 |fr z=>simp[h]
theorem GY{ρ:ah}{r:RV}(hr:∀ xs,r≠.al xs):fin (.rt ρ r)=.ok r:=by
 cases r with
 |al xs=>exact absurd rfl (hr xs)
 |sh z=>rfl
 |fr z=>rfl
theorem sk{c:ah->OT}{a n:ah->OS}{ρ:ah}(h:c ρ=.ok false):aK (bf c a aR) n ρ=n ρ:=cF (Eq.trans (mR h) (um _))
theorem st{c:ah->OT}{a b n:ah->OS}{ρ ρ':ah}{r:RV}(h:c ρ=.ok true)(k:a ρ=.rt ρ' r):aK (bf c a b) n ρ=.rt ρ' r:=pA (Eq.trans (nh h) k)
noncomputable def pB(kvs:List (Str×PV))(a b:RV):OE:=match a.pv,b with
 |.str n,.sh x=>.ok (.sh ((kvs.lookup n).getD x))
 |_,_=>.bad
noncomputable def wO(kvs:List (Str×PV))(ma mb:ah->OE):ah->OE:=fun ρ=>(ma ρ).bind fun a=>(mb ρ).bind fun b=>pB kvs a b
@[simp] theorem HP(kvs:List (Str×PV))(ma mb:ah->OE)(ρ:ah):wO kvs ma mb ρ=(ma ρ).bind fun a=>(mb ρ).bind fun b=>pB kvs a b:=rfl
noncomputable def m7(i:Nat)(mp:MP)(me:ah->OE):ah->OS:=fun ρ=>wQ i mp ρ fun u put=>match u with
 | .ol ts=>(me ρ).cD ρ fun r=>(match r with
   |.sh (.tup ys)=>if ts.length+ys.length<=lim then .nx (put (.ol (ts++ys.map .sh)))else .bad
   |_=>.bad)
 |_=>.bad
theorem AB{ρ:ah}{i:Nat}{io:Bool}{ts:List OV}{ys:List PV}{me:ah->OE}(h:ρ[i]?=some (some (.tr io (.ol ts))))(he:me ρ=.ok (.sh (.tup ys)))(hl:ts.length+ys.length<=lim):m7 i eP me ρ=.nx (ρ.set i (some (.tr io (.ol (ts++ys.map .sh))))):=by
 unfold m7 wQ;rw[h];simp only[eP,OV.get_nil,he,jV,hl,if_true,OV.yp]
noncomputable def qR(mn:ah->OE)(ι:List Nat)(mc:ah->OT)(me:ah->OE):ah->OE:=fun ρ=>(mn ρ).bind fun r=>match r.pv with
 |.int j=>if -(2 ^ 62)<=j /\ j<2 ^ 62 then noX (dM mc me (cQ ι ρ) (cO j.toNat))else .bad
 |_=>.bad
noncomputable def wj:PV->PV->Option Bool
 |x,.tup ys=>if(og x 63&&kK ys 63)=true then some (ys.any fun y=>fH y x)else none
 |x,.lst ys=>if(og x 63&&kK ys 63)=true then some (ys.any fun y=>fH y x)else none
 |_,_=>none
noncomputable def xa:PV->PV->Option RV:=fun x y=>(wj x y).map fun b=>.sh (.bl b)
end L2.P
namespace L2.E
open PySem PySem.Spec PyProof.Rows L2
noncomputable def Ib(w:World)(p:Str×V)(e:DictEntry):Prop:=e.hash=hashStr w p.1 /\ (∃ t,e.key=.str p.1 t) /\ RelV p.2 e.val
noncomputable def DKT(w:World)(K:PySem.W.Frag)(d:Addr)(kvs:List (Str×V)):Prop:=(d==sysModules)=false /\ (kvs.map (·.1)).Nodup /\ ∃(es:List DictEntry) (ep:Nat),K.lookup d=some ⟨.type "dict",none,.dict es.toArray ep,#[]⟩ /\ Paired (Ib w) kvs es
theorem tm{prog:Program}{w:World}:∀{kvs:List (Str×V)} {es:List DictEntry},Paired (Ib w) kvs es ->
  ∃ us:List (Str×Value),us.map (·.1)=kvs.map (·.1) /\ Pairs (strKind prog w) es us /\ (∀ e∈es,∃ k,(strKind prog w).is k e.key=true /\ e.hash=(strKind prog w).hash k) /\
    ∀ n,match kvs.lookup n with
      |some v=>∃ u,valueAt us n=some u /\ RelV v u
      |none=>valueAt us n=none
 |_,_,.nil=>⟨[],rfl,.nil,fun e he=>(nomatch he),fun n=>rfl⟩
 | (n,v) ::kvs,e ::es,.cons h t=>by
   obtain⟨us,h1,h2,h3,h4⟩:=tm (prog:=prog) (w:=w) t;obtain⟨k1,⟨tk,k2⟩,k3⟩:=h
   have hk:(strKind prog w).is n e.key=true:=by rw[k2];show Value.isStrOf n (.str n tk)=true;simp[Value.isStrOf]
   refine⟨(n,e.val) ::us,by simp[h1],.cons hk rfl h2,fun e' he'=>?_,fun m=>?_⟩
   . rcases List.mem_cons.mp he' with z|z
     . subst z;exact⟨n,hk,k1⟩
     . exact h3 e' z
   . have:=h4 m
     by_cases hm:m=n
     . subst hm;simp[List.lookup,valueAt];exact k3
     . have hb:(m==n)=false:=by simpa using hm
       have hn:¬ n=m:=fun z=>hm z.symm
       simp only[List.lookup,hb]
       unfold valueAt at this ⊢
       simp only[List.find?_cons,hn,decide_false];exact this
theorem DKT.at{X:Cx}{pins:List (Addr×Obj)}{σ:St}{H:Hp}{s:Shared}{d:Addr}{kvs:List (Str×V)}(D:DKT X.w X.K d kvs)(I:Inv X pins σ H s):
  ∃ us:List (Str × Value),s.heap.DictOf (strKind X.prog X.w) d us /\ ∀ n,match kvs.lookup n with
     |some v=>∃ u,valueAt us n=some u /\ RelV v u
     |none=>valueAt us n=none:=by
 obtain⟨_,nd,es,ep,hk,pr⟩:=D;obtain⟨us,h1,h2,h3,h4⟩:=tm (prog:=X.prog) (w:=X.w) pr
 exact⟨us,⟨_,es.toArray,ep,I.kIn d _ hk,⟨rfl,rfl,rfl⟩,rfl,fun e he=>h3 e (by simpa using he),by simpa using h2,by rw[h1];exact nd⟩,h4⟩
section
variable{X:Cx}
noncomputable def BR(w:World)(K:PySem.W.Frag)(td te tf:TE):TE:=fun σ H Q=>td σ H fun x H1=>∃ d kvs,x=.ref d /\ DKT w K d kvs /\ te σ H1 fun y H2=>tf σ H2 fun z H3=>∃ n,y=.str n /\ Q ((kvs.lookup n).getD z) H3
theorem BU{o e f:Expr}{td te tf:TE}{apos cpos:Pos}(ho:QE X o td)(he:QE X e te)(hf:QE X f tf)(hbase:attributeBase o "get" X.env (eval o X.env)=eval o X.env:=by rfl)
  (few:((backTo cpos (starEach [e,f] X.env)).all (fun x=>!x.1)&&(backToKw cpos (keywordEach [] X.env)).all (fun x=>x.1.isSome)&&decide (([e,f]:List Expr).length+([]:List Keyword).length+(if([]:List Keyword).isEmpty then 0 else 1)<30))=true:=by rfl)
  (line:(apos.endLine==cpos.line)=true:=by rfl) (trees:backTo cpos (starEach [e,f] X.env)=[(false,eval e X.env),(false,eval f X.env)]:=by rfl):QE X (.Call (.Attribute o "get" apos) [e,f] [] cpos) (BR X.w X.K td te tf):=⟨by
 intro pins s σ H Q I h;refine wpAny_Call_method hbase few line PySem.F.plainAttrs_dict PySem.F.slot_dict_get PySem.F.type_dict_get (thn (ho.out pins s σ H _ I h) fun u s1 ⟨x,H1,I1,rx,d,kvs,ex,D,q1⟩=>?_);subst ex
 obtain rfl:u=Value.ref d:=rx
 obtain⟨us,dd,hv⟩:=D.at I1;obtain⟨_,nd,es,ep,hk,pr⟩:=id D
 refine⟨dd.typeIs,fun b hb=>by cases hb;exact⟨_,I1.kIn d _ hk,rfl⟩,?_⟩
 rw[trees];refine Calls.callWith_builtin rfl (Calls.evalArgs_plain (Calls.spliced_cons (thn (he.out pins s1 σ H1 _ I1 q1) fun iv s2 ⟨y,H2,I2,ry,q2⟩=>Calls.spliced_cons (thn (hf.out pins s2 σ H2 _ I2 q2) fun fv s3 ⟨z,H3,I3,rz,n,ey,q3⟩=>Calls.spliced_nil ?_))));subst ey;obtain⟨t,rfl⟩:=ry;obtain⟨us2,dd2,hv2⟩:=D.at I3;refine call_meetsIn PySem.F.slot_dict_get dd2.typeIs PySem.F.entry_dict_get (PySem.F.args_dict_get_3 _ _ _) (meets_dict_get_default (strKind X.prog X.w) d (k:=n) (key:=.str n t) (by show Value.isStrOf n (.str n t)=true;simp[Value.isStrOf]) D.1 fv) ⟨_,dd2.mapOf,_,H3,I3.tok _,?_,q3⟩;have h2:=hv2 n
 cases q:kvs.lookup n with
 |none=>rw[q]at h2;rw[h2];exact rz
 |some v=>rw[q]at h2;obtain⟨u,e,r⟩:=h2;rw[e];exact r⟩
end
end L2.E
namespace L2.P
open PySem PySem.Spec PyProof.Rows L2 L2.E
section
variable{K:PySem.W.Frag}{cls:String->Option Addr}{W:XW}{Av G S₀ S S' H H' B B':Hp}{ρ:ah}{σ:St}{Q:VK}
noncomputable def DTP(w:World)(K:PySem.W.Frag)(d:Addr)(kvs:List (Str×PV)):Prop:=∃ us,DKT w K d us /\ Paired (fun (p:Str×PV) (q:Str×V)=>p.1=q.1 /\ ∀ S,Rep K S p.2 q.2) kvs us
theorem DTP.look{d:Addr}:∀{kvs:List (Str×PV)} {us:List (Str×V)},Paired (fun (p:Str×PV) (q:Str×V)=>p.1=q.1 /\ ∀ S,Rep K S p.2 q.2) kvs us->∀ n,match kvs.lookup n with
  |some x=>∃ v,us.lookup n=some v /\ ∀ S,Rep K S x v
  |none=>us.lookup n=none
 |_,_,.nil,n=>rfl
 | (k,x) ::kvs,(k',v) ::us,.cons h t,n=>by
   obtain⟨rfl,hr⟩:=h;have:=DTP.look (d:=d) t n
   by_cases hm:n=k
   . subst hm;simp[List.lookup];exact hr
   . have hb:(n==k)=false:=by simpa using hm
     simp only[List.lookup,hb];exact this
theorem Ck{w:World}{d:Addr}{kvs:List (Str×PV)}{ta tb:TE}{ma mb:ah->OE}(D:DTP w K d kvs)(ha:JE K cls W ta ma)(hb:JE K cls W tb mb):JE K cls W (BR w K (tC (.ref d)) ta tb) (wO kvs ma mb):=by
 intro Av G S₀ ρ σ S H Q I p;obtain⟨us,D1,pr⟩:=D
 refine⟨d,us,rfl,D1,?_⟩
 refine ha.go I p fun a v S1 H1 I1 w1 r1 p1=>hb.go I1 p1 fun b u S2 H2 I2 w2 r2 p2=>?_
 have ra:=(r1.rd I1.sh).mono w2.s w2.g
 cases e:a.pv with
 | str n=>
   rw[e]at ra;have:=DTP.look (d:=d) pr n
   cases b with
   |fr xs=>unfold pB at p2;rw[e]at p2;exact p2.elim
   |al xs=>unfold pB at p2;rw[e]at p2;exact p2.elim
   | sh x=>
     unfold pB at p2;rw[e]at p2
     refine⟨n,iy ra,?_⟩
     cases q:kvs.lookup n with
     | none=>
       simp only[q]at p2 this;rw[this];exact p2 _ S2 H2 (bc.refl I2.sh) r2
     | some y=>
       simp only[q]at p2 this;obtain⟨u,eu,hr⟩:=this;rw[eu];exact p2 _ S2 H2 (bc.refl I2.sh) (hr S2)
 |_=>unfold pB at p2;rw[e]at p2;exact p2.elim
end
end L2.P
namespace L2.E
open PySem PySem.Spec PyProof.Rows L2
theorem ue(l:Addr)(items:Array Value)(n:Nat)(b:Addr)(items2:Array Value)(n2:Nat)(dd2:Option Addr)(sl2:Array (Option Value))(hc0:¬(!items.isEmpty&&Builtin.List.listTooLong (items.size+items2.size))=true)(hc1:items.size<=sizeLine)(hs2:items.size+items2.size<=sizeLine+1):
  Meets (Builtin.«list.extend» ⟨[.ref l,.ref b],[]⟩) (fun _ R s=>s.heap.get? l=some { cls:=.type "list",dict:=none,data:=.seq items n,slots:=#[] } /\ s.heap.get? b=some { cls:=.type "tuple",dict:=dd2,data:=.seq items2 n2,slots:=sl2 } /\ R (.ok (.ret Value.none)) { s with heap:=s.heap.update l (Obj.mapSeq fun x=>x++items2),toks:=s.toks }):=
 .of_wp fun prog w A R s h=>by
  obtain⟨hp,g,d,tk,os⟩:=s;obtain⟨hl,hb,h⟩:=h;have f1:=AutoSeq1.idx_int;have f2:=AutoSeq1.sub_tuple_tuple;have f3:=AutoSeq1.sub_list_list;have f4:=AutoSeq1.sub_tuple_list;have f5:=AutoSeq1.sub_list_tuple
  have hz':(items++items2).size<=sizeLine+1:=by rw[Array.size_append];exact hs2
  wp_walk using (wpAny_updateSeq hl rfl (hz:=hc1) (_hz':=hz')),wpAny_loadPart' hl,wpAny_loadPart' hb;exact⟨_,rfl,h⟩
theorem HS{K:PySem.W.Frag}{H H':Hp}{a:Addr}{xs:List V}(e:aH H H')(h:SqT K H a xs):SqT K H' a xs:=by
 rcases h with(h|⟨o,h⟩)|h
 . exact .inl (.inl (e _ _ h))
 . exact .inl (.inr ⟨o,e _ _ h⟩)
 . exact .inr h
noncomputable def vz(K:PySem.W.Frag):V->List V->Hp->VK->Prop:=fun x vs H Q=>∃ l b xs zs,x=.ref l /\ vs=[.ref b] /\ H l=some (.lst xs) /\ SqT K H b zs /\ xs.length+zs.length<=sizeLine /\ Q .non (upd H l (.lst (xs++zs)))
theorem xf{X:Cx}:MtM X "list.extend" (vz X.K):=by
 intro pins s σ H x vs v us Q I rx rv h;obtain⟨l,b,xs,zs,rfl,rfl,hH,hB,hz,q⟩:=h;cases rx;obtain⟨u,rfl,ru⟩:=rv.one;cases ru;obtain⟨z,its,n,r,hl,e⟩:=I.Bo hH;obtain⟨its2,r2,pl2,z2⟩:=I.tuple hB;obtain⟨⟨cls2,dd2,data2,sl2⟩,ho2,hc2,n2,hd2⟩:=pl2;simp only at hc2 hd2;subst hc2 hd2;have hl2:=r2.length
 have hsz:its.toArray.size+its2.toArray.size<=sizeLine:=by rw[List.size_toArray,List.size_toArray];omega
 have hlong:¬ (!its.toArray.isEmpty&&Builtin.List.listTooLong (its.toArray.size+its2.toArray.size))=true:=by
  rw[sy hsz,Bool.and_false];exact Bool.false_ne_true
 refine call_meets F.slot_list_extend ⟨_,e,rfl⟩ F.entry_list_extend (F.args_list_extend_2 _ _)
  (ue l its.toArray n b its2.toArray n2 dd2 sl2 hlong (by rw[List.size_toArray];omega) (by omega)) ⟨e,ho2,?_⟩
 refine⟨.non,_,I.Cq (its':=its++its2) hH e (by simp) (r.append r2) ?_,rfl,q⟩
 rw[List.length_append];omega
end L2.E
namespace L2.P
open PySem PySem.Spec PyProof.Rows L2 L2.E
section
variable{K:PySem.W.Frag}{cls:String->Option Addr}{W:XW}{Av G S₀ S S' H H' B B':Hp}{ρ:ah}{σ:St}{Q:VK}{F:Nat->List Addr}
theorem xw{i:Nat}{te tx:TE}{mp:MP}{me:ah->OE}(hp:JP K cls te i mp)(hx:JE K cls W tx me):JS K cls W (sq (tBM K "list" (vz K) te (iT tx j9))) (m7 i mp me):=by
 intro Av G S₀ ρ σ S H D I p;obtain⟨io,t,π,u,hi,e0,e1,p⟩:=rX p;obtain⟨v0,hv⟩:=I.val hi
 cases u with
 |sh x=>exact p.elim
 |ob c ks us=>exact p.elim
 |di x=>exact p.elim
 |dt x=>exact p.elim
 | ol ts=>
   dsimp only at p
   refine hp.at I hi hv e0 e1 fun w S1 H1 w1 I1 wk=>?_
   have p1:=p.back w1.s;obtain⟨F,J1⟩:=id I1;obtain⟨q,vs,ff,rest,wk',hq,hl,rs,_,nd,c⟩:=J1.uq hi hv e1;have:=wk.inj wk';subst this
   refine⟨.inl ⟨rfl,_,SqL.new hq⟩,?_⟩
   refine hx.goS I1 p1 fun r v S2 H2 I2 w2 r2 p2=>?_
   have ndf:ff.Nodup:=(List.nodup_cons.mp (List.nodup_append.mp nd).1).2
   cases r with
   |al ys=>exact p2.elim
   |fr ys=>exact p2.elim
   | sh x=>
     cases x with
     | tup ys=>
       dsimp only at p2
       split at p2
       . rename_i hlt
         have r3:Rep K S2 (.tup ys) v:=r2
         unfold Rep at r3;obtain⟨b,us,rfl,k3,k4⟩:=r3
         refine⟨q,b,vs,us,rfl,rfl,w2.g _ _ hq,HS w2.sh k3,by rw[hl,k4.length];exact hlt,?_⟩
         obtain⟨g,J3,_⟩:=c S2 H2 (ts++ys.map .sh) (vs++us) (ff++[]) w2 ((rs.mono w2.s fun a _ o h=>w2.g _ _ h).append (.shs k4)) (by rw[List.append_nil];exact ndf) fun a ha=>.inl (by simpa using ha)
         exact p2 σ S2 _ ⟨_,J3⟩ (aH.refl _)
       . exact p2.elim
     |_=>exact p2.elim
end
end L2.P
namespace L2.E
open PySem PySem.Spec PyProof.Rows L2
theorem Bl{X:Cx}{o e f:Expr}{td te tf:TE}{apos cpos:Pos}(hu:X.A.units+1<cLine)(ho:QE X o td)(he:QE X e te)(hf:QE X f tf)(hbase:attributeBase o "get" X.env (eval o X.env)=eval o X.env:=by rfl)
  (few:((backTo cpos (starEach [e,f] X.env)).all (fun x=>!x.1)&&(backToKw cpos (keywordEach [] X.env)).all (fun x=>x.1.isSome)&&decide (([e,f]:List Expr).length+([]:List Keyword).length+(if([]:List Keyword).isEmpty then 0 else 1)<30))=true:=by rfl)
  (line:(apos.endLine==cpos.line)=true:=by rfl) (trees:backTo cpos (starEach [e,f] X.env)=[(false,eval e X.env),(false,eval f X.env)]:=by rfl):QE X (.Call (.Attribute o "get" apos) [e,f] [] cpos) (xJ td te tf):=
 ⟨B2 hu ho.out he.out hf.out ⟨hbase,few,line,trees⟩⟩
end L2.E
namespace L2.P
open PySem PySem.Spec PyProof.Rows L2 L2.E
section
variable{K:PySem.W.Frag}{cls:String->Option Addr}{W:XW}{S H:Hp}
theorem zv{kvs:List (Int×Int)}{ta tb:TE}{ma mb:ah->OE}(nd:(kvs.map (·.1)).Nodup)(h15:kvs.length<=15)(ha:JE K cls W ta ma)(hb:JE K cls W tb mb):JE K cls W (xJ (yE (kvs.map fun p=>(tC (.int p.1),tC (.int p.2)))) ta tb) (uH (kvs.map fun p=>(p.1,.int p.2)) ma mb):=by
 intro Av G S₀ ρ σ S H Q I p;intro q hq;refine pU kvs σ _ _ ⟨bw,kvs.map fun p=>(Sum.inl p.1,V.int p.2),by simp[kV],by simpa using h15,?_⟩
 rw[yc,tO _ [] (by
  rw[List.nil_append,List.map_map]
  have:((fun x:Key×V=>x.1) ∘ fun p:Int×Int=>((Sum.inl p.1:Key),V.int p.2))=(fun k:Int=>(Sum.inl k:Key)) ∘ fun p:Int×Int=>p.1:=rfl
  rw[this,<- List.map_map]
  exact List.pairwise_map.mpr (List.Pairwise.imp (fun h z=>h (Sum.inl.inj z)) nd)),List.nil_append]
 have w0:bc S H S (upd H q (.dK (kvs.map fun p=>(Sum.inl p.1,V.int p.2)))):=bc.heap I.sh hq
 refine⟨q,rfl,.inl ⟨_,.inl bw⟩,?_⟩
 refine ha.go (I.grow w0) (p.back w0) fun a v S1 H1 I1 w1 r1 p1=>hb.go I1 p1 fun b u S2 H2 I2 w2 r2 p2=>?_
 have hq2:=w2.g _ _ (w1.g _ _ (bw (H:=H) (a:=q) (o:=.dK (kvs.map fun p=>(Sum.inl p.1,V.int p.2)))))
 have hd:sI K S2 (kvs.map fun p=>(p.1,.int p.2)) (kvs.map fun p=>(Sum.inl p.1,V.int p.2)):=by
  clear nd h15 p p1 p2 hq2 w0 w1 w2 r1 r2
  induction kvs with
  |nil=>exact .nil
  |cons x kvs ih=>exact .cons ⟨rfl,by unfold Rep;rfl⟩ ih
 have ra:=(r1.rd I1.sh).mono w2.s w2.g
 cases e:a.pv with
 | int n=>
   rw[e]at ra;have hl:=hd.look n
   cases b with
   |fr xs=>unfold kX at p2;rw[e]at p2;exact p2.elim
   |al xs=>unfold kX at p2;rw[e]at p2;exact p2.elim
   | sh x=>
     unfold kX at p2;rw[e]at p2;have hv:=cV ra;subst hv
     refine⟨_,qo.k (k:=(Sum.inl n:Key)) hq2,?_⟩
     cases el:(kvs.map fun p=>(p.1,PV.int p.2)).lookup n with
     | none=>
       rw[el]at hl;simp only[el]at p2;rw[hl];exact p2 _ S2 H2 (bc.refl I2.sh) r2
     | some y=>
       rw[el]at hl;simp only[el]at p2;obtain⟨u',eu,ru⟩:=hl;rw[eu];exact p2 _ S2 H2 (bc.refl I2.sh) ru
 |_=>unfold kX at p2;rw[e]at p2;exact p2.elim
theorem xr{tn te:TE}{tc:TT}{mn me:ah->OE}{mc:ah->OT}{ι:List Nat}(hι:ι.Nodup)(hn:JE K cls W tn mn)(hc:JT K cls (fun _ _ _ _=>False) tc mc)(he:JE K cls (fun _ _ _ _=>False) te me):JE K cls W (nz (va (iT tn j9)) ι tc te) (qR mn ι mc me):=by
 intro Av G S₀ ρ σ S H Q I p
 refine hn.go I p fun r v S1 H1 I1 w1 r1 p1=>?_
 have ra:=r1.rd I1.sh
 cases e:r.pv with
 | int j=>
   rw[e]at p1 ra;have hv:=cV ra;subst hv
   dsimp only at p1
   split at p1
   . rename_i hj
     refine⟨j,rfl,hj.1,hj.2,?_⟩
     cases em:dM mc me (cQ ι ρ) (cO j.toNat)with
     |exc c fs=>rw[em]at p1;exact p1.elim
     |bad=>rw[em]at p1;exact p1.elim
     | ok ys=>
       rw[em]at p1;simp only[noX]at p1;split at p1
       . rename_i hlen
         have hln:(cO j.toNat).length=j.toNat:=by unfold cO;simp
         refine p9 hι hc he I1 em hlen (fun k H' x g hx=>?_) (fun H' g=>by rw[hln];exact Nat.le_refl _) fun D S' H' w nD sD ⟨us,hD,rr⟩=>p1 (.ref D) S' H' w ⟨D,us,rfl,nD,sD,hD,rr⟩
         have hk:k<j.toNat:=by rw[<- hln];exact(List.getElem?_eq_some_iff.mp hx).1
         refine⟨hk,?_⟩
         rintro v' H2 ⟨rfl,rfl⟩
         refine⟨rfl,?_⟩
         have:x=.int (k:Int):=by
          unfold cO at hx;rw[List.getElem?_map,List.getElem?_range hk]at hx
          exact(Option.some.inj hx).symm
         subst this;unfold Rep;rw[Int.zero_add]
       . exact p1.elim
   . exact p1.elim
 |_=>rw[e]at p1;exact p1.elim
end
end L2.P
namespace L2.P
open PySem PySem.Spec PyProof.Rows L2 L2.E PySem.SeqAt
section
variable{X:Cx}{K:PySem.W.Frag}{S H:Hp}
theorem wB(x:PV):∀ ys:List PV,(lh ys).any (fun y=>PyData.eqv y (dOf x))=ys.any fun y=>fH y x
 |[]=>by simp[lh]
 |y ::ys=>by simp[lh,yx,wB x ys]
noncomputable def Ii(K:PySem.W.Frag)(A:Around):R2:=fun v u H Q=>∃ x ys,Rep K H x v /\ (Rep K H (.tup ys) u \/ Rep K H (.lst ys) u) /\ (og x 63&&kK ys 63)=true /\ A.units+64<cLine /\ Q (.bl (ys.any fun y=>fH y x)) H
theorem Cm:OpR X (compareOp .In) (Ii X.K X.A):=by
 intro pins s σ H v u a b Q I rx ry h;obtain⟨x,ys,hx,hy,ok,hu,q⟩:=h;rw[Bool.and_eq_true]at ok;obtain⟨as,ra⟩:=oQ I x v a hx rx;have h1:=AH x 63 ok.1;have h2:=qt ys 63 ok.2;rw[<- wB]at q
 have hm:X.A.units+1+min (PyData.depthAll (lh ys)) (dOf x).depth<cLine:=by
  have:=Nat.min_le_right (PyData.depthAll (lh ys)) (dOf x).depth;omega
 rcases hy with hy|hy
 . obtain⟨bs,rb⟩:=oQ I (.tup ys) u b hy ry;unfold dOf at rb;exact in_tuple_reads rb ra h2.1 h1.1 hm ⟨.bl _,H,I,rfl,q⟩
 . obtain⟨bs,rb⟩:=oQ I (.lst ys) u b hy ry;unfold dOf at rb;exact in_list_reads rb ra h2.1 h1.1 hm ⟨.bl _,H,I,rfl,q⟩
theorem Ay{A:Around}(hu:A.units+64<cLine):JR K (Ii K A) xa:=by
 intro S H x y v u rr Q I hx hy e k;obtain⟨b,e1,e2⟩:=Option.map_eq_some_iff.mp e;subst e2
 cases y with
 | tup ys=>
   simp only[wj]at e1;split at e1
   . rename_i ok;cases e1
     exact⟨x,ys,hx.rep I,.inl (hy.rep I),ok,hu,k _ S H (bc.refl I) kz⟩
   . cases e1
 | lst ys=>
   simp only[wj]at e1;split at e1
   . rename_i ok;cases e1
     exact⟨x,ys,hx.rep I,.inr (hy.rep I),ok,hu,k _ S H (bc.refl I) kz⟩
   . cases e1
 |_=>simp only[wj]at e1;cases e1
end
end L2.P
namespace L2.P
open PySem
noncomputable def ins(n:Int):List Int->List Int
 |[]=>[n]
 |m ::ms=>if n<=m then n ::m ::ms else m ::ins n ms
end L2.P
namespace L2
open PySem PySem.Spec PyProof.Rows PySem.W
end L2
namespace L2.E
open PySem PySem.Spec PyProof.Rows L2
end L2.E
namespace L2.P
open PySem PySem.Spec PyProof.Rows L2 L2.E
end L2.P
namespace PG
noncomputable def kD(n:Int):Bool:=(decide (0<=n)&&decide (n<55296))||(decide (57343<n)&&decide (n<=1114111))
noncomputable def bp(n:Int):List Int:=if n<128 then[n]else if n<2048 then[192+n/64,128+n%64]else if n<65536 then[224+n/4096,128+n/64%64,128+n%64]else[240+n/262144,128+n/4096%64,128+n/64%64,128+n%64]
noncomputable def cell(ns:List Int)(k:Int):Int:=if ns=[]then 0 else ns.getD (k%(ns.length:Int)).toNat 0
noncomputable def mix(ns:List Int)(k:Int):Int:=
 let a:=(cell ns k+104729*(k+1))%4294967291
 let b:=a*48271%4294967279
 (b/64*69621+b)%4294967231
noncomputable def menu:List Int:=[34,92,47,8,12,10,13,9,0,31,127]
noncomputable def point(n:Int):Int:=
 if n%8<2 then 32+n/8%95 else if n%8<4 then menu.getD (n/8%11).toNat 0 else if n%8=4 then 128+n/8%1920
 else if n%8=5 then 2048+n/8%53248 else if n%8=6 then 57344+n/8%8192 else 65536+n/8%1048576
theorem GD(ns:List Int)(k:Int):0<=mix ns k /\ mix ns k<4294967231:=by unfold mix;dsimp only;omega
theorem DQ(i:Nat)(h:i<11):0<=menu.getD i 0 /\ menu.getD i 0<128:=by
 revert h;revert i;decide
theorem Az(n:Int):kD (point n)=true:=by
 unfold point kD;have h11:=DQ (n/8%11).toNat (by omega);simp only[Bool.or_eq_true,Bool.and_eq_true,decide_eq_true_eq];split
 . omega
 . split
   . omega
   . split
     . omega
     . split
       . omega
       . split<;>omega
end PG
namespace PG
noncomputable def JM(b:Int):Int×Int:=if b=224 then(160,191)else if b=237 then(128,159)else(128,191)
noncomputable def Ka(b:Int):Int×Int:=if b=240 then(144,191)else if b=244 then(128,143)else(128,191)
noncomputable def spans(b:Int):Option (List (Int×Int)):=if 0<=b /\ b<128 then some []else if 194<=b /\ b<224 then some [(128,191)]else if 224<=b /\ b<240 then some [JM b,(128,191)]else if 240<=b /\ b<245 then some [Ka b,(128,191),(128,191)]else none
noncomputable def mark(k:Nat):Int:=[0,192,224,240].getD k 0
noncomputable def val(b:Int)(cs:List Int):Int:=cs.foldl (fun n c=>n*64+c - 128) (b - mark cs.length)
theorem lE{n:Int}(h:kD n=true):0<=n /\ n<=1114111:=by
 unfold kD at h;simp only[Bool.or_eq_true,Bool.and_eq_true,decide_eq_true_eq]at h;omega
end PG
namespace L2.P
open PySem
@[simp] theorem Er(s:String):(Str.ofString s).cps.all (·<0x110000)=true:=by
  rw[Str.ofString_eq_toList,List.all_toArray,List.all_map];rw[List.all_eq_true];intro c _;have:=c.valid;simp only[Function.comp,decide_eq_true_eq]
  rcases this with h|⟨_,h⟩
  . exact Nat.lt_of_lt_of_le h (by decide)
  . exact h
theorem toNat_inj:∀(xs ys:List Char),xs.map Char.toNat=ys.map Char.toNat->xs=ys
 |[],[],_=>rfl
 |[],_ ::_,h=>by cases h
 |_ ::_,[],h=>by cases h
 | x ::xs,y ::ys,h=>by
   rw[List.map_cons,List.map_cons]at h
   injection h with h1 h2
   have:x=y:=Char.ext (UInt32.toNat_inj.mp h1)
   rw[this,toNat_inj xs ys h2]
theorem aN(a b:String):Str.ofString a=Str.ofString b↔a=b:=by
 constructor
 . intro h;rw[Str.ofString_eq_toList,Str.ofString_eq_toList]at h
   injection h with h
   have h2:a.toList.map Char.toNat=b.toList.map Char.toNat:=by
    have:=congrArg Array.toList h
    simpa using this
   exact String.toList_inj.mp (toNat_inj _ _ h2)
 . intro h;rw[h]
@[simp] theorem CS(a b:String):(Str.ofString a==Str.ofString b)=decide (a=b):=by
  by_cases h:a=b
  . subst h;simp
  . have:Str.ofString a≠Str.ofString b:=fun z=>h ((aN a b).mp z)
    simp[h,this]
@[simp] theorem IX(a b:String):fH (.str (Str.ofString a)) (.str (Str.ofString b))=decide (a=b):=by simp[fH]
@[simp] theorem Jp(a:String)(n:Nat):og (.str (Str.ofString a)) n=true:=by simp[og]
theorem BS{i:Nat}{mb:ah->OS}{x:PV}{xs:List PV}{ρ ρ':ah}(h:mb (ρ.set i (some (.sh x)))=.nx ρ'):iR i mb (x ::xs) ρ=iR i mb xs ρ':=by rw[j4,h];rfl
@[simp] theorem get_nil(t:OV):t.get []=some t:=by cases t<;>rfl
@[simp] theorem yp(t u:OV):t.put [] u=u:=by cases t<;>rfl
theorem Ds(xs:List PV):zO (xs.map .sh)=some xs:=by
 induction xs with
 |nil=>rfl
 |cons x xs ih=>show(pvO (.sh x)).bind _=_;simp[pvO,ih]
end L2.P
namespace PG
open L2.P PySem
inductive It where
 |sp (lo hi:Int)|white|value|lead|figures|fraction|exponent|sign|text|escape|code|coded|hex|hexd|hexcf|row|mrow|fields|mfields|name
 deriving DecidableEq
noncomputable def bg:It->PV
 |.sp lo hi=>.tup [.int lo,.int hi]
 |.white=>.str "white" | .value=>.str "value" | .lead=>.str "lead" | .figures=>.str "figures" | .fraction=>.str "fraction" | .exponent=>.str "exponent" | .sign=>.str "sign"
 |.text=>.str "text" | .escape=>.str "escape" | .code=>.str "code" | .coded=>.str "code d" | .hex=>.str "hex" | .hexd=>.str "hex d" | .hexcf=>.str "hex c to f"
 |.row=>.str "row" | .mrow=>.str "more row" | .fields=>.str "fields" | .mfields=>.str "more fields" | .name=>.str "name"
noncomputable def loose:It->Bool
 |.white=>true|.figures=>true|.fraction=>true|.exponent=>true|.sign=>true
 |_=>false
noncomputable def opn:It->Bool
 |.row=>true|.mrow=>true|.fields=>true|.mfields=>true
 |_=>false
noncomputable def wht(b:Int):Bool:=decide (9=b)||(decide (10=b)||(decide (13=b)||decide (32=b)))
noncomputable def fig(b:Int):Bool:=decide (48<=b)&&decide (b<=57)
noncomputable def dC(b:Int):Option Int:=if 48<=b /\ b<=57 then some (b - 48)else if 65<=b /\ b<=70 then some (b - 55)else if 97<=b /\ b<=102 then some (b - 87)else none
noncomputable def jA(b:Int):Option (List It):=if b=48 then some [.fraction,.exponent]else if 48<=b /\ b<=57 then some [.figures,.fraction,.exponent]else none
noncomputable def jf(b:Int):Option (List It):=
 if b=91 then some [.white,.row]else if b=123 then some [.white,.fields]else if b=34 then some [.text]else if b=45 then some [.lead]
 else if b=110 then some [.sp 117 117,.sp 108 108,.sp 108 108]else if b=116 then some [.sp 114 114,.sp 117 117,.sp 101 101]else if b=102 then some [.sp 97 97,.sp 108 108,.sp 115 115,.sp 101 101]
 else jA b
noncomputable def se:List It:=[.white,.sp 58 58,.white,.value,.white,.mfields]
noncomputable def tls(b:Int):Option (List It):=
 if 0<=b /\ b<128 then some []else if 194<=b /\ b<224 then some [.sp 128 191]
 else if 224<=b /\ b<240 then some [if b=224 then .sp 160 191 else if b=237 then .sp 128 159 else .sp 128 191,.sp 128 191]
 else if 240<=b /\ b<245 then some [if b=240 then .sp 144 191 else if b=244 then .sp 128 143 else .sp 128 191,.sp 128 191,.sp 128 191]
 else none
noncomputable def n9(b:Int):Option (List It):=if b=34 then some []else if b=92 then some [.escape,.text]else if b<32 then none else(tls b).map (·++[.text])
noncomputable def uN(b:Int):Bool:=b=34||b=92||b=47||b=98||b=102||b=110||b=114||b=116
noncomputable def A6(b:Int):Option (List It):=if b=117 then some [.code]else if uN b then some []else none
noncomputable def ud(w:Int):Option (List It):=if w<8 then some [.hex,.hex]else if w<12 then some [.hex,.hex,.sp 92 92,.sp 117 117,.hexd,.hexcf,.hex,.hex]else none
noncomputable def bh:It->Int->Option (List It)
 |.sp lo hi,b=>if lo<=b /\ b<=hi then some []else none
 |.white,b=>if wht b then some [.white]else none
 |.value,b=>jf b
 |.lead,b=>jA b
 |.figures,b=>if 48<=b /\ b<=57 then some [.figures]else none
 |.fraction,b=>if b=46 then some [.sp 48 57,.figures]else none
 |.exponent,b=>if b=101 \/ b=69 then some [.sign,.sp 48 57,.figures]else none
 |.sign,b=>if b=43 \/ b=45 then some []else none
 |.text,b=>n9 b
 |.escape,b=>A6 b
 |.code,b=>(dC b).bind fun w=>if w=13 then some [.coded]else some [.hex,.hex,.hex]
 |.coded,b=>(dC b).bind ud
 |.hex,b=>(dC b).map fun _=>[]
 |.hexd,b=>(dC b).bind fun w=>if w=13 then some []else none
 |.hexcf,b=>(dC b).bind fun w=>if 12<=w then some []else none
 |.row,b=>if b=93 then some []else(jf b).map (·++[.white,.mrow])
 |.mrow,b=>if b=44 then some [.white,.value,.white,.mrow]else if b=93 then some []else none
 |.fields,b=>if b=125 then some []else if b=34 then some (.text ::se)else none
 |.mfields,b=>if b=44 then some (.white ::.name ::se)else if b=125 then some []else none
 |.name,b=>if b=34 then some [.text]else none
noncomputable def cnt(st:List It):Nat:=(st.filter opn).length
noncomputable def gon:List It->Int->List It×Bool
 |[],_=>([],false)
 | it ::st,b=>match bh it b with
   |some l=>(l++st,decide (cnt (l++st)<=64))
   |none=>if loose it then gon st b else(st,false)
noncomputable def tk:List It->List Int->List It×Nat
 |st,[]=>(st,0)
 |st,b ::r=>if(gon st b).2 then((tk (gon st b).1 r).1,(tk (gon st b).1 r).2+1)else((gon st b).1,0)
noncomputable def st0:List It:=[.white,.value,.white]
noncomputable def flt(row:List Int):Option Nat:=if(tk st0 row).2=row.length /\ (tk st0 row).1.all loose=true then none else some (tk st0 row).2
noncomputable def wk(st:List It):OV:=.ob "Walk" ["coming"] [.ol ((st.reverse.map bg).map .sh)]
theorem BG(it:It)(b:Int)(l:List It)(h:bh it b=some l):l.length<=8:=by
 have hv:∀ l,jf b=some l->l.length<=5:=by
  intro l h;unfold jf jA at h
  repeat' split at h
  all_goals(first|(cases h;done)|(injection h with h;subst h;decide))
 have ht:∀ l,tls b=some l->l.length<=5:=by
  intro l h;unfold tls at h
  repeat' split at h
  all_goals(first|(cases h;done)|(injection h with h;subst h;simp))
 cases it with
 |value=>exact Nat.le_trans (hv l h) (by decide)
 | row=>
   simp only[bh]at h;split at h
   . injection h with h;subst h;decide
   . cases e:jf b with
     |none=>rw[e]at h;cases h
     |some l'=>rw[e]at h;injection h with h;subst h;have:=hv l' e;simp;omega
 | text=>
   simp only[bh,n9]at h
   repeat' split at h
   all_goals first|(cases h;done)|(injection h with h;subst h;decide)|skip
   cases e:tls b with
   |none=>rw[e]at h;cases h
   |some l'=>rw[e]at h;injection h with h;subst h;have:=ht l' e;simp;omega
 | code=>
   simp only[bh]at h
   cases e:dC b with
   |none=>rw[e]at h;cases h
   |some w=>rw[e]at h;simp only[Option.bind_some]at h;split at h<;>(injection h with h;subst h;decide)
 | coded=>
   simp only[bh]at h
   cases e:dC b with
   |none=>rw[e]at h;cases h
   | some w=>
     rw[e]at h;simp only[Option.bind_some,ud]at h
     repeat' split at h
     all_goals first|(cases h;done)|(injection h with h;subst h;decide)
 | hex=>
   simp only[bh]at h
   cases e:dC b with
   |none=>rw[e]at h;cases h
   |some w=>rw[e]at h;injection h with h;subst h;simp
 | hexd=>
   simp only[bh]at h
   cases e:dC b with
   |none=>rw[e]at h;cases h
   |some w=>rw[e]at h;simp only[Option.bind_some]at h;split at h<;>first|(cases h;done)|(injection h with h;subst h;decide)
 | hexcf=>
   simp only[bh]at h
   cases e:dC b with
   |none=>rw[e]at h;cases h
   |some w=>rw[e]at h;simp only[Option.bind_some]at h;split at h<;>first|(cases h;done)|(injection h with h;subst h;decide)
 | _=>
   simp only[bh,jA,A6,se]at h
   repeat' split at h
   all_goals first|(cases h;done)|(injection h with h;subst h;decide)
theorem yN(st:List It)(b:Int):(gon st b).1.length<=st.length+8:=by
 induction st with
 |nil=>simp[gon]
 | cons it st ih=>
   unfold gon
   cases e:bh it b with
   |some l=>have:=BG it b l e;simp;omega
   | none=>
     dsimp only;split
     . simp;omega
     . simp;omega
end PG
namespace PG
inductive Sg where
 |pl (p:Int)|sh (c p:Int)|hx (a b c d:Int)|pr (a b c d e f g h:Int)
noncomputable def pts:Sg->List Int
 |.pl p=>[p]
 |.sh c _=>[92,c]
 |.hx a b c d=>[92,117,a,b,c,d]
 |.pr a b c d e f g h=>[92,117,a,b,c,d,92,117,e,f,g,h]
noncomputable def hv(b:Int):Int:=(dC b).getD 0
noncomputable def cod(a b c d:Int):Int:=16*(16*(16*hv a+hv b)+hv c)+hv d
noncomputable def Hu:Sg->Int
 |.pl p=>p
 |.sh _ p=>p
 |.hx a b c d=>cod a b c d
 |.pr a b c d e f g h=>65536+1024*(cod a b c d - 55296)+cod e f g h - 56320
noncomputable def shP:List (Int×Int):=[(34,34),(92,92),(47,47),(98,8),(102,12),(110,10),(114,13),(116,9)]
noncomputable def Sok:Sg->Prop
 |.pl p=>kD p=true /\ 32<=p /\ p≠34 /\ p≠92
 |.sh c p=>(c,p)∈shP
 |.hx a b c d=>(dC a).isSome=true /\ (dC b).isSome=true /\ (dC c).isSome=true /\ (dC d).isSome=true /\ ¬ (55296<=cod a b c d /\ cod a b c d<=57343)
 |.pr a b c d e f g h=>(dC a=some 13 /\ 8<=hv b /\ hv b<12 /\ (dC b).isSome=true /\ (dC c).isSome=true /\ (dC d).isSome=true) /\ dC e=some 13 /\ 12<=hv f /\ (dC f).isSome=true /\ (dC g).isSome=true /\ (dC h).isSome=true
noncomputable def gu(s:Sg):List Int:=(pts s).flatMap bp
theorem cS{b w:Int}(h:dC b=some w):0<=w /\ w<16 /\ 48<=b /\ b<=102 /\ b≠92 /\ b≠117:=by
 unfold dC at h;split at h
 . injection h with h;omega
 . split at h
   . injection h with h;omega
   . split at h
     . injection h with h;omega
     . cases h
theorem iu{b w:Int}(h:dC b=some w):hv b=w:=by unfold hv;rw[h];rfl
theorem fT{n:Int}(h:n<128):bp n=[n]:=by unfold bp;rw[if_pos h]
theorem cnt_cons(it:It)(st:List It):cnt (it ::st)=(if opn it then 1 else 0)+cnt st:=by
 unfold cnt
 cases e:opn it<;>simp[e]
 omega
theorem u3(l st:List It):cnt (l++st)=cnt l+cnt st:=by
 unfold cnt;rw[List.filter_append,List.length_append]
theorem HE{st st':List It}{b:Int}{r:List Int}(h:gon st b=(st',true)):tk st (b ::r)=((tk st' r).1,(tk st' r).2+1):=by
 simp[tk,h]
theorem yz{it:It}{st l:List It}{b:Int}{r:List Int}(h:bh it b=some l)(hl:cnt l=0)(hc:cnt st<=64):tk (it ::st) (b ::r)=((tk (l++st) r).1,(tk (l++st) r).2+1):=by
 refine HE ?_
 have:cnt (l++st)<=64:=by rw[u3];omega
 simp[gon,h,this]
theorem yb{it:It}{st:List It}{b:Int}{r:List Int}(h:bh it b=none)(hl:loose it=true):tk (it ::st) (b ::r)=tk st (b ::r):=by
 simp[tk,gon,h,hl]
noncomputable def Goes(st:List It)(bs:List Int)(st':List It):Prop:=∀ r,tk st (bs++r)=((tk st' r).1,(tk st' r).2+bs.length)
theorem Goes.nil(st:List It):Goes st [] st:=fun r=>by simp
theorem Goes.trans{a b c:List It}{xs ys:List Int}(h:Goes a xs b)(k:Goes b ys c):Goes a (xs++ys) c:=fun r=>by
 rw[List.append_assoc,h,k,List.length_append]
 congr 1
 omega
theorem Goes.step{it:It}{st l st':List It}{b:Int}{bs:List Int}(h:bh it b=some l)(hl:cnt l=0)(hc:cnt st<=64)(k:Goes (l++st) bs st'):Goes (it ::st) (b ::bs) st':=fun r=>by
 rw[List.cons_append,yz h hl hc,k,List.length_cons]
 congr 1
theorem CV{p:Int}{st:List It}(h:kD p=true)(h1:32<=p)(h2:p≠34)(h3:p≠92)(hc:cnt st<=64):Goes (.text ::st) (bp p) (.text ::st):=by
 have hr:=lE h
 have hs:p<55296 \/ 57343<p:=by
  unfold kD at h;simp only[Bool.or_eq_true,Bool.and_eq_true,decide_eq_true_eq]at h;omega
 have hc1:cnt (.text ::st)<=64:=by rw[cnt_cons];simp[opn];omega
 have hsp:∀ lo hi:Int,cnt (.sp lo hi ::.text ::st)<=64:=fun lo hi=>by rw[cnt_cons,cnt_cons];simp[opn];omega
 have b1:∀ b:Int,b≠34->b≠92->¬ b<32->bh .text b=(tls b).map (·++[.text]):=fun b g1 g2 g3=>by simp only[bh,n9,g1,g2,g3,if_false]
 unfold bp
 by_cases c1:p<128
 . rw[if_pos c1];refine Goes.step (l:=[.text]) ?_ rfl hc (.nil _);rw[b1 p h2 h3 (by omega)];unfold tls;rw[if_pos ⟨by omega,c1⟩];rfl
 . rw[if_neg c1]
   by_cases c2:p<2048
   . rw[if_pos c2];refine Goes.step (l:=[.sp 128 191,.text]) ?_ rfl hc ?_
     . rw[b1 _ (by omega) (by omega) (by omega)];unfold tls;rw[if_neg (by omega),if_pos (by omega)];rfl
     . refine Goes.step (l:=[]) ?_ rfl hc1 (.nil _);simp only[bh];rw[if_pos (by omega)]
   . rw[if_neg c2]
     by_cases c3:p<65536
     . rw[if_pos c3];refine Goes.step (l:=[if 224+p/4096=224 then .sp 160 191 else if 224+p/4096=237 then .sp 128 159 else .sp 128 191,.sp 128 191,.text]) ?_ ?_ hc ?_
       . rw[b1 _ (by omega) (by omega) (by omega)];unfold tls;rw[if_neg (by omega),if_neg (by omega),if_pos (by omega)];rfl
       . split
         . rfl
         . split<;>rfl
       . refine Goes.step (l:=[]) ?_ rfl (hsp _ _) ?_
         . split
           . simp only[bh];rw[if_pos (by omega)]
           . split
             . simp only[bh];rw[if_pos (by omega)]
             . simp only[bh];rw[if_pos (by omega)]
         . refine Goes.step (l:=[]) ?_ rfl hc1 (.nil _);simp only[bh];rw[if_pos (by omega)]
     . rw[if_neg c3]
       have hsp2:cnt (.sp 128 191 ::.sp 128 191 ::.text ::st)<=64:=by rw[cnt_cons,cnt_cons,cnt_cons];simp[opn];omega
       refine Goes.step (l:=[if 240+p/262144=240 then .sp 144 191 else if 240+p/262144=244 then .sp 128 143 else .sp 128 191,.sp 128 191,.sp 128 191,.text]) ?_ ?_ hc ?_
       . rw[b1 _ (by omega) (by omega) (by omega)];unfold tls;rw[if_neg (by omega),if_neg (by omega),if_neg (by omega),if_pos (by omega)];rfl
       . split
         . rfl
         . split<;>rfl
       . refine Goes.step (l:=[]) ?_ rfl hsp2 ?_
         . split
           . simp only[bh];rw[if_pos (by omega)]
           . split
             . simp only[bh];rw[if_pos (by omega)]
             . simp only[bh];rw[if_pos (by omega)]
         . refine Goes.step (l:=[]) ?_ rfl (hsp _ _) ?_
           . simp only[bh];rw[if_pos (by omega)]
           . refine Goes.step (l:=[]) ?_ rfl hc1 (.nil _);simp only[bh];rw[if_pos (by omega)]
theorem lD{b w:Int}(h:dC b=some w):bh .hex b=some []:=by simp[bh,h]
theorem some_of{b:Int}(h:(dC b).isSome=true):∃ w,dC b=some w:=Option.isSome_iff_exists.mp h
theorem lO{a b c d:Int}(ha:(dC a).isSome=true)(hb:(dC b).isSome=true)(hc:(dC c).isSome=true)(hd:(dC d).isSome=true):bp a=[a] /\ bp b=[b] /\ bp c=[c] /\ bp d=[d]:=by
 obtain⟨w1,e1⟩:=some_of ha;obtain⟨w2,e2⟩:=some_of hb;obtain⟨w3,e3⟩:=some_of hc;obtain⟨w4,e4⟩:=some_of hd;have:=cS e1;have:=cS e2;have:=cS e3;have:=cS e4
 exact⟨fT (by omega),fT (by omega),fT (by omega),fT (by omega)⟩
theorem uX(s:Sg)(h:Sok s)(st:List It)(hc:cnt st<=64):Goes (.text ::st) (gu s) (.text ::st):=by
 have hc1:cnt (.text ::st)<=64:=by rw[cnt_cons];simp[opn];omega
 have n0:∀ it:It,opn it=false->∀ st,cnt st<=64->cnt (it ::st)<=64:=fun it ho st h=>by rw[cnt_cons,ho];simp;omega
 cases s with
 | pl p=>
   obtain⟨h1,h2,h3,h4⟩:=h;show Goes _ (bp p++[]) _;rw[List.append_nil];exact CV h1 h2 h3 h4 hc
 | sh c p=>
   have hb:gu (.sh c p)=[92,c] /\ bh .escape c=some []:=by
    simp only[Sok,shP,List.mem_cons,Prod.mk.injEq,List.not_mem_nil,or_false]at h
    rcases h with h|h|h|h|h|h|h|h<;>(obtain⟨rfl,rfl⟩:=h;exact⟨rfl,rfl⟩)
   rw[hb.1];exact Goes.step (l:=[.escape,.text]) rfl rfl hc (Goes.step (l:=[]) hb.2 rfl hc1 (.nil _))
 | hx a b c d=>
   obtain⟨ha,hb,hcc,hd,hs⟩:=h;obtain⟨e1,e2,e3,e4⟩:=lO ha hb hcc hd
   have hby:gu (.hx a b c d)=[92,117,a,b,c,d]:=by
    show bp 92++(bp 117++(bp a++(bp b++(bp c++(bp d++[])))))=_;rw[e1,e2,e3,e4];rfl
   rw[hby];obtain⟨w1,f1⟩:=some_of ha;obtain⟨w2,f2⟩:=some_of hb;obtain⟨w3,f3⟩:=some_of hcc;obtain⟨w4,f4⟩:=some_of hd;refine Goes.step (l:=[.escape,.text]) rfl rfl hc (Goes.step (l:=[.code]) rfl rfl hc1 ?_)
   by_cases hw:w1=13
   . have h8:w2 < 8:=by
      have g2:=cS f2;have g3:=cS f3;have g4:=cS f4;simp only[cod,iu f1,iu f2,iu f3,iu f4]at hs;omega
     refine Goes.step (l:=[.coded]) (by simp[bh,f1,hw]) rfl hc1 (Goes.step (l:=[.hex,.hex]) (by simp[bh,f2,ud,h8]) rfl hc1 ?_);exact Goes.step (l:=[]) (lD f3) rfl (n0 _ rfl _ hc1) (Goes.step (l:=[]) (lD f4) rfl hc1 (.nil _))
   . refine Goes.step (l:=[.hex,.hex,.hex]) (by simp[bh,f1,hw]) rfl hc1 ?_;exact Goes.step (l:=[]) (lD f2) rfl (n0 _ rfl _ (n0 _ rfl _ hc1)) (Goes.step (l:=[]) (lD f3) rfl (n0 _ rfl _ hc1) (Goes.step (l:=[]) (lD f4) rfl hc1 (.nil _)))
 | pr a b c d e f g h'=>
   obtain⟨⟨f1,hb8,hb12,hb,hcc,hd⟩,f5,hf12,hf,hg,hh⟩:=h;obtain⟨e1,e2,e3,e4⟩:=lO (by rw[f1];rfl) hb hcc hd;obtain⟨e5,e6,e7,e8⟩:=lO (by rw[f5];rfl) hf hg hh
   have hby:gu (.pr a b c d e f g h')=[92,117,a,b,c,d,92,117,e,f,g,h']:=by
    show bp 92++(bp 117++(bp a++(bp b++(bp c++(bp d++(bp 92++(bp 117++(bp e++(bp f++(bp g++(bp h'++[])))))))))))=_;rw[e1,e2,e3,e4,e5,e6,e7,e8];rfl
   rw[hby];obtain⟨w2,f2⟩:=some_of hb;obtain⟨w3,f3⟩:=some_of hcc;obtain⟨w4,f4⟩:=some_of hd;obtain⟨w6,f6⟩:=some_of hf;obtain⟨w7,f7⟩:=some_of hg;obtain⟨w8,f8⟩:=some_of hh;rw[iu f2]at hb8 hb12;rw[iu f6]at hf12
   have hn8:¬ w2<8:=by omega
   refine Goes.step (l:=[.escape,.text]) rfl rfl hc (Goes.step (l:=[.code]) rfl rfl hc1 (Goes.step (l:=[.coded]) (by simp[bh,f1]) rfl hc1 (Goes.step (l:=[.hex,.hex,.sp 92 92,.sp 117 117,.hexd,.hexcf,.hex,.hex]) (by simp[bh,f2,ud,hn8,hb12]) rfl hc1 ?_)));have k1:=n0 .hex rfl _ hc1;have k2:=n0 .hex rfl _ k1;have k3:=n0 .hexcf rfl _ k2;have k4:=n0 .hexd rfl _ k3;have k5:=n0 (.sp 117 117) rfl _ k4;have k6:=n0 (.sp 92 92) rfl _ k5;have k7:=n0 .hex rfl _ k6;exact Goes.step (l:=[]) (lD f3) rfl k7 (Goes.step (l:=[]) (lD f4) rfl k6 (Goes.step (l:=[]) rfl rfl k5 (Goes.step (l:=[]) rfl rfl k4 (Goes.step (l:=[]) (by simp[bh,f5]) rfl k3 (Goes.step (l:=[]) (by simp[bh,f6,hf12]) rfl k2 (Goes.step (l:=[]) (lD f7) rfl k1 (Goes.step (l:=[]) (lD f8) rfl hc1 (.nil _))))))))
noncomputable def inner(ss:List Sg):List Int:=ss.flatMap gu
theorem Bj(ss:List Sg)(h:∀ s∈ss,Sok s)(st:List It)(hc:cnt st<=64):Goes (.text ::st) (inner ss) (.text ::st):=by
 induction ss with
 |nil=>exact .nil _
 |cons s ss ih=>exact(uX s (h s List.mem_cons_self) st hc).trans (ih fun x hx=>h x (List.mem_cons_of_mem _ hx))
theorem ze(ss:List Sg)(h:∀ s∈ss,Sok s)(st:List It)(hc:cnt st<=64):Goes (.text ::st) (inner ss++[34]) st:=
 (Bj ss h st hc).trans (Goes.step (l:=[]) rfl rfl hc (.nil _))
theorem Goes.skip{it:It}{st st':List It}{b:Int}{bs:List Int}(h:bh it b=none)(hl:loose it=true)(k:Goes st (b ::bs) st'):Goes (it ::st) (b ::bs) st':=fun r=>by
 rw[List.cons_append,yb h hl,<- List.cons_append,k]
noncomputable def txt(ss:List Sg):List Int:=34 ::(inner ss++[34])
theorem rm{st:List It}(ss:List Sg)(h:∀ s∈ss,Sok s)(hc:cnt st<=64):Goes (.value ::st) (txt ss) st:=
 Goes.step (l:=[.text]) rfl rfl hc (ze ss h st hc)
end PG
namespace PG
noncomputable abbrev isF(b:Int):Prop:=48<=b /\ b<=57
noncomputable def cz(n:Nat):List Int:=if n<10 then[48+(n:Int)]else cz (n/10)++[48+((n%10:Nat):Int)]
termination_by n
decreasing_by omega
noncomputable def dz(n:Nat):List Int:=if n=0 then[]else cz n
theorem Fo(n:Nat):cz n=dz (n/10)++[48+((n%10:Nat):Int)]:=by
 rw[cz];unfold dz
 by_cases h:n<10
 . rw[if_pos h,if_pos (by omega),Nat.mod_eq_of_lt h];rfl
 . rw[if_neg h,if_neg (by omega)]
theorem vF(n:Nat):∀ b∈cz n,isF b:=by
 induction n using Nat.strongRecOn with
 | _ n ih=>
   intro b hb;rw[cz]at hb;split at hb
   . simp at hb;unfold isF;omega
   . rcases List.mem_append.mp hb with z|z
     . exact ih (n/10) (by omega) b z
     . simp at z;unfold isF;omega
theorem Dv(n:Nat):cz n≠[]:=by rw[Fo];simp
theorem zT(n:Nat)(h:0<n):∃ d r,cz n=d ::r /\ 49<=d /\ d<=57 /\ ∀ b∈r,isF b:=by
 induction n using Nat.strongRecOn with
 | _ n ih=>
   rw[cz];split
   . exact⟨48+(n:Int),[],rfl,by omega,by omega,fun b hb=>by cases hb⟩
   . obtain⟨d,r,e,h1,h2,h3⟩:=ih (n/10) (by omega) (by omega);rw[e]
     refine⟨d,r++[48+((n%10:Nat):Int)],rfl,h1,h2,fun b hb=>?_⟩
     rcases List.mem_append.mp hb with z|z
     . exact h3 b z
     . simp at z;unfold isF;omega
theorem zC:cz 0=[48]:=by rw[cz];rfl
theorem ni(k:Nat):∀ n:Nat,n<10 ^ (k+1)->(cz n).length<=k+1:=by
 induction k with
 |zero=>intro n h;rw[cz,if_pos (by simpa using h)];simp
 | succ k ih=>
   intro n h;rw[cz];split
   . simp
   . have:n/10<10 ^ (k+1):=by rw[Nat.pow_succ]at h;omega
     have:=ih (n/10) this
     simp;omega
noncomputable def cv(ds:List Int):Int:=ds.foldl (fun n d=>10*n+d - 48) 0
theorem DO(ds:List Int)(d:Int):cv (ds++[d])=10*cv ds+d - 48:=by simp[cv]
theorem CL(n:Nat):cv (cz n)=n:=by
 induction n using Nat.strongRecOn with
 | _ n ih=>
   rw[cz];split
   . simp[cv];omega
   . rw[DO,ih (n/10) (by omega)];omega
structure Nm where
 neg:Bool
 ip:List Int
 fr:List Int
 ex:Option (Int×List Int×List Int)
noncomputable def frB(fr:List Int):List Int:=if fr=[]then[]else 46 ::fr
noncomputable def exB:Option (Int×List Int×List Int)->List Int
 |none=>[]
 |some (e,s,ds)=>e ::(s++ds)
noncomputable def nb(m:Nm):List Int:=(if m.neg then[45]else[])++(m.ip++(frB m.fr++exB m.ex))
structure Nok(m:Nm):Prop where
 ip:(m.ip=[48]) \/ ∃ d r,m.ip=d ::r /\ 49<=d /\ d<=57 /\ ∀ b∈r,isF b
 fr:∀ b∈m.fr,isF b
 ex:∀ e s ds,m.ex=some (e,s,ds)->(e=101 \/ e=69) /\ (s=[] \/ s=[43] \/ s=[45]) /\ ds≠[] /\ ∀ b∈ds,isF b
noncomputable def nl:It->Bool
 |.figures=>true|.fraction=>true|.exponent=>true
 |_=>false
theorem pf{st:List It}(hc:cnt st<=64)(ds:List Int)(h:∀ b∈ds,isF b):Goes (.figures ::st) ds (.figures ::st):=by
 induction ds with
 |nil=>exact .nil _
 | cons d ds ih=>
   refine Goes.step (l:=[.figures]) ?_ rfl hc (ih fun b hb=>h b (List.mem_cons_of_mem _ hb));have:=h d List.mem_cons_self;simp only[bh];rw[if_pos this]
theorem AS{m:Nm}(h:Nok m){st:List It}(hc:cnt st<=64):∃ ls,ls.all nl=true /\ Goes (.value ::st) (nb m) (ls++st):=by
 have n1:∀ it:It,opn it=false->∀ st,cnt st<=64->cnt (it ::st)<=64:=fun it ho st h=>by rw[cnt_cons,ho];simp;omega
 have hlead:∃ ls,(ls=[.fraction,.exponent] \/ ls=[.figures,.fraction,.exponent]) /\ Goes (.lead ::st) m.ip (ls++st) /\ ∀ b r,m.ip=b ::r->bh .value b=bh .lead b:=by
  rcases h.ip with e|⟨d,r,e,h1,h2,h3⟩
  . exact⟨_,.inl rfl,by rw[e];exact Goes.step (l:=[.fraction,.exponent]) rfl rfl hc (.nil _),fun b r e2=>by rw[e]at e2;cases e2;rfl⟩
  . refine⟨_,.inr rfl,?_,fun b r' e2=>?_⟩
    . rw[e];refine Goes.step (l:=[.figures,.fraction,.exponent]) ?_ rfl hc ?_
      . simp only[bh,jA];rw[if_neg (by omega),if_pos (by omega)]
      . exact pf (n1 _ rfl _ (n1 _ rfl _ hc)) r h3
    . rw[e]at e2;cases e2;simp only[bh,jf];rw[if_neg (by omega),if_neg (by omega),if_neg (by omega),if_neg (by omega),if_neg (by omega),if_neg (by omega),if_neg (by omega)]
 obtain⟨ls,hls,g1,g2⟩:=hlead
 have g3:Goes (.value ::st) ((if m.neg then[45]else[])++m.ip) (ls++st):=by
  cases m.neg with
  |true=>exact Goes.step (l:=[.lead]) rfl rfl hc g1
  | false=>
    rw[if_neg (by decide),List.nil_append]
    rcases h.ip with e|⟨d,r,e,_⟩
    . intro q;have e1:=g1 q;have e2:=g2 48 [] e
      rw[e]at e1 ⊢
      rw[<- e1];simp[tk,gon,e2,loose]
    . intro q;have e1:=g1 q;have e2:=g2 d r e
      have ne:∃ l,bh .lead d=some l:=by
       rw[e]at e1
       cases e3:bh .lead d with
       |some l=>exact⟨l,rfl⟩
       |none=>simp[tk,gon,e3,loose]at e1
      obtain⟨l,hl⟩:=ne
      rw[e]at e1 ⊢
      rw[<- e1];simp[tk,gon,e2,hl]
 have g4:∃ ls',(ls'=[.figures,.exponent] \/ ls'=[.fraction,.exponent] \/ ls'=[.figures,.fraction,.exponent]) /\ Goes (ls++st) (frB m.fr) (ls'++st):=by
  unfold frB
  cases e:m.fr with
  | nil=>
    rw[if_pos rfl]
    refine⟨ls,?_,.nil _⟩
    rcases hls with z|z
    . exact .inr (.inl z)
    . exact .inr (.inr z)
  | cons d ds=>
    rw[if_neg (by simp)];have hf:=h.fr;rw[e]at hf
    refine⟨_,.inl rfl,?_⟩
    have base:Goes (.fraction ::.exponent ::st) (46 ::d ::ds) (.figures ::.exponent ::st):=by
     refine Goes.step (l:=[.sp 48 57,.figures]) rfl rfl (n1 _ rfl _ hc) (Goes.step (l:=[]) ?_ rfl (n1 _ rfl _ (n1 _ rfl _ hc)) (pf (n1 _ rfl _ hc) ds fun b hb=>hf b (List.mem_cons_of_mem _ hb)));have:=hf d List.mem_cons_self;simp only[bh];rw[if_pos this]
    rcases hls with z|z
    . subst z;exact base
    . subst z;exact Goes.skip rfl rfl base
 obtain⟨ls',hls',g5⟩:=g4
 have g6:∃ ls2,ls2.all nl=true /\ Goes (ls'++st) (exB m.ex) (ls2++st):=by
  cases e:m.ex with
  | none=>
    refine⟨ls',?_,.nil _⟩
    rcases hls' with z|z|z<;>(subst z;rfl)
  | some x=>
    obtain⟨eb,s,ds⟩:=x;obtain⟨he,hs,hd,hf⟩:=h.ex eb s ds e
    refine⟨[.figures],rfl,?_⟩
    have base:Goes (.exponent ::st) (eb ::(s++ds)) (.figures ::st):=by
     refine Goes.step (l:=[.sign,.sp 48 57,.figures]) (by rcases he with rfl|rfl<;>rfl) rfl hc ?_
     obtain⟨d,r,ed⟩:∃ d r,ds=d ::r:=by
      cases ds with
      |nil=>exact absurd rfl hd
      |cons d r=>exact⟨d,r,rfl⟩
     subst ed;have hd1:=hf d List.mem_cons_self
     have tail:Goes (.sp 48 57 ::.figures ::st) (d ::r) (.figures ::st):=by
      refine Goes.step (l:=[]) ?_ rfl (n1 _ rfl _ hc) (pf hc r fun b hb=>hf b (List.mem_cons_of_mem _ hb));simp only[bh];rw[if_pos hd1]
     rcases hs with rfl|rfl|rfl
     . refine Goes.skip ?_ rfl tail;unfold isF at hd1;simp only[bh];rw[if_neg (by omega)]
     . exact Goes.step (l:=[]) rfl rfl (n1 _ rfl _ (n1 _ rfl _ hc)) tail
     . exact Goes.step (l:=[]) rfl rfl (n1 _ rfl _ (n1 _ rfl _ hc)) tail
    have k1:bh .figures eb=none:=by rcases he with rfl|rfl<;>rfl
    have k2:bh .fraction eb=none:=by rcases he with rfl|rfl<;>rfl
    rcases hls' with z|z|z
    . subst z;exact Goes.skip k1 rfl base
    . subst z;exact Goes.skip k2 rfl base
    . subst z;exact Goes.skip k1 rfl (Goes.skip k2 rfl base)
 obtain⟨ls2,hl2,g7⟩:=g6
 refine⟨ls2,hl2,?_⟩
 have:=g3.trans (g5.trans g7);unfold nb
 simpa using this
end PG
namespace PG
open L2.P PySem
noncomputable def out:List Bool->List It
 |[]=>[.white]
 |r ::fs=>.white ::(if r then .mrow else .mfields) ::out fs
noncomputable def hd(r e:Bool):It:=if r then(if e then .row else .mrow)else(if e then .fields else .mfields)
noncomputable def stk(r e:Bool)(fs:List Bool):List It:=.white ::hd r e ::out fs
theorem yy:∀ fs:List Bool,cnt (out fs)=fs.length
 |[]=>rfl
 | r ::fs=>by
   show cnt (.white ::(if r then It.mrow else It.mfields) ::out fs)=fs.length+1;rw[cnt_cons,cnt_cons,yy fs]
   cases r<;>simp[opn]<;>omega
noncomputable def Gs(a:List It)(xs:List Int)(b:List It):Prop:=∃ ls,ls.all nl=true /\ Goes a xs (ls++b)
theorem Gs.of{a b:List It}{xs:List Int}(h:Goes a xs b):Gs a xs b:=⟨[],rfl,h⟩
noncomputable def HB(b:Int):Prop:=bh .figures b=none /\ bh .fraction b=none /\ bh .exponent b=none
theorem Goes.one{it:It}{st l:List It}{b:Int}(h:bh it b=some l)(hc:cnt (l++st)<=64):Goes (it ::st) [b] (l++st):=fun r=>by
 have:gon (it ::st) b=(l++st,true):=by unfold gon;rw[h];simp[hc]
 show tk (it ::st) (b ::r)=_;rw[HE this];rfl
inductive Wd where|null|tru|fal
noncomputable def wdb:Wd->List Int
 |.null=>[110,117,108,108]|.tru=>[116,114,117,101]|.fal=>[102,97,108,115,101]
theorem i7{c:Int}{st:List It}(hc:cnt st<=64):Goes (.sp c c ::st) [c] st:=by
 have:=Goes.one (it:=.sp c c) (st:=st) (b:=c) (l:=[]) (by simp[bh]) hc;exact this
theorem zP{st:List It}(hc:cnt st<=64)(w:Wd):Goes (.value ::st) (wdb w) st:=by
 cases w with
 |null=>exact Goes.step (l:=[.sp 117 117,.sp 108 108,.sp 108 108]) rfl rfl hc (Goes.trans (xs:=[117]) (i7 (by simpa [cnt_cons,opn]using hc)) (Goes.trans (xs:=[108]) (i7 (by simpa [cnt_cons,opn]using hc)) (i7 hc)))
 |tru=>exact Goes.step (l:=[.sp 114 114,.sp 117 117,.sp 101 101]) rfl rfl hc (Goes.trans (xs:=[114]) (i7 (by simpa [cnt_cons,opn]using hc)) (Goes.trans (xs:=[117]) (i7 (by simpa [cnt_cons,opn]using hc)) (i7 hc)))
 |fal=>exact Goes.step (l:=[.sp 97 97,.sp 108 108,.sp 115 115,.sp 101 101]) rfl rfl hc (Goes.trans (xs:=[97]) (i7 (by simpa [cnt_cons,opn]using hc)) (Goes.trans (xs:=[108]) (i7 (by simpa [cnt_cons,opn]using hc)) (Goes.trans (xs:=[115]) (i7 (by simpa [cnt_cons,opn]using hc)) (i7 hc))))
inductive Lf where|wd(w:Wd)|nm(m:Nm)|tx(l:List Sg)
noncomputable def lfb:Lf->List Int
 |.wd w=>wdb w|.nm m=>nb m|.tx l=>txt l
noncomputable def Lok:Lf->Prop
 |.wd _=>True|.nm m=>Nok m|.tx l=>∀ s∈l,Sok s
theorem C8{st:List It}(hc:cnt st<=64)(x:Lf)(h:Lok x):Gs (.value ::st) (lfb x) st:=by
 cases x with
 |wd w=>exact .of (zP hc w)
 |nm m=>exact AS h hc
 |tx l=>exact .of (rm l h hc)
noncomputable def tb(b:Int):Prop:=wht b=true \/ isF b \/ b=46 \/ b=101 \/ b=69 \/ b=43 \/ b=45
theorem Cf:∀(P R:List Int) (st:List It),(tk st (P++R)).2=(P++R).length->(tk st P).2=P.length /\ (tk (tk st P).1 R).2=R.length
 |[],R,st,h=>⟨rfl,h⟩
 | b ::P,R,st,h=>by
   simp only[List.cons_append]at h;unfold tk at h
   have e:(gon st b).2=true:=by
    cases q:(gon st b).2 with
    |true=>rfl
    |false=>rw[q]at h;simp at h
   rw[if_pos e]at h;have k:=Cf P R (gon st b).1 (by simp only[List.length_cons]at h;omega)
   have e2:tk st (b ::P)=((tk (gon st b).1 P).1,(tk (gon st b).1 P).2+1):=by rw[tk,if_pos e]
   rw[e2]
   exact⟨by simp only[List.length_cons];omega,k.2⟩
theorem Goes.whole{a b:List It}{xs:List Int}(h:Goes a xs b):(tk a xs).2=xs.length:=by
 have:=h [];rw[List.append_nil]at this;rw[this];simp[tk]
noncomputable def short:It->List Int
 |.sp lo _=>[lo]|.value=>[48]|.lead=>[48]|.text=>[34]|.name=>[34,34]|.escape=>[34]|.code=>[48,48,48,48]|.coded=>[48,48,48]
 |.hex=>[48]|.hexd=>[68]|.hexcf=>[67]|.row=>[93]|.mrow=>[93]|.fields=>[125]|.mfields=>[125]
 |_=>[]
noncomputable def ends(st:List It):List Int:=st.flatMap short
theorem tU(it:It)(st:List It):ends (it ::st)=short it++ends st:=rfl
noncomputable def Stp(st:List It):Prop:=∀ b r,ends st=b ::r->HB b
theorem ends_app(l st:List It):ends (l++st)=ends l++ends st:=by unfold ends;rw[List.flatMap_append]
theorem zY{st c:List It}{b:Int}{bs:List Int}(h:Goes (.value ::st) (b ::bs) c):∃ l,jf b=some l:=by
 have hw:=h.whole
 cases e:jf b with
 |some l=>exact⟨l,rfl⟩
 | none=>
   unfold tk at hw
   have:gon (.value ::st) b=(st,false):=by
    unfold gon;rw[show bh .value b=none from e];rfl
   rw[this]at hw;simp at hw
theorem ER{b:Int}{l:List It}(h:jf b=some l):wht b=false /\ b≠93:=by
 have h1:∀ c:Int,(c=32 \/ c=9 \/ c=10 \/ c=13 \/ c=93)->jf c=none:=by
  intro c hc
  rcases hc with z|z|z|z|z<;>subst z<;>rfl
 refine⟨?_,fun z=>by rw[h1 b (by omega)]at h;cases h⟩
 cases hw:wht b with
 |false=>rfl
 | true=>
   unfold wht at hw;simp only[Bool.or_eq_true,decide_eq_true_eq]at hw;rw[h1 b (by omega)]at h;cases h
theorem Hn(x:Lf)(hx:Lok x):lfb x≠[]:=by
 cases x with
 |wd w=>cases w<;>simp[lfb,wdb]
 |tx l=>simp[lfb,txt]
 | nm m=>
   intro q
   have q':nb m=[]:=q
   unfold nb at q';simp at q'
   rcases hx.ip with z|⟨d,r,z,_⟩<;>rw[z]at q'<;>simp at q'
noncomputable def sJ(b:Int):List Int:=if b=45 \/ b=43 \/ b=46 \/ b=101 \/ b=69 then[48]else[]
noncomputable def nby(b:Int):Prop:=isF b \/ b=45 \/ b=43 \/ b=46 \/ b=101 \/ b=69
noncomputable def NS:List It->Prop
 |[]=>True
 |it ::B=>(((it=.figures \/ it=.fraction \/ it=.exponent \/ it=.lead \/ it=.sp 48 57) /\ ends B=[]) \/ (it=.sign /\ ends B=[48])) /\ NS B
theorem CT{b:Int}(hb:nby b)(ks:List Bool):(gon (out ks) b).2=false:=by
 have hw:wht b=false:=by
  unfold wht nby isF at *;simp only[Bool.or_eq_false_iff,decide_eq_false_iff_not];omega
 have h1:bh .white b=none:=by simp[bh,hw]
 cases ks with
 |nil=>unfold out gon;rw[h1];simp[loose,gon]
 | cons k ks=>
   unfold out gon;rw[h1];simp only[loose,if_true]
   have h44:¬ b=44:=by unfold nby isF at hb;omega
   have h93:¬ b=93:=by unfold nby isF at hb;omega
   have h125:¬ b=125:=by unfold nby isF at hb;omega
   unfold gon
   cases k<;>simp[bh,h44,h93,h125,loose]
theorem u1{b:Int}(h:isF b):sJ b=[]:=by unfold isF at h;unfold sJ;rw[if_neg (by omega)]
theorem yO:∀{L:List It} {b:Int} {ks:List Bool} {st':List It},NS L->nby b->gon (L++out ks) b=(st',true)->∃ L',st'=L'++out ks /\ NS L' /\ ends L'=sJ b
 | [],b,ks,st',_,hb,k=>by
   have:=CT hb ks;rw[List.nil_append]at k;rw[k]at this;cases this
 | it ::B,b,ks,st',⟨h1,h2⟩,hb,k=>by
   rw[List.cons_append]at k;unfold gon at k
   cases e:bh it b with
   | none=>
     rw[e]at k;simp only at k;split at k
     . exact yO h2 hb k
     . simp at k
   | some l=>
     rw[e]at k;simp only[Prod.mk.injEq,decide_eq_true_eq]at k
     refine⟨l++B,by rw[<- k.1,List.append_assoc],?_⟩
     rcases h1 with⟨h1,hB⟩|⟨rfl,hB⟩
     . rcases h1 with rfl|rfl|rfl|rfl|rfl
       . simp only[bh]at e;split at e<;>cases e
         exact⟨⟨.inl ⟨.inl rfl,hB⟩,h2⟩,by rw[u1 ‹_›];exact hB⟩
       . simp only[bh]at e;split at e<;>cases e
         rename_i z;subst z
         exact⟨⟨.inl ⟨.inr (.inr (.inr (.inr rfl))),hB⟩,.inl ⟨.inl rfl,hB⟩,h2⟩,by show[48]++([]++ends B)=_;rw[hB];rfl⟩
       . simp only[bh]at e;split at e<;>cases e
         rename_i z
         refine⟨⟨.inr ⟨rfl,?_⟩,.inl ⟨.inr (.inr (.inr (.inr rfl))),hB⟩,.inl ⟨.inl rfl,hB⟩,h2⟩,?_⟩
         . show[48]++([]++ends B)=_;rw[hB];rfl
         . show[]++([48]++([]++ends B))=_;rw[hB];rcases z with z|z<;>subst z<;>rfl
       . simp only[bh,jA]at e;split at e
         . cases e;rename_i z;subst z
           exact⟨⟨.inl ⟨.inr (.inl rfl),hB⟩,.inl ⟨.inr (.inr (.inl rfl)),hB⟩,h2⟩,hB⟩
         . split at e<;>cases e
           exact⟨⟨.inl ⟨.inl rfl,hB⟩,.inl ⟨.inr (.inl rfl),hB⟩,.inl ⟨.inr (.inr (.inl rfl)),hB⟩,h2⟩,by rw[u1 ‹_›];exact hB⟩
       . simp only[bh]at e;split at e<;>cases e
         exact⟨h2,by rw[u1 ‹_›];exact hB⟩
     . simp only[bh]at e;split at e<;>cases e
       rename_i z
       exact⟨h2,by rw[List.nil_append,hB];rcases z with z|z<;>subst z<;>rfl⟩
theorem Ea:∀(P:List Int) {L:List It} {ks:List Bool},NS L->(∀ b∈P,nby b)->(tk (L++out ks) P).2=P.length->∃ L',(tk (L++out ks) P).1=L'++out ks /\ NS L' /\ ends L'=(match P.getLast? with|none=>ends L|some b=>sJ b)
 |[],L,ks,h,_,_=>⟨L,rfl,h,rfl⟩
 | b ::P,L,ks,h,hP,k=>by
   unfold tk at k ⊢
   have e:(gon (L++out ks) b).2=true:=by
    cases q:(gon (L++out ks) b).2 with
    |true=>rfl
    |false=>rw[q]at k;simp at k
   rw[if_pos e]at k ⊢
   obtain⟨L1,h1,h2,h3⟩:=yO (st':=(gon (L++out ks) b).1) h (hP b List.mem_cons_self) (by rw[<- e])
   rw[h1]at k ⊢
   obtain⟨L2,g1,g2,g3⟩:=Ea P (ks:=ks) h2 (fun c hc=>hP c (List.mem_cons_of_mem _ hc)) (by simp only[List.length_cons]at k;omega)
   refine⟨L2,g1,g2,?_⟩
   rw[g3]
   cases P with
   |nil=>simpa using h3
   | cons c P=>
     obtain⟨z,hz⟩:∃ z,(c ::P).getLast?=some z:=⟨_,List.getLast?_eq_some_getLast (by simp)⟩
     rw[List.getLast?_cons_cons,hz]
theorem Dn{P:List Int}{b:Int}{ks:List Bool}(hP:∀ c∈P,nby c)(hl:P.getLast?=some b)(k:(tk (.value ::out ks) P).2=P.length):ends (tk (.value ::out ks) P).1=sJ b++ends (out ks):=by
 cases P with
 |nil=>cases hl
 | cons c P=>
   unfold tk at k ⊢
   have e:(gon (.value ::out ks) c).2=true:=by
    cases q:(gon (.value ::out ks) c).2 with
    |true=>rfl
    |false=>rw[q]at k;simp at k
   rw[if_pos e]at k ⊢
   have hc:=hP c List.mem_cons_self
   obtain⟨L,h1,h2,h3⟩:∃ L,(gon (.value ::out ks) c).1=L++out ks /\ NS L /\ ends L=sJ c:=by
    unfold gon at e ⊢
    cases q:bh .value c with
    |none=>rw[q]at e;simp[loose]at e
    | some l=>
      refine⟨l,rfl,?_⟩
      have q':jf c=some l:=q
      unfold nby isF at hc;unfold jf at q';rw[if_neg (by omega),if_neg (by omega),if_neg (by omega)]at q';split at q'
      . rename_i z;subst z;cases q'
        exact⟨⟨.inl ⟨.inr (.inr (.inr (.inl rfl))),rfl⟩,trivial⟩,rfl⟩
      . rw[if_neg (by omega),if_neg (by omega),if_neg (by omega)]at q';unfold jA at q';split at q'
        . rename_i z;subst z;cases q'
          exact⟨⟨.inl ⟨.inr (.inl rfl),rfl⟩,.inl ⟨.inr (.inr (.inl rfl)),rfl⟩,trivial⟩,rfl⟩
        . split at q'<;>cases q'
          exact⟨⟨.inl ⟨.inl rfl,rfl⟩,.inl ⟨.inr (.inl rfl),rfl⟩,.inl ⟨.inr (.inr (.inl rfl)),rfl⟩,trivial⟩,by rw[u1 ‹_›];rfl⟩
   rw[h1]at k ⊢
   obtain⟨L2,g1,g2,g3⟩:=Ea P (ks:=ks) h2 (fun c hc=>hP c (List.mem_cons_of_mem _ hc)) (by simp only[List.length_cons]at k;omega);show ends (tk (L++out ks) P).1=_;rw[g1,ends_app,g3]
   congr 1
   cases P with
   |nil=>simp only[List.getLast?_singleton,Option.some.injEq]at hl;subst hl;exact h3
   |cons d P=>rw[List.getLast?_cons_cons]at hl;rw[hl]
theorem G3{m:Nm}(h:Nok m):∀ b∈nb m,nby b:=by
 intro b hb;unfold nb at hb;simp only[List.mem_append]at hb
 rcases hb with z|z|z|z
 . split at z
   . simp at z;exact .inr (.inl z)
   . cases z
 . rcases h.ip with e|⟨d,r,e,h1,h2,h3⟩
   . rw[e]at z;simp at z;subst z;exact .inl (by unfold isF;omega)
   . rw[e,List.mem_cons]at z
     rcases z with z|z
     . exact .inl (by unfold isF;omega)
     . exact .inl (h3 b z)
 . unfold frB at z;split at z
   . cases z
   . rw[List.mem_cons]at z
     rcases z with z|z
     . exact .inr (.inr (.inr (.inl z)))
     . exact .inl (h.fr b z)
 . cases e:m.ex with
   |none=>rw[e]at z;cases z
   | some q=>
     obtain⟨x,s,ds⟩:=q;obtain⟨h1,h2,_,h3⟩:=h.ex x s ds e;rw[e]at z;simp only[exB,List.mem_cons,List.mem_append]at z;unfold nby
     rcases z with z|z|z
     . omega
     . rcases h2 with y|y|y<;>rw[y]at z<;>simp at z<;>omega
     . exact .inl (h3 b z)
noncomputable def sz(b:Int):Nat:=1+(if 194<=b then 1 else 0)+(if 224<=b then 1 else 0)+(if 240<=b then 1 else 0)
noncomputable def oZ(f:List Int):Bool:=(decide (f.take 1=[68])||decide (f.take 1=[100]))&&(decide ((f.drop 1).take 1=[56])||(decide ((f.drop 1).take 1=[57])||(decide ((f.drop 1).take 1=[65])||(decide ((f.drop 1).take 1=[66])||(decide ((f.drop 1).take 1=[97])||decide ((f.drop 1).take 1=[98]))))))
noncomputable def er:List Int:=[92,117,68,67,48,48]
noncomputable def rY(b:Int)(left n:Nat):Int:=if left+1<n then 128 else if b=224 then 160 else if b=240 then 144 else 128
inductive TlR where|ret(r:List Int)|go(k:Nat)
noncomputable def tl1:List Int->TlR
 |[]=>.ret [34]
 | b ::Q=>
   if b≠92 then
    if Q.length+1<sz b then .ret (rY b (sz b - (Q.length+1)) (sz b) ::(List.replicate (sz b - (Q.length+1) - 1) 128++[34]))else .go (sz b)
   else match Q with
    |[]=>.ret [34,34]
    | c ::Q=>
      if c≠117 then .go 2
      else if(Q.take 4).length<4 /\ oZ (Q.take 4)=false then .ret (List.replicate (4 - (Q.take 4).length) 48++[34])
      else if oZ (Q.take 4)=false then .go 6
      else if((Q.drop 4).take 6).length<6 then .ret (List.replicate (4 - (Q.take 4).length) 48++(er.drop ((Q.drop 4).take 6).length++[34]))
      else .go 12
noncomputable def tln:Nat->List Int->List Int
 |0,_=>[]
 | n+1,Q=>match tl1 Q with
   |.ret r=>r
   |.go k=>tln n (Q.drop k)
theorem Cv{a b:List It}{xs:List Int}(h:Goes a xs b):tk a xs=(b,xs.length):=by
 have:=h [];rw[List.append_nil]at this;rw[this];simp[tk]
theorem vS{a b:List It}{xs ys:List Int}(h:Goes a xs b):(tk a (xs++ys)).1=(tk b ys).1:=by rw[h ys]
theorem tk1{it:It}{st l:List It}{b:Int}{r:List Int}(h:bh it b=some l)(hl:cnt l=0)(hc:cnt st<=64):(tk (it ::st) (b ::r)).1=(tk (l++st) r).1:=by rw[yz h hl hc]
theorem Ir{a:Int}(h:dC a=some 13):a=68 \/ a=100:=by
 unfold dC at h
 repeat' split at h
 all_goals first
  |(have:=Option.some.inj h;omega)
  |cases h
theorem Fv{a w:Int}(h:dC a=some w)(hw:w≠13):a≠68 /\ a≠100:=by
 constructor<;>(intro z;subst z;apply hw;simpa [dC]using h.symm)
theorem qX{b w:Int}(h:dC b=some w):(8<=w /\ w<12)↔(b=56 \/ b=57 \/ b=65 \/ b=66 \/ b=97 \/ b=98):=by
 unfold dC at h
 repeat' split at h
 all_goals first
  |(have:=Option.some.inj h;omega)
  |cases h
theorem Eh{a b:Int}{r:List Int}:oZ (a ::b ::r)=true↔(a=68 \/ a=100) /\ (b=56 \/ b=57 \/ b=65 \/ b=66 \/ b=97 \/ b=98):=by
 simp[oZ]
theorem D3(a:Int):oZ [a]=false:=by simp[oZ]
theorem Ed:oZ []=false:=rfl
theorem qB{n:Nat}{Q r:List Int}(h:tl1 Q=.ret r)(hn:0<n):tln n Q=r:=by
 obtain⟨m,rfl⟩:∃ m,n=m+1:=⟨n - 1,by omega⟩
 unfold tln;rw[h]
theorem xN{n k:Nat}{Q:List Int}(h:tl1 Q=.go k):tln (n+1) Q=tln n (Q.drop k):=by
 rw[tln,h]
noncomputable def SgT(s:Sg):Prop:=(∀ Q,tl1 (gu s++Q)=.go (gu s).length) /\ gu s≠[] /\ ∀(q r:List Int) (st:List It),cnt st<=64->gu s=q++r->r≠[]->q≠[]->∃ x,tl1 q=.ret x /\ ends (tk (.text ::st) q).1=x++ends st
theorem xc{α:Type}{a:α}{q r:List α}(h:[a]=q++r)(hr:r≠[]):q=[]:=by
 cases q with
 |nil=>rfl
 |cons x q=>simp at h;exact absurd h.2.2 hr
theorem fN{α:Type}{a:α}{l q r:List α}(h:a ::l=q++r):q=[] \/ ∃ q',q=a ::q' /\ l=q'++r:=by
 cases q with
 |nil=>exact .inl rfl
 |cons x q=>simp at h;exact .inr ⟨q,by rw[h.1],h.2⟩
theorem Hj(c p:Int)(h:Sok (.sh c p)):SgT (.sh c p):=by
 have hc:c<128 /\ c≠117:=by
  unfold Sok shP at h;simp only[List.mem_cons,Prod.mk.injEq,List.not_mem_nil,or_false]at h;omega
 have e:gu (.sh c p)=[92,c]:=by
  unfold gu pts;simp[fT (show(92:Int)<128 by omega),fT hc.1]
 rw[SgT,e]
 refine⟨fun Q=>by simp[tl1,hc.2],by simp,fun q r st hs h1 h2 h3=>?_⟩
 rcases fN h1 with z|⟨q1,rfl,g1⟩
 . exact absurd z h3
 have:=xc g1 h2;subst this
 exact⟨[34,34],rfl,by rw[tk1 (l:=[.escape,.text]) rfl rfl hs];rfl⟩
theorem xh{b:Int}(g1:b≠34)(g2:b≠92)(g3:¬ b<32):bh .text b=(tls b).map (·++[.text]):=by simp only[bh,n9,g1,g2,g3,if_false]
theorem HV(p:Int)(h:Sok (.pl p)):SgT (.pl p):=by
 obtain⟨hp,h32,h34,h92⟩:=h;have hr:=lE hp
 have hs:p<55296 \/ 57343<p:=by
  unfold kD at hp;simp only[Bool.or_eq_true,Bool.and_eq_true,decide_eq_true_eq]at hp;omega
 have e:gu (.pl p)=bp p:=by simp[gu,pts]
 rw[SgT,e];unfold bp
 by_cases c1:p<128
 . rw[if_pos c1]
   have hz:sz p=1:=by unfold sz;rw[if_neg (by omega),if_neg (by omega),if_neg (by omega)]
   refine⟨fun Q=>by simp[tl1,h92,hz],by simp,fun q r st hs h1 h2 h3=>absurd (xc h1 h2) h3⟩
 rw[if_neg c1]
 by_cases c2:p<2048
 . rw[if_pos c2];generalize hb:192+p/64=b;generalize hc:128+p%64=c
   have hb1:194<=b /\ b<224:=by omega
   have hz:sz b=2:=by unfold sz;rw[if_pos (by omega),if_neg (by omega),if_neg (by omega)]
   have n92:b≠92:=by omega
   refine⟨fun Q=>by simp[tl1,n92,hz],by simp,fun q r st hs h1 h2 h3=>?_⟩
   rcases fN h1 with z|⟨q1,rfl,g1⟩
   . exact absurd z h3
   have:=xc g1 h2;subst this
   have ht:bh .text b=some [.sp 128 191,.text]:=by
    rw[xh (by omega) n92 (by omega)];unfold tls;rw[if_neg (by omega),if_pos (by omega)];rfl
   refine⟨[128,34],?_,by rw[tk1 ht rfl hs];rfl⟩
   have m1:b≠224:=by omega
   have m2:b≠240:=by omega
   simp[tl1,n92,hz,rY,m1,m2]
 rw[if_neg c2]
 by_cases c3:p<65536
 . rw[if_pos c3];generalize hb:224+p/4096=b;generalize hc:128+p/64%64=c;generalize hd:128+p%64=d
   have hb1:224<=b /\ b<240:=by omega
   have hz:sz b=3:=by unfold sz;rw[if_pos (by omega),if_pos (by omega),if_neg (by omega)]
   have n92:b≠92:=by omega
   have m2:b≠240:=by omega
   refine⟨fun Q=>by simp[tl1,n92,hz],by simp,fun q r st hs h1 h2 h3=>?_⟩
   rcases fN h1 with z|⟨q1,rfl,g1⟩
   . exact absurd z h3
   have hX:∃ X,bh .text b=some [X,.sp 128 191,.text] /\ short X=[if b=224 then 160 else 128] /\ cnt [X,.sp 128 191,.text]=0 /\ bh X c=some []:=by
    have ht:bh .text b=some [if b=224 then .sp 160 191 else if b=237 then .sp 128 159 else .sp 128 191,.sp 128 191,.text]:=by
     rw[xh (by omega) n92 (by omega)];unfold tls;rw[if_neg (by omega),if_neg (by omega),if_pos (by omega)];rfl
    refine⟨_,ht,?_,?_,?_⟩
    . split
      . rfl
      . split<;>rfl
    . split
      . rfl
      . split<;>rfl
    . split
      . simp only[bh];rw[if_pos (by omega)]
      . split
        . simp only[bh];rw[if_pos (by omega)]
        . simp only[bh];rw[if_pos (by omega)]
   obtain⟨X,x1,x2,x3,x4⟩:=hX
   rcases fN g1 with z|⟨q2,rfl,g2⟩
   . subst z
     refine⟨[if b=224 then 160 else 128,128,34],?_,?_⟩
     . simp[tl1,n92,hz,rY,m2]
     . rw[tk1 x1 x3 hs];show short X++([128]++([34]++ends st))=_;rw[x2];rfl
   . have:=xc g2 h2;subst this
     refine⟨[128,34],?_,?_⟩
     . simp[tl1,n92,hz,rY]
     . rw[tk1 x1 x3 hs];show ends (tk (X ::.sp 128 191 ::.text ::st) [c]).1=_;rw[tk1 x4 rfl (by simp only[cnt_cons];simp[opn];exact hs)];rfl
 . rw[if_neg c3];generalize hb:240+p/262144=b;generalize hc:128+p/4096%64=c;generalize hd:128+p/64%64=d;generalize hf:128+p%64=f
   have hb1:240<=b /\ b<245:=by omega
   have hz:sz b=4:=by unfold sz;rw[if_pos (by omega),if_pos (by omega),if_pos (by omega)]
   have n92:b≠92:=by omega
   have m2:b≠224:=by omega
   refine⟨fun Q=>by simp[tl1,n92,hz],by simp,fun q r st hs h1 h2 h3=>?_⟩
   rcases fN h1 with z|⟨q1,rfl,g1⟩
   . exact absurd z h3
   have hX:∃ X,bh .text b=some [X,.sp 128 191,.sp 128 191,.text] /\ short X=[if b=240 then 144 else 128] /\ cnt [X,.sp 128 191,.sp 128 191,.text]=0 /\ bh X c=some []:=by
    have ht:bh .text b=some [if b=240 then .sp 144 191 else if b=244 then .sp 128 143 else .sp 128 191,.sp 128 191,.sp 128 191,.text]:=by
     rw[xh (by omega) n92 (by omega)];unfold tls;rw[if_neg (by omega),if_neg (by omega),if_neg (by omega),if_pos (by omega)];rfl
    refine⟨_,ht,?_,?_,?_⟩
    . split
      . rfl
      . split<;>rfl
    . split
      . rfl
      . split<;>rfl
    . split
      . simp only[bh];rw[if_pos (by omega)]
      . split
        . simp only[bh];rw[if_pos (by omega)]
        . simp only[bh];rw[if_pos (by omega)]
   obtain⟨X,x1,x2,x3,x4⟩:=hX
   have hd1:bh (.sp 128 191) d=some []:=by simp only[bh];rw[if_pos (by omega)]
   rcases fN g1 with z|⟨q2,rfl,g2⟩
   . subst z
     refine⟨[if b=240 then 144 else 128,128,128,34],?_,?_⟩
     . simp[tl1,n92,hz,rY,m2,List.replicate]
     . rw[tk1 x1 x3 hs];show short X++([128]++([128]++([34]++ends st)))=_;rw[x2];rfl
   rcases fN g2 with z|⟨q3,rfl,g3⟩
   . subst z
     refine⟨[128,128,34],?_,?_⟩
     . simp[tl1,n92,hz,rY]
     . rw[tk1 x1 x3 hs];show ends (tk (X ::.sp 128 191 ::.sp 128 191 ::.text ::st) [c]).1=_;rw[tk1 x4 rfl (by simp only[cnt_cons];simp[opn];exact hs)];rfl
   . have:=xc g3 h2;subst this
     refine⟨[128,34],?_,?_⟩
     . simp[tl1,n92,hz,rY]
     . rw[tk1 x1 x3 hs];show ends (tk (X ::.sp 128 191 ::.sp 128 191 ::.text ::st) [c,d]).1=_;rw[tk1 x4 rfl (by simp only[cnt_cons];simp[opn];exact hs)];show ends (tk (.sp 128 191 ::.sp 128 191 ::.text ::st) [d]).1=_;rw[tk1 hd1 rfl (by simp only[cnt_cons];simp[opn];exact hs)];rfl
theorem u5{s:Sg}(h:∀ b∈pts s,b<128):gu s=pts s:=by
 unfold gu;generalize pts s=l at h
 induction l with
 |nil=>rfl
 |cons x l ih=>rw[List.flatMap_cons,fT (h x List.mem_cons_self),ih fun b hb=>h b (List.mem_cons_of_mem _ hb)];rfl
theorem Bi{a b:Int}{r:List Int}(h:¬ ((a=68 \/ a=100) /\ (b=56 \/ b=57 \/ b=65 \/ b=66 \/ b=97 \/ b=98))):oZ (a ::b ::r)=false:=by
 cases q:oZ (a ::b ::r)with
 |false=>rfl
 |true=>exact absurd (Eh.mp q) h
theorem GF{a w:Int}{T:List It}(h:dC a=some w)(hc:cnt T<=64):ends (tk (.code ::T) [a]).1=[48,48,48]++ends T:=by
 by_cases z:w=13
 . rw[tk1 (l:=[.coded]) (by simp[bh,h,z]) rfl hc];rfl
 . rw[tk1 (l:=[.hex,.hex,.hex]) (by simp[bh,h,z]) rfl hc];rfl
theorem Ij(a b c d:Int)(h:Sok (.hx a b c d)):SgT (.hx a b c d):=by
 obtain⟨ha,hb,hc,hd,hn⟩:=h;obtain⟨wa,ha⟩:=some_of ha;obtain⟨wb,hb⟩:=some_of hb;obtain⟨wc,hc⟩:=some_of hc;obtain⟨wd,hd⟩:=some_of hd;have ia:=cS ha;have ib:=cS hb;have ic:=cS hc
 have id':=cS hd
 have hlow:wa=13->wb<8:=by
  intro z;unfold cod at hn;rw[iu ha,iu hb,iu hc,iu hd]at hn;omega
 have nb:¬ ((a=68 \/ a=100) /\ (b=56 \/ b=57 \/ b=65 \/ b=66 \/ b=97 \/ b=98)):=by
  rintro⟨z1,z2⟩
  have:=(qX hb).mpr z2
  by_cases z:wa=13
  . have:=hlow z;omega
  . have:=Fv ha z;omega
 have e:gu (.hx a b c d)=[92,117,a,b,c,d]:=u5 fun x hx=>by
  simp only[pts,List.mem_cons,List.not_mem_nil,or_false]at hx;omega
 rw[SgT,e]
 refine⟨fun Q=>by simp[tl1,Bi nb],by simp,fun q r st hs h1 h2 h3=>?_⟩
 have hT:cnt (.text ::st)<=64:=by rw[cnt_cons];simp[opn];exact hs
 have hH:cnt (.hex ::.text ::st)<=64:=by rw[cnt_cons];simp[opn];exact hT
 have s1:∀ r,(tk (.text ::st) (92 ::r)).1=(tk (.escape ::.text ::st) r).1:=fun r=>tk1 (l:=[.escape,.text]) rfl rfl hs
 have s2:∀ r,(tk (.escape ::.text ::st) (117 ::r)).1=(tk (.code ::.text ::st) r).1:=fun r=>tk1 (l:=[.code]) rfl rfl hT
 have s4:∀ r,(tk (.code ::.text ::st) (a ::b ::r)).1=(tk (.hex ::.hex ::.text ::st) r).1:=fun r=>by
  by_cases z:wa=13
  . have:=hlow z;rw[tk1 (l:=[.coded]) (by simp[bh,ha,z]) rfl hT];exact tk1 (l:=[.hex,.hex]) (by simp[bh,hb,ud,this]) rfl hT
  . rw[tk1 (l:=[.hex,.hex,.hex]) (by simp[bh,ha,z]) rfl hT];exact tk1 (it:=.hex) (l:=[]) (by simp[bh,hb]) rfl (show cnt (.hex ::.hex ::.text ::st)<=64 by rw[cnt_cons];simp[opn];exact hH)
 have s5:∀ r,(tk (.hex ::.hex ::.text ::st) (c ::r)).1=(tk (.hex ::.text ::st) r).1:=fun r=>tk1 (l:=[]) (by simp[bh,hc]) rfl hH
 rcases fN h1 with z|⟨q1,rfl,g1⟩
 . exact absurd z h3
 rcases fN g1 with z|⟨q2,rfl,g2⟩
 . subst z;exact⟨_,rfl,by rw[s1];rfl⟩
 rcases fN g2 with z|⟨q3,rfl,g3⟩
 . subst z;exact⟨[48,48,48,48,34],by simp[tl1,Ed,List.replicate],by rw[s1,s2];rfl⟩
 rcases fN g3 with z|⟨q4,rfl,g4⟩
 . subst z;exact⟨[48,48,48,34],by simp[tl1,D3,List.replicate],by rw[s1,s2,GF ha hT];rfl⟩
 rcases fN g4 with z|⟨q5,rfl,g5⟩
 . subst z;exact⟨[48,48,34],by simp[tl1,Bi nb,List.replicate],by rw[s1,s2,s4];rfl⟩
 have:=xc g5 h2;subst this
 exact⟨[48,34],by simp[tl1,Bi nb,List.replicate],by rw[s1,s2,s4,s5];rfl⟩
theorem HN(a b c d e f g h:Int)(hk:Sok (.pr a b c d e f g h)):SgT (.pr a b c d e f g h):=by
 obtain⟨⟨ha,hb1,hb2,hb,hc,hd⟩,he,hf1,hf,hg,hh⟩:=hk;obtain⟨wb,hb⟩:=some_of hb;obtain⟨wc,hc⟩:=some_of hc;obtain⟨wd,hd⟩:=some_of hd;obtain⟨wf,hf⟩:=some_of hf;obtain⟨wg,hg⟩:=some_of hg;obtain⟨wh,hh⟩:=some_of hh;rw[iu hb]at hb1 hb2;rw[iu hf]at hf1;have ia:=cS ha;have ib:=cS hb;have ic:=cS hc
 have id':=cS hd
 have ie:=cS he
 have if':=cS hf
 have ig:=cS hg;have ih:=cS hh
 have bt:∀ r,oZ (a ::b ::r)=true:=fun r=>Eh.mpr ⟨Ir ha,(qX hb).mp ⟨hb1,hb2⟩⟩
 have ee:gu (.pr a b c d e f g h)=[92,117,a,b,c,d,92,117,e,f,g,h]:=u5 fun x hx=>by
  simp only[pts,List.mem_cons,List.not_mem_nil,or_false]at hx;omega
 rw[SgT,ee]
 refine⟨fun Q=>by simp[tl1,bt],by simp,fun q r st hs h1 h2 h3=>?_⟩
 have hT:cnt (.text ::st)<=64:=by rw[cnt_cons];simp[opn];exact hs
 have s1:∀ r,(tk (.text ::st) (92 ::r)).1=(tk (.escape ::.text ::st) r).1:=fun r=>tk1 (l:=[.escape,.text]) rfl rfl hs
 have s2:∀ r,(tk (.escape ::.text ::st) (117 ::r)).1=(tk (.code ::.text ::st) r).1:=fun r=>tk1 (l:=[.code]) rfl rfl hT
 have s3:∀ r,(tk (.code ::.text ::st) (a ::r)).1=(tk (.coded ::.text ::st) r).1:=fun r=>tk1 (l:=[.coded]) (by simp[bh,ha]) rfl hT
 have s4:∀ r,(tk (.coded ::.text ::st) (b ::r)).1=(tk (.hex ::.hex ::.sp 92 92 ::.sp 117 117 ::.hexd ::.hexcf ::.hex ::.hex ::.text ::st) r).1:=fun r=>tk1 (l:=[.hex,.hex,.sp 92 92,.sp 117 117,.hexd,.hexcf,.hex,.hex]) (by
  have z:¬ wb<8:=by omega
  simp[bh,hb,ud,z,hb2]) rfl hT
 have cn:∀ l:List It,cnt l=0->cnt (l ++ .text ::st)<=64:=fun l hl=>by rw[u3,hl];omega
 have s5:∀ r,(tk (.hex ::.hex ::.sp 92 92 ::.sp 117 117 ::.hexd ::.hexcf ::.hex ::.hex ::.text ::st) (c ::r)).1=(tk (.hex ::.sp 92 92 ::.sp 117 117 ::.hexd ::.hexcf ::.hex ::.hex ::.text ::st) r).1:=fun r=>tk1 (l:=[]) (by simp[bh,hc]) rfl (cn [.hex,.sp 92 92,.sp 117 117,.hexd,.hexcf,.hex,.hex] rfl)
 have s6:∀ r,(tk (.hex ::.sp 92 92 ::.sp 117 117 ::.hexd ::.hexcf ::.hex ::.hex ::.text ::st) (d ::r)).1=(tk (.sp 92 92 ::.sp 117 117 ::.hexd ::.hexcf ::.hex ::.hex ::.text ::st) r).1:=fun r=>tk1 (l:=[]) (by simp[bh,hd]) rfl (cn [.sp 92 92,.sp 117 117,.hexd,.hexcf,.hex,.hex] rfl)
 have s7:∀ r,(tk (.sp 92 92 ::.sp 117 117 ::.hexd ::.hexcf ::.hex ::.hex ::.text ::st) (92 ::r)).1=(tk (.sp 117 117 ::.hexd ::.hexcf ::.hex ::.hex ::.text ::st) r).1:=fun r=>tk1 (l:=[]) rfl rfl (cn [.sp 117 117,.hexd,.hexcf,.hex,.hex] rfl)
 have s8:∀ r,(tk (.sp 117 117 ::.hexd ::.hexcf ::.hex ::.hex ::.text ::st) (117 ::r)).1=(tk (.hexd ::.hexcf ::.hex ::.hex ::.text ::st) r).1:=fun r=>tk1 (l:=[]) rfl rfl (cn [.hexd,.hexcf,.hex,.hex] rfl)
 have s9:∀ r,(tk (.hexd ::.hexcf ::.hex ::.hex ::.text ::st) (e ::r)).1=(tk (.hexcf ::.hex ::.hex ::.text ::st) r).1:=fun r=>tk1 (l:=[]) (by simp[bh,he]) rfl (cn [.hexcf,.hex,.hex] rfl)
 have s10:∀ r,(tk (.hexcf ::.hex ::.hex ::.text ::st) (f ::r)).1=(tk (.hex ::.hex ::.text ::st) r).1:=fun r=>tk1 (l:=[]) (by simp[bh,hf,hf1]) rfl (cn [.hex,.hex] rfl)
 have s11:∀ r,(tk (.hex ::.hex ::.text ::st) (g ::r)).1=(tk (.hex ::.text ::st) r).1:=fun r=>tk1 (l:=[]) (by simp[bh,hg]) rfl (cn [.hex] rfl)
 rcases fN h1 with z|⟨q1,rfl,g1⟩
 . exact absurd z h3
 rcases fN g1 with z|⟨q2,rfl,g2⟩
 . subst z;exact⟨_,rfl,by rw[s1];rfl⟩
 rcases fN g2 with z|⟨q3,rfl,g3⟩
 . subst z;exact⟨[48,48,48,48,34],by simp[tl1,Ed,List.replicate],by rw[s1,s2];rfl⟩
 rcases fN g3 with z|⟨q4,rfl,g4⟩
 . subst z;exact⟨[48,48,48,34],by simp[tl1,D3,List.replicate],by rw[s1,s2,s3];rfl⟩
 rcases fN g4 with z|⟨q5,rfl,g5⟩
 . subst z;exact⟨[48,48,92,117,68,67,48,48,34],by simp[tl1,bt,List.replicate,er],by rw[s1,s2,s3,s4];rfl⟩
 rcases fN g5 with z|⟨q6,rfl,g6⟩
 . subst z;exact⟨[48,92,117,68,67,48,48,34],by simp[tl1,bt,List.replicate,er],by rw[s1,s2,s3,s4,s5];rfl⟩
 rcases fN g6 with z|⟨q7,rfl,g7⟩
 . subst z;exact⟨[92,117,68,67,48,48,34],by simp[tl1,bt,List.replicate,er],by rw[s1,s2,s3,s4,s5,s6];rfl⟩
 rcases fN g7 with z|⟨q8,rfl,g8⟩
 . subst z;exact⟨[117,68,67,48,48,34],by simp[tl1,bt,List.replicate,er],by rw[s1,s2,s3,s4,s5,s6,s7];rfl⟩
 rcases fN g8 with z|⟨q9,rfl,g9⟩
 . subst z;exact⟨[68,67,48,48,34],by simp[tl1,bt,List.replicate,er],by rw[s1,s2,s3,s4,s5,s6,s7,s8];rfl⟩
 rcases fN g9 with z|⟨q10,rfl,g10⟩
 . subst z;exact⟨[67,48,48,34],by simp[tl1,bt,List.replicate,er],by rw[s1,s2,s3,s4,s5,s6,s7,s8,s9];rfl⟩
 rcases fN g10 with z|⟨q11,rfl,g11⟩
 . subst z;exact⟨[48,48,34],by simp[tl1,bt,List.replicate,er],by rw[s1,s2,s3,s4,s5,s6,s7,s8,s9,s10];rfl⟩
 have:=xc g11 h2;subst this
 exact⟨[48,34],by simp[tl1,bt,List.replicate,er],by rw[s1,s2,s3,s4,s5,s6,s7,s8,s9,s10,s11];rfl⟩
theorem Ke:∀ s:Sg,Sok s->SgT s
 |.pl p,h=>HV p h
 |.sh c p,h=>Hj c p h
 |.hx a b c d,h=>Ij a b c d h
 |.pr a b c d e f g h,k=>HN a b c d e f g h k
theorem yI(st:List It)(hc:cnt st<=64):∀(l:List Sg),(∀ s∈l,Sok s)->∀(Q R:List Int) (n:Nat),inner l=Q++R->Q.length<n->ends (tk (.text ::st) Q).1=tln n Q++ends st
 | [],_,Q,R,n,h,hn=>by
   have:Q=[]:=by
    have h':([]:List Int)=Q++R:=h
    cases Q with
    |nil=>rfl
    |cons x Q=>cases h'
   subst this;rw[qB rfl (by simp at hn;omega)];rfl
 | s ::l,hl,Q,R,n,h,hn=>by
   obtain⟨A,B,C⟩:=Ke s (hl s List.mem_cons_self)
   have hi:inner (s ::l)=gu s++inner l:=rfl
   rw[hi]at h
   have hpos:0<(gu s).length:=List.length_pos_iff.mpr B
   by_cases hq:Q=[]
   . subst hq;rw[qB rfl (by simp at hn;omega)];rfl
   rcases List.append_eq_append_iff.mp h with⟨m,h1,h2⟩|⟨m,h1,h2⟩
   . obtain⟨k,rfl⟩:∃ k,n=k+1:=⟨n - 1,by omega⟩
     rw[h1,vS (uX s (hl s List.mem_cons_self) st hc),xN (A m),List.drop_left];refine yI st hc l (fun x hx=>hl x (List.mem_cons_of_mem _ hx)) m R k h2 ?_;rw[h1,List.length_append]at hn;omega
   . by_cases hm:m=[]
     . subst hm;rw[List.append_nil]at h1
       obtain⟨k,rfl⟩:∃ k,n=k+1:=⟨n - 1,by omega⟩
       have e2:Q=gu s++[]:=by rw[List.append_nil,h1]
       rw[e2,vS (uX s (hl s List.mem_cons_self) st hc),xN (A []),List.drop_left];rw[qB rfl (by rw[<- h1]at hn;omega)];rfl
     . obtain⟨x,x1,x2⟩:=C Q m st hc h1 hm hq;rw[x2,qB x1 (by omega)]
theorem FZ(b:Int):1<=sz b:=by unfold sz;omega
theorem GZ{Q:List Int}{k:Nat}(h:tl1 Q=.go k):1<=k /\ k<=Q.length:=by
 cases Q with
 |nil=>cases h
 | cons b Q=>
   by_cases hb:b≠92
   . rw[tl1.eq_def]at h;simp only at h;rw[if_pos hb]at h;split at h
     . cases h
     . cases h;have:=FZ b;rw[List.length_cons];omega
   . cases Q with
     |nil=>rw[tl1.eq_def]at h;simp only at h;rw[if_neg hb]at h;cases h
     | cons c Q=>
       rw[tl1.eq_def]at h;simp only at h;rw[if_neg hb]at h;split at h
       . cases h;simp
       . split at h
         . cases h
         . rename_i h4;split at h
           . rename_i hB;cases h
             have:¬ (Q.take 4).length<4:=fun z=>h4 ⟨z,hB⟩
             simp at this ⊢;omega
           . split at h
             . cases h
             . rename_i h6;cases h;simp at h6 ⊢;omega
theorem BF(w:Wd){P R:List Int}{st:List It}(hc:cnt st<=64)(h:wdb w=P++R)(hP:P≠[]):ends (tk (.value ::st) P).1=R++ends st:=by
 have cn:∀ l:List It,cnt l=0->cnt (l++st)<=64:=fun l hl=>by rw[u3,hl];omega
 have sp:∀(c:Int) (l:List It) (r:List Int),cnt l=0->(tk (.sp c c ::(l++st)) (c ::r)).1=(tk (l++st) r).1:=fun c l r hl=>tk1 (l:=[]) (by simp[bh]) rfl (cn l hl)
 cases w with
 | null=>
   have h':[110,117,108,108]=P++R:=h
   rcases fN h' with z|⟨q1,rfl,g1⟩
   . exact absurd z hP
   rw[tk1 (l:=[.sp 117 117,.sp 108 108,.sp 108 108]) rfl rfl hc]
   rcases fN g1 with z|⟨q2,rfl,g2⟩
   . subst z;rw[List.nil_append]at g1;rw[<- g1];rfl
   rw[show([.sp 117 117,.sp 108 108,.sp 108 108]++st:List It)=.sp 117 117 ::([.sp 108 108,.sp 108 108]++st) from rfl,sp _ _ _ rfl]
   rcases fN g2 with z|⟨q3,rfl,g3⟩
   . subst z;rw[List.nil_append]at g2;rw[<- g2];rfl
   rw[show([.sp 108 108,.sp 108 108]++st:List It)=.sp 108 108 ::([.sp 108 108]++st) from rfl,sp _ _ _ rfl]
   rcases fN g3 with z|⟨q4,rfl,g4⟩
   . subst z;rw[List.nil_append]at g3;rw[<- g3];rfl
   obtain⟨rfl,rfl⟩:=List.append_eq_nil_iff.mp g4.symm;rw[show([.sp 108 108]++st:List It)=.sp 108 108 ::([]++st) from rfl,sp _ _ _ rfl];rfl
 | tru=>
   have h':[116,114,117,101]=P++R:=h
   rcases fN h' with z|⟨q1,rfl,g1⟩
   . exact absurd z hP
   rw[tk1 (l:=[.sp 114 114,.sp 117 117,.sp 101 101]) rfl rfl hc]
   rcases fN g1 with z|⟨q2,rfl,g2⟩
   . subst z;rw[List.nil_append]at g1;rw[<- g1];rfl
   rw[show([.sp 114 114,.sp 117 117,.sp 101 101]++st:List It)=.sp 114 114 ::([.sp 117 117,.sp 101 101]++st) from rfl,sp _ _ _ rfl]
   rcases fN g2 with z|⟨q3,rfl,g3⟩
   . subst z;rw[List.nil_append]at g2;rw[<- g2];rfl
   rw[show([.sp 117 117,.sp 101 101]++st:List It)=.sp 117 117 ::([.sp 101 101]++st) from rfl,sp _ _ _ rfl]
   rcases fN g3 with z|⟨q4,rfl,g4⟩
   . subst z;rw[List.nil_append]at g3;rw[<- g3];rfl
   obtain⟨rfl,rfl⟩:=List.append_eq_nil_iff.mp g4.symm;rw[show([.sp 101 101]++st:List It)=.sp 101 101 ::([]++st) from rfl,sp _ _ _ rfl];rfl
 | fal=>
   have h':[102,97,108,115,101]=P++R:=h
   rcases fN h' with z|⟨q1,rfl,g1⟩
   . exact absurd z hP
   rw[tk1 (l:=[.sp 97 97,.sp 108 108,.sp 115 115,.sp 101 101]) rfl rfl hc]
   rcases fN g1 with z|⟨q2,rfl,g2⟩
   . subst z;rw[List.nil_append]at g1;rw[<- g1];rfl
   rw[show([.sp 97 97,.sp 108 108,.sp 115 115,.sp 101 101]++st:List It)=.sp 97 97 ::([.sp 108 108,.sp 115 115,.sp 101 101]++st) from rfl,sp _ _ _ rfl]
   rcases fN g2 with z|⟨q3,rfl,g3⟩
   . subst z;rw[List.nil_append]at g2;rw[<- g2];rfl
   rw[show([.sp 108 108,.sp 115 115,.sp 101 101]++st:List It)=.sp 108 108 ::([.sp 115 115,.sp 101 101]++st) from rfl,sp _ _ _ rfl]
   rcases fN g3 with z|⟨q4,rfl,g4⟩
   . subst z;rw[List.nil_append]at g3;rw[<- g3];rfl
   rw[show([.sp 115 115,.sp 101 101]++st:List It)=.sp 115 115 ::([.sp 101 101]++st) from rfl,sp _ _ _ rfl]
   rcases fN g4 with z|⟨q5,rfl,g5⟩
   . subst z;rw[List.nil_append]at g4;rw[<- g4];rfl
   obtain⟨rfl,rfl⟩:=List.append_eq_nil_iff.mp g5.symm;rw[show([.sp 101 101]++st:List It)=.sp 101 101 ::([]++st) from rfl,sp _ _ _ rfl];rfl
noncomputable def zX:Lf->List Int->List Int->List Int
 |.wd _,_,R=>R
 | .nm _,P,_=>match P.getLast? with
   |some b=>sJ b
   |none=>[]
 |.tx _,P,R=>if R=[]then[]else tln P.length P.tail
theorem FU(x:Lf)(hx:Lok x){A P R:List Int}{ks:List Bool}(hk:ks.length<=60)(hA:Goes st0 A (.white ::.value ::out ks))(h:lfb x=P++R)(hP:P≠[]):
  (tk st0 (A++P)).2=(A++P).length /\ ends (tk st0 (A++P)).1=zX x P R++ends (out ks):=by
 have hc:cnt (out ks)<=64:=by rw[yy];omega
 obtain⟨ls,_,hg⟩:=C8 hc x hx;have hw:=hg.whole;rw[h]at hw;have hp:=(Cf P R _ hw).1
 obtain⟨b,bs,rfl⟩:∃ b bs,P=b ::bs:=by cases P with|nil=>exact absurd rfl hP|cons b bs=>exact⟨b,bs,rfl⟩
 rw[h]at hg;obtain⟨l,hl⟩:=zY (bs:=bs++R) hg
 have hs:tk (.white ::.value ::out ks) (b ::bs)=tk (.value ::out ks) (b ::bs):=yb (by simp[bh,(ER hl).1]) rfl
 have h0:=hA (b ::bs);rw[hs]at h0;rw[h0]
 refine⟨by simp only[hp,List.length_append];omega,?_⟩
 show ends (tk (.value ::out ks) (b ::bs)).1=_
 cases x with
 |wd w=>exact BF w hc h hP
 | nm m=>
   obtain⟨z,hz⟩:∃ z,(b ::bs).getLast?=some z:=⟨_,List.getLast?_eq_some_getLast (by simp)⟩
   have h':nb m=(b ::bs)++R:=h
   rw[Dn (fun c hc=>G3 hx c (by rw[h'];exact List.mem_append.mpr (.inl hc))) hz hp];simp only[zX,hz]
 | tx l=>
   show _=(if R=[]then[]else tln (b ::bs).length (b ::bs).tail)++ends (out ks)
   have h':34 ::(inner l++[34])=(b ::bs)++R:=h
   simp only[List.cons_append,List.cons.injEq]at h';obtain⟨rfl,h'⟩:=h'
   by_cases hR:R=[]
   . rw[if_pos hR];subst hR;rw[List.append_nil]at h;have:=Cv (rm (st:=out ks) l hx hc);rw[show(34 ::bs)=txt l from h.symm,this];rfl
   . rw[if_neg hR]
     obtain⟨R',c,rfl⟩:∃ R' c,R=R'++[c]:=⟨R.dropLast,R.getLast hR,(List.dropLast_concat_getLast hR).symm⟩
     rw[<- List.append_assoc]at h';obtain⟨h1,h2⟩:=List.append_inj' h' rfl;rw[tk1 (l:=[.text]) rfl rfl hc];exact yI (out ks) hc l hx bs R' _ h1 (by simp)
end PG
namespace L2.plainglass_k10_endings_in_tokens
open PySem L2.P PG
noncomputable def mi(c:String):Bool:=c == "Walk"
noncomputable def qj:ah -> OS:=
    (Cc 0 eP "coming" mi (mD (bb (aj (mC (.str "white")) (aj (mC (.str "value")) (aj (mC (.str "white")) aE))))))
noncomputable def cZ:List Sl->OI:=fnI 1 1 qj
noncomputable def jd:ah -> OS:=
    (ba (mUn (fQ [(110,.tup ([117,108,108].map .int)),(116,.tup ([114,117,101].map .int)),(102,.tup ([97,108,115,101].map .int))]) (ao 0)))
noncomputable def eD:List PV->OE:=fnP 1 1 jd
noncomputable def p8:ah -> OS:=
    (ba (kx gLe gLe (mC (.int 48)) (ao 0) (mC (.int 57))))
noncomputable def dZ:List PV->OE:=fnP 1 1 p8
noncomputable def jt:ah -> OS:=
    (ba (mC .non))
noncomputable def jB:ah -> OS:=
    (aK (bf (b4 (bE dZ (aj (ao 0) aE)))
    (ba (bb (aj (mC (.str "figures")) (aj (mC (.str "fraction")) (aj (mC (.str "exponent")) aE)))))
    aR)
    jt)
noncomputable def kr:ah -> OS:=
    (aK (bf (az (mOp gEq (ao 0) (mC (.int 48))))
    (ba (bb (aj (mC (.str "fraction")) (aj (mC (.str "exponent")) aE))))
    aR)
    jB)
noncomputable def dn:List PV->OE:=fnP 1 1 kr
noncomputable def ck:ah -> OE:=
    (iq (aj (ao 0) (aj (ao 0) aE)))
noncomputable def cf:ah -> OS:=
    (ba (bE dn (aj (ao 0) aE)))
noncomputable def cg:ah -> OS:=
    (aK (bf (az (mOp v9 (ao 1) (mC .non)))
    (ba (qH (ao 1) [] ck))
    aR)
    cf)
noncomputable def cj:ah -> OS:=
    (aK (aV 1 (bE eD (aj (ao 0) aE)))
    cg)
noncomputable def b9:ah -> OS:=
    (aK (bf (az (mOp gEq (ao 0) (mC (.int 45))))
    (ba (bb (aj (mC (.str "lead")) aE)))
    aR)
    cj)
noncomputable def b8:ah -> OS:=
    (aK (bf (az (mOp gEq (ao 0) (mC (.int 34))))
    (ba (bb (aj (mC (.str "text")) aE)))
    aR)
    b9)
noncomputable def cb:ah -> OS:=
    (aK (bf (az (mOp gEq (ao 0) (mC (.int 123))))
    (ba (bb (aj (mC (.str "white")) (aj (mC (.str "fields")) aE))))
    aR)
    b8)
noncomputable def cT:ah -> OS:=
    (aK (bf (az (mOp gEq (ao 0) (mC (.int 91))))
    (ba (bb (aj (mC (.str "white")) (aj (mC (.str "row")) aE))))
    aR)
    cb)
noncomputable def bF:List PV->OE:=fnP 1 2 cT
noncomputable def bx:ah -> OS:=
    (ba (ju (az (mOp gIn (ao 1) (iq (aj (mC (.int 43)) (aj (mC (.int 45)) aE))))) (bb aE) (mC .non)))
noncomputable def br:ah -> OS:=
    (aK (bf (az (mOp gEq (ao 0) (mC (.str "exponent"))))
    (ba (ju (az (mOp gIn (ao 1) (iq (aj (mC (.int 101)) (aj (mC (.int 69)) aE))))) (bb (aj (mC (.str "sign")) (aj (iq (aj (mC (.int 48)) (aj (mC (.int 57)) aE))) (aj (mC (.str "figures")) aE)))) (mC .non)))
    aR)
    bx)
noncomputable def bA:ah -> OS:=
    (aK (bf (az (mOp gEq (ao 0) (mC (.str "fraction"))))
    (ba (ju (az (mOp gEq (ao 1) (mC (.int 46)))) (bb (aj (iq (aj (mC (.int 48)) (aj (mC (.int 57)) aE))) (aj (mC (.str "figures")) aE))) (mC .non)))
    aR)
    br)
noncomputable def bz:ah -> OS:=
    (aK (bf (az (mOp gEq (ao 0) (mC (.str "figures"))))
    (ba (ju (b4 (bE dZ (aj (ao 1) aE))) (bb (aj (mC (.str "figures")) aE)) (mC .non)))
    aR)
    bA)
noncomputable def bO:ah -> OS:=
    (aK (bf (az (mOp gEq (ao 0) (mC (.str "lead"))))
    (ba (bE dn (aj (ao 1) aE)))
    aR)
    bz)
noncomputable def aS:List PV->OE:=fnP 2 2 bO
noncomputable def n6:ah -> OS:=
    (ba (mC .non))
noncomputable def nZ:ah -> OS:=
    (aK (bf (az (kx gLe gLe (mC (.int 97)) (ao 0) (mC (.int 102))))
    (ba (mOp ly (ao 0) (mC (.int 87))))
    aR)
    n6)
noncomputable def nQ:ah -> OS:=
    (aK (bf (az (kx gLe gLe (mC (.int 65)) (ao 0) (mC (.int 70))))
    (ba (mOp ly (ao 0) (mC (.int 55))))
    aR)
    nZ)
noncomputable def pY:ah -> OS:=
    (aK (bf (b4 (bE dZ (aj (ao 0) aE)))
    (ba (mOp ly (ao 0) (mC (.int 48))))
    aR)
    nQ)
noncomputable def fb:List PV->OE:=fnP 1 1 pY
noncomputable def iG:ah -> OS:=
    (ba (mC .non))
noncomputable def iE:ah -> OS:=
    (aK (bf (az (mOp gLt (ao 0) (mC (.int 12))))
    (aK (aV 1 (bb (aj (iq (aj (mC (.int 92)) (aj (mC (.int 92)) aE))) (aj (iq (aj (mC (.int 117)) (aj (mC (.int 117)) aE))) (aj (mC (.str "hex d")) (aj (mC (.str "hex c to f")) (aj (mC (.str "hex")) (aj (mC (.str "hex")) aE))))))))
    (ba (mOp fO (bb (aj (mC (.str "hex")) (aj (mC (.str "hex")) aE))) (ao 1))))
    aR)
    iG)
noncomputable def jv:ah -> OS:=
    (aK (bf (az (mOp gLt (ao 0) (mC (.int 8))))
    (ba (bb (aj (mC (.str "hex")) (aj (mC (.str "hex")) aE))))
    aR)
    iE)
noncomputable def cY:List PV->OE:=fnP 1 2 jv
noncomputable def gA:ah -> OS:=
    (ba (mC (.tup ([128,191].map .int))))
noncomputable def gy:ah -> OS:=
    (aK (bf (az (mOp gEq (ao 0) (mC (.int 237))))
    (ba (iq (aj (mC (.int 128)) (aj (mC (.int 159)) aE))))
    aR)
    gA)
noncomputable def iB:ah -> OS:=
    (aK (bf (az (mOp gEq (ao 0) (mC (.int 224))))
    (ba (iq (aj (mC (.int 160)) (aj (mC (.int 191)) aE))))
    aR)
    gy)
noncomputable def cx:List PV->OE:=fnP 1 1 iB
noncomputable def gP:ah -> OS:=
    (ba (mC (.tup ([128,191].map .int))))
noncomputable def hU:ah -> OS:=
    (aK (bf (az (mOp gEq (ao 0) (mC (.int 244))))
    (ba (iq (aj (mC (.int 128)) (aj (mC (.int 143)) aE))))
    aR)
    gP)
noncomputable def i0:ah -> OS:=
    (aK (bf (az (mOp gEq (ao 0) (mC (.int 240))))
    (ba (iq (aj (mC (.int 144)) (aj (mC (.int 191)) aE))))
    aR)
    hU)
noncomputable def cL:List PV->OE:=fnP 1 1 i0
noncomputable def jU:ah -> OS:=
    (ba (mC .non))
noncomputable def jT:ah -> OS:=
    (aK (bf (az (kx gLe gLt (mC (.int 240)) (ao 0) (mC (.int 245))))
    (ba (bb (aj (bE cL (aj (ao 0) aE)) (aj (mC (.tup ([128,191].map .int))) (aj (mC (.tup ([128,191].map .int))) aE)))))
    aR)
    jU)
noncomputable def jR:ah -> OS:=
    (aK (bf (az (kx gLe gLt (mC (.int 224)) (ao 0) (mC (.int 240))))
    (ba (bb (aj (bE cx (aj (ao 0) aE)) (aj (mC (.tup ([128,191].map .int))) aE))))
    aR)
    jT)
noncomputable def jS:ah -> OS:=
    (aK (bf (az (kx gLe gLt (mC (.int 194)) (ao 0) (mC (.int 224))))
    (ba (bb (aj (mC (.tup ([128,191].map .int))) aE)))
    aR)
    jR)
noncomputable def ny:ah -> OS:=
    (aK (bf (az (kx gLe gLt (mC (.int 0)) (ao 0) (mC (.int 128))))
    (ba (bb aE))
    aR)
    jS)
noncomputable def iQ:List PV->OE:=fnP 1 1 ny
noncomputable def dw:ah -> OS:=
    (ba (mOp fO (ao 1) (bb (aj (mC (.str "text")) aE))))
noncomputable def dr:ah -> OS:=
    (aK (bf (FK (az (mOp gLt (ao 0) (mC (.int 32)))) (az (mOp vC (ao 1) (mC .non))))
    (ba (mC .non))
    aR)
    dw)
noncomputable def dy:ah -> OS:=
    (aK (aV 1 (bE iQ (aj (ao 0) aE)))
    dr)
noncomputable def dq:ah -> OS:=
    (aK (bf (az (mOp gEq (ao 0) (mC (.int 92))))
    (ba (bb (aj (mC (.str "escape")) (aj (mC (.str "text")) aE))))
    aR)
    dy)
noncomputable def dQ:ah -> OS:=
    (aK (bf (az (mOp gEq (ao 0) (mC (.int 34))))
    (ba (bb aE))
    aR)
    dq)
noncomputable def bN:List PV->OE:=fnP 1 2 dQ
noncomputable def cA:ah -> OS:=
    (ba (mUn (fQ [(34,.int 34),(92,.int 92),(47,.int 47),(98,.int 8),(102,.int 12),(110,.int 10),(114,.int 13),(116,.int 9)]) (ao 0)))
noncomputable def bG:List PV->OE:=fnP 1 1 cA
noncomputable def gR:ah -> OS:=
    (aK (bf (az (mOp gEq (ao 0) (mC (.int 117))))
    (ba (bb (aj (mC (.str "code")) aE)))
    aR)
    (ba (ju (az (mOp vC (bE bG (aj (ao 0) aE)) (mC .non))) (mC .non) (bb aE))))
noncomputable def b5:List PV->OE:=fnP 1 1 gR
noncomputable def cH:ah -> OS:=
    (ba (bE cY (aj (ao 2) aE)))
noncomputable def cE:ah -> OS:=
    (aK (bf (az (mOp gEq (ao 0) (mC (.str "code"))))
    (ba (ju (az (mOp gEq (ao 2) (mC (.int 13)))) (bb (aj (mC (.str "code d")) aE)) (bb (aj (mC (.str "hex")) (aj (mC (.str "hex")) (aj (mC (.str "hex")) aE))))))
    aR)
    cH)
noncomputable def cJ:ah -> OS:=
    (aK (bf (az (mOp vC (ao 2) (mC .non)))
    (ba (mC .non))
    aR)
    cE)
noncomputable def cG:ah -> OS:=
    (aK (aV 2 (bE fb (aj (ao 1) aE)))
    cJ)
noncomputable def cK:ah -> OS:=
    (aK (bf (az (mOp gEq (ao 0) (mC (.str "escape"))))
    (ba (bE b5 (aj (ao 1) aE)))
    aR)
    cG)
noncomputable def dm:ah -> OS:=
    (aK (bf (az (mOp gEq (ao 0) (mC (.str "text"))))
    (ba (bE bN (aj (ao 1) aE)))
    aR)
    cK)
noncomputable def bC:List PV->OE:=fnP 2 3 dm
noncomputable def fP:ah -> OS:=
    (ba (bb aE))
noncomputable def fW:ah -> OS:=
    (aK (bf (az (mOp gEq (ao 0) (mC (.str "hex c to f"))))
    (ba (ju (az (mOp gGe (ao 2) (mC (.int 12)))) (bb aE) (mC .non)))
    aR)
    fP)
noncomputable def fR:ah -> OS:=
    (aK (bf (az (mOp gEq (ao 0) (mC (.str "hex d"))))
    (ba (ju (az (mOp gEq (ao 2) (mC (.int 13)))) (bb aE) (mC .non)))
    aR)
    fW)
noncomputable def fZ:ah -> OS:=
    (aK (bf (az (mOp vC (ao 2) (mC .non)))
    (ba (mC .non))
    aR)
    fR)
noncomputable def iM:ah -> OS:=
    (aK (aV 2 (bE fb (aj (ao 1) aE)))
    fZ)
noncomputable def cU:List PV->OE:=fnP 2 3 iM
noncomputable def eA:ah -> OS:=
    (ba (ju (az (mOp vC (ao 1) (mC .non))) (mC .non) (mOp fO (ao 1) (bb (aj (mC (.str "white")) (aj (mC (.str "more row")) aE))))))
noncomputable def eH:ah -> OS:=
    (aK (aV 1 (bE bF (aj (ao 0) aE)))
    eA)
noncomputable def fm:ah -> OS:=
    (aK (bf (az (mOp gEq (ao 0) (mC (.int 93))))
    (ba (bb aE))
    aR)
    eH)
noncomputable def bS:List PV->OE:=fnP 1 2 fm
noncomputable def nR:ah -> OS:=
    (ba (bb (aj (mC (.str "white")) (aj (iq (aj (mC (.int 58)) (aj (mC (.int 58)) aE))) (aj (mC (.str "white")) (aj (mC (.str "value")) (aj (mC (.str "white")) (aj (mC (.str "more fields")) aE))))))))
noncomputable def dI:List PV->OE:=fnP 0 0 nR
noncomputable def fI:ah -> OS:=
    (aK (bf (az (mOp gEq (ao 0) (mC (.int 125))))
    (ba (bb aE))
    aR)
    (ba (ju (az (mOp gEq (ao 0) (mC (.int 34)))) (mOp fO (bb (aj (mC (.str "text")) aE)) (bE dI aE)) (mC .non))))
noncomputable def bP:List PV->OE:=fnP 1 1 fI
noncomputable def bW:ah -> OS:=
    (ba (ju (az (mOp gEq (ao 1) (mC (.int 125)))) (bb aE) (mC .non)))
noncomputable def bU:ah -> OS:=
    (aK (bf (az (mOp gEq (ao 1) (mC (.int 44))))
    (ba (mOp fO (bb (aj (mC (.str "white")) (aj (mC (.str "name")) aE))) (bE dI aE)))
    aR)
    bW)
noncomputable def bV:ah -> OS:=
    (aK (bf (az (mOp gEq (ao 0) (mC (.str "more row"))))
    (aK (bf (az (mOp gEq (ao 1) (mC (.int 44))))
    (ba (bb (aj (mC (.str "white")) (aj (mC (.str "value")) (aj (mC (.str "white")) (aj (mC (.str "more row")) aE))))))
    aR)
    (ba (ju (az (mOp gEq (ao 1) (mC (.int 93)))) (bb aE) (mC .non))))
    aR)
    bU)
noncomputable def bT:ah -> OS:=
    (aK (bf (az (mOp gEq (ao 0) (mC (.str "fields"))))
    (ba (bE bP (aj (ao 1) aE)))
    aR)
    bV)
noncomputable def b6:ah -> OS:=
    (aK (bf (az (mOp gEq (ao 0) (mC (.str "row"))))
    (ba (bE bS (aj (ao 1) aE)))
    aR)
    bT)
noncomputable def aX:List PV->OE:=fnP 2 2 b6
noncomputable def rf:ah -> OS:=
    (ba (mOp gIn (ao 0) (mC (.tup ([9,10,13,32].map .int)))))
noncomputable def gX:List PV->OE:=fnP 1 1 rf
noncomputable def rL:ah -> OS:=
    (ba (bE bF (aj (ao 1) aE)))
noncomputable def rN:ah -> OS:=
    (aK (bf (az (mOp gEq (ao 0) (mC (.str "name"))))
    (ba (ju (az (mOp gEq (ao 1) (mC (.int 34)))) (bb (aj (mC (.str "text")) aE)) (mC .non)))
    aR)
    rL)
noncomputable def rE:ah -> OS:=
    (aK (bf (az (mOp gEq (ao 0) (mC (.str "white"))))
    (ba (ju (b4 (bE gX (aj (ao 1) aE))) (bb (aj (mC (.str "white")) aE)) (mC .non)))
    aR)
    rN)
noncomputable def rn:ah -> OS:=
    (aK (bf (az (mOp gIn (ao 0) (mC (.tup [.str "row",.str "more row",.str "fields",.str "more fields"]))))
    (ba (bE aX (aj (ao 0) (aj (ao 1) aE))))
    aR)
    rE)
noncomputable def rA:ah -> OS:=
    (aK (bf (az (mOp gIn (ao 0) (iq (aj (mC (.str "hex")) (aj (mC (.str "hex d")) (aj (mC (.str "hex c to f")) aE))))))
    (ba (bE cU (aj (ao 0) (aj (ao 1) aE))))
    aR)
    rn)
noncomputable def qK:ah -> OS:=
    (aK (bf (az (mOp gIn (ao 0) (iq (aj (mC (.str "text")) (aj (mC (.str "escape")) (aj (mC (.str "code")) (aj (mC (.str "code d")) aE)))))))
    (ba (bE bC (aj (ao 0) (aj (ao 1) aE))))
    aR)
    rA)
noncomputable def rR:ah -> OS:=
    (aK (bf (az (mOp gIn (ao 0) (iq (aj (mC (.str "lead")) (aj (mC (.str "figures")) (aj (mC (.str "fraction")) (aj (mC (.str "exponent")) (aj (mC (.str "sign")) aE))))))))
    (ba (bE aS (aj (ao 0) (aj (ao 1) aE))))
    aR)
    qK)
noncomputable def rB:ah -> OS:=
    (aK (bf (b4 (mIs "tuple" (ao 0)))
    (ba (ju (az (kx gLe gLe (mOp wt (ao 0) (mC (.int 0))) (ao 1) (mOp wt (ao 0) (mC (.int 1))))) (bb aE) (mC .non)))
    aR)
    rR)
noncomputable def jh:List PV->OE:=fnP 2 2 rB
noncomputable def iI:ah -> OE:=
    (ao 0)
noncomputable def fL:ah -> OT:=
    (az (mOp gIn (ao 0) (mC (.tup [.str "row",.str "more row",.str "fields",.str "more fields"]))))
noncomputable def lY:ah -> OS:=
    (ba (mUn eQ (qP (qe 0 (pFd 0 eP "coming" mi)) [] fL iI)))
noncomputable def b7:List Sl->OI:=fnI 1 1 lY
noncomputable def gj:ah -> OT:=
    (o6 0 (pFd 0 eP "coming" mi))
noncomputable def gk:ah -> OS:=
    (aK (qa 2 (sU 0 (pFd 0 eP "coming" mi)))
    (aK (aV 3 (bE jh (aj (ao 2) (aj (ao 1) aE))))
    (aK (bf (az (mOp v9 (ao 3) (mC .non)))
    (aK (mJ 0 (pFd 0 eP "coming" mi) (zF (ao 3) (mUn pR (mC (.int 1)))))
    (ba (mOp gLe (pM "Walk" "brackets" b7 [.b 0 eP]) (mC (.int 64)))))
    aR)
    (bf (az (mOp uY (ao 2) (mC (.tup [.str "white",.str "figures",.str "fraction",.str "exponent",.str "sign"]))))
    (ba (mC (.bl false)))
    aR))))
noncomputable def iK:ah -> OS:=
    (aK (dO gj
    gk fuel)
    (ba (mC (.bl false))))
noncomputable def dv:List Sl->OI:=fnI 2 4 iK
noncomputable def i9:ah -> OS:=
    (Dl true (mx "Walk" "goes_on" dv [.t 0 eP,.e (ao 3)])
    (oY 2)
    aR)
noncomputable def kf:ah -> OS:=
    (aK (yj 2 3 (ao 1)
    i9)
    (ba (mUn eQ (ao 1))))
noncomputable def fe:List Sl->OI:=fnI 2 4 kf
noncomputable def xy:ah -> OS:=
    (aK (bf (b4 (mIs "tuple" (ao 0)))
    (ba (iq (aj (mOp wt (ao 0) (mC (.int 0))) aE)))
    aR)
    (ba (wO [("value",.tup ([48].map .int)),("lead",.tup ([48].map .int)),("text",.tup ([34].map .int)),("name",.tup ([34,34].map .int)),("escape",.tup ([34].map .int)),("code",.tup ([48,48,48,48].map .int)),("code d",.tup ([48,48,48].map .int)),("hex",.tup ([48].map .int)),("hex d",.tup ([68].map .int)),("hex c to f",.tup ([67].map .int)),("row",.tup ([93].map .int)),("more row",.tup ([93].map .int)),("fields",.tup ([125].map .int)),("more fields",.tup ([125].map .int))] (ao 0) (iq aE))))
noncomputable def gV:List PV->OE:=fnP 1 1 xy
noncomputable def qY:ah -> OS:=
    (m7 3 eP (bE gV (aj (ao 4) aE)))
noncomputable def rS:ah -> OS:=
    (oR 3 (oY 3))
noncomputable def rW:ah -> OS:=
    (aK (nU 4 (zF (qe 1 (pFd 1 eP "coming" mi)) (mUn pR (mC (.int 1))))
    qY)
    rS)
noncomputable def rV:ah -> OS:=
    (aK (qb 3 (mD (bb aE)))
    rW)
noncomputable def qW:ah -> OS:=
    (aK (bf (az (mOp gLt (ao 2) (mUn eQ (ao 0))))
    BP
    aR)
    rV)
noncomputable def r9:ah -> OS:=
    (aK (qa 2 (mx "Walk" "take" fe [.t 1 eP,.e (ao 0)]))
    qW)
noncomputable def vI:ah -> OS:=
    (aK (qb 1 (wu "Walk" cZ))
    r9)
noncomputable def j6:List PV->OE:=fnP 1 5 vI
noncomputable def qS:ah -> OS:=
    (aK (bf (b4 (ao 0))
    (ba (mOp fX (ao 0) (mOp cN (ao 1) (mUn eQ (ao 0)))))
    aR)
    (ba (mC (.int 0))))
noncomputable def hJ:List PV->OE:=fnP 2 2 qS
noncomputable def pS:ah -> OS:=
    (ba (mOp cN (mOp du (mOp wY (mOp fB (ao 2) (mC (.int 64))) (mC (.int 69621))) (ao 2)) (mC (.int 4294967231))))
noncomputable def pT:ah -> OS:=
    (aK (aV 2 (mOp cN (mOp wY (ao 2) (mC (.int 48271))) (mC (.int 4294967279))))
    pS)
noncomputable def sZ:ah -> OS:=
    (aK (aV 2 (mOp cN (mOp du (bE hJ (aj (ao 0) (aj (ao 1) aE))) (mOp wY (mC (.int 104729)) (mOp du (ao 1) (mC (.int 1))))) (mC (.int 4294967291))))
    pT)
noncomputable def cp:List PV->OE:=fnP 2 3 sZ
noncomputable def p7:ah -> OS:=
    (ba (tI (mIs "int" (ao 0)) (B3 (mIs "bool" (ao 0)))))
noncomputable def gi:List PV->OE:=fnP 1 1 p7
noncomputable def j8:ah -> OE:=
    (bE gi (aj (ao 0) aE))
noncomputable def pd:ah -> OS:=
    (ba (tI (mIs "list" (ao 0)) (mUn E6 (rG (ao 0) [] j8))))
noncomputable def fo:List PV->OE:=fnP 1 1 pd
noncomputable def gJ:ah -> OS:=
    (aK (aV 2 (mOp fO (bb (aj (mOp du (mC (.int 128)) (mOp cN (ao 0) (mC (.int 64)))) aE)) (ao 2)))
    (aV 0 (mOp fB (ao 0) (mC (.int 64)))))
noncomputable def gE:ah -> OS:=
    (ba (mOp fO (bb (aj (mOp du (mOp fX (bb (aj (mC (.int 192)) (aj (mC (.int 224)) (aj (mC (.int 240)) aE)))) (mOp ly (ao 1) (mC (.int 1)))) (ao 0)) aE)) (ao 2)))
noncomputable def gC:ah -> OS:=
    (aK (yf 3 (ao 1)
    gJ)
    gE)
noncomputable def gG:ah -> OS:=
    (aK (aV 2 (bb aE))
    gC)
noncomputable def gD:ah -> OS:=
    (aK (aV 1 (mOp du (mOp du (mC (.int 1)) (mUn pX (mOp gGe (ao 0) (mC (.int 2048))))) (mUn pX (mOp gGe (ao 0) (mC (.int 65536))))))
    gG)
noncomputable def jj:ah -> OS:=
    (aK (bf (az (mOp gLt (ao 0) (mC (.int 128))))
    (ba (bb (aj (ao 0) aE)))
    aR)
    gD)
noncomputable def dH:List PV->OE:=fnP 1 4 jj
noncomputable def kl:ah -> OS:=
    (aK (aV 4 (mOp cN (ao 0) (mC (.int 16))))
    (aK (bf (az (mOp gLt (ao 4) (mC (.int 10))))
    (aV 2 (mOp fO (bb (aj (mOp du (mC (.int 48)) (ao 4)) aE)) (ao 2)))
    (aV 2 (mOp fO (bb (aj (mOp du (ju (b4 (ao 1)) (mC (.int 55)) (mC (.int 87))) (ao 4)) aE)) (ao 2))))
    (aV 0 (mOp fB (ao 0) (mC (.int 16))))))
noncomputable def p5:ah -> OS:=
    (ba (mOp fO (bb (aj (mC (.int 92)) (aj (mC (.int 117)) aE))) (ao 2)))
noncomputable def p6:ah -> OS:=
    (aK (yf 3 (mC (.int 4))
    kl)
    p5)
noncomputable def tj:ah -> OS:=
    (aK (aV 2 (bb aE))
    p6)
noncomputable def gn:List PV->OE:=fnP 2 5 tj
noncomputable def oV:ah -> OS:=
    (ba (mOp fO (bE gn (aj (mOp du (mC (.int 55296)) (mOp fB (ao 4) (mC (.int 1024)))) (aj (mOp gEq (ao 3) (mC (.int 1))) aE))) (bE gn (aj (mOp du (mC (.int 56320)) (mOp cN (ao 4) (mC (.int 1024)))) (aj (mOp gEq (ao 3) (mC (.int 0))) aE)))))
noncomputable def oK:ah -> OS:=
    (aK (aV 4 (mOp ly (ao 0) (mC (.int 65536))))
    oV)
noncomputable def jM:ah -> OS:=
    (aK (bf (az (mOp gLt (ao 0) (mC (.int 65536))))
    (ba (bE gn (aj (ao 0) (aj (mOp gEq (ao 3) (mC (.int 1))) aE))))
    aR)
    oK)
noncomputable def ef:ah -> OS:=
    (aK (bf (jF (az (mOp gGt (ao 3) (mC (.int 1)))) (jF (az (mOp gGe (ao 0) (mC (.int 32)))) (jF (az (mOp gNe (ao 0) (mC (.int 34)))) (az (mOp gNe (ao 0) (mC (.int 92)))))))
    (ba (bE dH (aj (ao 0) aE)))
    aR)
    jM)
noncomputable def lx:ah -> OS:=
    (aK (bf (jF (az (mOp gEq (ao 3) (mC (.int 0)))) (az (vV false (ao 0) 2 eP)))
    (ba (bb (aj (mC (.int 92)) (aj (za 2 eP (ao 0)) aE))))
    aR)
    ef)
noncomputable def iF:ah -> OS:=
    (aK (aV 3 (mOp cN (ao 1) (mC (.int 5))))
    lx)
noncomputable def sf:ah -> OS:=
    (aK (qb 2 (Gf [(34,34),(92,92),(47,47),(8,98),(12,102),(10,110),(13,114),(9,116)]))
    iF)
noncomputable def gQ:List PV->OE:=fnP 2 5 sf
noncomputable def jL:ah -> OS:=
    (aK (aV 2 (mOp fO (ao 2) (bE gQ (aj (ao 4) (aj (mOp du (mOp fB (ao 1) (mOp du (mC (.int 1)) (mOp cN (ao 3) (mC (.int 7))))) (ao 3)) aE)))))
    (aV 3 (mOp du (ao 3) (mC (.int 1)))))
noncomputable def oX:ah -> OS:=
    (ba (mOp fO (ao 2) (bb (aj (mC (.int 34)) aE))))
noncomputable def o8:ah -> OS:=
    (aK (nU 4 (ao 0)
    jL)
    oX)
noncomputable def o3:ah -> OS:=
    (aK (aV 3 (mC (.int 0)))
    o8)
noncomputable def rH:ah -> OS:=
    (aK (aV 2 (bb (aj (mC (.int 34)) aE)))
    o3)
noncomputable def gY:List PV->OE:=fnP 2 5 rH
noncomputable def km:ah -> OS:=
    (aK (bf (az (mOp gIn (mOp fX (ao 0) (mUn pR (mC (.int 1)))) (iq (aj (mC (.int 45)) (aj (mC (.int 43)) (aj (mC (.int 46)) (aj (mC (.int 101)) (aj (mC (.int 69)) aE))))))))
    (ba (bb (aj (mC (.int 48)) aE)))
    aR)
    (ba (bb aE)))
noncomputable def cy:List PV->OE:=fnP 1 1 km
noncomputable def gH:ah -> OT:=
    (az (mOp gEq (mOp cN (ao 0) (mC (.int 10))) (mC (.int 0))))
noncomputable def ja:ah -> OS:=
    (aK (aV 0 (mOp fB (ao 0) (mC (.int 10))))
    (aV 1 (mOp du (ao 1) (mC (.int 1)))))
noncomputable def nP:ah -> OS:=
    (ba (iq (aj (ao 0) (aj (ao 1) aE))))
noncomputable def nY:ah -> OS:=
    (aK (dO gH
    ja fuel)
    nP)
noncomputable def mz:ah -> OS:=
    (aK (bf (az (mOp gEq (ao 0) (mC (.int 0))))
    (ba (iq (aj (mC (.int 0)) (aj (mC (.int 0)) aE))))
    aR)
    nY)
noncomputable def eE:List PV->OE:=fnP 2 2 mz
noncomputable def gd:ah -> OE:=
    (mUn yq (ao 0))
noncomputable def iS:ah -> OE:=
    (mOp du (mC (.int 48)) (ao 0))
noncomputable def eX:ah -> OS:=
    (aV 4 (mOp du (mOp wY (ao 4) (mC (.int 10))) (ao 5)))
noncomputable def gb:ah -> OS:=
    (aK (dY 3 (mOp du (mC (.int 48)) (ao 5)))
    (aK (aV 4 (mOp du (mOp wY (ao 4) (mC (.int 10))) (ao 5)))
    (aV 6 (mOp ly (ao 6) (mC (.int 1))))))
noncomputable def eU:ah -> OE:=
    (mUn BJ (ao 0))
noncomputable def jo:ah -> OS:=
    (eR 3 (ba (iq (aj (ao 3) (aj (bE eE (aj (ao 4) (aj (ao 6) aE))) aE)))))
noncomputable def mX:ah -> OS:=
    (aK (bf (b4 (ao 1))
    (aV 4 (mUn pR (ao 4)))
    aR)
    jo)
noncomputable def mZ:ah -> OS:=
    (aK (bf (az (mOp gEq (mOp cN (mOp fB (ao 0) (mC (.int 31))) (mC (.int 3))) (mC (.int 1))))
    (aK (aV 7 (mOp cN (mOp fB (ao 0) (mC (.int 37))) (mC (.int 30))))
    (aK (dY 3 (mOp fX (bb (aj (mC (.int 101)) (aj (mC (.int 69)) aE))) (mOp cN (mOp fB (ao 0) (mC (.int 41))) (mC (.int 2)))))
    (aK (aV 8 (mOp gEq (mOp cN (mOp fB (ao 0) (mC (.int 43))) (mC (.int 3))) (mC (.int 1))))
    (aK (bf (b4 (ao 8))
    (dY 3 (mC (.int 45)))
    (bf (az (mOp gEq (mOp cN (mOp fB (ao 0) (mC (.int 43))) (mC (.int 3))) (mC (.int 2))))
    (dY 3 (mC (.int 43)))
    aR))
    (aK (bf (az (mOp gEq (mOp cN (mOp fB (ao 0) (mC (.int 47))) (mC (.int 4))) (mC (.int 1))))
    (dY 3 (mC (.int 48)))
    aR)
    (aK (aV 3 (mOp fO (ao 3) (m4 (mUn nk (ao 7)) [] eU)))
    (aV 6 (mOp du (ao 6) (ju (b4 (ao 8)) (mUn pR (ao 7)) (ao 7))))))))))
    aR)
    mX)
noncomputable def mT:ah -> OS:=
    (aK (bf (az (mOp gEq (mOp cN (mOp fB (ao 0) (mC (.int 17))) (mC (.int 3))) (mC (.int 1))))
    (aK (dY 3 (mC (.int 46)))
    (nU 5 (jx (bb (aj (mOp cN (mOp fB (ao 0) (mC (.int 19))) (mC (.int 10))) (aj (mOp cN (mOp fB (ao 0) (mC (.int 23))) (mC (.int 4))) (aj (mC (.int 0)) aE)))) (mC .non) (eh (mOp du (mC (.int 1)) (mOp cN (mOp fB (ao 0) (mC (.int 29))) (mC (.int 3))))))
    gb))
    aR)
    mZ)
noncomputable def mq:ah -> OS:=
    (aK (aV 6 (mC (.int 0)))
    mT)
noncomputable def mw:ah -> OS:=
    (aK (eR 2 (nU 5 (ao 2)
    eX))
    mq)
noncomputable def mL:ah -> OS:=
    (aK (aV 4 (mC (.int 0)))
    mw)
noncomputable def m3:ah -> OS:=
    (aK (aV 3 (mOp fO (ao 3) (rG (ao 2) [] iS)))
    mL)
noncomputable def m6:ah -> OS:=
    (aK (aV 3 (ju (b4 (ao 1)) (bb (aj (mC (.int 45)) aE)) (bb aE)))
    m3)
noncomputable def mO:ah -> OS:=
    (aK (aV 2 (m4 (mUn nk (mOp cN (mOp fB (ao 0) (mC (.int 3))) (mC (.int 100000)))) [] gd))
    m6)
noncomputable def pb:ah -> OS:=
    (aK (aV 1 (mOp gEq (mOp cN (ao 0) (mC (.int 3))) (mC (.int 0))))
    mO)
noncomputable def fu:List PV->OE:=fnP 1 9 pb
noncomputable def eM:ah -> OS:=
    (ba (mOp du (mC (.int 65536)) (mOp cN (ao 2) (mC (.int 1048576)))))
noncomputable def eO:ah -> OS:=
    (aK (bf (az (mOp gEq (ao 1) (mC (.int 6))))
    (ba (mOp du (mC (.int 57344)) (mOp cN (ao 2) (mC (.int 8192)))))
    aR)
    eM)
noncomputable def eN:ah -> OS:=
    (aK (bf (az (mOp gEq (ao 1) (mC (.int 5))))
    (ba (mOp du (mC (.int 2048)) (mOp cN (ao 2) (mC (.int 53248)))))
    aR)
    eO)
noncomputable def eJ:ah -> OS:=
    (aK (bf (az (mOp gEq (ao 1) (mC (.int 4))))
    (ba (mOp du (mC (.int 128)) (mOp cN (ao 2) (mC (.int 1920)))))
    aR)
    eN)
noncomputable def eL:ah -> OS:=
    (aK (bf (az (mOp gLt (ao 1) (mC (.int 4))))
    (ba (mOp fX (bb (aj (mC (.int 34)) (aj (mC (.int 92)) (aj (mC (.int 47)) (aj (mC (.int 8)) (aj (mC (.int 12)) (aj (mC (.int 10)) (aj (mC (.int 13)) (aj (mC (.int 9)) (aj (mC (.int 0)) (aj (mC (.int 31)) (aj (mC (.int 127)) aE)))))))))))) (mOp cN (ao 2) (mC (.int 11)))))
    aR)
    eJ)
noncomputable def eI:ah -> OS:=
    (aK (bf (az (mOp gLt (ao 1) (mC (.int 2))))
    (ba (mOp du (mC (.int 32)) (mOp cN (ao 2) (mC (.int 95)))))
    aR)
    eL)
noncomputable def eK:ah -> OS:=
    (aK (aV 2 (mOp fB (ao 0) (mC (.int 8))))
    eI)
noncomputable def fS:ah -> OS:=
    (aK (aV 1 (mOp cN (ao 0) (mC (.int 8))))
    eK)
noncomputable def da:List PV->OE:=fnP 1 3 fS
noncomputable def b0:ah -> OT:=
    (az (mOp gLt (ao 1) (mUn eQ (ao 0))))
noncomputable def bR:ah -> OS:=
    (bf (az (mOp gNe (mOp fX (ao 0) (ao 1)) (mC (.int 92))))
    (aK (aV 2 (mOp fX (ao 0) (ao 1)))
    (aK (aV 3 (mOp du (mOp du (mOp du (mC (.int 1)) (mUn pX (mOp gGe (ao 2) (mC (.int 194))))) (mUn pX (mOp gGe (ao 2) (mC (.int 224))))) (mUn pX (mOp gGe (ao 2) (mC (.int 240))))))
    (aK (bf (az (mOp gGt (mOp du (ao 1) (ao 3)) (mUn eQ (ao 0))))
    (aK (aV 4 (mOp ly (mOp du (ao 1) (ao 3)) (mUn eQ (ao 0))))
    (aK (aV 5 (uH (List.map (fun p:Int×Int=>(p.1,PV.int p.2)) [(224,160),(240,144)]) (mOp fX (ao 0) (ao 1)) (mC (.int 128))))
    (aK (bf (az (mOp gLt (ao 4) (mOp ly (ao 3) (mC (.int 1)))))
    (aV 5 (mC (.int 128)))
    aR)
    (ba (mOp fO (mOp fO (bb (aj (ao 5) aE)) (wK (bb (aj (mC (.int 128)) aE)) (mOp ly (ao 4) (mC (.int 1))))) (bb (aj (mC (.int 34)) aE)))))))
    aR)
    (aV 1 (mOp du (ao 1) (ao 3))))))
    (bf (az (mOp gEq (mOp du (ao 1) (mC (.int 1))) (mUn eQ (ao 0))))
    (ba (bb (aj (mC (.int 34)) (aj (mC (.int 34)) aE))))
    (bf (az (mOp gNe (mOp fX (ao 0) (mOp du (ao 1) (mC (.int 1)))) (mC (.int 117))))
    (aV 1 (mOp du (ao 1) (mC (.int 2))))
    (aK (aV 6 (jx (ao 0) (eh (mOp du (ao 1) (mC (.int 2)))) (eh (mOp du (ao 1) (mC (.int 6))))))
    (aK (aV 7 (mOp xa (jx (ao 6) (mC .non) (eh (mC (.int 1)))) (iq (aj (bb (aj (mC (.int 68)) aE)) (aj (bb (aj (mC (.int 100)) aE)) aE)))))
    (aK (bf (b4 (ao 7))
    (aV 7 (mOp xa (jx (ao 6) (eh (mC (.int 1))) (eh (mC (.int 2)))) (iq (aj (bb (aj (mC (.int 56)) aE)) (aj (bb (aj (mC (.int 57)) aE)) (aj (bb (aj (mC (.int 65)) aE)) (aj (bb (aj (mC (.int 66)) aE)) (aj (bb (aj (mC (.int 97)) aE)) (aj (bb (aj (mC (.int 98)) aE)) aE)))))))))
    aR)
    (aK (bf (jF (az (mOp gLt (mUn eQ (ao 6)) (mC (.int 4)))) (yL (b4 (ao 7))))
    (ba (mOp fO (wK (bb (aj (mC (.int 48)) aE)) (mOp ly (mC (.int 4)) (mUn eQ (ao 6)))) (bb (aj (mC (.int 34)) aE))))
    aR)
    (bf (yL (b4 (ao 7)))
    (aV 1 (mOp du (ao 1) (mC (.int 6))))
    (aK (aV 8 (mOp fO (wK (bb (aj (mC (.int 48)) aE)) (mOp ly (mC (.int 4)) (mUn eQ (ao 6)))) (bb (aj (mC (.int 92)) (aj (mC (.int 117)) (aj (mC (.int 68)) (aj (mC (.int 67)) (aj (mC (.int 48)) (aj (mC (.int 48)) aE)))))))))
    (aK (aV 9 (jx (ao 0) (eh (mOp du (ao 1) (mC (.int 6)))) (eh (mOp du (ao 1) (mC (.int 12))))))
    (aK (bf (az (mOp gLt (mUn eQ (ao 9)) (mC (.int 6))))
    (aK (aV 10 (jx (bb (aj (mC (.int 92)) (aj (mC (.int 117)) (aj (mC (.int 68)) (aj (mC (.int 67)) (aj (mC (.int 48)) (aj (mC (.int 48)) aE))))))) (eh (mUn eQ (ao 9))) (mC .non)))
    (ba (mOp fO (mOp fO (jx (ao 8) (mC .non) (eh (mOp ly (mC (.int 4)) (mUn eQ (ao 6))))) (ao 10)) (bb (aj (mC (.int 34)) aE)))))
    aR)
    (aV 1 (mOp du (ao 1) (mC (.int 12)))))))))))))))
noncomputable def eB:ah -> OS:=
    (ba (bb (aj (mC (.int 34)) aE)))
noncomputable def kj:ah -> OS:=
    (aK (dO b0
    bR fuel)
    eB)
noncomputable def lX:ah -> OS:=
    (aK (aV 1 (mC (.int 1)))
    kj)
noncomputable def cX:List PV->OE:=fnP 1 11 lX
noncomputable def qD:ah -> OE:=
    (bE da (aj (bE cp (aj (ao 0) (aj (mOp du (mC (.int 3)) (ao 1)) aE))) aE))
noncomputable def uP:ah -> OE:=
    (ao 1)
noncomputable def tV:ah -> OT:=
    (az (mOp gIn (mOp fX (ao 0) (ao 1)) (iq (aj (mC (.int 45)) (aj (mC (.int 43)) (aj (mC (.int 46)) (aj (mC (.int 101)) (aj (mC (.int 69)) aE))))))))
noncomputable def u6:ah -> OS:=
    (eR 10 (ba (tI (bE fo (aj (ao 10) aE)) (mOp Dj (ao 10) (mOp fO (ao 9) (ao 5))))))
noncomputable def yF:ah -> OS:=
    (aK (aV 10 (bE j6 (aj (mOp fO (ao 4) (ao 8)) aE)))
    u6)
noncomputable def yK:ah -> OS:=
    (aK (bf (az (mOp gLt (ao 1) (mC (.int 2))))
    (aV 9 (jx (ao 2) (eh (mUn eQ (ao 8))) (mC .non)))
    (bf (az (mOp gEq (ao 1) (mC (.int 2))))
    (eR 8 (aV 9 (bE cy (aj (ao 8) aE))))
    (bf (az (mOp gEq (mUn eQ (ao 8)) (mUn eQ (ao 2))))
    (aV 9 (bb aE))
    (eR 8 (aV 9 (bE cX (aj (ao 8) aE)))))))
    yF)
noncomputable def yW:ah -> OS:=
    (aK (aV 8 (jx (ao 2) (mC .non) (eh (mOp du (mC (.int 1)) (ao 6)))))
    yK)
noncomputable def yC:ah -> OS:=
    (aK (bf (jF (az (mOp gEq (ao 1) (mC (.int 2)))) (jF (b4 (ao 7)) (az (mOp gEq (mOp cN (bE cp (aj (ao 0) (aj (mC (.int 6)) aE))) (mC (.int 2))) (mC (.int 0))))))
    (aV 6 (mOp fX (ao 7) (mOp cN (bE cp (aj (ao 0) (aj (mC (.int 7)) aE))) (mUn eQ (ao 7)))))
    aR)
    yW)
noncomputable def yr:ah -> OS:=
    (aK (aV 7 (qR (mUn eQ (ao 2)) [2] tV uP))
    yC)
noncomputable def yP:ah -> OS:=
    (aK (aV 6 (mOp cN (bE cp (aj (ao 0) (aj (mC (.int 5)) aE))) (mUn eQ (ao 2))))
    yr)
noncomputable def yR:ah -> OS:=
    (aK (aV 5 (mOp fX (bb (aj (bb aE) (aj (bb (aj (mC (.int 93)) aE)) (aj (bb (aj (mC (.int 125)) aE)) (aj (bb (aj (mC (.int 125)) (aj (mC (.int 93)) aE))) aE))))) (mOp cN (bE cp (aj (ao 0) (aj (mC (.int 4)) aE))) (mC (.int 4)))))
    yP)
noncomputable def uc:ah -> OS:=
    (aK (aV 4 (mOp fX (bb (aj (bb aE) (aj (bb (aj (mC (.int 91)) (aj (mC (.int 49)) (aj (mC (.int 44)) aE)))) (aj (bb (aj (mC (.int 123)) (aj (mC (.int 34)) (aj (mC (.int 34)) (aj (mC (.int 58)) aE))))) (aj (bb (aj (mC (.int 91)) (aj (mC (.int 123)) (aj (mC (.int 34)) (aj (mC (.int 97)) (aj (mC (.int 34)) (aj (mC (.int 58)) aE))))))) aE))))) (mOp cN (bE cp (aj (ao 0) (aj (mC (.int 4)) aE))) (mC (.int 4)))))
    yR)
noncomputable def yT:ah -> OS:=
    (aK (bf (az (mOp gLt (ao 1) (mC (.int 2))))
    (aV 2 (mOp fX (bb (aj (bb (aj (mC (.int 110)) (aj (mC (.int 117)) (aj (mC (.int 108)) (aj (mC (.int 108)) aE))))) (aj (bb (aj (mC (.int 116)) (aj (mC (.int 114)) (aj (mC (.int 117)) (aj (mC (.int 101)) aE))))) (aj (bb (aj (mC (.int 102)) (aj (mC (.int 97)) (aj (mC (.int 108)) (aj (mC (.int 115)) (aj (mC (.int 101)) aE)))))) aE)))) (mOp cN (bE cp (aj (ao 0) (aj (mC (.int 1)) aE))) (mC (.int 3)))))
    (bf (az (mOp gEq (ao 1) (mC (.int 2))))
    (aV 2 (mOp wt (bE fu (aj (bE cp (aj (ao 0) (aj (mC (.int 1)) aE))) aE)) (mC (.int 0))))
    (aK (aV 3 (uj (mOp du (mC (.int 1)) (mOp cN (bE cp (aj (ao 0) (aj (mC (.int 2)) aE))) (mC (.int 3)))) [0] qD))
    (eR 3 (aV 2 (bE gY (aj (ao 3) (aj (bE cp (aj (ao 0) (aj (mC (.int 2)) aE))) aE))))))))
    uc)
noncomputable def Ey:ah -> OS:=
    (aK (aV 1 (mOp cN (bE cp (aj (ao 0) (aj (mC (.int 0)) aE))) (mC (.int 5))))
    yT)
noncomputable def ti:List PV->OE:=fnP 1 11 Ey
theorem kY(ns:List Int)(k:Int):hJ [.lst (ns.map .int),.int k]=.ok (.sh (.int (PG.cell ns k))):=by
 unfold hJ qS PG.cell
 cases ns with
 |nil=>simp
 | cons n r=>
   have hp:(0:Int)<(r.length:Int)+1:=by omega
   have hm:0<=k%((r.length:Int)+1):=Int.emod_nonneg _ (by omega)
   have hm2:k%((r.length:Int)+1)<(r.length:Int)+1:=Int.emod_lt_of_pos _ hp
   have hi:(k%((r.length:Int)+1)).toNat<(n ::r).length:=by rw[List.length_cons];omega
   have ha:atP (PV.int n ::r.map .int) (k%((r.length:Int)+1))=some (.int ((n ::r).getD (k%((r.length:Int)+1)).toNat 0)):=by
    rw[AM _ _ hm]
    have:(PV.int n ::r.map .int)=(n ::r).map .int:=rfl
    rw[this,List.getElem?_map,List.getElem?_eq_getElem hi,List.getD_eq_getElem?_getD,List.getElem?_eq_getElem hi];rfl
   simp[hp,ha]
theorem bH(ns:List Int)(k:Int):cp [.lst (ns.map .int),.int k]=.ok (.sh (.int (PG.mix ns k))):=by
 unfold PG.mix;simp[pS,pT,sZ,cp,kY]
theorem kb(n:Int):gi [.int n]=.ok (.sh (.bl true)):=by
 unfold gi p7;simp
theorem uV(ns:List Int):dg j8 [] (ns.map .int)=.ok (ns.map fun _=>.bl true):=
 nG _ fun n _=>by simp[j8,kb]
theorem jI(ns:List Int)(h:ns.length<=1000000):fo [.lst (ns.map .int)]=.ok (.sh (.bl true)):=by
 unfold fo pd
 have e:nF (ns.map fun _=>PV.bl true)=some (ns.map fun _=>true):=by
  have:=vO (ns.map fun _=>true)
  rwa [List.map_map]at this
 simp[uV,cQ,cI h,E6,e]
theorem ke(n:Int):da [.int n]=.ok (.sh (.int (PG.point n))):=by
 unfold PG.point
 have ha:atP [PV.int 34,.int 92,.int 47,.int 8,.int 12,.int 10,.int 13,.int 9,.int 0,.int 31,.int 127] (n/8%11)=some (.int (PG.menu.getD (n/8%11).toNat 0)):=by
  have h0:0<=n/8%11:=by omega
  have hi:(n/8%11).toNat<PG.menu.length:=by show _<11;omega
  rw[AM _ _ h0]
  show(PG.menu.map PV.int)[_]?=_
  rw[List.getElem?_map,List.getD_eq_getElem?_getD,List.getElem?_eq_getElem hi];rfl
 by_cases h1:n%8<2
 . simp[eM,eO,eN,eJ,eL,eI,eK,fS,da,h1]
 . by_cases h2:n%8<4
   . simp[eM,eO,eN,eJ,eL,eI,eK,fS,da,h1,h2,ha]
   . by_cases h3:n%8=4
     . simp[eM,eO,eN,eJ,eL,eI,eK,fS,da,h3]
     . by_cases h4:n%8=5
       . simp[eM,eO,eN,eJ,eL,eI,eK,fS,da,h4]
       . by_cases h5:n%8=6
         . simp[eM,eO,eN,eJ,eL,eI,eK,fS,da,h5]
         . simp[eM,eO,eN,eJ,eL,eI,eK,fS,da,h1,h2,h3,h4,h5]
theorem kg(n:Int)(h:kD n=true):dH [.int n]=.ok (.fr ((bp n).map .int)):=by
 have hn:0<=n:=by
  unfold kD at h;simp only[Bool.or_eq_true,Bool.and_eq_true,decide_eq_true_eq]at h;omega
 unfold bp
 by_cases h1:n<128
 . simp[gJ,gE,gC,gG,gD,jj,dH,h1]
 . by_cases h2:n<2048
   . have g2:¬ 2048<=n:=by omega
     have g3:¬ 65536<=n:=by omega
     simp[gJ,gE,gC,gG,gD,jj,dH,h1,h2,g2,g3,cO,List.range_succ]
   . by_cases h3:n<65536
     . have g2:2048<=n:=by omega
       have g3:¬ 65536<=n:=by omega
       have e1:n/64/64=n/4096:=by omega
       simp[gJ,gE,gC,gG,gD,jj,dH,h1,h2,h3,g2,g3,cO,List.range_succ,e1]
     . have g2:2048<=n:=by omega
       have g3:65536<=n:=by omega
       have e1:n/64/64=n/4096:=by omega
       have e2:n/4096/64=n/262144:=by omega
       simp[gJ,gE,gC,gG,gD,jj,dH,h1,h2,h3,g2,g3,cO,List.range_succ,e1,e2]
theorem lu(b:Int):gX [.int b]=.ok (.sh (.bl (wht b))):=by
 simp -implicitDefEqProofs [rf,gX,gIn,mf,eG,fH,wht];simp[Bool.beq_eq_decide_eq]
theorem eZ(b:Int):dZ [.int b]=.ok (.sh (.bl (fig b))):=by
 by_cases h:48<=b<;>simp -implicitDefEqProofs [p8,dZ,fig,h]
theorem hV(b:Int):fb [.int b]=.ok (.sh (match dC b with|some w=>.int w|none=>.non)):=by
 unfold dC
 by_cases h1:48<=b<;>by_cases h2:b<=57<;>by_cases h3:65<=b<;>by_cases h4:b<=70<;>by_cases h5:97<=b<;>by_cases h6:b<=102<;>first|omega|simp -implicitDefEqProofs [n6,nZ,nQ,pY,fb,eZ,fig,h1,h2,h3,h4,h5,h6]
theorem BC(b:Int):iQ [.int b]=.ok (match tls b with|some l=>.fr (l.map bg)|none=>.sh .non):=by
 have h3:cx [.int b]=.ok (.sh (bg (if b=224 then .sp 160 191 else if b=237 then .sp 128 159 else .sp 128 191))):=by
  by_cases h1:b=224
  . simp[gA,gy,iB,cx,h1,bg]
  . by_cases h2:b=237<;>simp[gA,gy,iB,cx,h1,h2,bg]
 have h4:cL [.int b]=.ok (.sh (bg (if b=240 then .sp 144 191 else if b=244 then .sp 128 143 else .sp 128 191))):=by
  by_cases h1:b=240
  . simp[gP,hU,i0,cL,h1,bg]
  . by_cases h2:b=244<;>simp[gP,hU,i0,cL,h1,h2,bg]
 unfold tls
 by_cases h0:0<=b /\ b<128
 . simp[jU,jT,jR,jS,ny,iQ,h0.1,h0.2]
 . by_cases ha:194<=b /\ b<224
   . have:¬ b<128:=by omega
     have z:0<=b:=by omega
     simp[jU,jT,jR,jS,ny,iQ,ha.1,ha.2,z,this,bg]
   . by_cases hb:224<=b /\ b<240
     . have z1:¬ b<128:=by omega
       have z2:¬ b<224:=by omega
       have z:0<=b:=by omega
       have z3:194<=b:=by omega
       simp[jU,jT,jR,jS,ny,iQ,hb.1,hb.2,z,z1,z2,z3,h3];simp[bg]
     . by_cases hc:240<=b /\ b<245
       . have z1:¬ b<128:=by omega
         have z2:¬ b<224:=by omega
         have z:0<=b:=by omega
         have z3:194<=b:=by omega
         have z4:224<=b:=by omega
         have z5:¬ b<240:=by omega
         simp[jU,jT,jR,jS,ny,iQ,hc.1,hc.2,z,z1,z2,z3,z4,z5,h4];simp[bg]
       . simp only[h0,ha,hb,hc,if_false]
         by_cases g0:0<=b<;>by_cases g1:b<128<;>by_cases g2:194<=b<;>by_cases g3:b<224<;>by_cases g4:224<=b<;>by_cases g5:b<240<;>by_cases g6:240<=b<;>by_cases g7:b<245<;>first|omega|simp[jU,jT,jR,jS,ny,iQ,g0,g1,g2,g3,g4,g5,g6,g7]
noncomputable def rI:Option (List PG.It)->RV
 |some l=>.fr (l.map bg)
 |none=>.sh .non
theorem fD(b:Int):dn [.int b]=.ok (rI (jA b)):=by
 unfold jA
 by_cases h0:b=48
 . simp[jt,jB,kr,dn,h0,rI,bg]
 . by_cases h1:48<=b<;>by_cases h2:b<=57<;>simp[jt,jB,kr,dn,h0,h1,h2,eZ,fig,rI,bg]
theorem eV(b:Int):bF [.int b]=.ok (rI (jf b)):=by
 unfold jf
 by_cases h1:b=91
 . simp[ck,cf,cg,cj,b9,b8,cb,cT,bF,h1,rI,bg]
 by_cases h2:b=123
 . simp[ck,cf,cg,cj,b9,b8,cb,cT,bF,h2,rI,bg]
 by_cases h3:b=34
 . simp[ck,cf,cg,cj,b9,b8,cb,cT,bF,h3,rI,bg]
 by_cases h4:b=45
 . simp[ck,cf,cg,cj,b9,b8,cb,cT,bF,h4,rI,bg]
 by_cases h5:b=110
 . simp[ck,cf,cg,cj,b9,b8,cb,cT,bF,h5,rI,bg,jd,eD,fQ,cu,qH,dg,cQ,List.lookup]
 by_cases h6:b=116
 . simp[ck,cf,cg,cj,b9,b8,cb,cT,bF,h6,rI,bg,jd,eD,fQ,cu,qH,dg,cQ,List.lookup]
 by_cases h7:b=102
 . simp[ck,cf,cg,cj,b9,b8,cb,cT,bF,h7,rI,bg,jd,eD,fQ,cu,qH,dg,cQ,List.lookup]
 have z5:(b==110)=false:=by simpa using h5
 have z6:(b==116)=false:=by simpa using h6
 have z7:(b==102)=false:=by simpa using h7
 simp[ck,cf,cg,cj,b9,b8,cb,cT,bF,h1,h2,h3,h4,h5,h6,h7,z5,z6,z7,jd,eD,fQ,cu,List.lookup,fD]
 cases jA b<;>simp[rI]
theorem cR:dI []=.ok (.fr (se.map bg)):=by
 simp[nR,dI,se,bg]
theorem kN(it:PG.It)(b:Int)(h:it=.lead \/ it=.figures \/ it=.fraction \/ it=.exponent \/ it=.sign):aS [bg it,.int b]=.ok (rI (bh it b)):=by
 rcases h with rfl|rfl|rfl|rfl|rfl
 . simp[bx,br,bA,bz,bO,aS,bg,gEq,eqS,aN,fD]
   cases e:jA b<;>simp[bh,rI,e]
 . by_cases h1:48<=b<;>by_cases h2:b<=57<;>simp[bx,br,bA,bz,bO,aS,bg,gEq,eqS,aN,eZ,fig,bh,rI,h1,h2]
 . by_cases h1:b=46<;>simp[bx,br,bA,bz,bO,aS,bg,gEq,eqS,aN,bh,rI,h1]
 . by_cases h1:b=101
   . simp[bx,br,bA,bz,bO,aS,bg,gEq,eqS,aN,bh,rI,h1,gIn,mf,eG,fH]
   . by_cases h2:b=69
     . simp[bx,br,bA,bz,bO,aS,bg,gEq,eqS,aN,bh,rI,h2,gIn,mf,eG,fH]
     . have z1:¬ 101=b:=fun z=>h1 z.symm
       have z2:¬ 69=b:=fun z=>h2 z.symm
       simp[bx,br,bA,bz,bO,aS,bg,gEq,eqS,aN,bh,rI,h1,h2,z1,z2,gIn,mf,eG,fH]
 . by_cases h1:b=43
   . simp[bx,br,bA,bz,bO,aS,bg,gEq,eqS,aN,bh,rI,h1,gIn,mf,eG,fH]
   . by_cases h2:b=45
     . simp[bx,br,bA,bz,bO,aS,bg,gEq,eqS,aN,bh,rI,h2,gIn,mf,eG,fH]
     . have z1:¬ 43=b:=fun z=>h1 z.symm
       have z2:¬ 45=b:=fun z=>h2 z.symm
       simp[bx,br,bA,bz,bO,aS,bg,gEq,eqS,aN,bh,rI,h1,h2,z1,z2,gIn,mf,eG,fH]
theorem iP(b:Int):∃ x,bG [.int b]=.ok (.sh x) /\ cu x=!uN b:=by
 unfold uN
 by_cases h1:b=34
 . exact⟨.int 34,by simp[cA,bG,fQ,List.lookup,h1],by simp[cu,h1]⟩
 by_cases h2:b=92
 . exact⟨.int 92,by simp[cA,bG,fQ,List.lookup,h2],by simp[cu,h2]⟩
 by_cases h3:b=47
 . exact⟨.int 47,by simp[cA,bG,fQ,List.lookup,h3],by simp[cu,h3]⟩
 by_cases h4:b=98
 . exact⟨.int 8,by simp[cA,bG,fQ,List.lookup,h4],by simp[cu,h4]⟩
 by_cases h5:b=102
 . exact⟨.int 12,by simp[cA,bG,fQ,List.lookup,h5],by simp[cu,h5]⟩
 by_cases h6:b=110
 . exact⟨.int 10,by simp[cA,bG,fQ,List.lookup,h6],by simp[cu,h6]⟩
 by_cases h7:b=114
 . exact⟨.int 13,by simp[cA,bG,fQ,List.lookup,h7],by simp[cu,h7]⟩
 by_cases h8:b=116
 . exact⟨.int 9,by simp[cA,bG,fQ,List.lookup,h8],by simp[cu,h8]⟩
 have zz:∀ k:Int,¬ b=k->(b==k)=false:=fun k h=>by simpa using h
 exact⟨.non,by simp[cA,bG,fQ,List.lookup,zz _ h1,zz _ h2,zz _ h3,zz _ h4,zz _ h5,zz _ h6,zz _ h7,zz _ h8],by simp[cu,h1,h2,h3,h4,h5,h6,h7,h8]⟩
theorem ft(b:Int):b5 [.int b]=.ok (rI (A6 b)):=by
 obtain⟨x,hx,hn⟩:=iP b;unfold A6
 by_cases h1:b=117
 . simp[gR,b5,h1,rI,bg]
 . cases hs:uN b<;>rw[hs]at hn<;>simp at hn<;>simp[gR,b5,h1,hx,hn,rI]
theorem CI(b:Int)(l:List PG.It)(h:tls b=some l):l.length<=3:=by
 unfold tls at h
 repeat' split at h
 all_goals(first|(cases h;done)|(injection h with h;subst h;simp))
theorem fq(b:Int):bN [.int b]=.ok (rI (n9 b)):=by
 have ht:=BC b;unfold n9
 by_cases h1:b=34
 . simp[dw,dr,dy,dq,dQ,bN,h1,rI]
 by_cases h2:b=92
 . simp[dw,dr,dy,dq,dQ,bN,h2,rI,bg]
 cases e:tls b with
 | none=>
   rw[e]at ht
   by_cases h3:b<32<;>simp[dw,dr,dy,dq,dQ,bN,h1,h2,h3,rI,ht,cu]
 | some l=>
   rw[e]at ht
   have hl:l.length+1<=lim:=cI (by have:=CI b l e;omega)
   by_cases h3:b<32<;>simp[dw,dr,dy,dq,dQ,bN,h1,h2,h3,rI,ht,cu,hl,bg]
theorem gM(w:Int):cY [.int w]=.ok (rI (ud w)):=by
 unfold ud
 by_cases h1:w<8
 . simp[iG,iE,jv,cY,h1,rI,bg]
 . by_cases h2:w<12<;>simp[iG,iE,jv,cY,h1,h2,rI,bg]
theorem qy(it:PG.It)(b:Int)(h:it=.text \/ it=.escape \/ it=.code \/ it=.coded):bC [bg it,.int b]=.ok (rI (bh it b)):=by
 have hw:=hV b
 rcases h with rfl|rfl|rfl|rfl
 . simp[cH,cE,cJ,cG,cK,dm,bC,bg,gEq,eqS,aN,fq]
   cases e:n9 b<;>simp[bh,rI,e]
 . simp[cH,cE,cJ,cG,cK,dm,bC,bg,gEq,eqS,aN,ft]
   cases e:A6 b<;>simp[bh,rI,e]
 . cases e:dC b with
   | none=>
     rw[e]at hw;simp[cH,cE,cJ,cG,cK,dm,bC,bg,gEq,eqS,aN,hw,cu,bh,e,rI]
   | some w=>
     rw[e]at hw
     by_cases h13:w=13<;>simp[cH,cE,cJ,cG,cK,dm,bC,bg,gEq,eqS,aN,hw,cu,bh,e,rI,h13]
 . cases e:dC b with
   | none=>
     rw[e]at hw;simp[cH,cE,cJ,cG,cK,dm,bC,bg,gEq,eqS,aN,hw,cu,bh,e,rI]
   | some w=>
     rw[e]at hw;simp[cH,cE,cJ,cG,cK,dm,bC,bg,gEq,eqS,aN,hw,cu,bh,e,gM]
     cases e2:ud w<;>simp[rI]
theorem xi(it:PG.It)(b:Int)(h:it=.hex \/ it=.hexd \/ it=.hexcf):cU [bg it,.int b]=.ok (rI (bh it b)):=by
 have hw:=hV b
 cases e:dC b with
 | none=>
   rw[e]at hw
   rcases h with rfl|rfl|rfl<;>simp[fP,fW,fR,fZ,iM,cU,bg,gEq,eqS,aN,hw,cu,bh,e,rI]
 | some w=>
   rw[e]at hw
   rcases h with rfl|rfl|rfl
   . simp[fP,fW,fR,fZ,iM,cU,bg,gEq,eqS,aN,hw,cu,bh,e,rI]
   . by_cases h13:w=13<;>simp[fP,fW,fR,fZ,iM,cU,bg,gEq,eqS,aN,hw,cu,bh,e,rI,h13]
   . by_cases h13:12<=w<;>simp[fP,fW,fR,fZ,iM,cU,bg,gEq,eqS,aN,hw,cu,bh,e,rI,h13]
theorem zt(b:Int)(l:List PG.It)(h:jf b=some l):l.length<=5:=by
 unfold jf jA at h
 repeat' split at h
 all_goals(first|(cases h;done)|(injection h with h;subst h;decide))
theorem fi(b:Int):bS [.int b]=.ok (rI (bh .row b)):=by
 have hv:=eV b
 by_cases h1:b=93
 . simp[eA,eH,fm,bS,h1,rI,bh]
 cases e:jf b with
 |none=>rw[e]at hv;simp[eA,eH,fm,bS,h1,hv,rI,bh,e,cu]
 | some l=>
   rw[e]at hv
   have hl:l.length+2<=lim:=cI (by have:=zt b l e;omega)
   simp[eA,eH,fm,bS,h1,hv,rI,bh,e,cu,bg,hl]
theorem dW(b:Int):bP [.int b]=.ok (rI (bh .fields b)):=by
 by_cases h1:b=125
 . simp[fI,bP,h1,rI,bh]
 by_cases h2:b=34<;>simp[fI,bP,h1,h2,rI,bh,cR,se,bg]
theorem ko(it:PG.It)(b:Int)(h:it=.row \/ it=.mrow \/ it=.fields \/ it=.mfields):aX [bg it,.int b]=.ok (rI (bh it b)):=by
 rcases h with rfl|rfl|rfl|rfl
 . simp[bW,bU,bV,bT,b6,aX,bg,gEq,eqS,aN,fi]
   cases e:bh .row b<;>simp[rI]
 . by_cases h1:b=44
   . simp[bW,bU,bV,bT,b6,aX,bg,gEq,eqS,aN,h1,bh,rI]
   . by_cases h2:b=93<;>simp[bW,bU,bV,bT,b6,aX,bg,gEq,eqS,aN,h1,h2,bh,rI]
 . simp[bW,bU,bV,bT,b6,aX,bg,gEq,eqS,aN,dW]
   cases e:bh .fields b<;>simp[rI]
 . by_cases h1:b=44
   . simp[bW,bU,bV,bT,b6,aX,bg,gEq,eqS,aN,h1,bh,rI,cR,se]
   . by_cases h2:b=125<;>simp[bW,bU,bV,bT,b6,aX,bg,gEq,eqS,aN,h1,h2,bh,rI]
theorem tH(o:Option (List PG.It))(xs:List PV):rI o≠.al xs:=by cases o<;>simp[rI]
theorem bX{x:PV}{b:Int}{ρ:ah}{o:Option (List PG.It)}(h:rB [some (.sh x),some (.sh (.int b))]=.rt ρ (rI o)):jh [x,.int b]=.ok (rI o):=Eq.trans (congrArg fin h) (GY (tH o))
theorem o1(it:PG.It)(b:Int):jh [bg it,.int b]=.ok (rI (bh it b)):=by
 have t1:∀ it:PG.It,aS [bg it,.int b]=.ok (rI (bh it b))->_:=fun it h=>nv h (tH _)
 have t2:∀ it:PG.It,bC [bg it,.int b]=.ok (rI (bh it b))->_:=fun it h=>nv h (tH _)
 have t3:∀ it:PG.It,cU [bg it,.int b]=.ok (rI (bh it b))->_:=fun it h=>nv h (tH _)
 have t4:∀ it:PG.It,aX [bg it,.int b]=.ok (rI (bh it b))->_:=fun it h=>nv h (tH _)
 cases it with
 |sp lo hi=>by_cases h1:lo<=b<;>by_cases h2:b<=hi<;>simp[rL,rN,rE,rn,rA,qK,rR,rB,jh,bg,isP,h1,h2,bh,rI]
 |white=>exact bX (ρ:=[some (.sh (bg .white)),some (.sh (.int b))]) ((sk (by rfl)).trans ((sk (by rfl)).trans ((sk (by rfl)).trans ((sk (by rfl)).trans ((sk (by rfl)).trans (st (by rfl) (by cases h:wht b<;>simp[ju,lu,h,bh,rI,bg])))))))
 |name=>exact bX (ρ:=[some (.sh (bg .name)),some (.sh (.int b))]) ((sk (by rfl)).trans ((sk (by rfl)).trans ((sk (by rfl)).trans ((sk (by rfl)).trans ((sk (by rfl)).trans ((sk (by rfl)).trans (st (by rfl) (by by_cases h:b=34<;>simp[ju,h,bh,rI,bg]))))))))
 |value=>exact bX ((sk (by rfl)).trans ((sk (by rfl)).trans ((sk (by rfl)).trans ((sk (by rfl)).trans ((sk (by rfl)).trans ((sk (by rfl)).trans ((sk (by rfl)).trans (zS (eV b) (tH _)))))))))
 |lead=>exact bX ((sk (by rfl)).trans (st (by rfl) (t1 .lead (kN _ b (by simp)))))
 |figures=>exact bX ((sk (by rfl)).trans (st (by rfl) (t1 .figures (kN _ b (by simp)))))
 |fraction=>exact bX ((sk (by rfl)).trans (st (by rfl) (t1 .fraction (kN _ b (by simp)))))
 |exponent=>exact bX ((sk (by rfl)).trans (st (by rfl) (t1 .exponent (kN _ b (by simp)))))
 |sign=>exact bX ((sk (by rfl)).trans (st (by rfl) (t1 .sign (kN _ b (by simp)))))
 |text=>exact bX ((sk (by rfl)).trans ((sk (by rfl)).trans (st (by rfl) (t2 .text (qy _ b (by simp))))))
 |escape=>exact bX ((sk (by rfl)).trans ((sk (by rfl)).trans (st (by rfl) (t2 .escape (qy _ b (by simp))))))
 |code=>exact bX ((sk (by rfl)).trans ((sk (by rfl)).trans (st (by rfl) (t2 .code (qy _ b (by simp))))))
 |coded=>exact bX ((sk (by rfl)).trans ((sk (by rfl)).trans (st (by rfl) (t2 .coded (qy _ b (by simp))))))
 |hex=>exact bX ((sk (by rfl)).trans ((sk (by rfl)).trans ((sk (by rfl)).trans (st (by rfl) (t3 .hex (xi _ b (by simp)))))))
 |hexd=>exact bX ((sk (by rfl)).trans ((sk (by rfl)).trans ((sk (by rfl)).trans (st (by rfl) (t3 .hexd (xi _ b (by simp)))))))
 |hexcf=>exact bX ((sk (by rfl)).trans ((sk (by rfl)).trans ((sk (by rfl)).trans (st (by rfl) (t3 .hexcf (xi _ b (by simp)))))))
 |row=>exact bX ((sk (by rfl)).trans ((sk (by rfl)).trans ((sk (by rfl)).trans ((sk (by rfl)).trans (st (by rfl) (t4 .row (ko _ b (by simp))))))))
 |mrow=>exact bX ((sk (by rfl)).trans ((sk (by rfl)).trans ((sk (by rfl)).trans ((sk (by rfl)).trans (st (by rfl) (t4 .mrow (ko _ b (by simp))))))))
 |fields=>exact bX ((sk (by rfl)).trans ((sk (by rfl)).trans ((sk (by rfl)).trans ((sk (by rfl)).trans (st (by rfl) (t4 .fields (ko _ b (by simp))))))))
 |mfields=>exact bX ((sk (by rfl)).trans ((sk (by rfl)).trans ((sk (by rfl)).trans ((sk (by rfl)).trans (st (by rfl) (t4 .mfields (ko _ b (by simp))))))))
noncomputable abbrev cm(st:List PG.It):List PV:=st.reverse.map bg
theorem xD(st:List PG.It):PG.wk st=.ob "Walk" ["coming"] [.ol ((cm st).map .sh)]:=rfl
theorem xC(st:List PG.It):(PG.wk st).get [.fd "coming"]=some (.ol ((cm st).map .sh)):=by
 simp[xD,OV.get,OV.at1,mN]
theorem Bm(st:List PG.It)(t:OV):(PG.wk st).put [.fd "coming"] t=.ob "Walk" ["coming"] [t]:=by
 simp[xD,OV.put,OV.at1,OV.BL,mN,sE]
theorem AG{ρ:ah}{i:Nat}{s:Sl}{st:List PG.It}(h:ρ[i]?=some (some s))(hs:slT s=some (PG.wk st)):subAt i eP ρ=some (PG.wk st):=by
 unfold subAt jl eP;rw[h];simp[hs]
theorem xq{ρ:ah}{i:Nat}{s:Sl}{st:List PG.It}(h:ρ[i]?=some (some s))(hs:slT s=some (PG.wk st)):pFd i eP "coming" mi ρ=some [.fd "coming"]:=by
 unfold pFd;rw[AG h hs,xD];simp[mi,mN,eP]
theorem uW{ρ:ah}{i:Nat}{s:Sl}{st:List PG.It}(h:ρ[i]?=some (some s))(hs:slT s=some (PG.wk st)):subAt i (pFd i eP "coming" mi) ρ=some (.ol ((cm st).map .sh)):=by
 unfold subAt jl;rw[h,xq h hs];simp[hs,xC]
theorem HH(it:PG.It):fL [some (.sh (bg it))]=.ok (opn it):=by
 cases it<;>simp -implicitDefEqProofs [fL,bg,gIn,mf,eG,opn,fH]
theorem zu(l:List PG.It):dM fL iI [] (l.map bg)=.ok ((l.filter opn).map bg):=by
 induction l with
 |nil=>rfl
 | cons it l ih=>
   rw[List.map_cons];unfold dM;have h:=HH it
   have he:iI [some (.sh (bg it))]=.ok (.sh (bg it)):=rfl
   cases e:opn it<;>rw[e]at h<;>simp[h,ih,e,he]
theorem xS(st:List PG.It)(hl:st.length<=100000):b7 [.bo (PG.wk st)]=.ok (.int (PG.cnt st)) [none]:=by
 have hp:qe 0 (pFd 0 eP "coming" mi) [some (.bo (PG.wk st))]=.ok (.al (cm st)):=by
  unfold qe;rw[uW (s:=.bo (PG.wk st)) rfl rfl];simp only[tP]
 have hc:(st.reverse.filter opn).length=PG.cnt st:=by unfold PG.cnt;rw[List.filter_reverse,List.length_reverse]
 have hn:PG.cnt st<=lim:=cI (by unfold PG.cnt;have:=List.length_filter_le opn st;omega)
 have he:=zu st.reverse
 simp -implicitDefEqProofs only[b7,lY,fnI,nj,qP,hp,cQ,List.map_nil,he,F0,AQ,List.map_cons,List.length_cons,List.length_nil,List.replicate,List.append_nil,kO,Et,Fz,List.length_map,hc,hn,if_true,rD,nr,jV,D5,Nat.sub_self,zM]
 rfl
theorem Ct(it:PG.It):uY (bg it) (.tup [.str "white",.str "figures",.str "fraction",.str "exponent",.str "sign"])=some (.sh (.bl (!PG.loose it))):=by
 cases it<;>simp -implicitDefEqProofs [bg,uY,mf,eG,PG.loose,fH]
theorem Hx(it:PG.It):gIn (bg it) (.tup [.str "white",.str "figures",.str "fraction",.str "exponent",.str "sign"])=some (.sh (.bl (PG.loose it))):=by
 cases it<;>simp -implicitDefEqProofs [bg,gIn,mf,eG,PG.loose,fH]
theorem Fp{ρ:ah}{i:Nat}{io:Bool}{it:PG.It}{st:List PG.It}(h:ρ[i]?=some (some (.tr io (PG.wk (it ::st))))):sU i (pFd i eP "coming" mi) ρ=.ok (ρ.set i (some (.tr io (PG.wk st)))) (.sh (bg it)):=by
 have hc:(cm (it ::st)).map OV.sh=(cm st).map OV.sh++[.sh (bg it)]:=by simp[cm]
 unfold sU;rw[h,xq h rfl];simp only[xC,hc,List.getLast?_concat,List.dropLast_concat,Bm];rfl
theorem EO{ρ:ah}{i:Nat}{io:Bool}{l st:List PG.It}{me:ah->OE}(h:ρ[i]?=some (some (.tr io (PG.wk st))))(he:me ρ=.ok (.fr (l.map bg).reverse))(hl:st.length+l.length<=100000):
  mJ i (pFd i eP "coming" mi) me ρ=.nx (ρ.set i (some (.tr io (PG.wk (l++st))))):=by
 have hc:(cm (l++st)).map OV.sh=(cm st).map OV.sh++(l.map bg).reverse.map .sh:=by simp[cm]
 have hl2:st.length+l.length<=lim:=cI (by omega)
 unfold mJ wQ;rw[h,xq h rfl];simp only[xC,he,jV,List.length_map,List.length_reverse,hl2,if_true,Bm];rw[xD,hc]
theorem v8{ρ:ah}{i:Nat}{io:Bool}{st:List PG.It}(h:ρ[i]?=some (some (.tr io (PG.wk st)))):o6 i (pFd i eP "coming" mi) ρ=.ok (!st.isEmpty):=by
 unfold o6;rw[uW h rfl]
 cases st<;>simp[cm]
theorem CW{ρ:ah}{i:Nat}{io:Bool}{st:List PG.It}(h:ρ[i]?=some (some (.tr io (PG.wk st))))(hl:st.length<=100000):pM "Walk" "brackets" b7 [.b i eP] ρ=.ok (.sh (.int (PG.cnt st))):=by
 have ha:mM (.b i eP) ρ=some (.bo (PG.wk st)):=by
  simp only[mM];rw[AG h rfl];rfl
 have hr:recv "Walk" "brackets" (some (.bo (PG.wk st)))=true:=by
  rw[xD];simp[recv,aN]
 simp only[pM,ha,hr,if_true,xk,lV,Option.bind_some,Option.map_some,xS st hl]
theorem Ak(b:Int)(it:PG.It)(st:List PG.It)(io:Bool)(x y:Option Sl)(hl:st.length+8<=100000):gk [some (.tr io (PG.wk (it ::st))),some (.sh (.int b)),x,y] =
  match bh it b with
  |some l=>.rt [some (.tr io (PG.wk (l++st))),some (.sh (.int b)),some (.sh (bg it)),some (.ow (l.map bg))] (.sh (.bl (decide (PG.cnt (l++st)<=64))))
  |none=>if PG.loose it then .nx [some (.tr io (PG.wk st)),some (.sh (.int b)),some (.sh (bg it)),some (.sh .non)]else .rt [some (.tr io (PG.wk st)),some (.sh (.int b)),some (.sh (bg it)),some (.sh .non)] (.sh (.bl false)):=by
 have h1:qa 2 (sU 0 (pFd 0 eP "coming" mi)) [some (.tr io (PG.wk (it ::st))),some (.sh (.int b)),x,y]=.nx [some (.tr io (PG.wk st)),some (.sh (.int b)),some (.sh (bg it)),y]:=by
  unfold qa;rw[Fp (it:=it) (st:=st) (io:=io) rfl];rfl
 have hb:=o1 it b;have hlo:=Ct it;unfold gk;simp only[oy,h1,jX]
 cases e:bh it b with
 | none=>
   rw[e]at hb
   cases e2:PG.loose it<;>rw[e2]at hlo<;>simp -implicitDefEqProofs [hb,rI,cu,hlo]
 | some l=>
   rw[e]at hb;have hll:=BG it b l e
   have h2:mJ 0 (pFd 0 eP "coming" mi) (zF (ao 3) (mUn pR (mC (.int 1)))) [some (.tr io (PG.wk st)),some (.sh (.int b)),some (.sh (bg it)),some (.ow (l.map bg))]=.nx [some (.tr io (PG.wk (l++st))),some (.sh (.int b)),some (.sh (bg it)),some (.ow (l.map bg))]:=
    EO (io:=io) rfl (by simp[zF]) (by omega)
   have h3:pM "Walk" "brackets" b7 [.b 0 eP] [some (.tr io (PG.wk (l++st))),some (.sh (.int b)),some (.sh (bg it)),some (.ow (l.map bg))]=.ok (.sh (.int (PG.cnt (l++st)))):=CW (io:=io) rfl (by simp;omega)
   have h4:(decide ((PG.cnt (l++st):Int)<=64))=decide (PG.cnt (l++st)<=64):=by rw[decide_eq_decide];omega
   simp -implicitDefEqProofs [hb,rI,cu,h2,h3,h4]
theorem Al(b:Int)(io:Bool)(st:List PG.It):∀(n:Nat) (x y:Option Sl),st.length<n->st.length+8<=100000 ->
  ∃ x' y',(dO gj gk n [some (.tr io (PG.wk st)),some (.sh (.int b)),x,y]).andThen (ba (mC (.bl false)))=.rt [some (.tr io (PG.wk (gon st b).1)),some (.sh (.int b)),x',y'] (.sh (.bl (gon st b).2)):=by
 induction st with
 | nil=>
   intro n x y hn hl
   obtain⟨m,rfl⟩:∃ m,n=m+1:=⟨n - 1,by simp at hn;omega⟩
   refine⟨x,y,?_⟩
   have hc:gj [some (.tr io (PG.wk [])),some (.sh (.int b)),x,y]=.ok false:=v8 (i:=0) (ρ:=[some (.tr io (PG.wk [])),some (.sh (.int b)),x,y]) (io:=io) (st:=[]) rfl
   simp[dO,hc,gon]
 | cons it st ih=>
   intro n x y hn hl
   obtain⟨m,rfl⟩:∃ m,n=m+1:=⟨n - 1,by simp at hn;omega⟩
   have hc:gj [some (.tr io (PG.wk (it ::st))),some (.sh (.int b)),x,y]=.ok true:=v8 (i:=0) (ρ:=[some (.tr io (PG.wk (it ::st))),some (.sh (.int b)),x,y]) (io:=io) (st:=it ::st) rfl
   have ht:=Ak b it st io x y (by simp at hl;omega);unfold gon
   cases e:bh it b with
   | some l=>
     rw[e]at ht
     exact⟨some (.sh (bg it)),some (.ow (l.map bg)),by simp only[dO,hc,j1,if_true,ht,yk,si]⟩
   | none=>
     rw[e]at ht
     dsimp only at ht ⊢
     cases e2:PG.loose it with
     | false=>
       rw[e2]at ht
       exact⟨some (.sh (bg it)),some (.sh .non),by simp only[dO,hc,j1,if_true,ht,yk,si,Bool.false_eq_true,if_false]⟩
     | true=>
       rw[e2]at ht;obtain⟨x',y',h⟩:=ih m (some (.sh (bg it))) (some (.sh .non)) (by simp at hn;omega) (by simp at hl;omega)
       exact⟨x',y',by simp only[dO,hc,j1,if_true,ht,o4,h]⟩
theorem Af(b:Int)(st:List PG.It)(hl:st.length+8<100000):dv [.tr true (PG.wk st),.sh (.int b)]=.ok (.bl (gon st b).2) [some (PG.wk (gon st b).1),none]:=by
 obtain⟨x',y',h⟩:=Al b true st fuel none none (by unfold fuel;omega) (by omega)
 have e:iK [some (.tr true (PG.wk st)),some (.sh (.int b)),none,none]=_:=h
 show fnI 2 4 iK _=_;unfold fnI;rw[if_pos (by rfl)];show zM 2 (iK [some (.tr true (PG.wk st)),some (.sh (.int b)),none,none])=_;rw[e];rfl
theorem Ad(io:Bool)(rw:PV)(row:List Int):∀(k:Nat) (st:List PG.It) (x y:Option Sl),st.length+8*row.length+8<100000 ->
  ∃ x' y',lB 2 3 i9 (qd k (row.map .int)) [some (.tr io (PG.wk st)),some (.sh rw),x,y]=if(PG.tk st row).2=row.length then .nx [some (.tr io (PG.wk (PG.tk st row).1)),some (.sh rw),x',y']else .rt [some (.tr io (PG.wk (PG.tk st row).1)),some (.sh rw),x',y'] (.sh (.int ((k+(PG.tk st row).2:Nat):Int))):=by
 induction row with
 |nil=>intro k st x y hl;exact⟨x,y,by simp[qd,lB,PG.tk]⟩
 | cons b row ih=>
   intro k st x y hl;simp only[List.length_cons]at hl;have hg:=Af b st (by omega);have hlen:=yN st b
   have ht:i9 [some (.tr io (PG.wk st)),some (.sh rw),some (.sh (.int k)),some (.sh (.int b))]=if(gon st b).2 then .nx [some (.tr io (PG.wk (gon st b).1)),some (.sh rw),some (.sh (.int k)),some (.sh (.int b))]else .rt [some (.tr io (PG.wk (gon st b).1)),some (.sh rw),some (.sh (.int k)),some (.sh (.int b))] (.sh (.int k)):=by
    have ha:mM (.t 0 eP) [some (.tr io (PG.wk st)),some (.sh rw),some (.sh (.int k)),some (.sh (.int b))]=some (.tr true (PG.wk st)):=by simp[mM,eP]
    have ha2:mM (.e (ao 3)) [some (.tr io (PG.wk st)),some (.sh rw),some (.sh (.int k)),some (.sh (.int b))]=some (.sh (.int b)):=by simp[mM]
    have hr:recv "Walk" "goes_on" (some (.tr true (PG.wk st)))=true:=by rw[xD];simp[recv,aN]
    have hx:mx "Walk" "goes_on" dv [.t 0 eP,.e (ao 3)] [some (.tr io (PG.wk st)),some (.sh rw),some (.sh (.int k)),some (.sh (.int b))]=.ok [some (.tr io (PG.wk (gon st b).1)),some (.sh rw),some (.sh (.int k)),some (.sh (.int b))] (.sh (.bl (gon st b).2)):=by
     simp only[mx,ha,hr,if_true,uy,lV,ha2,Option.bind_some,Option.map_some,hg];simp[fK,kC,eP]
    unfold i9 Dl;rw[hx]
    cases(gon st b).2<;>simp
   unfold PG.tk;simp only[List.map_cons,qd,lB,List.set_cons_succ,List.set_cons_zero,ht]
   cases e:(gon st b).2 with
   |false=>exact⟨some (.sh (.int k)),some (.sh (.int b)),by simp⟩
   | true=>
     obtain⟨x',y',h⟩:=ih (k+1) (gon st b).1 (some (.sh (.int k))) (some (.sh (.int b))) (by omega)
     refine⟨x',y',?_⟩
     simp only[if_true,o4,h,List.length_cons,Nat.add_right_cancel_iff]
     have:k+1+(PG.tk (gon st b).1 row).2=k+((PG.tk (gon st b).1 row).2+1):=by omega
     rw[this]
theorem GQ(st:List PG.It)(row:List Int)(hl:st.length+8*row.length+8<100000):fe [.tr true (PG.wk st),.sh (.lst (row.map .int))]=.ok (.int (PG.tk st row).2) [some (PG.wk (PG.tk st row).1),none]:=by
 obtain⟨x',y',h⟩:=Ad true (.lst (row.map .int)) row 0 st none none hl;show fnI 2 4 kf _=_;unfold fnI;rw[if_pos (by rfl)];show zM 2 (kf [some (.tr true (PG.wk st)),some (.sh (.lst (row.map .int))),none,none])=_;unfold kf yj;simp only[oy,xx,List.getElem?_cons_succ,List.getElem?_cons_zero,jV,Gq,h]
 by_cases e:(PG.tk st row).2=row.length
 . simp[e,zM,tq]
 . simp[e,zM,tq]
theorem E8:cZ [.tr true (.ob "Walk" [] [])]=.ok .non [some (PG.wk st0)]:=by
 rfl
theorem BY(row:List Int):∀ st,(PG.tk st row).1.length<=st.length+8*row.length+8:=by
 induction row with
 |nil=>intro st;simp[PG.tk]
 | cons b row ih=>
   intro st;have:=yN st b;have h2:=ih (gon st b).1;unfold PG.tk
   split<;>simp only[List.length_cons]<;>omega
noncomputable def fgB(big:Bool)(w:Int):Int:=if w<10 then 48+w else(if big then 55 else 87)+w
noncomputable def yd(n:Int)(big:Bool):Sg:=.hx (fgB big (n/16/16/16%16)) (fgB big (n/16/16%16)) (fgB big (n/16%16)) (fgB big (n%16))
noncomputable def qf:List (Int×Int):=[(34,34),(92,92),(47,47),(8,98),(12,102),(10,110),(13,114),(9,116)]
noncomputable def Dh(n m:Int)(b1 b2:Bool):Sg:=.pr (fgB b1 (n/16/16/16%16)) (fgB b1 (n/16/16%16)) (fgB b1 (n/16%16)) (fgB b1 (n%16)) (fgB b2 (m/16/16/16%16)) (fgB b2 (m/16/16%16)) (fgB b2 (m/16%16)) (fgB b2 (m%16))
noncomputable def n5(p n:Int):Sg:=
 if n%5=0 /\ (qf.lookup p).isSome=true then .sh ((qf.lookup p).getD 0) p
 else if 1<n%5 /\ 32<=p /\ p≠34 /\ p≠92 then .pl p
 else if p<65536 then yd p (decide (n%5=1))
 else Dh (55296+(p - 65536)/1024) (56320+(p - 65536)%1024) (decide (n%5=1)) (decide (n%5=0))
theorem pe(big:Bool){w:Int}(h:0<=w /\ w<16):dC (fgB big w)=some w:=by
 unfold fgB dC
 by_cases h1:w<10
 . rw[if_pos h1,if_pos (by omega)];congr 1;omega
 . cases big
   . simp only[h1,if_false,Bool.false_eq_true];rw[if_neg (by omega),if_neg (by omega),if_pos (by omega)];congr 1;omega
   . simp only[h1,if_false,if_true];rw[if_neg (by omega),if_pos (by omega)];congr 1;omega
theorem tQ{p:Int}(h:(qf.lookup p).isSome=true):((qf.lookup p).getD 0,p)∈shP:=by
 unfold qf at h ⊢
 simp only[List.lookup]at h ⊢
 repeat' split
 all_goals first
  |(rename_i e;have e':=eq_of_beq e;subst e';decide)
  |(simp_all;done)
theorem oH(n:Int)(big:Bool)(h:0<=n /\ n<65536):(dC (fgB big (n/16/16/16%16))=some (n/16/16/16%16) /\ dC (fgB big (n/16/16%16))=some (n/16/16%16) /\ dC (fgB big (n/16%16))=some (n/16%16) /\ dC (fgB big (n%16))=some (n%16)) /\
  cod (fgB big (n/16/16/16%16)) (fgB big (n/16/16%16)) (fgB big (n/16%16)) (fgB big (n%16))=n:=by
 have e1:=pe big (w:=n/16/16/16%16) (by omega);have e2:=pe big (w:=n/16/16%16) (by omega);have e3:=pe big (w:=n/16%16) (by omega);have e4:=pe big (w:=n%16) (by omega)
 refine⟨⟨e1,e2,e3,e4⟩,?_⟩
 simp only[cod,iu e1,iu e2,iu e3,iu e4];omega
theorem o5(p n:Int)(h:kD p=true):Sok (n5 p n) /\ Hu (n5 p n)=p:=by
 have hr:=lE h
 have hs:p<55296 \/ 57343<p:=by
  unfold kD at h;simp only[Bool.or_eq_true,Bool.and_eq_true,decide_eq_true_eq]at h;omega
 unfold n5;split
 . rename_i c;exact⟨tQ c.2,rfl⟩
 . split
   . rename_i c;exact⟨⟨h,c.2.1,c.2.2.1,c.2.2.2⟩,rfl⟩
   . split
     . rename_i c;obtain⟨⟨e1,e2,e3,e4⟩,ec⟩:=oH p (decide (n%5=1)) (by omega)
       exact⟨⟨by rw[e1];rfl,by rw[e2];rfl,by rw[e3];rfl,by rw[e4];rfl,by rw[ec];omega⟩,ec⟩
     . rename_i c;obtain⟨⟨e1,e2,e3,e4⟩,ec⟩:=oH (55296+(p - 65536)/1024) (decide (n%5=1)) (by omega);obtain⟨⟨f1,f2,f3,f4⟩,fc⟩:=oH (56320+(p - 65536)%1024) (decide (n%5=0)) (by omega)
       have g1:(55296+(p - 65536)/1024)/16/16/16%16=13:=by omega
       have g2:(56320+(p - 65536)%1024)/16/16/16%16=13:=by omega
       refine⟨⟨⟨by rw[e1,g1],by rw[iu e2];omega,by rw[iu e2];omega,by rw[e2];rfl,by rw[e3];rfl,by rw[e4];rfl⟩,by rw[f1,g2],by rw[iu f2];omega,by rw[f2];rfl,by rw[f3];rfl,by rw[f4];rfl⟩,?_⟩
       show 65536+1024*(cod _ _ _ _ - 55296)+cod _ _ _ _ - 56320=p;rw[ec,fc];omega
noncomputable def qX(n:Int)(big:Bool):List Int:=[92,117,fgB big (n/16/16/16%16),fgB big (n/16/16%16),fgB big (n/16%16),fgB big (n%16)]
theorem oP(n:Int)(big:Bool)(found:List Int)(k:Int)(x:Option Sl)(hl:found.length<=10):kl [some (.sh (.int n)),some (.sh (.bl big)),some (.ow (found.map .int)),some (.sh (.int k)),x]=.nx [some (.sh (.int (n/16))),some (.sh (.bl big)),some (.ow ((fgB big (n%16) ::found).map .int)),some (.sh (.int k)),some (.sh (.int (n%16)))]:=by
 have hlim:1+found.length<=lim:=cI (by omega)
 unfold fgB
 by_cases h:n%16<10
 . simp -implicitDefEqProofs [kl,h,hlim]
 . cases big<;>simp -implicitDefEqProofs [kl,h,hlim]
theorem i3(n:Int)(big:Bool):gn [.int n,.bl big]=.ok (.fr ((qX n big).map .int)):=by
 have h1:=oP n big [] 0 none (by simp);have h2:=oP (n/16) big [fgB big (n%16)] 1 (some (.sh (.int (n%16)))) (by simp);have h3:=oP (n/16/16) big [fgB big (n/16%16),fgB big (n%16)] 2 (some (.sh (.int (n/16%16)))) (by simp);have h4:=oP (n/16/16/16) big [fgB big (n/16/16%16),fgB big (n/16%16),fgB big (n%16)] 3 (some (.sh (.int (n/16/16%16)))) (by simp);simp only[List.map_cons,List.map_nil]at h1 h2 h3 h4
 have hr:cO 4=[.int 0,.int 1,.int 2,.int 3]:=rfl
 have hb:(-4611686018427387904:Int)<=4 /\ (4:Int)<4611686018427387904:=by omega
 simp -implicitDefEqProofs [p5,p6,tj,gn,hr,h1,h2,h3,h4,qX]
theorem oq(n:Int)(big:Bool)(h:0<=n /\ n<65536):gu (yd n big)=qX n big:=by
 obtain⟨⟨e1,e2,e3,e4⟩,_⟩:=oH n big h;obtain⟨g1,g2,g3,g4⟩:=lO (by rw[e1];rfl) (by rw[e2];rfl) (by rw[e3];rfl) (by rw[e4];rfl);show bp 92++(bp 117++(bp _++(bp _++(bp _++(bp _++[])))))=_;rw[g1,g2,g3,g4];rfl
theorem zU(n m:Int)(b1 b2:Bool)(h:0<=n /\ n<65536)(h':0<=m /\ m<65536):gu (Dh n m b1 b2)=qX n b1++qX m b2:=by
 rw[<- oq n b1 h,<- oq m b2 h']
 show([92,117,_,_,_,_,92,117,_,_,_,_]:List Int).flatMap bp=([92,117,_,_,_,_]:List Int).flatMap bp++([92,117,_,_,_,_]:List Int).flatMap bp
 rw[<- List.flatMap_append];rfl
theorem lQ(p n:Int)(h:kD p=true):gQ [.int p,.int n]=.ok (.fr ((gu (n5 p n)).map .int)):=by
 have hr:=lE h;have h8:=kg p h
 have hl:(qf.map fun p=>(p.1,PV.int p.2)).lookup p=(qf.lookup p).map .int:=by
  unfold qf;simp only[List.map,List.lookup]
  repeat' split
  all_goals rfl
 obtain⟨kv,hkv⟩:∃ kv,kv=qf.map fun p=>(p.1,PV.int p.2):=⟨_,rfl⟩
 rw[<- hkv]at hl
 have hset:qb 2 (Gf [(34,34),(92,92),(47,47),(8,98),(12,102),(10,110),(13,114),(9,116)]) [some (.sh (.int p)),some (.sh (.int n)),none,none,none]=.nx [some (.sh (.int p)),some (.sh (.int n)),some (.tr false (.di kv)),none,none]:=by rw[hkv];rfl
 have hi:∀ a b c d,subAt 2 eP [a,b,some (.tr false (.di kv)),c,d]=some (.di kv):=fun a b c d=>by simp[subAt,jl,slT,eP]
 clear hkv
 have e1:fin (iF [some (.sh (.int p)),some (.sh (.int n)),some (.tr false (.di kv)),none,none])=.ok (.fr ((gu (n5 p n)).map .int)):=by
  unfold n5
  by_cases c1:n%5=0 /\ (qf.lookup p).isSome=true
  . rw[if_pos c1];obtain⟨c,hc⟩:=Option.isSome_iff_exists.mp c1.2;have hm:=tQ c1.2
    rw[hc]at hm hl ⊢
    have hby:gu (.sh c p)=[92,c]:=by
     simp only[Option.getD_some,shP,List.mem_cons,Prod.mk.injEq,List.not_mem_nil,or_false]at hm
     rcases hm with h|h|h|h|h|h|h|h<;>(obtain⟨rfl,rfl⟩:=h;rfl)
    simp only[Option.map_some]at hl;simp -implicitDefEqProofs [iF,lx,c1.1,vV,za,hi,hl,hby]
  . rw[if_neg c1]
    have hg1:∀ x,jF (az (mOp gEq (ao 3) (mC (.int 0)))) (az (vV false (ao 0) 2 eP)) [some (.sh (.int p)),some (.sh (.int n)),some (.tr false (.di kv)),some (.sh (.int (n%5))),x]=.ok false:=fun x=>by
     by_cases z:n%5=0
     . have:qf.lookup p = none:=by
        cases e:qf.lookup p with
        |none=>rfl
        |some c=>exact absurd ⟨z,by rw[e];rfl⟩ c1
       rw[this]at hl;simp only[Option.map_none]at hl;simp -implicitDefEqProofs [z,vV,hi,hl]
     . simp -implicitDefEqProofs [z]
    have e2:fin (ef [some (.sh (.int p)),some (.sh (.int n)),some (.tr false (.di kv)),some (.sh (.int (n % 5))),none]) = .ok (.fr ((gu (if 1 < n % 5 /\ 32 <= p /\ p ≠ 34 /\ p ≠ 92 then .pl p
          else if p<65536 then yd p (decide (n%5=1))else Dh (55296+(p - 65536)/1024) (56320+(p - 65536)%1024) (decide (n%5=1)) (decide (n%5=0)))).map .int)):=by
     have e3:fin (jM [some (.sh (.int p)),some (.sh (.int n)),some (.tr false (.di kv)),some (.sh (.int (n%5))),none])=.ok (.fr ((gu (if p<65536 then yd p (decide (n%5=1))else Dh (55296+(p - 65536)/1024) (56320+(p - 65536)%1024) (decide (n%5=1)) (decide (n%5=0)))).map .int)):=by
      by_cases c3:p<65536
      . rw[if_pos c3,oq p _ (by omega)];simp -implicitDefEqProofs [jM,c3,i3]
      . rw[if_neg c3,zU _ _ _ _ (by omega) (by omega)]
        have hlim:(qX (55296+(p - 65536)/1024) (decide (n%5=1))).length+(qX (56320+(p - 65536)%1024) (decide (n%5=0))).length<=lim:=by simp[qX]
        simp -implicitDefEqProofs [jM,c3,oK,oV,i3,hlim]
     by_cases d1:1<n%5
     . by_cases d2:32<=p
       . by_cases d3:p=34
         . rw[if_neg (fun z=>z.2.2.1 d3)];simp -implicitDefEqProofs [ef,d1,d2,d3]
           simpa [d3]using e3
         . by_cases d4:p=92
           . rw[if_neg (fun z=>z.2.2.2 d4)];simp -implicitDefEqProofs [ef,d1,d2,d3,d4]
             simpa [d4]using e3
           . rw[if_pos ⟨d1,d2,d3,d4⟩]
             have hb:gu (.pl p)=bp p:=by show bp p++[]=_;simp
             rw[hb];simp -implicitDefEqProofs [ef,d1,d2,d3,d4,h8]
       . rw[if_neg (fun z=>d2 z.2.1)];simp -implicitDefEqProofs [ef,d1,d2];exact e3
     . rw[if_neg (fun z=>d1 z.1)];simp -implicitDefEqProofs [ef,d1];exact e3
    have hs:iF [some (.sh (.int p)),some (.sh (.int n)),some (.tr false (.di kv)),none,none]=ef [some (.sh (.int p)),some (.sh (.int n)),some (.tr false (.di kv)),some (.sh (.int (n%5))),none]:=by
     have h3:aV 3 (mOp cN (ao 1) (mC (.int 5))) [some (.sh (.int p)),some (.sh (.int n)),some (.tr false (.di kv)),none,none]=.nx [some (.sh (.int p)),some (.sh (.int n)),some (.tr false (.di kv)),some (.sh (.int (n%5))),none]:=by simp -implicitDefEqProofs
     simp only[iF,oy,h3,jX,lx,BN,hg1,j1,Bool.false_eq_true,if_false,C2]
    rw[hs];exact e2
 simp -implicitDefEqProofs only[gQ,sf,Au,qM,List.map_cons,List.map_nil,List.length_cons,List.length_nil,List.replicate,List.cons_append,List.nil_append,oy,hset,jX]
 exact e1
noncomputable def lts:List Int->Int->Nat->List Sg
 |[],_,_=>[]
 |p ::l,n,k=>n5 p (n/(1+(k:Int)%7)+k) ::lts l n (k+1)
theorem Ho(l:List Int):∀ n k,l.all kD=true->(lts l n k).map Hu=l:=by
 induction l with
 |nil=>intro n k _;rfl
 | cons p l ih=>
   intro n k h;simp only[List.all_cons,Bool.and_eq_true]at h;simp only[lts,List.map_cons,ih n (k+1) h.2,(o5 p _ h.1).2]
theorem F6(l:List Int):∀ n k,l.all kD=true->∀ s∈lts l n k,Sok s:=by
 induction l with
 |nil=>intro n k _ s hs;cases hs
 | cons p l ih=>
   intro n k h s hs;simp only[List.all_cons,Bool.and_eq_true]at h
   rcases List.mem_cons.mp hs with z|z
   . subst z;exact(o5 p _ h.1).1
   . exact ih n (k+1) h.2 s z
theorem Bb(s:Sg)(h:Sok s):(gu s).length<=12:=by
 cases s with
 | pl p=>
   show(bp p++[]).length<=12
   rw[List.append_nil];unfold bp
   repeat' split
   all_goals simp
 | sh c p=>
   simp only[Sok,shP,List.mem_cons,Prod.mk.injEq,List.not_mem_nil,or_false]at h
   rcases h with h|h|h|h|h|h|h|h<;>(obtain⟨rfl,rfl⟩:=h;decide)
 | hx a b c d=>
   obtain⟨ha,hb,hc,hd,_⟩:=h;obtain⟨e1,e2,e3,e4⟩:=lO ha hb hc hd
   show(bp 92++(bp 117++(bp a++(bp b++(bp c++(bp d++[])))))).length<=12
   rw[e1,e2,e3,e4,show bp 92=[92] from rfl,show bp 117=[117] from rfl];simp
 | pr a b c d e f g h'=>
   obtain⟨⟨f1,_,_,hb,hcc,hd⟩,f5,_,hf,hg,hh⟩:=h;obtain⟨e1,e2,e3,e4⟩:=lO (by rw[f1];rfl) hb hcc hd;obtain⟨e5,e6,e7,e8⟩:=lO (by rw[f5];rfl) hf hg hh
   show(bp 92++(bp 117++(bp a++(bp b++(bp c++(bp d++(bp 92++(bp 117++(bp e++(bp f++(bp g++(bp h'++[])))))))))))).length<=12
   rw[e1,e2,e3,e4,e5,e6,e7,e8,show bp 92=[92] from rfl,show bp 117=[117] from rfl];simp
theorem zj(l:List Int)(n:Int)(a:Option Sl):∀(k:Nat) (found:List Int) (x:Option Sl),l.all kD=true->found.length+12*l.length<=100000->∃ x',iR 4 jL (l.map .int) [a,some (.sh (.int n)),some (.ow (found.map .int)),some (.sh (.int (k:Int))),x]=.nx [a,some (.sh (.int n)),some (.ow ((found++PG.inner (lts l n k)).map .int)),some (.sh (.int ((k+l.length:Nat):Int))),x']:=by
 induction l with
 |nil=>intro k found x _ _;exact⟨x,by simp[lts,PG.inner]⟩
 | cons p l ih=>
   intro k found x hp hl;simp only[List.all_cons,Bool.and_eq_true]at hp;simp only[List.length_cons]at hl;have hs:=lQ p (n/(1+(k:Int)%7)+k) hp.1;have h12:=Bb _ (o5 p (n/(1+(k:Int)%7)+k) hp.1).1
   have hlim:found.length+(gu (n5 p (n/(1+(k:Int)%7)+k))).length<=lim:=cI (by omega)
   obtain⟨x',h⟩:=ih (k+1) (found++gu (n5 p (n/(1+(k:Int)%7)+k))) (some (.sh (.int p))) hp.2 (by simp;omega)
   refine⟨x',?_⟩
   have hd:(0:Int)<1+(k:Int)%7:=by omega
   have hd2:1+(k:Int)%7<1073741824:=by omega
   have ht:jL [a,some (.sh (.int n)),some (.ow (found.map .int)),some (.sh (.int (k:Int))),some (.sh (.int p))]=.nx [a,some (.sh (.int n)),some (.ow ((found++gu (n5 p (n/(1+(k:Int)%7)+k))).map .int)),some (.sh (.int ((k+1:Nat):Int))),some (.sh (.int p))]:=by
    simp -implicitDefEqProofs [jL,hd,hd2,hs,hlim]
   rw[List.map_cons,j4];simp only[List.set_cons_succ,List.set_cons_zero,ht,o4,h]
   have e:k+1+l.length=k+(l.length+1):=by omega
   simp[lts,PG.inner,e]
theorem yH(l:List Int):∀ n k,(PG.inner (lts l n k)).length<=12*l.length \/ l.all kD=false:=by
 induction l with
 |nil=>intro n k;left;simp[lts,PG.inner]
 | cons p l ih=>
   intro n k
   by_cases h1:kD p=true
   . rcases ih n (k+1)with h|h
     . left;have h12:=Bb _ (o5 p (n/(1+(k:Int)%7)+k) h1).1
       show(gu _++PG.inner (lts l n (k+1))).length<=_
       rw[List.length_append,List.length_cons];omega
     . right;simp[h]
   . right;simp[h1]
theorem kU(l:List Int)(n:Int)(h:l.all kD=true)(hl:l.length<=1000):gY [.lst (l.map .int),.int n]=.ok (.fr ((PG.txt (lts l n 0)).map .int)):=by
 obtain⟨x',h1⟩:=zj l n (some (.sh (.lst (l.map .int)))) 0 [34] none h (by simp;omega)
 have hlen:(PG.inner (lts l n 0)).length<=12*l.length:=by
  rcases yH l n 0 with z|z
  . exact z
  . rw[h]at z;cases z
 have hlim:(PG.inner (lts l n 0)).length+1+1<=lim:=cI (by omega)
 simp only[List.map_cons,List.map_nil,Int.ofNat_zero,Int.cast_ofNat_Int]at h1
 simp -implicitDefEqProofs only[gY,rH,Au,qM,List.map_cons,List.map_nil,List.length_cons,List.length_nil,List.replicate,List.cons_append,List.nil_append,oy]
 simp -implicitDefEqProofs [o3,o8,h1,oX,hlim,PG.txt]
noncomputable def low:Nat->Int->Int×Nat
 |0,n=>(n,0)
 |k+1,n=>if n%10=0 then((low k (n/10)).1,(low k (n/10)).2+1)else(n,0)
noncomputable def sv(s ds:List Int):Int:=if s=[45]then -cv ds else cv ds
noncomputable def exV:Option (Int×List Int×List Int)->Int
 |none=>0
 |some (_,s,ds)=>sv s ds
noncomputable def mwV(m:Nm):Int:=if m.neg then -cv (m.ip++m.fr)else cv (m.ip++m.fr)
noncomputable def dN(m:Nat):List Nat:=(Nat.toDigits 10 m).map Char.toNat
theorem CY(m:Nat):(Str.ofString (toString ((m:Nat):Int))).cps.toList=dN m:=by
 rw[Str.ofString_eq_toList]
 have:(toString ((m:Nat):Int)).toList=Nat.toDigits 10 m:=by
  show(Nat.repr m).toList=_
  simp[Nat.repr]
 rw[this];rfl
theorem Ax(m:Nat):u0 (Str.ofString (toString ((m:Nat):Int)))=(dN m).map fun c=>PV.str ⟨#[c]⟩:=by
 unfold u0;rw[CY]
theorem AW:∀ d:Nat,d<10->(Nat.digitChar d).toNat=48+d:=by decide
theorem qw(m:Nat):(dN m).map (fun c:Nat=>(c:Int))=cz m:=by
 induction m using Nat.strongRecOn with
 | _ m ih=>
   rw[cz]
   by_cases h:m<10
   . rw[if_pos h];unfold dN;rw[Nat.toDigits_of_lt_base h];simp[AW m h]
   . rw[if_neg h,<- ih (m/10) (by omega)];unfold dN;rw[Nat.toDigits_of_base_le (by decide) (by omega)];simp[AW (m%10) (by omega)]
theorem EN(m:Nat):∀ c∈dN m,48<=c /\ c<=57:=by
 intro c hc
 have h1:(c:Int)∈cz m:=by rw[<- qw];exact List.mem_map.mpr ⟨c,hc,rfl⟩
 have:=vF m _ h1;unfold isF at this;omega
theorem FQ(m:Nat):(dN m).length=(cz m).length:=by rw[<- qw];simp
theorem DM(m:Nat)(h:m<100000):((m:Nat):Int).natAbs.log2<1920:=by
 have e:((m:Nat):Int).natAbs=m:=by omega
 rw[e]
 by_cases h0:m=0
 . subst h0;decide
 . have:=(Nat.log2_lt h0 (k:=17)).mpr (by omega);omega
theorem vv{me:ah->OE}{f:Nat->PV}(m:Nat)(h:m<100000)(hme:∀ c∈dN m,me ([]++[some (.sh (.str ⟨#[c]⟩))])=.ok (.sh (f c)))(ma:ah->OE)(ρ:ah)(ha:ma ρ=.ok (.sh (.int (m:Int)))):
  m4 (mUn nk ma) [] me ρ=.ok (.fr ((dN m).map f)):=by
 have h2:(dN m).length<=lim:=by
  rw[FQ];have:=ni 4 m (by omega);exact cI (by omega)
 have e1:(mUn nk ma) ρ=.ok (.sh (.str (Str.ofString (toString (m:Int))))):=by
  have:nk (.int m)=some (.sh (.str (Str.ofString (toString (m:Int))))):=if_pos (DM m h)
  simp[ha,this]
 have hel:dg me [] ((dN m).map fun c=>PV.str ⟨#[c]⟩)=.ok ((dN m).map f):=nG _ hme
 rw[A7,e1];simp only[OE.bind,RV.pv,Ax,cQ,List.map_nil,hel];simp[noX,h2]
theorem HX(c:Nat)(h:48<=c /\ c<=57):gd ([]++[some (.sh (.str ⟨#[c]⟩))])=.ok (.sh (.int ((c:Int) - 48))):=by
 have:yq (.str ⟨#[c]⟩)=some (.sh (.int ((c:Int) - 48))):=if_pos h
 simp[gd,this]
theorem Fq(c:Nat):eU ([]++[some (.sh (.str ⟨#[c]⟩))])=.ok (.sh (.int (c:Int))):=by
 have:BJ (.str ⟨#[c]⟩)=some (.sh (.int ((⟨#[c]⟩:Str).cps.getD 0 0:Nat))):=rfl
 simp[eU,this]
noncomputable def ws(ds:List Int):List Int:=ds.map (· - 48)
theorem wl1(l:List Int):∀(w:Int) (a b c d x e f g:Option Sl),∃ x',iR 5 eX (l.map .int) [a,b,c,d,some (.sh (.int w)),x,e,f,g]=.nx [a,b,c,d,some (.sh (.int (l.foldl (fun n d=>n*10+d) w))),x',e,f,g]:=by
 induction l with
 |nil=>intro w a b c d x e f g;exact⟨x,rfl⟩
 | cons y l ih=>
   intro w a b c d x e f g;obtain⟨x',h⟩:=ih (w*10+y) a b c d (some (.sh (.int y))) e f g
   refine⟨x',?_⟩
   have ht:eX [a,b,c,d,some (.sh (.int w)),some (.sh (.int y)),e,f,g]=.nx [a,b,c,d,some (.sh (.int (w*10+y))),some (.sh (.int y)),e,f,g]:=by simp -implicitDefEqProofs [eX]
   rw[List.map_cons,j4];simp only[List.set_cons_succ,List.set_cons_zero,ht,o4,h,List.foldl_cons]
theorem wl2(l:List Int):∀(row:List Int) (w p:Int) (a b c x f g:Option Sl),row.length+l.length<=1000->∃ x',iR 5 gb (l.map .int) [a,b,c,some (.ow (row.map .int)),some (.sh (.int w)),x,some (.sh (.int p)),f,g]=.nx [a,b,c,some (.ow ((row++l.map (48+·)).map .int)),some (.sh (.int (l.foldl (fun n d=>n*10+d) w))),x',some (.sh (.int (p - l.length))),f,g]:=by
 induction l with
 |nil=>intro row w p a b c x f g _;exact⟨x,by simp⟩
 | cons y l ih=>
   intro row w p a b c x f g hl;simp only[List.length_cons]at hl;obtain⟨x',h⟩:=ih (row++[48+y]) (w*10+y) (p - 1) a b c (some (.sh (.int y))) f g (by simp;omega)
   refine⟨x',?_⟩
   have hlim:row.length<lim:=pw (by omega)
   have ht:gb [a,b,c,some (.ow (row.map .int)),some (.sh (.int w)),some (.sh (.int y)),some (.sh (.int p)),f,g]=.nx [a,b,c,some (.ow ((row++[48+y]).map .int)),some (.sh (.int (w*10+y))),some (.sh (.int y)),some (.sh (.int (p - 1))),f,g]:=by simp -implicitDefEqProofs [gb,hlim]
   rw[List.map_cons,j4];simp only[List.set_cons_succ,List.set_cons_zero,ht,o4,h,List.foldl_cons]
   have e1:p - 1 - (l.length:Int)=p - ((l.length:Int)+1):=by omega
   simp[e1]
theorem yJ(ds:List Int):∀ w,(ws ds).foldl (fun n d=>n*10+d) w=ds.foldl (fun n d=>10*n+d - 48) w:=by
 induction ds with
 |nil=>intro w;rfl
 | cons d ds ih=>
   intro w
   simp only[ws,List.map_cons,List.foldl_cons]at ih ⊢
   have:w*10+(d - 48)=10*w+d - 48:=by omega
   rw[this];exact ih _
theorem Gg(ds:List Int):(ws ds).map (48+·)=ds:=by
 unfold ws;rw[List.map_map]
 conv=>rhs;rw[<- List.map_id ds]
 refine List.map_congr_left fun x _=>?_
 show 48+(x - 48)=x;omega
theorem A8(xs ys:List Int):cv (xs++ys)=ys.foldl (fun n d=>10*n+d - 48) (cv xs):=by
 unfold cv;rw[List.foldl_append]
noncomputable def bM(n:Int):List Int:=if n/17%3=1 then([48+n/19%10,48+n/23%4,48]:List Int).take (1+n/29%3).toNat else[]
noncomputable def fz(n:Int):Option (Int×List Int×List Int):=if n/31%3=1 then some (if n/41%2=0 then 101 else 69,if n/43%3=1 then[45]else if n/43%3=2 then[43]else[],(if n/47%4=1 then[48]else[])++cz (n/37%30).toNat)else none
noncomputable def fA(n:Int):Nm:=⟨decide (n%3=0),cz (n/3%100000).toNat,bM n,fz n⟩
theorem vN(n:Int):Nok (fA n) where
 ip:=by
  by_cases h:(n/3%100000).toNat=0
  . left;show cz _=_;rw[h,zC]
  . right;exact zT _ (by omega)
 fr:=fun b hb=>by
  have hb':b∈bM n:=hb
  unfold bM at hb';split at hb'
  . have:=List.mem_of_mem_take hb';simp at this;unfold isF;omega
  . cases hb'
 ex:=fun e s ds h=>by
  have h':fz n=some (e,s,ds):=h
  unfold fz at h';split at h'
  . injection h' with h'
    injection h' with h1 h'
    injection h' with h2 h3
    refine⟨?_,?_,?_,?_⟩
    . rw[<- h1];split<;>simp
    . rw[<- h2];split
      . simp
      . split<;>simp
    . rw[<- h3];intro z;exact Dv _ (List.append_eq_nil_iff.mp z).2
    . rw[<- h3];intro b hb
      rcases List.mem_append.mp hb with z|z
      . split at z
        . simp at z;subst z;decide
        . cases z
      . exact vF _ b z
  . cases h'
noncomputable abbrev nE(n:Int)(a b c d e f g:Option Sl):ah:=[some (.sh (.int n)),some (.sh (.bl (decide (n%3=0)))),a,b,c,d,e,f,g]
theorem vM(k:Nat):∀(n p:Int) (F:Nat),n≠0->n.natAbs<10 ^ k->k<F->dO gH ja F [some (.sh (.int n)),some (.sh (.int p))]=.nx [some (.sh (.int (low k n).1)),some (.sh (.int (p+(low k n).2)))]:=by
 induction k with
 |zero=>intro n p F h0 h _;simp at h;omega
 | succ k ih=>
   intro n p F h0 h hF
   obtain⟨F,rfl⟩:∃ G,F=G+1:=⟨F - 1,by omega⟩
   unfold dO low
   by_cases hm:n%10=0
   . rw[Nat.pow_succ]at h
     have h1:n/10≠0:=by omega
     have h2:(n/10).natAbs<10 ^ k:=by generalize 10 ^ k=z at h;omega
     have:=ih (n/10) (p+1) F h1 h2 (by omega)
     have hc:gH [some (.sh (.int n)),some (.sh (.int p))]=.ok true:=by simp[gH,hm]
     have hb:ja [some (.sh (.int n)),some (.sh (.int p))]=.nx [some (.sh (.int (n/10))),some (.sh (.int (p+1)))]:=by simp[ja]
     simp[hc,hb,hm,this,Int.add_assoc,Int.add_comm 1]
   . simp[gH,hm]
noncomputable def pairOf(k:Nat)(n p:Int):PV:=if n=0 then .tup [.int 0,.int 0]else .tup [.int (low k n).1,.int (p+(low k n).2)]
theorem A0(k:Nat)(n p:Int)(h:n.natAbs<10 ^ k)(hk:k<=90000):eE [.int n,.int p]=.ok (.sh (pairOf k n p)):=by
 unfold pairOf
 by_cases h0:n=0
 . rw[if_pos h0,h0];simp -implicitDefEqProofs [eE,mz]
 . rw[if_neg h0];have:=vM k n p fuel h0 h (by unfold fuel;omega);simp -implicitDefEqProofs [eE,mz,nY,nP,h0,this]
theorem AX(ds:List Int)(h:∀ b∈ds,isF b):0<=cv ds /\ cv ds<10 ^ ds.length:=by
 have key:∀(ds:List Int) (w:Int) (k:Nat),(∀ b∈ds,isF b)->0<=w /\ w<10 ^ k->0<=ds.foldl (fun n d=>10*n+d - 48) w /\ ds.foldl (fun n d=>10*n+d - 48) w<10 ^ (k+ds.length):=by
  intro ds
  induction ds with
  |nil=>intro w k _ hw;simpa using hw
  | cons d ds ih=>
    intro w k hd hw;have h1:=hd d List.mem_cons_self;unfold isF at h1
    have h2:(10:Int) ^ (k+1)=10 ^ k*10:=Int.pow_succ 10 k
    have:=ih (10*w+d - 48) (k+1) (fun b hb=>hd b (List.mem_cons_of_mem _ hb)) ⟨by omega,by rw[h2];omega⟩;rw[List.foldl_cons,List.length_cons];rw[show k+1+ds.length=k+(ds.length+1) by omega]at this;exact this
 have:=key ds 0 0 h (by simp);rw[Nat.zero_add]at this;exact this
theorem Be(m:Nm)(h:Nok m)(k:Nat)(hk:(m.ip++m.fr).length<=k):(mwV m).natAbs<10 ^ k:=by
 have hip:∀ b∈m.ip++m.fr,isF b:=by
  intro b hb
  rcases List.mem_append.mp hb with z|z
  . rcases h.ip with e|⟨d,r,e,h1,h2,h3⟩
    . rw[e]at z;simp at z;subst z;decide
    . rw[e]at z
      rcases List.mem_cons.mp z with y|y
      . unfold isF;omega
      . exact h3 b y
  . exact h.fr b z
 obtain⟨b1,b2⟩:=AX _ hip
 have b3:(10:Int) ^ (m.ip++m.fr).length<=10 ^ k:=by
  have:=Nat.pow_le_pow_right (n:=10) (by decide) hk
  have e1:((10 ^ (m.ip++m.fr).length:Nat):Int)=(10:Int) ^ (m.ip++m.fr).length:=by norm_cast
  have e2:((10 ^ k:Nat):Int)=(10:Int) ^ k:=by norm_cast
  omega
 have e2:((10 ^ k:Nat):Int)=(10:Int) ^ k:=by norm_cast
 unfold mwV
 split<;>omega
theorem jJ(n:Int)(hn:0<=n):fu [.int n]=.ok (.sh (.tup [.lst ((PG.nb (fA n)).map .int),pairOf 20 (mwV (fA n)) (exV (fA n).ex - (fA n).fr.length)])):=by
 obtain⟨K,hK⟩:∃ K:Nat,K=(n/3%100000).toNat:=⟨_,rfl⟩
 have hK1:n/3%100000=(K:Int):=by omega
 have hK2:K<100000:=by omega
 have hdl:=ni 4 K (by omega)
 obtain⟨sg,hsg⟩:∃ sg:List Int,sg=if n%3=0 then[45]else[]:=⟨_,rfl⟩
 have hsl:sg.length<=1:=by rw[hsg];split<;>simp
 have ok:=vN n
 have hfl:(bM n).length<=3:=by unfold bM;split<;>simp;omega
 have hb20:=Be (fA n) ok 20 (by show(cz (n/3%100000).toNat++bM n).length<=20;rw[<- hK];simp;omega);have hpl:=A0 20 (mwV (fA n)) (exV (fA n).ex - (fA n).fr.length) hb20 (by decide)
 have c1:aV 2 (m4 (mUn nk (mOp cN (mOp fB (ao 0) (mC (.int 3))) (mC (.int 100000)))) [] gd) (nE n none none none none none none none)=.nx (nE n (some (.ow ((ws (cz K)).map .int))) none none none none none none):=by
  have:=vv (me:=gd) (f:=fun c=>.int ((c:Int) - 48)) K hK2 (fun c hc=>HX c (EN K c hc)) (mOp cN (mOp fB (ao 0) (mC (.int 3))) (mC (.int 100000))) (nE n none none none none none none none) (by simp -implicitDefEqProofs [hK1]);rw[B1,this]
  have e:(dN K).map (fun c:Nat=>PV.int ((c:Int) - 48))=(ws (cz K)).map .int:=by
   rw[<- qw];simp[ws,List.map_map,Function.comp_def]
  rw[e];rfl
 have c2:aV 3 (ju (b4 (ao 1)) (bb (aj (mC (.int 45)) aE)) (bb aE)) (nE n (some (.ow ((ws (cz K)).map .int))) none none none none none none)=.nx (nE n (some (.ow ((ws (cz K)).map .int))) (some (.ow (sg.map .int))) none none none none none):=by
  rw[hsg]
  by_cases h:n%3=0<;>simp -implicitDefEqProofs [h]
 have hel:dg iS [] ((ws (cz K)).map .int)=.ok ((cz K).map .int):=by
  have:(cz K).map PV.int=(ws (cz K)).map fun x=>.int (48+x):=by
   conv=>lhs;rw[<- Gg (cz K)]
   rw[List.map_map];rfl
  rw[this]
  exact nG _ fun x _=>by simp -implicitDefEqProofs [iS]
 have hdlim:(cz K).length<=lim:=cI (by omega)
 have hslim:sg.length+(cz K).length<=lim:=cI (by omega)
 have c3:aV 3 (mOp fO (ao 3) (rG (ao 2) [] iS)) (nE n (some (.ow ((ws (cz K)).map .int))) (some (.ow (sg.map .int))) none none none none none)=.nx (nE n (some (.ow ((ws (cz K)).map .int))) (some (.ow ((sg++cz K).map .int))) none none none none none):=by
  simp -implicitDefEqProofs [cQ,hel,hdlim,hslim]
 obtain⟨x1,w1⟩:=wl1 (ws (cz K)) 0 (some (.sh (.int n))) (some (.sh (.bl (decide (n%3=0))))) (some (.sh (.lst ((ws (cz K)).map .int)))) (some (.ow ((sg++cz K).map .int))) none none none none;rw[yJ]at w1
 have w1':iR 5 eX ((ws (cz K)).map .int) (nE n (some (.sh (.lst ((ws (cz K)).map .int)))) (some (.ow ((sg++cz K).map .int))) (some (.sh (.int 0))) none none none none)=.nx (nE n (some (.sh (.lst ((ws (cz K)).map .int)))) (some (.ow ((sg++cz K).map .int))) (some (.sh (.int (cv (cz K))))) x1 none none none):=w1
 obtain⟨W,hW⟩:∃ W,W=ws (cz K):=⟨_,rfl⟩
 obtain⟨R1,hR1⟩:∃ R1,R1=sg++cz K:=⟨_,rfl⟩
 have hR1l:R1.length<=6:=by rw[hR1];simp;omega
 obtain⟨V1,hV1⟩:∃ V1,V1=cv (cz K):=⟨_,rfl⟩
 rw[<- hW,<- hR1,<- hV1]at w1';rw[<- hW]at c1 c2;rw[<- hW,<- hR1]at c3
 have c4:∃ x2,bf (az (mOp gEq (mOp cN (mOp fB (ao 0) (mC (.int 17))) (mC (.int 3))) (mC (.int 1)))) (aK (dY 3 (mC (.int 46))) (nU 5 (jx (bb (aj (mOp cN (mOp fB (ao 0) (mC (.int 19))) (mC (.int 10))) (aj (mOp cN (mOp fB (ao 0) (mC (.int 23))) (mC (.int 4))) (aj (mC (.int 0)) aE)))) (mC .non) (eh (mOp du (mC (.int 1)) (mOp cN (mOp fB (ao 0) (mC (.int 29))) (mC (.int 3)))))) gb)) aR
   (nE n (some (.sh (.lst (W.map .int)))) (some (.ow (R1.map .int))) (some (.sh (.int V1))) x1 (some (.sh (.int 0))) none none) =
   .nx (nE n (some (.sh (.lst (W.map .int)))) (some (.ow ((R1++frB (bM n)).map .int))) (some (.sh (.int ((bM n).foldl (fun n d=>10*n+d - 48) V1)))) x2 (some (.sh (.int (-((bM n).length:Int))))) none none):=by
  by_cases h17:n/17%3=1
  . obtain⟨L,hL⟩:∃ L:List Int,L=([n/19%10,n/23%4,0]:List Int).take (1+n/29%3).toNat:=⟨_,rfl⟩
    have hLf:bM n=L.map (48+·):=by
     unfold bM;rw[if_pos h17,hL,List.map_take];simp
    have hLl:L.length=(1+n/29%3).toNat:=by rw[hL];simp;omega
    have hcut:qm [PV.int (n/19%10),.int (n/23%4),.int 0] none (some (1+n/29%3))=L.map .int:=by
     have e1:sM 3 3 (some (1+n/29%3))=(1+n/29%3).toNat:=by
      unfold sM;dsimp only;rw[if_neg (by omega)];omega
     show([PV.int (n/19%10),.int (n/23%4),.int 0].drop 0).take (sM 3 3 (some (1+n/29%3)) - 0)=_
     rw[e1,hL,List.map_take];rfl
    obtain⟨x2,w2⟩:=wl2 L (R1++[46]) V1 0 (some (.sh (.int n))) (some (.sh (.bl (decide (n%3=0))))) (some (.sh (.lst (W.map .int)))) x1 none none (by simp;omega)
    refine⟨x2,?_⟩
    have hne:bM n≠[]:=by
     rw[hLf];intro z;have:=congrArg List.length z;simp[hLl]at this;omega
    have hfold:L.foldl (fun n d=>n*10+d) V1=(bM n).foldl (fun n d=>10*n+d - 48) V1:=by
     have:=yJ (bM n) V1;rw[<- this,hLf]
     congr 1
     unfold ws;rw[List.map_map]
     conv=>lhs;rw[<- List.map_id L]
     refine List.map_congr_left fun x _=>?_
     show x=48+x - 48;omega
    have hrow:R1++[46]++L.map (48+·)=R1++frB (bM n):=by
     unfold frB;rw[if_neg hne,hLf];simp
    rw[hfold,hrow]at w2
    have hlen:(0:Int) - (L.length:Int)=-((bM n).length:Int):=by rw[hLf];simp
    rw[hlen]at w2
    have hl1:R1.length<lim:=pw (by omega)
    have w2':=w2
    simp only[List.map_append,List.map_cons,List.map_nil]at w2';simp -implicitDefEqProofs [h17,hl1,hcut,w2']
  . refine⟨x1,?_⟩
    have hf:bM n=[]:=by unfold bM;rw[if_neg h17]
    rw[hf];simp -implicitDefEqProofs [h17,frB]
 obtain⟨x2,c4⟩:=c4
 obtain⟨R2,hR2⟩:∃ R2,R2=R1++frB (bM n):=⟨_,rfl⟩
 have hR2l:R2.length<=10:=by
  rw[hR2];unfold frB
  split<;>simp<;>omega
 have hV2:(bM n).foldl (fun n d=>10*n+d - 48) V1=cv (cz K++bM n):=by rw[A8,hV1]
 rw[hV2,<- hR2]at c4
 obtain⟨V2,hV2e⟩:∃ V2,V2=cv (cz K++bM n):=⟨_,rfl⟩
 rw[<- hV2e]at c4
 have c5:∃ y z,bf (az (mOp gEq (mOp cN (mOp fB (ao 0) (mC (.int 31))) (mC (.int 3))) (mC (.int 1)))) (aK (aV 7 (mOp cN (mOp fB (ao 0) (mC (.int 37))) (mC (.int 30)))) (aK (dY 3 (mOp fX (bb (aj (mC (.int 101)) (aj (mC (.int 69)) aE))) (mOp cN (mOp fB (ao 0) (mC (.int 41))) (mC (.int 2))))) (aK (aV 8 (mOp gEq (mOp cN (mOp fB (ao 0) (mC (.int 43))) (mC (.int 3))) (mC (.int 1)))) (aK (bf (b4 (ao 8)) (dY 3 (mC (.int 45))) (bf (az (mOp gEq (mOp cN (mOp fB (ao 0) (mC (.int 43))) (mC (.int 3))) (mC (.int 2)))) (dY 3 (mC (.int 43))) aR)) (aK (bf (az (mOp gEq (mOp cN (mOp fB (ao 0) (mC (.int 47))) (mC (.int 4))) (mC (.int 1)))) (dY 3 (mC (.int 48))) aR) (aK (aV 3 (mOp fO (ao 3) (m4 (mUn nk (ao 7)) [] eU))) (aV 6 (mOp du (ao 6) (ju (b4 (ao 8)) (mUn pR (ao 7)) (ao 7)))))))))) aR
   (nE n (some (.sh (.lst (W.map .int)))) (some (.ow (R2.map .int))) (some (.sh (.int V2))) x2 (some (.sh (.int (-((bM n).length:Int))))) none none) =
   .nx (nE n (some (.sh (.lst (W.map .int)))) (some (.ow ((R2++exB (fz n)).map .int))) (some (.sh (.int V2))) x2 (some (.sh (.int (exV (fz n) - (bM n).length)))) y z):=by
  by_cases h31:n/31%3=1
  . obtain⟨M,hM⟩:∃ M:Nat,M=(n/37%30).toNat:=⟨_,rfl⟩
    have hM1:n/37%30=(M:Int):=by omega
    refine⟨some (.sh (.int (M:Int))),some (.sh (.bl (decide (n/43%3=1)))),?_⟩
    obtain⟨eb,heb⟩:∃ eb:Int,eb=if n/41%2=0 then 101 else 69:=⟨_,rfl⟩
    obtain⟨sx,hsx⟩:∃ sx:List Int,sx=if n/43%3=1 then[45]else if n/43%3=2 then[43]else[]:=⟨_,rfl⟩
    obtain⟨zx,hzx⟩:∃ zx:List Int,zx=if n/47%4=1 then[48]else[]:=⟨_,rfl⟩
    have hex:fz n=some (eb,sx,zx++cz M):=by unfold fz;rw[if_pos h31,heb,hsx,hzx,hM]
    have hsxl:sx.length <= 1:=by rw [hsx]; split
                                 . simp
                                 . split<;>simp
    have hzxl:zx.length<=1:=by rw[hzx];split<;>simp
    have hml:=ni 4 M (by omega)
    have hat:atP [PV.int 101,.int 69] (n/41%2)=some (.int eb):=by
     have:n/41%2=0 \/ n/41%2=1:=by omega
     rw[heb]
     rcases this with h|h<;>rw[h]<;>rfl
    have hcvz:cv (zx++cz M)=(M:Int):=by
     have:cv (cz M)=M:=CL M
     rw[hzx];split
     . rw[A8];exact this
     . exact this
    have hexv:exV (fz n)=if n/43%3=1 then -(M:Int)else(M:Int):=by
     rw[hex];show sv sx (zx++cz M)=_;unfold sv;rw[hcvz,hsx]
     by_cases h1:n/43%3=1
     . simp[h1]
     . by_cases h2:n/43%3=2<;>simp[h1,h2]
    have l1:R2.length<lim:=pw (by omega)
    have l2:R2.length+1<lim:=pw (by omega)
    obtain⟨R3,hR3⟩:∃ R3,R3=R2++[eb]:=⟨_,rfl⟩
    have g1:dY 3 (mOp fX (bb (aj (mC (.int 101)) (aj (mC (.int 69)) aE))) (mOp cN (mOp fB (ao 0) (mC (.int 41))) (mC (.int 2)))) (nE n (some (.sh (.lst (W.map .int)))) (some (.ow (R2.map .int))) (some (.sh (.int V2))) x2 (some (.sh (.int (-((bM n).length:Int))))) (some (.sh (.int (M:Int)))) none)=.nx (nE n (some (.sh (.lst (W.map .int)))) (some (.ow (R3.map .int))) (some (.sh (.int V2))) x2 (some (.sh (.int (-((bM n).length:Int))))) (some (.sh (.int (M:Int)))) none):=by
     rw[hR3];simp -implicitDefEqProofs [hat,l1]
    have hR3l:R3.length<=11:=by rw[hR3];simp;omega
    have l3:R3.length<lim:=pw (by omega)
    obtain⟨R4,hR4⟩:∃ R4,R4=R3++sx:=⟨_,rfl⟩
    have g2:bf (b4 (ao 8)) (dY 3 (mC (.int 45))) (bf (az (mOp gEq (mOp cN (mOp fB (ao 0) (mC (.int 43))) (mC (.int 3))) (mC (.int 2)))) (dY 3 (mC (.int 43))) aR) (nE n (some (.sh (.lst (W.map .int)))) (some (.ow (R3.map .int))) (some (.sh (.int V2))) x2 (some (.sh (.int (-((bM n).length:Int))))) (some (.sh (.int (M:Int)))) (some (.sh (.bl (decide (n/43%3=1))))))=.nx (nE n (some (.sh (.lst (W.map .int)))) (some (.ow (R4.map .int))) (some (.sh (.int V2))) x2 (some (.sh (.int (-((bM n).length:Int))))) (some (.sh (.int (M:Int)))) (some (.sh (.bl (decide (n/43%3=1)))))):=by
     rw[hR4,hsx]
     by_cases h1:n/43%3=1
     . simp -implicitDefEqProofs [h1,l3]
     . by_cases h2:n/43%3=2<;>simp -implicitDefEqProofs [h1,h2,l3]
    have hR4l:R4.length<=12:=by rw[hR4];simp;omega
    have l4:R4.length<lim:=pw (by omega)
    obtain⟨R5,hR5⟩:∃ R5,R5=R4++zx:=⟨_,rfl⟩
    have g3:bf (az (mOp gEq (mOp cN (mOp fB (ao 0) (mC (.int 47))) (mC (.int 4))) (mC (.int 1)))) (dY 3 (mC (.int 48))) aR (nE n (some (.sh (.lst (W.map .int)))) (some (.ow (R4.map .int))) (some (.sh (.int V2))) x2 (some (.sh (.int (-((bM n).length:Int))))) (some (.sh (.int (M:Int)))) (some (.sh (.bl (decide (n/43%3=1))))))=.nx (nE n (some (.sh (.lst (W.map .int)))) (some (.ow (R5.map .int))) (some (.sh (.int V2))) x2 (some (.sh (.int (-((bM n).length:Int))))) (some (.sh (.int (M:Int)))) (some (.sh (.bl (decide (n/43%3=1)))))):=by
     rw[hR5,hzx]
     by_cases h1:n/47%4=1<;>simp -implicitDefEqProofs [h1,l4]
    have hR5l:R5.length<=13:=by rw[hR5];simp;omega
    have l5:R5.length+(cz M).length<=lim:=cI (by omega)
    have hcs:=vv (me:=eU) (f:=fun c=>.int (c:Int)) M (by omega) (fun c _=>Fq c) (ao 7) (nE n (some (.sh (.lst (W.map .int)))) (some (.ow (R5.map .int))) (some (.sh (.int V2))) x2 (some (.sh (.int (-((bM n).length:Int))))) (some (.sh (.int (M:Int)))) (some (.sh (.bl (decide (n/43%3=1)))))) (by simp)
    have hdd:(dN M).map (fun c:Nat=>PV.int (c:Int))=(cz M).map .int:=by rw[<- qw,List.map_map];rfl
    rw[hdd]at hcs
    have g4:aV 3 (mOp fO (ao 3) (m4 (mUn nk (ao 7)) [] eU)) (nE n (some (.sh (.lst (W.map .int)))) (some (.ow (R5.map .int))) (some (.sh (.int V2))) x2 (some (.sh (.int (-((bM n).length:Int))))) (some (.sh (.int (M:Int)))) (some (.sh (.bl (decide (n/43%3=1))))))=.nx (nE n (some (.sh (.lst (W.map .int)))) (some (.ow ((R5++cz M).map .int))) (some (.sh (.int V2))) x2 (some (.sh (.int (-((bM n).length:Int))))) (some (.sh (.int (M:Int)))) (some (.sh (.bl (decide (n/43%3=1)))))):=by
     simp -implicitDefEqProofs only[B1,Ex,hcs,xx,List.getElem?_cons_succ,List.getElem?_cons_zero,kO,Et,D5,Gm,List.length_map,l5,if_true,nr,jV,CC,List.set_cons_succ,List.set_cons_zero,List.map_append]
    have hRex:R5++cz M=R2++exB (fz n):=by
     rw[hex,hR5,hR4,hR3];show _=R2++(eb ::(sx++(zx++cz M)));simp
    rw[hRex]at g4
    have g5:aV 6 (mOp du (ao 6) (ju (b4 (ao 8)) (mUn pR (ao 7)) (ao 7))) (nE n (some (.sh (.lst (W.map .int)))) (some (.ow ((R2++exB (fz n)).map .int))) (some (.sh (.int V2))) x2 (some (.sh (.int (-((bM n).length:Int))))) (some (.sh (.int (M:Int)))) (some (.sh (.bl (decide (n/43%3=1))))))=.nx (nE n (some (.sh (.lst (W.map .int)))) (some (.ow ((R2++exB (fz n)).map .int))) (some (.sh (.int V2))) x2 (some (.sh (.int (exV (fz n) - (bM n).length)))) (some (.sh (.int (M:Int)))) (some (.sh (.bl (decide (n/43%3=1)))))):=by
     rw[hexv];generalize (R2++exB (fz n)).map PV.int=RR
     by_cases h1:n/43%3=1
     . have e:-((bM n).length:Int) + -(M:Int)=-(M:Int) - (bM n).length:=by omega
       simp -implicitDefEqProofs [h1,e]
     . have e:-((bM n).length:Int)+(M:Int)=(M:Int) - (bM n).length:=by omega
       simp -implicitDefEqProofs [h1,e]
    have g0:aV 7 (mOp cN (mOp fB (ao 0) (mC (.int 37))) (mC (.int 30))) (nE n (some (.sh (.lst (W.map .int)))) (some (.ow (R2.map .int))) (some (.sh (.int V2))) x2 (some (.sh (.int (-((bM n).length:Int))))) none none)=.nx (nE n (some (.sh (.lst (W.map .int)))) (some (.ow (R2.map .int))) (some (.sh (.int V2))) x2 (some (.sh (.int (-((bM n).length:Int))))) (some (.sh (.int (M:Int)))) none):=by
     simp -implicitDefEqProofs [hM1]
    have g1b:aV 8 (mOp gEq (mOp cN (mOp fB (ao 0) (mC (.int 43))) (mC (.int 3))) (mC (.int 1))) (nE n (some (.sh (.lst (W.map .int)))) (some (.ow (R3.map .int))) (some (.sh (.int V2))) x2 (some (.sh (.int (-((bM n).length:Int))))) (some (.sh (.int (M:Int)))) none)=.nx (nE n (some (.sh (.lst (W.map .int)))) (some (.ow (R3.map .int))) (some (.sh (.int V2))) x2 (some (.sh (.int (-((bM n).length:Int))))) (some (.sh (.int (M:Int)))) (some (.sh (.bl (decide (n/43%3=1)))))):=by
     simp -implicitDefEqProofs
    have gt:az (mOp gEq (mOp cN (mOp fB (ao 0) (mC (.int 31))) (mC (.int 3))) (mC (.int 1))) (nE n (some (.sh (.lst (W.map .int)))) (some (.ow (R2.map .int))) (some (.sh (.int V2))) x2 (some (.sh (.int (-((bM n).length:Int))))) none none)=.ok true:=by
     simp -implicitDefEqProofs [h31]
    rw[BN,gt];simp only[j1,if_true,oy,g0,jX,g1,g1b,g2,g3,g4,g5]
  . refine⟨none,none,?_⟩
    have hex:fz n=none:=by unfold fz;rw[if_neg h31]
    rw[hex]
    have e:(0:Int) - ((bM n).length:Int)=-((bM n).length:Int):=by omega
    simp -implicitDefEqProofs [h31,exB,exV,e]
 obtain⟨y,z,c5⟩:=c5
 have hnb:R2++exB (fz n)=PG.nb (fA n):=by
  rw[hR2,hR1,hsg];show _=(if(decide (n%3=0))=true then[45]else[])++(cz (n/3%100000).toNat++(frB (bM n)++exB (fz n)));rw[<- hK];simp
 rw[hnb]at c5
 have hmw:(if n%3=0 then -V2 else V2)=mwV (fA n):=by
  rw[hV2e];show _=(if decide (n%3=0)=true then -cv (cz (n/3%100000).toNat++bM n)else cv (cz (n/3%100000).toNat++bM n));rw[<- hK];simp
 have c6:bf (b4 (ao 1)) (aV 4 (mUn pR (ao 4))) aR (nE n (some (.sh (.lst (W.map .int)))) (some (.ow ((PG.nb (fA n)).map .int))) (some (.sh (.int V2))) x2 (some (.sh (.int (exV (fz n) - (bM n).length)))) y z)=.nx (nE n (some (.sh (.lst (W.map .int)))) (some (.ow ((PG.nb (fA n)).map .int))) (some (.sh (.int (mwV (fA n))))) x2 (some (.sh (.int (exV (fz n) - (bM n).length)))) y z):=by
  rw[<- hmw]
  by_cases h:n%3=0<;>simp -implicitDefEqProofs [h]
 have hpl':eE [.int (mwV (fA n)),.int (exV (fz n) - (bM n).length)]=.ok (.sh (pairOf 20 (mwV (fA n)) (exV (fz n) - (bM n).length))):=hpl
 have c7:fin (jo (nE n (some (.sh (.lst (W.map .int)))) (some (.ow ((PG.nb (fA n)).map .int))) (some (.sh (.int (mwV (fA n))))) x2 (some (.sh (.int (exV (fz n) - (bM n).length)))) y z))=.ok (.sh (.tup [.lst ((PG.nb (fA n)).map .int),pairOf 20 (mwV (fA n)) (exV (fz n) - (bM n).length)])):=by
  generalize PG.nb (fA n)=RR;simp -implicitDefEqProofs [jo,jN,hpl']
 have c0:aV 1 (mOp gEq (mOp cN (ao 0) (mC (.int 3))) (mC (.int 0))) [some (.sh (.int n)),none,none,none,none,none,none,none,none]=.nx (nE n none none none none none none none):=by
  simp -implicitDefEqProofs
 have c3b:aV 4 (mC (.int 0)) (nE n (some (.ow (W.map .int))) (some (.ow (R1.map .int))) none none none none none)=.nx (nE n (some (.ow (W.map .int))) (some (.ow (R1.map .int))) (some (.sh (.int 0))) none none none none):=by simp -implicitDefEqProofs
 have c3c:eR 2 (nU 5 (ao 2) eX) (nE n (some (.ow (W.map .int))) (some (.ow (R1.map .int))) (some (.sh (.int 0))) none none none none)=.nx (nE n (some (.sh (.lst (W.map .int)))) (some (.ow (R1.map .int))) (some (.sh (.int V1))) x1 none none none):=by
  simp -implicitDefEqProofs [jN,w1']
 have c3d:aV 6 (mC (.int 0)) (nE n (some (.sh (.lst (W.map .int)))) (some (.ow (R1.map .int))) (some (.sh (.int V1))) x1 none none none)=.nx (nE n (some (.sh (.lst (W.map .int)))) (some (.ow (R1.map .int))) (some (.sh (.int V1))) x1 (some (.sh (.int 0))) none none):=by simp -implicitDefEqProofs
 simp -implicitDefEqProofs only[fu,pb,Au,qM,List.map_cons,List.map_nil,List.length_cons,List.length_nil,List.replicate,List.cons_append,List.nil_append,oy,c0,jX,mO,c1,m6,c2,m3,c3,mL,c3b,mw,c3c,mq,c3d,mT,c4,mZ,c5,mX,c6]
 exact c7
theorem lH(it:PG.It):gV [bg it]=.ok (.sh (.tup ((PG.short it).map .int))):=by
 cases it<;>rfl
theorem ve(A B C:Option Sl):∀(st:List PG.It) (ys:List Int) (o:Option Sl),ys.length+4*st.length<=1000000->∃ o',iR 4 qY (st.map bg) [A,B,C,some (.tr false (.ol (ys.map fun y=>.sh (.int y)))),o]=.nx [A,B,C,some (.tr false (.ol ((ys++PG.ends st).map fun y=>.sh (.int y)))),o']
 |[],ys,o,_=>⟨o,by simp[PG.ends]⟩
 | it ::st,ys,o,hl=>by
   simp only[List.length_cons]at hl
   have hs:(PG.short it).length<=4:=by cases it<;>simp[PG.short]
   obtain⟨o',ih⟩:=ve A B C st (ys++PG.short it) (some (.sh (bg it))) (by simp;omega)
   refine⟨o',?_⟩
   rw[List.map_cons,BS (ρ':=[A,B,C,some (.tr false (.ol ((ys++PG.short it).map fun y=>.sh (.int y)))),some (.sh (bg it))]) ?_,ih]
   . rw[tU,List.append_assoc]
   . show m7 3 eP (bE gV (aj (ao 4) aE)) [A,B,C,some (.tr false (.ol (ys.map fun y=>.sh (.int y)))),some (.sh (bg it))]=_;rw[AB (ts:=ys.map fun y=>.sh (.int y)) (ys:=(PG.short it).map .int) rfl (by simp[lH]) (by rw[List.length_map,List.length_map];exact cI (by omega))];simp[Function.comp_def]
theorem o7(row:List Int)(hl:8*row.length+20<100000)(hw:(PG.tk st0 row).2=row.length):j6 [.lst (row.map .int)]=.ok (.sh (.lst ((PG.ends (PG.tk st0 row).1).map .int))):=by
 have ht:=GQ st0 row (by simp[st0];omega);have hlen:=BY row st0
 have h3:st0.length=3:=rfl
 have h0:wu "Walk" cZ [some (.sh (.lst (row.map .int))),none,none,none,none]=.ok (PG.wk st0):=by unfold wu;rw[E8]
 have h1:qa 2 (mx "Walk" "take" fe [.t 1 eP,.e (ao 0)]) [some (.sh (.lst (row.map .int))),some (.tr false (PG.wk st0)),none,none,none]=.nx [some (.sh (.lst (row.map .int))),some (.tr false (PG.wk (PG.tk st0 row).1)),some (.sh (.int (PG.tk st0 row).2)),none,none]:=by
  have ha:mM (.t 1 eP) [some (.sh (.lst (row.map .int))),some (.tr false (PG.wk st0)),none,none,none]=some (.tr true (PG.wk st0)):=by simp[mM,eP]
  have ha2:mM (.e (ao 0)) [some (.sh (.lst (row.map .int))),some (.tr false (PG.wk st0)),none,none,none]=some (.sh (.lst (row.map .int))):=by simp[mM]
  have hr:recv "Walk" "take" (some (.tr true (PG.wk st0)))=true:=by rw[xD];simp[recv,aN]
  unfold qa;simp only[mx,ha,hr,if_true,uy,lV,ha2,Option.bind_some,Option.map_some,ht];simp[fK,kC,eP,nio]
 generalize (PG.tk st0 row).1=st at *
 have hp:qe 1 (pFd 1 eP "coming" mi) [some (.sh (.lst (row.map .int))),some (.tr false (PG.wk st)),some (.sh (.int row.length)),some (.tr false (.ol [])),none]=.ok (.al (cm st)):=by
  unfold qe;rw[uW (s:=.tr false (PG.wk st)) rfl rfl];simp only[tP]
 obtain⟨o',hloop⟩:=ve (some (.sh (.lst (row.map .int)))) (some (.tr false (PG.wk st))) (some (.sh (.int row.length))) st [] none (by simp;omega);unfold j6 fnP;rw[if_pos (show List.length [PV.lst (row.map .int)]=1 from rfl),show jy 5 [PV.lst (row.map .int)]=[some (.sh (.lst (row.map .int))),none,none,none,none] from rfl];unfold vI;rw[cF (ρ':=[some (.sh (.lst (row.map .int))),some (.tr false (PG.wk st0)),none,none,none]) (by unfold qb;rw[h0];rfl)];unfold r9;rw[cF h1];unfold qW;rw[hw,sk (by simp[az])];unfold rV;rw[cF (ρ':=[some (.sh (.lst (row.map .int))),some (.tr false (PG.wk st)),some (.sh (.int row.length)),some (.tr false (.ol [])),none]) (by simp[qb,mD])];unfold rW
 rw[cF (ρ':=[some (.sh (.lst (row.map .int))),some (.tr false (PG.wk st)),some (.sh (.int row.length)),some (.tr false (.ol ((PG.ends st).map fun y=>.sh (.int y)))),o']) (by
  unfold nU zF;rw[hp]
  have e:(cm st).reverse=st.map bg:=by simp[cm]
  simp only[kO,RV.pv,AQ,Hi];simp -implicitDefEqProofs [pR,e,vk]
  exact hloop)]
 have hv:pvO (.ol ((PG.ends st).map fun y=>.sh (.int y)))=some (.lst ((PG.ends st).map .int)):=by
  have:=Ds ((PG.ends st).map .int);rw[List.map_map]at this;unfold pvO;exact congrArg (Option.map PV.lst) this
 unfold rS oR uK
 simp -implicitDefEqProofs only[List.getElem?_cons_succ,List.getElem?_cons_zero,hv]
 rfl
noncomputable abbrev tE(P:List Int)(i:Nat)(a b c d e f g h j:Option Sl):ah:=[some (.sh (.lst (P.map .int))),some (.sh (.int i)),a,b,c,d,e,f,g,h,j]
theorem xT(P:List Int)(i j:Nat):qm (P.map .int) (some (i:Int)) (some (j:Int))=((P.drop i).take (j - i)).map .int:=by
 have h1:∀ k:Nat,¬ ((k:Int)<0):=fun k=>by omega
 unfold qm;simp only[sM,h1,if_false,Int.toNat_natCast,List.length_map];rw[<- List.map_drop,<- List.map_take]
 congr 1
 by_cases hi:i<=P.length
 . rw[Nat.min_eq_left hi,List.take_eq_take_iff,List.length_drop];omega
 . have hm:min i P.length=P.length:=Nat.min_eq_right (by omega)
   rw[hm,List.drop_of_length_le (Nat.le_refl _),List.drop_of_length_le (by omega)];simp
theorem xn(P:List Int)(j:Nat):qm (P.map .int) none (some (j:Int))=(P.take j).map .int:=by
 have h1:¬ ((j:Int)<0):=by omega
 unfold qm;simp only[sM,h1,if_false,Int.toNat_natCast,List.length_map,List.drop_zero,Nat.sub_zero];rw[<- List.map_take]
 congr 1
 rw[List.take_eq_take_iff];omega
theorem Cd(P:List Int)(i:Nat):qm (P.map .int) (some (i:Int)) none=(P.drop i).map .int:=by
 have h1:¬ ((i:Int)<0):=by omega
 unfold qm;simp only[sM,h1,if_false,Int.toNat_natCast,List.length_map];rw[<- List.map_drop,<- List.map_take]
 congr 1
 by_cases hi:i<=P.length
 . rw[Nat.min_eq_left hi,List.take_of_length_le (by rw[List.length_drop];omega)]
 . have hm:min i P.length=P.length:=Nat.min_eq_right (by omega)
   rw[hm,List.drop_of_length_le (Nat.le_refl _),List.drop_of_length_le (by omega)];simp
theorem inx(xs:List Int)(yss:List (List Int)):xa (.lst (xs.map .int)) (.tup (yss.map fun ys=>.lst (ys.map .int)))=some (.sh (.bl (yss.any fun ys=>decide (ys=xs)))):=by
 have h1:og (.lst (xs.map .int)) 63=true:=by simp[og,rZ]
 have h2:kK (yss.map fun ys=>PV.lst (ys.map .int)) 63=true:=by
  induction yss with
  |nil=>rfl
  |cons y yss ih=>simp[kK,ih,og,rZ]
 unfold xa wj;simp only[h1,h2,Bool.and_self,if_true,Option.map_some]
 congr 3
 rw[List.any_map]
 congr 1
 funext ys
 simp[fH,xB]
theorem vJ(k:Nat)(x:Int):(List.replicate k [PV.int x]).flatten=(List.replicate k x).map .int:=by
 induction k with
 |zero=>rfl
 |succ k ih=>rw[List.replicate_succ,List.flatten_cons,ih,List.replicate_succ];rfl
noncomputable def TlO(P:List Int)(i:Nat)(o:OS):TlR->Prop
 |.ret r=>∃ ρ',o=.rt ρ' (.fr (r.map .int))
 |.go k=>∃ y2 y3 y4 y5 y6 y7 y8 y9 y10,o=.nx (tE P (i+k) y2 y3 y4 y5 y6 y7 y8 y9 y10)
theorem szI(b:Int):1+(if 194<=b then(1:Int)else 0)+(if 224<=b then 1 else 0)+(if 240<=b then 1 else 0)=(sz b:Int):=by
 unfold sz
 split<;>split<;>split<;>rfl
theorem CB(P pre:List Int)(b:Int)(Q:List Int)(hP:P=pre++b ::Q)(hl:P.length<=1000)(x2 x3 x4 x5 x6 x7 x8 x9 x10:Option Sl):
  TlO P pre.length (bR (tE P pre.length x2 x3 x4 x5 x6 x7 x8 x9 x10)) (tl1 (b ::Q)):=by
 have hlen:P.length=pre.length+(Q.length+1):=by rw[hP];simp
 have hat:∀ j:Nat,(P.map PV.int)[pre.length+j]?=((b ::Q).map PV.int)[j]?:=fun j=>by rw[hP];simp[List.getElem?_append_right]
 have hix:∀(y2 y3 y4 y5 y6 y7 y8 y9 y10:Option Sl),mOp fX (ao 0) (ao 1) (tE P pre.length y2 y3 y4 y5 y6 y7 y8 y9 y10)=.ok (.sh (.int b)):=fun y2 y3 y4 y5 y6 y7 y8 y9 y10=>by
  have:=jO (P.map PV.int) pre.length;have h0:=hat 0;rw[Nat.add_zero]at h0;rw[h0]at this;simp -implicitDefEqProofs [fX,this]
 have hdr:P.drop pre.length=b ::Q:=by rw[hP];simp
 have lim9:∀ n:Nat,n<=5000->n<=lim:=fun n h=>cI (by omega)
 have hlp:mUn eQ (ao 0) (tE P pre.length x2 x3 x4 x5 x6 x7 x8 x9 x10)=.ok (.sh (.int P.length)):=by simp
 have hc:az (mOp gNe (mOp fX (ao 0) (ao 1)) (mC (.int 92))) (tE P pre.length x2 x3 x4 x5 x6 x7 x8 x9 x10)=.ok (decide (b≠92)):=by
  have:=hix x2 x3 x4 x5 x6 x7 x8 x9 x10;revert this;generalize mOp fX (ao 0) (ao 1)=E;intro this
  by_cases hb:b=92<;>simp -implicitDefEqProofs [az,this,hb]
 unfold bR
 by_cases hb:b=92
 . rw[decide_eq_false (by simp[hb])]at hc;rw[mR hc];subst hb
   cases Q with
   | nil=>
     have h1:az (mOp gEq (mOp du (ao 1) (mC (.int 1))) (mUn eQ (ao 0))) (tE P pre.length x2 x3 x4 x5 x6 x7 x8 x9 x10)=.ok true:=by
      have:(pre.length:Int)+1=P.length:=by rw[hlen];simp
      simp[az,this]
     rw[nh h1]
     exact⟨_,by
      have:(2:Nat)<=lim:=lim9 _ (by omega)
      simp[this]
      rfl⟩
   | cons c Q=>
     have h1:az (mOp gEq (mOp du (ao 1) (mC (.int 1))) (mUn eQ (ao 0))) (tE P pre.length x2 x3 x4 x5 x6 x7 x8 x9 x10)=.ok false:=by
      have:¬ (pre.length:Int)+1=P.length:=by rw[hlen];simp;omega
      simp[az,this]
     rw[mR h1]
     have hc1:az (mOp gNe (mOp fX (ao 0) (mOp du (ao 1) (mC (.int 1)))) (mC (.int 117))) (tE P pre.length x2 x3 x4 x5 x6 x7 x8 x9 x10)=.ok (decide (c≠117)):=by
      have h2:=jO (P.map PV.int) (pre.length+1);rw[hat 1]at h2;rw[show(((pre.length+1:Nat)):Int)=(pre.length:Int)+1 by omega]at h2
      by_cases hb:c=117<;>simp -implicitDefEqProofs [az,fX,h2,hb]
     by_cases hc2:c≠117
     . rw[decide_eq_true hc2]at hc1;rw[nh hc1]
       have:tl1 (92 ::c ::Q)=.go 2:=by simp[tl1,hc2]
       rw[this]
       exact⟨x2,x3,x4,x5,x6,x7,x8,x9,x10,by simp[aV]⟩
     have hc3:c=117:=Decidable.not_not.mp hc2
     rw[decide_eq_false (by simp[hc3])]at hc1;rw[mR hc1];subst hc3
     have hd2:P.drop (pre.length+2)=Q:=by rw[<- List.drop_drop,hdr];rfl
     have hd6:P.drop (pre.length+6)=Q.drop 4:=by rw[show pre.length+6=pre.length+2+4 by omega,<- List.drop_drop,hd2]
     generalize hf:Q.take 4=f
     have hfl:f.length<=4:=by rw[<- hf];simp;omega
     refine Eq.subst (motive:=fun o=>TlO P pre.length o _) (cF (ρ':=tE P pre.length x2 x3 x4 x5 (some (.ow (f.map .int))) x7 x8 x9 x10) (by
      have h2:=xT P (pre.length+2) (pre.length+6);rw[hd2,show pre.length+6 - (pre.length+2)=4 by omega,hf,show(((pre.length+2:Nat)):Int)=(pre.length:Int)+2 by omega,show(((pre.length+6:Nat)):Int)=(pre.length:Int)+6 by omega]at h2
      simp[aV,jx,eh,j0,h2])).symm ?_
     have ha:decide ([68]=f.take 1)=decide (f.take 1=[68]):=decide_eq_decide.mpr eq_comm
     have ha':decide ([100]=f.take 1)=decide (f.take 1=[100]):=decide_eq_decide.mpr eq_comm
     have hin1:mOp xa (jx (ao 6) (mC .non) (eh (mC (.int 1)))) (iq (aj (bb (aj (mC (.int 68)) aE)) (aj (bb (aj (mC (.int 100)) aE)) aE))) (tE P pre.length x2 x3 x4 x5 (some (.ow (f.map .int))) x7 x8 x9 x10)=.ok (.sh (.bl (decide (f.take 1=[68])||decide (f.take 1=[100])))):=by
      have h2:=xn f 1;have h3:=inx (f.take 1) [[68],[100]]
      have l1:(1:Nat)<=lim:=lim9 _ (by omega)
      have l2:(2:Nat)<=lim:=lim9 _ (by omega)
      simp only[List.map_cons,List.map_nil,List.any_cons,List.any_nil,Bool.or_false,ha,ha']at h3;simp -implicitDefEqProofs [jx,eh,j0,l1,l2,jn];rw[show(1:Int)=((1:Nat):Int) from rfl,h2,h3];rfl
     refine Eq.subst (motive:=fun o=>TlO P pre.length o _) (cF (ρ':=tE P pre.length x2 x3 x4 x5 (some (.ow (f.map .int))) (some (.sh (.bl (decide (f.take 1=[68])||decide (f.take 1=[100]))))) x8 x9 x10) (by
      unfold aV;rw[hin1];simp)).symm ?_
     have hin2:∀ z,mOp xa (jx (ao 6) (eh (mC (.int 1))) (eh (mC (.int 2)))) (iq (aj (bb (aj (mC (.int 56)) aE)) (aj (bb (aj (mC (.int 57)) aE)) (aj (bb (aj (mC (.int 65)) aE)) (aj (bb (aj (mC (.int 66)) aE)) (aj (bb (aj (mC (.int 97)) aE)) (aj (bb (aj (mC (.int 98)) aE)) aE))))))) (tE P pre.length x2 x3 x4 x5 (some (.ow (f.map .int))) z x8 x9 x10)=.ok (.sh (.bl (decide ((f.drop 1).take 1=[56])||(decide ((f.drop 1).take 1=[57])||(decide ((f.drop 1).take 1=[65])||(decide ((f.drop 1).take 1=[66])||(decide ((f.drop 1).take 1=[97])||decide ((f.drop 1).take 1=[98])))))))):=fun z=>by
      have h2:=xT f 1 2;have h3:=inx ((f.drop 1).take 1) [[56],[57],[65],[66],[97],[98]]
      have l1:(1:Nat)<=lim:=lim9 _ (by omega)
      have l6:(6:Nat)<=lim:=lim9 _ (by omega)
      have dc:∀ x:Int,decide ([x]=(f.drop 1).take 1)=decide ((f.drop 1).take 1=[x]):=fun x=>decide_eq_decide.mpr eq_comm
      simp only[List.map_cons,List.map_nil,List.any_cons,List.any_nil,Bool.or_false,dc]at h3;simp -implicitDefEqProofs [jx,eh,j0,l1,l6,jn];rw[show(1:Int)=((1:Nat):Int) from rfl,show(2:Int)=((2:Nat):Int) from rfl,h2,h3];simp[Bool.or_assoc]
     refine Eq.subst (motive:=fun o=>TlO P pre.length o _) (cF (ρ':=tE P pre.length x2 x3 x4 x5 (some (.ow (f.map .int))) (some (.sh (.bl (oZ f)))) x8 x9 x10) (by
      cases hq:(decide (f.take 1=[68])||decide (f.take 1=[100]))with
      | true=>
        refine(nh (by simp[b4,ka])).trans ?_
        unfold aV;rw[hin2];simp[oZ,hq]
      | false=>
        refine(mR (by simp[b4,ka])).trans ?_
        simp[oZ,hq,aR])).symm ?_
     generalize hB:oZ f=B
     have hrep:∀(x7 x8 x9 x10:Option Sl),wK (bb (aj (mC (.int 48)) aE)) (mOp ly (mC (.int 4)) (mUn eQ (ao 6))) (tE P pre.length x2 x3 x4 x5 (some (.ow (f.map .int))) x7 x8 x9 x10)=.ok (.fr ((List.replicate (4 - f.length) 48).map .int)):=fun x7 x8 x9 x10=>by
      have l1:(1:Nat)<=lim:=lim9 _ (by omega)
      have e4:((4:Int) - f.length).toNat=4 - f.length:=by omega
      have l4:4 - f.length<=lim:=lim9 _ (by omega)
      have r1:-9223372036854775808<=(4:Int) - f.length:=by omega
      have r2:(4:Int) - f.length<9223372036854775808:=by omega
      simp -implicitDefEqProofs [l1,e4,l4,r1,r2,vJ]
     have hd6':(qm (P.map .int) (some ((pre.length:Int)+6)) (some ((pre.length:Int)+12)))=((Q.drop 4).take 6).map .int:=by
      have h2:=xT P (pre.length+6) (pre.length+12);rw[hd6,show pre.length+12 - (pre.length+6)=6 by omega,show(((pre.length+6:Nat)):Int)=(pre.length:Int)+6 by omega,show(((pre.length+12:Nat)):Int)=(pre.length:Int)+12 by omega]at h2;exact h2
     have htl:tl1 (92 ::117 ::Q)=if f.length<4 /\ B=false then .ret (List.replicate (4 - f.length) 48++[34])else if B=false then .go 6 else if((Q.drop 4).take 6).length<6 then .ret (List.replicate (4 - f.length) 48++(er.drop ((Q.drop 4).take 6).length++[34]))else .go 12:=by
      simp only[tl1,hf,hB];simp
     rw[htl]
     cases B with
     | false=>
       by_cases hf4:f.length<4
       . rw[if_pos ⟨hf4,rfl⟩]
         refine⟨tE P pre.length x2 x3 x4 x5 (some (.ow (f.map .int))) (some (.sh (.bl false))) x8 x9 x10,pA (Eq.trans (nh (by simp[az,b4,ka,hf4];omega)) ?_)⟩
         have hr2:=hrep (some (.sh (.bl false))) x8 x9 x10;revert hr2;generalize wK (bb (aj (mC (.int 48)) aE)) (mOp ly (mC (.int 4)) (mUn eQ (ao 6)))=E;intro hr2;unfold ba mOp;rw[hr2]
         have l1:(1:Nat)<=lim:=lim9 _ (by omega)
         have l5:4 - f.length+1<=lim:=lim9 _ (by omega)
         simp -implicitDefEqProofs [l1,fO,l5]
       . rw[if_neg (fun z=>hf4 z.1),if_pos rfl];rw[sk (by simp[az,b4,ka,hf4];omega)]
         exact⟨x2,x3,x4,x5,some (.ow (f.map .int)),some (.sh (.bl false)),x8,x9,x10,(nh (by simp[b4,ka])).trans (by simp[aV])⟩
     | true=>
       rw[if_neg (fun z=>by cases z.2),if_neg (by simp)];rw[sk (by by_cases hf4:(f.length:Int)<4<;>simp[az,b4,ka,hf4])];rw[mR (by simp[b4,ka])];generalize hcm:(Q.drop 4).take 6=C;rw[hcm]at hd6'
       have hCl:C.length<=6:=by rw[<- hcm];simp;omega
       refine Eq.subst (motive:=fun o=>TlO P pre.length o _) (cF (ρ':=tE P pre.length x2 x3 x4 x5 (some (.ow (f.map .int))) (some (.sh (.bl true))) (some (.ow ((List.replicate (4 - f.length) 48++er).map .int))) x9 x10) (by
        have hr2:=hrep (some (.sh (.bl true))) x8 x9 x10;revert hr2;generalize wK (bb (aj (mC (.int 48)) aE)) (mOp ly (mC (.int 4)) (mUn eQ (ao 6)))=E;intro hr2;unfold aV mOp;rw[hr2]
        have l6:(6:Nat)<=lim:=lim9 _ (by omega)
        have l10:4 - f.length+6<=lim:=lim9 _ (by omega)
        simp -implicitDefEqProofs [l6,fO,l10,er])).symm ?_
       refine Eq.subst (motive:=fun o=>TlO P pre.length o _) (cF (ρ':=tE P pre.length x2 x3 x4 x5 (some (.ow (f.map .int))) (some (.sh (.bl true))) (some (.ow ((List.replicate (4 - f.length) 48++er).map .int))) (some (.ow (C.map .int))) x10) (by
        simp[aV,jx,eh,j0,hd6'])).symm ?_
       by_cases hc6:C.length<6
       . rw[if_pos hc6]
         refine⟨tE P pre.length x2 x3 x4 x5 (some (.ow (f.map .int))) (some (.sh (.bl true))) (some (.ow ((List.replicate (4 - f.length) 48++er).map .int))) (some (.ow (C.map .int))) (some (.ow ((er.drop C.length).map .int))),pA (Eq.trans (nh (by simp[az];omega)) (Eq.trans (cF (ρ':=tE P pre.length x2 x3 x4 x5 (some (.ow (f.map .int))) (some (.sh (.bl true))) (some (.ow ((List.replicate (4 - f.length) 48++er).map .int))) (some (.ow (C.map .int))) (some (.ow ((er.drop C.length).map .int)))) ?_) ?_))⟩
         . have l6:(6:Nat)<=lim:=lim9 _ (by omega)
           have h2:=Cd er C.length;simp only[er,List.map_cons,List.map_nil]at h2;simp -implicitDefEqProofs [aV,jx,eh,j0,l6,h2,er]
         . have h2:=xn (List.replicate (4 - f.length) 48++er) (4 - f.length);rw[show(((4 - f.length:Nat)):Int)=4 - (f.length:Int) by omega,List.take_left' (by simp)]at h2
           have l1:(1:Nat)<=lim:=lim9 _ (by omega)
           have l5:4 - f.length+(6 - C.length)<=lim:=lim9 _ (by omega)
           have l7:4 - f.length+(6 - C.length)+1<=lim:=lim9 _ (by omega)
           have hpl:(er.drop C.length).length=6 - C.length:=by simp[er]
           have hsl:jx (ao 8) (mC .non) (eh (mOp ly (mC (.int 4)) (mUn eQ (ao 6)))) (tE P pre.length x2 x3 x4 x5 (some (.ow (f.map .int))) (some (.sh (.bl true))) (some (.ow ((List.replicate (4 - f.length) 48++er).map .int))) (some (.ow (C.map .int))) (some (.ow ((er.drop C.length).map .int))))=.ok (.fr ((List.replicate (4 - f.length) 48).map .int)):=by
            simp only[jx,xx,List.getElem?_cons_succ,List.getElem?_cons_zero,kO,Hi,eh,Ex,AQ,RV.pv,rD,nr];simp -implicitDefEqProofs [j0];have h3:=h2;simp only[List.map_append]at h3
            simpa using h3
           revert hsl;generalize jx (ao 8) (mC .non) (eh (mOp ly (mC (.int 4)) (mUn eQ (ao 6))))=E;generalize er.drop C.length=D at *;intro hsl
           have v10:ao 10 (tE P pre.length x2 x3 x4 x5 (some (.ow (f.map .int))) (some (.sh (.bl true))) (some (.ow ((List.replicate (4 - f.length) 48++er).map .int))) (some (.ow (C.map .int))) (some (.ow (D.map .int))))=.ok (.al (D.map .int)):=by simp
           revert hsl v10;generalize tE P pre.length x2 x3 x4 x5 (some (.ow (f.map .int))) (some (.sh (.bl true))) (some (.ow ((List.replicate (4 - f.length) 48++er).map .int))) (some (.ow (C.map .int))) (some (.ow (D.map .int)))=ρ;intro hsl v10;unfold ba mOp;rw[hsl,v10];simp -implicitDefEqProofs [fO,l1,l5,l7,hpl]
       . rw[if_neg hc6];rw[sk (by simp[az];omega)]
         exact⟨x2,x3,x4,x5,some (.ow (f.map .int)),some (.sh (.bl true)),some (.ow ((List.replicate (4 - f.length) 48++er).map .int)),some (.ow (C.map .int)),x10,by simp[aV]⟩
 . rw[decide_eq_true hb]at hc;rw[nh hc]
   refine Eq.subst (motive:=fun o=>TlO P pre.length o _) (cF (ρ':=tE P pre.length (some (.sh (.int b))) x3 x4 x5 x6 x7 x8 x9 x10) (by
    unfold aV;rw[hix];simp)).symm ?_
   refine Eq.subst (motive:=fun o=>TlO P pre.length o _) (cF (ρ':=tE P pre.length (some (.sh (.int b))) (some (.sh (.int (sz b)))) x4 x5 x6 x7 x8 x9 x10) (by
    have:=szI b;simp[aV]
    exact this)).symm ?_
   have hcs:az (mOp gGt (mOp du (ao 1) (ao 3)) (mUn eQ (ao 0))) (tE P pre.length (some (.sh (.int b))) (some (.sh (.int (sz b)))) x4 x5 x6 x7 x8 x9 x10)=.ok (decide (Q.length+1<sz b)):=by
    simp[az];omega
   by_cases hs:Q.length+1<sz b
   . rw[decide_eq_true hs]at hcs
     have ht:tl1 (b ::Q)=.ret (rY b (sz b - (Q.length+1)) (sz b) ::(List.replicate (sz b - (Q.length+1) - 1) 128++[34])):=by simp[tl1,hb,hs]
     rw[ht];generalize hn:sz b=n at *
     obtain⟨m,hm⟩:∃ m,n - (Q.length+1)=m+1:=⟨n - (Q.length+1) - 1,by omega⟩
     have hn4:n<=4:=by rw[<- hn];unfold sz;split<;>split<;>split<;>omega
     rw[hm]
     refine⟨tE P pre.length (some (.sh (.int b))) (some (.sh (.int n))) (some (.sh (.int (m+1)))) (some (.sh (.int (rY b (m+1) n)))) x6 x7 x8 x9 x10,pA (Eq.trans (nh hcs) (Eq.trans (cF (ρ':=tE P pre.length (some (.sh (.int b))) (some (.sh (.int n))) (some (.sh (.int (m+1)))) x5 x6 x7 x8 x9 x10) ?_) (Eq.trans (cF (ρ':=tE P pre.length (some (.sh (.int b))) (some (.sh (.int n))) (some (.sh (.int (m+1)))) (some (.sh (.int (if b=224 then 160 else if b=240 then 144 else 128)))) x6 x7 x8 x9 x10) ?_) (Eq.trans (cF (ρ':=tE P pre.length (some (.sh (.int b))) (some (.sh (.int n))) (some (.sh (.int (m+1)))) (some (.sh (.int (rY b (m+1) n)))) x6 x7 x8 x9 x10) ?_) ?_))))⟩
     . simp[aV];omega
     . have hg:=hix (some (.sh (.int b))) (some (.sh (.int n))) (some (.sh (.int (m+1)))) x5 x6 x7 x8 x9 x10;revert hg;generalize mOp fX (ao 0) (ao 1)=E;intro hg;simp -implicitDefEqProofs [aV,hg,kX]
       by_cases z1:b=224
       . simp[z1,List.lookup]
       . by_cases z2:b=240
         . simp[z2,List.lookup]
         . have y1:(b==224)=false:=by simpa using z1
           have y2:(b==240)=false:=by simpa using z2
           simp[z1,z2,List.lookup,y1,y2]
     . unfold rY
       by_cases z:m+1+1<n
       . have z':((m:Int)+1)<n - 1:=by omega
         rw[if_pos z]
         exact(nh (by simp[az,z'])).trans (by simp[aV])
       . have z':¬ ((m:Int)+1)<n - 1:=by omega
         rw[if_neg z]
         exact(mR (by simp[az,z'])).trans (um _)
     . have l1:(1:Nat)<=lim:=lim9 _ (by omega)
       have lm:m<=lim:=lim9 _ (by omega)
       have lm1:1+m<=lim:=lim9 _ (by omega)
       have lm2:1+m+1<=lim:=lim9 _ (by omega)
       have r1:-9223372036854775808<=(m:Int):=by omega
       have r2:(m:Int)<9223372036854775808:=by omega
       have e1:((m:Int)+1 - 1)=m:=by omega
       simp -implicitDefEqProofs [ba,l1,e1,r1,r2,lm,vJ,fO,lm1,lm2];exact lim9 _ (by omega)
   . rw[decide_eq_false hs]at hcs
     have ht:tl1 (b ::Q)=.go (sz b):=by simp[tl1,hb,hs]
     rw[ht,sk hcs]
     exact⟨some (.sh (.int b)),some (.sh (.int (sz b))),x4,x5,x6,x7,x8,x9,x10,by simp[aV]⟩
theorem yX:∀(m:Nat) (P pre Q:List Int) (n:Nat) (x2 x3 x4 x5 x6 x7 x8 x9 x10:Option Sl),P=pre++Q->P.length<=1000->Q.length<m->m<=n ->
  ∃ ρ',aK (dO b0 bR n) eB (tE P pre.length x2 x3 x4 x5 x6 x7 x8 x9 x10)=.rt ρ' (.fr ((tln m Q).map .int))
 |0,P,pre,Q,n,x2,x3,x4,x5,x6,x7,x8,x9,x10,hP,hl,hq,hn=>by omega
 | m+1,P,pre,Q,n,x2,x3,x4,x5,x6,x7,x8,x9,x10,hP,hl,hq,hn=>by
   obtain⟨n,rfl⟩:∃ k,n=k+1:=⟨n - 1,by omega⟩
   have hlen:P.length=pre.length+Q.length:=by rw[hP];simp
   have hcnd:b0 (tE P pre.length x2 x3 x4 x5 x6 x7 x8 x9 x10)=.ok (decide (0<Q.length)):=by
    simp[b0,az];omega
   cases Q with
   | nil=>
     have hw:dO b0 bR (n+1) (tE P pre.length x2 x3 x4 x5 x6 x7 x8 x9 x10)=.nx (tE P pre.length x2 x3 x4 x5 x6 x7 x8 x9 x10):=by
      unfold dO;rw[hcnd];simp
     rw[cF hw]
     have l1:(1:Nat)<=lim:=cI (by omega)
     exact⟨_,by unfold eB;simp[tln,tl1,l1];rfl⟩
   | cons b Q=>
     have hs:=CB P pre b Q hP hl x2 x3 x4 x5 x6 x7 x8 x9 x10
     have hw:dO b0 bR (n+1) (tE P pre.length x2 x3 x4 x5 x6 x7 x8 x9 x10)=(bR (tE P pre.length x2 x3 x4 x5 x6 x7 x8 x9 x10)).turn (dO b0 bR n):=by
      conv=>lhs;unfold dO
      rw[hcnd];simp
     cases ht:tl1 (b ::Q)with
     | ret r=>
       rw[ht]at hs;obtain⟨ρ',hs⟩:=hs;rw[hs]at hw
       exact⟨ρ',by rw[pA hw];unfold tln;rw[ht]⟩
     | go k=>
       rw[ht]at hs;obtain⟨y2,y3,y4,y5,y6,y7,y8,y9,y10,hs⟩:=hs;rw[hs]at hw
       have hk:1<=k /\ k<=(b ::Q).length:=GZ ht
       have hp2:pre.length+k=(pre++(b ::Q).take k).length:=by simp at hk ⊢;omega
       obtain⟨ρ',ih⟩:=yX m P (pre++(b ::Q).take k) ((b ::Q).drop k) n y2 y3 y4 y5 y6 y7 y8 y9 y10 (by rw[hP,List.append_assoc,List.take_append_drop]) hl (by simp at hk hq ⊢;omega) (by omega)
       refine⟨ρ',?_⟩
       rw[<- hp2]at ih
       have:aK (dO b0 bR (n+1)) eB (tE P pre.length x2 x3 x4 x5 x6 x7 x8 x9 x10)=aK (dO b0 bR n) eB (tE P (pre.length+k) y2 y3 y4 y5 y6 y7 y8 y9 y10):=by
        unfold aK;rw[hw];rfl
       rw[this,ih,xN ht]
theorem vc(x:Int)(Q:List Int)(hl:Q.length<900):cX [.lst ((x ::Q).map .int)]=.ok (.fr ((tln (x ::Q).length (x ::Q).tail).map .int)):=by
 obtain⟨ρ',h⟩:=yX (Q.length+1) (x ::Q) [x] Q fuel none none none none none none none none none rfl (by simp;omega) (by omega) (by unfold fuel;omega);unfold cX fnP;rw[if_pos (show List.length [PV.lst ((x ::Q).map .int)]=1 from rfl),show jy 11 [PV.lst ((x ::Q).map .int)]=[some (.sh (.lst ((x ::Q).map .int))),none,none,none,none,none,none,none,none,none,none] from rfl];unfold lX;rw[cF (ρ':=tE (x ::Q) [x].length none none none none none none none none none) (by simp[aV])];unfold kj;rw[h];rfl
theorem CM{l:List Int}{b:Int}(h:l.getLast?=some b):atP (l.map PV.int) (-1)=some (.int b):=by
 have hne:l≠[]:=by intro z;rw[z]at h;cases h
 have hl:0<l.length:=List.length_pos_iff.mpr hne
 have h1:ixP (l.map PV.int).length (-1)=some (l.length - 1):=by
  unfold ixP;rw[if_neg (by omega),List.length_map,if_pos (by omega)]
  congr 1
  omega
 unfold atP;rw[h1];rw[List.getLast?_eq_getElem?]at h;simp[h]
theorem sL{P:List Int}{b:Int}(h:P.getLast?=some b):cy [.lst (P.map .int)]=.ok (.fr ((sJ b).map .int)):=by
 have ha:=CM h
 have l5:(5:Nat)<=lim:=cI (by omega)
 have l1:(1:Nat)<=lim:=cI (by omega)
 have ht:az (mOp gIn (mOp fX (ao 0) (mUn pR (mC (.int 1)))) (iq (aj (mC (.int 45)) (aj (mC (.int 43)) (aj (mC (.int 46)) (aj (mC (.int 101)) (aj (mC (.int 69)) aE))))))) [some (.sh (.lst (P.map .int)))]=.ok (decide (b=45 \/ b=43 \/ b=46 \/ b=101 \/ b=69)):=by
  simp -implicitDefEqProofs [az,fX,ha,gIn,mf,eG,fH,l5]
  grind
 unfold cy fnP;rw[if_pos (show List.length [PV.lst (P.map .int)]=1 from rfl),show jy 1 [PV.lst (P.map .int)]=[some (.sh (.lst (P.map .int)))] from rfl];unfold km sJ
 by_cases z:b=45 \/ b=43 \/ b=46 \/ b=101 \/ b=69
 . rw[decide_eq_true z]at ht;rw[if_pos z,pA (ρ':=[some (.sh (.lst (P.map .int)))]) (v:=.fr [.int 48]) (Eq.trans (nh ht) (by simp[l1]))];rfl
 . rw[decide_eq_false z]at ht;rw[if_neg z,sk ht];simp
theorem AU(xss:List (List Int))(i:Nat)(xs:List Int)(h:xss[i]?=some xs):fX (.lst (xss.map fun xs=>.lst (xs.map .int))) (.int i)=some (.sh (.lst (xs.map .int))):=by
 have:=jO (xss.map fun xs=>PV.lst (xs.map .int)) i;rw[List.getElem?_map,h]at this;simp[fX,this]
theorem rJ{mc:ah->OT}{me:ah->OE}{ρ:ah}{α:Type}{g h:α->PV}(p:α->Bool):∀ l:List α,(∀ a∈l,mc (ρ++[some (.sh (g a))])=.ok (p a))->(∀ a∈l,me (ρ++[some (.sh (g a))])=.ok (.sh (h a)))->dM mc me ρ (l.map g)=.ok ((l.filter p).map h)
 |[],_,_=>rfl
 | a ::l,hc,he=>by
   have ih:=rJ p l (fun a h=>hc a (List.mem_cons_of_mem _ h)) (fun a h=>he a (List.mem_cons_of_mem _ h));have h1:=hc a List.mem_cons_self;have h2:=he a List.mem_cons_self;rw[List.map_cons];unfold dM;rw[h1,h2]
   cases hp:p a with
   |false=>simp[hp,ih]
   |true=>simp[hp,ih,jn]
noncomputable def fj:Nat->List Int
 |0=>[]|1=>[91,49,44]|2=>[123,34,34,58]|_=>[91,123,34,97,34,58]
noncomputable def ksL:Nat->List Bool
 |0=>[]|1=>[true]|2=>[false]|_=>[false,true]
noncomputable def la:Nat->List Int
 |0=>[]|1=>[93]|2=>[125]|_=>[125,93]
theorem wV:∀ j<4,PG.Goes st0 (fj j) (.white ::.value ::PG.out (ksL j))
 |0,_=>PG.Goes.nil _
 |1,_=>by intro r;rfl
 |2,_=>by intro r;rfl
 |3,_=>by intro r;rfl
theorem AF:∀ j<4,PG.ends (PG.out (ksL j))=la j
 |0,_=>rfl
 |1,_=>rfl
 |2,_=>rfl
 |3,_=>rfl
noncomputable abbrev kT(ns:List Int)(w:Int)(s2 s3 a4 a5 a6 a7 a8 a9 a10:Option Sl):ah:=[some (.sh (.lst (ns.map .int))),some (.sh (.int w)),s2,s3,a4,a5,a6,a7,a8,a9,a10]
noncomputable def Aq(s:Option Sl)(X:List Int):Prop:=s=some (.sh (.lst (X.map .int))) \/ s=some (.ow (X.map .int))
theorem pP{ρ:ah}{i:Nat}{s:Option Sl}{X:List Int}(h:Aq s X)(hi:ρ[i]?=some s):∃ r,ao i ρ=.ok r /\ r.pv=.lst (X.map .int):=by
 rcases h with z|z
 . rw[z]at hi;exact⟨_,by simp[hi];rfl,rfl⟩
 . rw[z]at hi;exact⟨_,by simp[hi];rfl,rfl⟩
theorem Gn{ρ:ah}{i:Nat}{s:Option Sl}{X:List Int}{g:PV->Option RV}(h:Aq s X)(hi:ρ[i]?=some s):mUn g (ao i) ρ=oE (g (.lst (X.map .int))):=by
 obtain⟨r,h1,h2⟩:=pP h hi;unfold mUn;rw[h1];simp only[kO,h2]
theorem Hl(xs:List Int)(i:Nat)(x:Int)(h:xs[i]?=some x):atP (xs.map PV.int) (i:Int)=some (.int x):=by
 rw[jO,List.getElem?_map,h];rfl
noncomputable def nbB(b:Int):Bool:=decide (b=45 \/ b=43 \/ b=46 \/ b=101 \/ b=69)
theorem BH{s2:Option Sl}{X:List Int}(h:Aq s2 X):dM tV uP [s2] (cO X.length)=.ok (((List.range X.length).filter fun k=>nbB ((X[k]?).getD 0)).map fun k:Nat=>PV.int k):=by
 unfold cO;refine rJ (fun k=>nbB ((X[k]?).getD 0)) (List.range X.length) (fun k hk=>?_) (fun k _=>by simp[uP])
 have hk':=List.mem_range.mp hk
 have hx:X[k]?=some X[k]:=List.getElem?_eq_getElem hk'
 obtain⟨r,h1,h2⟩:=pP (ρ:=[s2]++[some (.sh (.int k))]) (i:=0) h rfl
 have l5:(5:Nat)<=lim:=cI (by omega)
 have hat:=Hl X k _ hx
 have hix:mOp fX (ao 0) (ao 1) ([s2]++[some (.sh (.int k))])=.ok (.sh (.int X[k])):=by
  unfold mOp;rw[h1];simp -implicitDefEqProofs [h2,fX,hat]
 unfold tV az;revert hix;generalize mOp fX (ao 0) (ao 1)=E;generalize ([s2]++[some (.sh (.int k))]:ah)=ρ;intro hix;simp -implicitDefEqProofs [hix,gIn,mf,eG,fH,l5,nbB,hx]
 grind
theorem eql(xs ys:List Int):Dj (.lst (xs.map .int)) (.lst (ys.map .int))=some (.sh (.bl (decide (xs=ys)))):=by
 simp[Dj,DC]
theorem vj:∀ st:List PG.It,(PG.ends st).length<=4*st.length
 |[]=>by simp[PG.ends]
 | it ::st=>by
   have:=vj st
   have hs:(PG.short it).length<=4:=by cases it<;>simp[PG.short]
   rw[tU,List.length_append,List.length_cons];omega
theorem qN(ns:List Int)(w:Int)(s2 s3:Option Sl)(x:Lf)(hx:Lok x)(hs:Aq s2 (lfb x))(hl:(lfb x).length<=500)(h1:w<2↔∃ y,x=.wd y)(h2:w=2↔∃ y,x=.nm y):
  fin (uc (kT ns w s2 s3 none none none none none none none))=.ok (.sh (.bl true)):=by
 obtain⟨j,hj⟩:∃ j:Nat,(j:Int)=PG.mix ns 4%4:=⟨(PG.mix ns 4%4).toNat,by omega⟩
 have hj4:j<4:=by omega
 have l4:(4:Nat)<=lim:=cI (by omega)
 have l3:(3:Nat)<=lim:=cI (by omega)
 have l2:(2:Nat)<=lim:=cI (by omega)
 have l1:(1:Nat)<=lim:=cI (by omega)
 have l0:(0:Nat)<=lim:=cI (by omega)
 have l6:(6:Nat)<=lim:=cI (by omega)
 unfold uc
 rw[cF (ρ':=kT ns w s2 s3 (some (.sh (.lst ((fj j).map .int)))) none none none none none none) (by
  have hg:=AU [[],[91,49,44],[123,34,34,58],[91,123,34,97,34,58]] j (fj j) (by
   match j,hj4 with
   |0,_=>rfl
   |1,_=>rfl
   |2,_=>rfl
   |3,_=>rfl)
  rw[hj]at hg;simp only[List.map_cons,List.map_nil]at hg
  simp -implicitDefEqProofs [aV,bH,jn,l4,l3,l6,hg])]
 unfold yR
 rw[cF (ρ':=kT ns w s2 s3 (some (.sh (.lst ((fj j).map .int)))) (some (.sh (.lst ((la j).map .int)))) none none none none none) (by
  have hg:=AU [[],[93],[125],[125,93]] j (la j) (by
   match j,hj4 with
   |0,_=>rfl
   |1,_=>rfl
   |2,_=>rfl
   |3,_=>rfl)
  rw[hj]at hg;simp only[List.map_cons,List.map_nil]at hg
  simp -implicitDefEqProofs [aV,bH,jn,l4,l1,l2,hg])]
 generalize hX:lfb x=X at *
 have hpos:0<X.length:=by rw[<- hX];exact List.length_pos_iff.mpr (Hn x hx)
 unfold yP
 obtain⟨t0,ht0⟩:∃ t:Nat,(t:Int)=PG.mix ns 5%X.length:=⟨(PG.mix ns 5%X.length).toNat,by
  have:=Int.emod_nonneg (PG.mix ns 5) (show(X.length:Int)≠0 by omega)
  omega⟩
 have ht0l:t0<X.length:=by
  have:=Int.emod_lt_of_pos (PG.mix ns 5) (show 0<(X.length:Int) by omega);omega
 rw[cF (ρ':=kT ns w s2 s3 (some (.sh (.lst ((fj j).map .int)))) (some (.sh (.lst ((la j).map .int)))) (some (.sh (.int t0))) none none none none) (by
  have z1:¬ ((X.length:Int)=0):=by omega
  have z2:0<(X.length:Int):=by omega
  have z3:(X.length:Int)<1073741824:=by omega
  have z4:X≠[]:=List.length_pos_iff.mp hpos
  have hu:=Gn (g:=eQ) (ρ:=kT ns w s2 s3 (some (.sh (.lst ((fj j).map .int)))) (some (.sh (.lst ((la j).map .int)))) none none none none none) (i:=2) hs rfl;simp only[rD,nr,List.length_map]at hu;revert hu;generalize mUn eQ (ao 2)=E;intro hu;rw[ht0]
  simp -implicitDefEqProofs [aV,bH,hu,z1,z2,z3,z4])]
 unfold yr;generalize hL:(List.range X.length).filter (fun k=>nbB ((X[k]?).getD 0))=L
 have hLk:∀ k∈L,k<X.length:=fun k hk=>by rw[<- hL]at hk;exact List.mem_range.mp (List.mem_filter.mp hk).1
 have hLl:L.length<=500:=by
  rw[<- hL];have:=List.length_filter_le (fun k=>nbB ((X[k]?).getD 0)) (List.range X.length);rw[List.length_range]at this;omega
 rw[cF (ρ':=kT ns w s2 s3 (some (.sh (.lst ((fj j).map .int)))) (some (.sh (.lst ((la j).map .int)))) (some (.sh (.int t0))) (some (.ow (L.map fun k:Nat=>PV.int k))) none none none) (by
  have hu:=Gn (g:=eQ) (ρ:=kT ns w s2 s3 (some (.sh (.lst ((fj j).map .int)))) (some (.sh (.lst ((la j).map .int)))) (some (.sh (.int t0))) none none none none) (i:=2) hs rfl;simp only[rD,nr,List.length_map]at hu;have hp:=BH hs;rw[hL]at hp
  have ll:L.length<=lim:=cI (by omega)
  have r1:-4611686018427387904<=(X.length:Int):=by omega
  have r2:(X.length:Int)<4611686018427387904:=by omega
  unfold aV qR;rw[hu]
  simp -implicitDefEqProofs [r1,r2,cQ,hp,noX,ll])]
 unfold yC
 obtain⟨t,htl,e6⟩:∃ t:Nat,t<X.length /\ bf (jF (az (mOp gEq (ao 1) (mC (.int 2)))) (jF (b4 (ao 7)) (az (mOp gEq (mOp cN (bE cp (aj (ao 0) (aj (mC (.int 6)) aE))) (mC (.int 2))) (mC (.int 0)))))) (aV 6 (mOp fX (ao 7) (mOp cN (bE cp (aj (ao 0) (aj (mC (.int 7)) aE))) (mUn eQ (ao 7))))) aR (kT ns w s2 s3 (some (.sh (.lst ((fj j).map .int)))) (some (.sh (.lst ((la j).map .int)))) (some (.sh (.int t0))) (some (.ow (L.map fun k:Nat=>PV.int k))) none none none)=.nx (kT ns w s2 s3 (some (.sh (.lst ((fj j).map .int)))) (some (.sh (.lst ((la j).map .int)))) (some (.sh (.int t))) (some (.ow (L.map fun k:Nat=>PV.int k))) none none none):=by
  by_cases hc:w=2 /\ L≠[] /\ PG.mix ns 6%2=0
  . obtain⟨c1,c2,c3⟩:=hc
    have hp:0<L.length:=List.length_pos_iff.mpr c2
    obtain⟨i,hi⟩:∃ i:Nat,(i:Int)=PG.mix ns 7%L.length:=⟨(PG.mix ns 7%L.length).toNat,by
     have:=Int.emod_nonneg (PG.mix ns 7) (show(L.length:Int)≠0 by omega)
     omega⟩
    have hil:i<L.length:=by
     have:=Int.emod_lt_of_pos (PG.mix ns 7) (show 0<(L.length:Int) by omega);omega
    refine⟨L[i],hLk _ (List.getElem_mem hil),?_⟩
    refine(nh (by simp -implicitDefEqProofs [jF,az,b4,ka,c1,c2,c3,bH])).trans ?_
    have hat:atP (L.map fun k:Nat=>PV.int k) (i:Int)=some (.int L[i]):=by
     rw[jO,List.getElem?_map,List.getElem?_eq_getElem hil];rfl
    rw[hi]at hat
    have z1:¬ ((L.length:Int)=0):=by omega
    have z2:0<(L.length:Int):=by omega
    have z3:(L.length:Int)<1073741824:=by omega
    simp -implicitDefEqProofs [aV,bH,z1,z2,z3,fX,hat,c2]
  . refine⟨t0,ht0l,(mR ?_).trans (um _)⟩
    by_cases c1:w=2
    . by_cases c2:L=[]
      . simp -implicitDefEqProofs [jF,az,b4,ka,c1,c2]
      . have c3:¬ PG.mix ns 6%2=0:=fun z=>hc ⟨c1,c2,z⟩
        simp -implicitDefEqProofs [jF,az,b4,ka,c1,c2,c3,bH]
    . simp -implicitDefEqProofs [jF,az,c1]
 rw[cF e6];unfold yW
 obtain⟨P,R,hPR,hPl⟩:∃ P R,X=P++R /\ P.length=t+1:=⟨X.take (t+1),X.drop (t+1),(List.take_append_drop _ X).symm,by simp;omega⟩
 have hPn:P≠[]:=by intro z;rw[z]at hPl;simp at hPl
 have htake:X.take (t+1)=P:=by rw[hPR,<- hPl];simp
 have hdrop:X.drop P.length=R:=by rw[hPR];simp
 have hlPR:P.length+R.length=X.length:=by rw[hPR];simp
 generalize hs4:some (Sl.sh (.lst ((fj j).map .int)))=s4;generalize hs5:some (Sl.sh (.lst ((la j).map .int)))=s5;generalize hs7:some (Sl.ow (L.map fun k:Nat=>PV.int k))=s7
 rw[cF (ρ':=kT ns w s2 s3 s4 s5 (some (.sh (.int t))) s7 (some (.ow (P.map .int))) none none) (by
  obtain⟨r,g1,g2⟩:=pP (ρ:=kT ns w s2 s3 s4 s5 (some (.sh (.int t))) s7 none none none) (i:=2) hs rfl;have h3:=xn X (t+1);rw[htake,show(((t+1:Nat)):Int)=1+(t:Int) by omega]at h3;unfold aV jx;rw[g1]
  simp -implicitDefEqProofs [g2,eh,j0,h3])]
 obtain⟨hk1,hk2⟩:=FU x hx (A:=fj j) (ks:=ksL j) (by match j,hj4 with|0,_=>decide|1,_=>decide|2,_=>decide|3,_=>decide) (wV j hj4) (by rw[hX];exact hPR) hPn;rw[AF j hj4]at hk2
 have hal:(fj j).length<=6:=by match j,hj4 with|0,_=>decide|1,_=>decide|2,_=>decide|3,_=>decide
 have hbl:(la j).length<=2:=by match j,hj4 with|0,_=>decide|1,_=>decide|2,_=>decide|3,_=>decide
 generalize hD:zX x P R=D at *
 obtain⟨s8,h8,e8⟩:∃ s8,Aq s8 P /\ bf (az (mOp gLt (ao 1) (mC (.int 2)))) (aV 9 (jx (ao 2) (eh (mUn eQ (ao 8))) (mC .non))) (bf (az (mOp gEq (ao 1) (mC (.int 2)))) (eR 8 (aV 9 (bE cy (aj (ao 8) aE)))) (bf (az (mOp gEq (mUn eQ (ao 8)) (mUn eQ (ao 2)))) (aV 9 (bb aE)) (eR 8 (aV 9 (bE cX (aj (ao 8) aE)))))) (kT ns w s2 s3 s4 s5 (some (.sh (.int t))) s7 (some (.ow (P.map .int))) none none)=.nx (kT ns w s2 s3 s4 s5 (some (.sh (.int t))) s7 s8 (some (.ow (D.map .int))) none):=by
  by_cases hw1:w<2
  . obtain⟨y,rfl⟩:=h1.mp hw1
    refine⟨_,.inr rfl,(nh (by simp[az,hw1])).trans ?_⟩
    obtain⟨r,g1,g2⟩:=pP (ρ:=kT ns w s2 s3 s4 s5 (some (.sh (.int t))) s7 (some (.ow (P.map .int))) none none) (i:=2) hs rfl;have h3:=Cd X P.length;rw[hdrop]at h3
    have:D=R:=hD.symm
    subst this;unfold aV jx;rw[g1];simp -implicitDefEqProofs [g2,eh,j0,h3]
  . by_cases hw2:w=2
    . obtain⟨y,rfl⟩:=h2.mp hw2
      obtain⟨z,hz⟩:∃ z,P.getLast?=some z:=⟨_,List.getLast?_eq_some_getLast hPn⟩
      have:sJ z=D:=by rw[<- hD];simp only[zX,hz]
      have e:=sL hz;rw[this]at e
      refine⟨_,.inl rfl,(mR (by simp[az,hw1])).trans ((nh (by simp[az,hw2])).trans ?_)⟩
      simp -implicitDefEqProofs [eR,jN,aV,e]
    . have hx3:∃ l,x = .tx l:=by
       cases x with
       |wd y=>exact absurd (h1.mpr ⟨y,rfl⟩) hw1
       |nm y=>exact absurd (h2.mpr ⟨y,rfl⟩) hw2
       |tx l=>exact⟨l,rfl⟩
      obtain⟨l,rfl⟩:=hx3;obtain⟨r,g1,g2⟩:=pP (ρ:=kT ns w s2 s3 s4 s5 (some (.sh (.int t))) s7 (some (.ow (P.map .int))) none none) (i:=2) hs rfl
      have hct:az (mOp gEq (mUn eQ (ao 8)) (mUn eQ (ao 2))) (kT ns w s2 s3 s4 s5 (some (.sh (.int t))) s7 (some (.ow (P.map .int))) none none)=.ok (decide (P.length=X.length)):=by
       have hu:=Gn (g:=eQ) (ρ:=kT ns w s2 s3 s4 s5 (some (.sh (.int t))) s7 (some (.ow (P.map .int))) none none) (i:=2) hs rfl;simp only[rD,nr,List.length_map]at hu;unfold az mOp;rw[hu]
       simp -implicitDefEqProofs
       omega
      by_cases hR:R=[]
      . have:D=[]:=by rw[<- hD];simp[zX,hR]
        subst this
        have hlx:P.length=X.length:=by rw[hR]at hlPR;simpa using hlPR
        rw[decide_eq_true hlx]at hct
        exact⟨_,.inr rfl,(mR (by simp[az,hw1])).trans ((mR (by simp[az,hw2])).trans ((nh hct).trans (by simp[aV])))⟩
      . have hlx:¬ P.length=X.length:=by have:=List.length_pos_iff.mpr hR;omega
        rw[decide_eq_false hlx]at hct
        have:D=tln P.length P.tail:=by rw[<- hD];simp[zX,hR]
        obtain⟨c,Q,rfl⟩:∃ c Q,P=c ::Q:=by cases P with|nil=>exact absurd rfl hPn|cons c Q=>exact⟨c,Q,rfl⟩
        have e:=vc c Q (by simp at hlPR;omega);rw[<- this]at e
        refine⟨_,.inl rfl,(mR (by simp[az,hw1])).trans ((mR (by simp[az,hw2])).trans ((mR hct).trans ?_))⟩
        simp only[List.map_cons]at e ⊢
        simp -implicitDefEqProofs [eR,jN,aV,e]
 unfold yK;rw[cF e8];unfold yF;have he:=o7 (fj j++P) (by simp;omega) hk1;rw[hk2]at he
 rw[cF (ρ':=kT ns w s2 s3 s4 s5 (some (.sh (.int t))) s7 s8 (some (.ow (D.map .int))) (some (.sh (.lst ((D++la j).map .int))))) (by
  obtain⟨r,g1,g2⟩:=pP (ρ:=kT ns w s2 s3 s4 s5 (some (.sh (.int t))) s7 s8 (some (.ow (D.map .int))) none) (i:=8) h8 rfl
  have ll:(fj j).length+P.length<=lim:=cI (by omega)
  have ec:mOp fO (ao 4) (ao 8) (kT ns w s2 s3 s4 s5 (some (.sh (.int t))) s7 s8 (some (.ow (D.map .int))) none)=.ok (.fr ((fj j++P).map .int)):=by
   unfold mOp;rw[g1,<- hs4];simp -implicitDefEqProofs [g2,fO,ll]
  unfold aV bE aj aE;rw[ec];simp only[xZ,jn,OA.eW]
  simp -implicitDefEqProofs only[OA.bind,he]
  simp)]
 have hdl:(D++la j).length<=900000:=by
  have g1:=vj (PG.tk st0 (fj j++P)).1;have g2:=BY (fj j++P) st0
  have g3:st0.length=3:=rfl
  rw[hk2]at g1;rw[List.length_append (as:=fj j)]at g2;omega
 have hw:=jI (D++la j) (by omega);unfold u6 eR;rw[show jN 10 (kT ns w s2 s3 s4 s5 (some (.sh (.int t))) s7 s8 (some (.ow (D.map .int))) (some (.sh (.lst ((D++la j).map .int)))))=kT ns w s2 s3 s4 s5 (some (.sh (.int t))) s7 s8 (some (.ow (D.map .int))) (some (.sh (.lst ((D++la j).map .int)))) from rfl]
 have ll:D.length+(la j).length<=lim:=cI (by rw[<- List.length_append];omega)
 rw[<- hs5];simp only[List.map_append]at hw;have hq:=eql (D++la j) (D++la j);rw[decide_eq_true rfl,List.map_append]at hq;simp -implicitDefEqProofs [tI,hw,fO,ll,hq,ka]
theorem CK(l:List Int)(n:Int)(h:l.all kD=true)(h2:l.length<14):(PG.txt (lts l n 0)).length<=158:=by
 rcases yH l n 0 with z|z
 . simp[PG.txt];omega
 . rw[h]at z;cases z
theorem zr(n:Int):(PG.nb (fA n)).length<=30:=by
 have h1:(cz (n/3%100000).toNat).length<=5:=ni 4 _ (by omega)
 have h2:(cz (n/37%30).toNat).length<=2:=ni 1 _ (by omega)
 have h3:(frB (bM n)).length<=4:=by
  have:(bM n).length<=3:=by unfold bM;split<;>simp;omega
  unfold frB
  split<;>simp;omega
 have h4:(exB (fz n)).length<=6:=by
  unfold fz;split
  . have hs:(if n/43%3=1 then[45]else if n/43%3=2 then[43]else[]:List Int).length<=1:=by split;simp;split<;>simp
    have ht:(if n/47%4=1 then[48]else[]:List Int).length<=1:=by split<;>simp
    simp only[exB,List.length_append,List.length_cons];omega
  . simp[exB]
 unfold PG.nb fA;simp only[List.length_append]
 split<;>simp<;>omega
theorem Cb(ns:List Int)(_:ns.length<=63):ti [.lst (ns.map .int)]=.ok (.sh (.bl true)):=by
 have l4:(4:Nat)<=lim:=cI (by omega)
 have l5:(5:Nat)<=lim:=cI (by omega)
 have l3:(3:Nat)<=lim:=cI (by omega)
 generalize hw:PG.mix ns 0%5=w
 have hw5:0<=w /\ w<5:=by omega
 unfold ti fnP;rw[if_pos (show List.length [PV.lst (ns.map .int)]=1 from rfl),show jy 11 [PV.lst (ns.map .int)]=[some (.sh (.lst (ns.map .int))),none,none,none,none,none,none,none,none,none,none] from rfl];unfold Ey;rw[cF (ρ':=kT ns w none none none none none none none none none) (by rw[<- hw];simp[aV,bH])];unfold yT
 by_cases h1:w<2
 . obtain⟨j,hj⟩:∃ j:Nat,(j:Int)=PG.mix ns 1%3:=⟨(PG.mix ns 1%3).toNat,by omega⟩
   have hj3:j<3:=by omega
   obtain⟨y,hy⟩:∃ y,([[110,117,108,108],[116,114,117,101],[102,97,108,115,101]]:List (List Int))[j]?=some (lfb (.wd y)):=by
    match j,hj3 with
    |0,_=>exact⟨.null,rfl⟩
    |1,_=>exact⟨.tru,rfl⟩
    |2,_=>exact⟨.fal,rfl⟩
   rw[cF (ρ':=kT ns w (some (.sh (.lst ((lfb (.wd y)).map .int)))) none none none none none none none none) (by
    have hg:=AU _ j _ hy;rw[hj]at hg;simp only[List.map_cons,List.map_nil]at hg
    refine(nh (by simp[az,h1])).trans ?_
    simp -implicitDefEqProofs [aV,bH,jn,l4,l5,l3,hg])]
   refine qN ns w _ none (.wd y) trivial (.inl rfl) (by cases y<;>decide) ⟨fun _=>⟨y,rfl⟩,fun _=>h1⟩ ⟨fun z=>by omega,fun ⟨z,hz⟩=>by cases hz⟩
 . by_cases h2:w=2
   . have hm:0<=PG.mix ns 1:=(GD ns 1).1
     have hn:=jJ (PG.mix ns 1) hm
     rw[cF (ρ':=kT ns w (some (.sh (.lst ((lfb (.nm (fA (PG.mix ns 1)))).map .int)))) none none none none none none none none) (by
      refine(mR (by simp[az,h1])).trans ((nh (by simp[az,h2])).trans ?_)
      simp -implicitDefEqProofs [aV,bH,hn,wt,atP,ixP]
      rfl)]
     refine qN ns w _ none (.nm (fA (PG.mix ns 1))) (vN _) (.inl rfl) (by have:=zr (PG.mix ns 1);exact Nat.le_trans this (by omega)) ⟨fun z=>absurd z h1,fun ⟨z,hz⟩=>by cases hz⟩ ⟨fun _=>⟨_,rfl⟩,fun _=>h2⟩
   . obtain⟨m,hm⟩:∃ m:Nat,(m:Int)=1+PG.mix ns 2%3:=⟨(1+PG.mix ns 2%3).toNat,by omega⟩
     have hm3:1<=m /\ m<=3:=by omega
     generalize hl:(List.range m).map (fun k:Nat=>PG.point (PG.mix ns (3+(k:Int))))=l
     have hlp:l.all kD=true:=by rw[<- hl];simp[Az]
     have hll:l.length=m:=by rw[<- hl];simp
     have htx:=kU l (PG.mix ns 2) hlp (by omega);have hlen:=CK l (PG.mix ns 2) hlp (by omega)
     rw[cF (ρ':=kT ns w (some (.ow ((lfb (.tx (lts l (PG.mix ns 2) 0))).map .int))) (some (.sh (.lst (l.map .int)))) none none none none none none none) (by
      refine(mR (by simp[az,h1])).trans ((mR (by simp[az,h2])).trans ((cF (ρ':=kT ns w none (some (.ow (l.map .int))) none none none none none none none) ?_).trans ?_))
      . have he:dg qD [some (.sh (.lst (ns.map .int)))] (cO m) = .ok (l.map .int):=by
         unfold cO;rw[<- hl,List.map_map];exact nG (me:=qD) (ρ:=[some (.sh (.lst (ns.map .int)))]) (g:=fun k:Nat=>PV.int k) (f:=fun k:Nat=>PV.int (PG.point (PG.mix ns (3+(k:Int))))) (List.range m) (fun k _=>by simp[qD,bH,ke])
        have lm:m<=lim:=cI (by omega)
        have r1:-4611686018427387904<=(1+PG.mix ns 2%3):=by omega
        have r2:(1+PG.mix ns 2%3)<4611686018427387904:=by omega
        have e1:(1+PG.mix ns 2%3).toNat=m:=by omega
        simp -implicitDefEqProofs [aV,uj,bH,r1,r2,e1,cQ,he,noX,hll,lm]
      . simp -implicitDefEqProofs [eR,jN,aV,bH,htx,lfb])]
     refine qN ns w _ _ (.tx (lts l (PG.mix ns 2) 0)) (F6 _ _ _ hlp) (.inr rfl) (Nat.le_trans hlen (by omega)) ⟨fun z=>absurd z h1,fun ⟨z,hz⟩=>by cases hz⟩ ⟨fun z=>absurd z h2,fun ⟨z,hz⟩=>by cases hz⟩
end L2.plainglass_k10_endings_in_tokens
namespace L2.plainglass_k10_endings_in_tokens
open PySem PySem.Spec PyProof.Rows L2.E L2.P PG
def top(i:Nat):Stmt:=PySem.Challenge.pw_plainglass_k10_endings_in_tokens.main.body.getD i (.Pass ⟨0,0,0,0⟩)
abbrev uD:Stmt:=top 6
abbrev r6:List Str:=["byte"]
theorem AE:aZ ["byte"] r6 (aD uD):=eT
abbrev iA:Stmt:=top 7
abbrev gT:List Str:=["byte"]
theorem oz:aZ ["byte"] gT (aD iA):=eT
abbrev iZ:Stmt:=top 8
abbrev iz:List Str:=["byte"]
theorem oN:aZ ["byte"] iz (aD iZ):=eT
abbrev oB:Stmt:=top 30
abbrev mU:List Str:=["byte"]
theorem vP:aZ ["byte"] mU (aD oB):=eT
abbrev mv:Stmt:=top 31
abbrev lI:List Str:=["byte"]
theorem uB:aZ ["byte"] lI (aD mv):=eT
abbrev m5:Stmt:=top 32
abbrev lL:List Str:=["byte"]
theorem uC:aZ ["byte"] lL (aD m5):=eT
abbrev mK:Stmt:=top 33
abbrev lP:List Str:=["byte"]
theorem tZ:aZ ["byte"] lP (aD mK):=eT
abbrev j3:Stmt:=top 34
abbrev jr:List Str:=["byte"]
theorem qp:aZ ["byte"] jr (aD j3):=eT
abbrev rP:Stmt:=top 40
abbrev pK:List Str:=["item","byte"]
theorem zR:aZ ["item","byte"] pK (aD rP):=eT
abbrev jZ:Stmt:=top 41
abbrev jz:List Str:=["byte"]
theorem lT:aZ ["byte","rest"] jz (aD jZ):=eT
abbrev kA:Stmt:=top 42
abbrev j5:List Str:=["byte"]
theorem rq:aZ ["byte"] j5 (aD kA):=eT
abbrev gZ:Stmt:=top 43
abbrev gq:List Str:=["item","byte"]
theorem nJ:aZ ["item","byte"] gq (aD gZ):=eT
abbrev i5:Stmt:=top 44
abbrev ir:List Str:=["item","byte"]
theorem ki:aZ ["item","byte","worth"] ir (aD i5):=eT
abbrev gN:Stmt:=top 45
abbrev gp:List Str:=["byte"]
theorem jH:aZ ["byte","spans"] gp (aD gN):=eT
abbrev hE:Stmt:=top 46
abbrev gv:List Str:=["byte"]
theorem nI:aZ ["byte"] gv (aD hE):=eT
abbrev jw:Stmt:=top 47
abbrev i4:List Str:=["worth"]
theorem kP:aZ ["worth","second"] i4 (aD jw):=eT
abbrev kS:Stmt:=top 48
abbrev kq:List Str:=["item","byte"]
theorem nW:aZ ["item","byte","worth"] kq (aD kS):=eT
abbrev fU:Stmt:=top 49
abbrev fJ:List Str:=["item","byte"]
theorem lZ:aZ ["item","byte"] fJ (aD fU):=eT
abbrev gU:Stmt:=top 50
abbrev gB:List Str:=["byte"]
theorem jG:aZ ["byte","items"] gB (aD gU):=eT
abbrev fG:Stmt:=top 51
abbrev fk:List Str:=["byte"]
theorem lq:aZ ["byte"] fk (aD fG):=eT
abbrev ky:Stmt:=top 52
abbrev jY:List Str:=[]
theorem sj:aZ [] jY (aD ky):=eT
abbrev rp:Stmt:=top 55
abbrev pj:List Str:=["row"]
theorem kQ:aZ ["row","walk","at","rest","item"] pj (aD rp):=eT
abbrev ox:Stmt:=top 56
abbrev mB:List Str:=["item"]
theorem wD:aZ ["item"] mB (aD ox):=eT
abbrev oh:Stmt:=top 58
abbrev m8:List Str:=["_law_script","_law_k"]
theorem wF:aZ ["_law_script","_law_k"] m8 (aD oh):=eT
abbrev ph:Stmt:=top 59
abbrev oj:List Str:=["_law_script","_law_k"]
theorem oi:aZ ["_law_script","_law_k","_law_number_here"] oj (aD ph):=eT
abbrev mY:Stmt:=top 60
abbrev lK:List Str:=["_law_found"]
theorem uo:aZ ["_law_found"] lK (aD mY):=eT
abbrev lG:Stmt:=top 61
abbrev kB:List Str:=["_law_found"]
theorem sO:aZ ["_law_found"] kB (aD lG):=eT
abbrev mV:Stmt:=top 62
abbrev lr:List Str:=["_law_number_here"]
theorem lp:aZ ["_law_number_here","_law_kind","_law_rest"] lr (aD mV):=eT
abbrev ng:Stmt:=top 64
abbrev lR:List Str:=["_law_point_here"]
theorem gm:aZ ["_law_point_here","_law_many_here","_law_found","_law_k"] lR (aD ng):=eT
abbrev pI:Stmt:=top 65
abbrev oe:List Str:=["_law_number_here","_law_big"]
theorem gO:aZ ["_law_number_here","_law_big","_law_found","_law_k","_law_worth"] oe (aD pI):=eT
abbrev oo:Stmt:=top 66
abbrev mE:List Str:=["_law_point_here","_law_number_here"]
theorem kh:aZ ["_law_point_here","_law_number_here","_law_short","_law_way","_law_rest"] mE (aD oo):=eT
abbrev ot:Stmt:=top 67
abbrev mS:List Str:=["_law_points_here","_law_number_here"]
theorem hZ:aZ ["_law_points_here","_law_number_here","_law_found","_law_at","_law_point_here"] mS (aD ot):=eT
abbrev lj:Stmt:=top 68
abbrev kG:List Str:=["_law_number_here"]
theorem bq:aZ ["_law_number_here","_law_below","_law_figures_here","_law_row","_law_worth","_law_figure","_law_power","_law_more","_law_down"] kG (aD lj):=eT
abbrev mW:Stmt:=top 69
abbrev kW:List Str:=["_law_worth","_law_power"]
theorem lC:aZ ["_law_worth","_law_power"] kW (aD mW):=eT
abbrev jq:Stmt:=top 70
abbrev i6:List Str:=["_law_part"]
theorem aW:aZ ["_law_part","_law_at","_law_lead","_law_size_here","_law_left","_law_first","_law_figures_here","_law_big","_law_pair","_law_come","_law_wanted"] i6 (aD jq):=eT
abbrev iC:Stmt:=top 71
abbrev gW:List Str:=["_law_part"]
theorem oF:aZ ["_law_part"] gW (aD iC):=eT
abbrev vf:Stmt:=top 72
abbrev xu:List Str:=["_law_script"]
theorem fV:aZ ["_law_script","_law_way","_law_token","_law_points_here","_law_ahead","_law_behind_here","_law_at","_law_places","_law_part","_law_due","_law_found"] xu (aD vf):=eT
abbrev dA:Stmt:=inClass (top 39) 0
abbrev iV:List Str:=["self"]
theorem pO:aZ ["self"] iV (aD dA):=eT
abbrev gg:Stmt:=inClass (top 39) 1
abbrev lN:List Str:=["self","row"]
theorem lF:aZ ["self","row","at","byte"] lN (aD gg):=eT
abbrev dJ:Stmt:=inClass (top 39) 2
abbrev jm:List Str:=["self","byte"]
theorem js:aZ ["self","byte","item","items"] jm (aD dJ):=eT
abbrev dB:Stmt:=inClass (top 39) 3
abbrev iW:List Str:=["self"]
theorem pJ:aZ ["self"] iW (aD dB):=eT
set_option genInjectivity false in
set_option genSizeOf false in
structure Adr where
 iQ:Addr
 d_tails:FuncData
 cx:Addr
 d_second_of_three:FuncData
 cL:Addr
 d_second_of_four:FuncData
 gX:Addr
 d_is_white:FuncData
 dZ:Addr
 d_is_figure:FuncData
 fb:Addr
 d_hex_worth:FuncData
 eD:Addr
 d_word_rest:FuncData
 bG:Addr
 d_short_escape:FuncData
 jh:Addr
 d_behind:FuncData
 bF:Addr
 d_behind_value:FuncData
 dn:Addr
 d_behind_lead:FuncData
 aS:Addr
 d_behind_in_number:FuncData
 bC:Addr
 d_behind_in_text:FuncData
 bN:Addr
 d_behind_character:FuncData
 b5:Addr
 d_behind_backslash:FuncData
 cY:Addr
 d_behind_code_d:FuncData
 cU:Addr
 d_behind_hex:FuncData
 aX:Addr
 d_behind_in_brackets:FuncData
 bS:Addr
 d_behind_row_begin:FuncData
 bP:Addr
 d_behind_fields_begin:FuncData
 dI:Addr
 d_member_rest:FuncData
 j6:Addr
 d_ending:FuncData
 gV:Addr
 d_shortest:FuncData
 hJ:Addr
 d_law_cell:FuncData
 cp:Addr
 d_law_mix:FuncData
 gi:Addr
 d_law_whole:FuncData
 fo:Addr
 d_law_wholes:FuncData
 da:Addr
 d_law_point:FuncData
 dH:Addr
 d_law_eight:FuncData
 gn:Addr
 d_law_hex:FuncData
 gQ:Addr
 d_law_sign:FuncData
 gY:Addr
 d_law_text:FuncData
 fu:Addr
 d_law_number:FuncData
 eE:Addr
 d_law_plain:FuncData
 cX:Addr
 d_law_text_left:FuncData
 cy:Addr
 d_law_number_left:FuncData
 ti:Addr
 d_law:FuncData
 cZ:Addr
 d_Walk___init__:FuncData
 fe:Addr
 d_Walk_take:FuncData
 dv:Addr
 d_Walk_goes_on:FuncData
 b7:Addr
 d_Walk_brackets:FuncData
 C_Walk:Addr
 v_TAIL:Addr
 v_BLANK:Value
 v_QUOTE:Value
 v_PLUS:Value
 v_COMMA:Value
 v_MINUS:Value
 v_POINT:Value
 v_NOUGHT:Value
 v_NINE:Value
 v_COLON:Value
 v_BIG_E:Value
 v_ROW_BEGIN:Value
 v_BACKSLASH:Value
 v_ROW_END:Value
 v_SMALL_E:Value
 v_SMALL_U:Value
 v_FIELDS_BEGIN:Value
 v_FIELDS_END:Value
 v_WHITE:Addr
 v_WORDS:Addr
 v_SHORT_ESCAPES:Addr
 v_MOST_BRACKETS:Value
 v_LOOSE:Addr
 v_UNENDED:Addr
 v_SHORTEST:Addr
structure Txt(w:World)(K:PySem.W.Frag)(mg:Str->Option Value)(t:Adr):Prop where
 e_tails:Ent K mg "tails" uD t.iQ t.d_tails r6
 e_second_of_three:Ent K mg "second_of_three" iA t.cx t.d_second_of_three gT
 e_second_of_four:Ent K mg "second_of_four" iZ t.cL t.d_second_of_four iz
 lu:Ent K mg "is_white" oB t.gX t.d_is_white mU
 eZ:Ent K mg "is_figure" mv t.dZ t.d_is_figure lI
 hV:Ent K mg "hex_worth" m5 t.fb t.d_hex_worth lL
 e_word_rest:Ent K mg "word_rest" mK t.eD t.d_word_rest lP
 iP:Ent K mg "short_escape" j3 t.bG t.d_short_escape jr
 o1:Ent K mg "behind" rP t.jh t.d_behind pK
 eV:Ent K mg "behind_value" jZ t.bF t.d_behind_value jz
 fD:Ent K mg "behind_lead" kA t.dn t.d_behind_lead j5
 e_behind_in_number:Ent K mg "behind_in_number" gZ t.aS t.d_behind_in_number gq
 e_behind_in_text:Ent K mg "behind_in_text" i5 t.bC t.d_behind_in_text ir
 fq:Ent K mg "behind_character" gN t.bN t.d_behind_character gp
 ft:Ent K mg "behind_backslash" hE t.b5 t.d_behind_backslash gv
 gM:Ent K mg "behind_code_d" jw t.cY t.d_behind_code_d i4
 e_behind_hex:Ent K mg "behind_hex" kS t.cU t.d_behind_hex kq
 e_behind_in_brackets:Ent K mg "behind_in_brackets" fU t.aX t.d_behind_in_brackets fJ
 fi:Ent K mg "behind_row_begin" gU t.bS t.d_behind_row_begin gB
 dW:Ent K mg "behind_fields_begin" fG t.bP t.d_behind_fields_begin fk
 cR:Ent K mg "member_rest" ky t.dI t.d_member_rest jY
 o7:Ent K mg "ending" rp t.j6 t.d_ending pj
 lH:Ent K mg "shortest" ox t.gV t.d_shortest mB
 kY:Ent K mg "_law_cell" oh t.hJ t.d_law_cell m8
 bH:Ent K mg "_law_mix" ph t.cp t.d_law_mix oj
 kb:Ent K mg "_law_whole" mY t.gi t.d_law_whole lK
 jI:Ent K mg "_law_wholes" lG t.fo t.d_law_wholes kB
 ke:Ent K mg "_law_point" mV t.da t.d_law_point lr
 kg:Ent K mg "_law_eight" ng t.dH t.d_law_eight lR
 i3:Ent K mg "_law_hex" pI t.gn t.d_law_hex oe
 lQ:Ent K mg "_law_sign" oo t.gQ t.d_law_sign mE
 kU:Ent K mg "_law_text" ot t.gY t.d_law_text mS
 jJ:Ent K mg "_law_number" lj t.fu t.d_law_number kG
 e_law_plain:Ent K mg "_law_plain" mW t.eE t.d_law_plain kW
 e_law_text_left:Ent K mg "_law_text_left" jq t.cX t.d_law_text_left i6
 e_law_number_left:Ent K mg "_law_number_left" iC t.cy t.d_law_number_left gW
 Cb:Ent K mg "law" vf t.ti t.d_law xu
 F_Walk___init__:Fun K "__init__" "Walk.__init__" dA t.cZ t.d_Walk___init__
 b_Walk___init__:Binds K t.d_Walk___init__ iV []
 F_Walk_take:Fun K "take" "Walk.take" gg t.fe t.d_Walk_take
 h_Walk_take:Meth K t.C_Walk "take" t.fe
 b_Walk_take:Binds K t.d_Walk_take lN []
 F_Walk_goes_on:Fun K "goes_on" "Walk.goes_on" dJ t.dv t.d_Walk_goes_on
 h_Walk_goes_on:Meth K t.C_Walk "goes_on" t.dv
 b_Walk_goes_on:Binds K t.d_Walk_goes_on jm []
 F_Walk_brackets:Fun K "brackets" "Walk.brackets" dB t.b7 t.d_Walk_brackets
 h_Walk_brackets:Meth K t.C_Walk "brackets" t.b7
 b_Walk_brackets:Binds K t.d_Walk_brackets iW []
 n_isinstance:mg "isinstance" = none
 n_tuple:mg "tuple" = none
 n_len:mg "len" = none
 n_int:mg "int" = none
 n_bool:mg "bool" = none
 n_list:mg "list" = none
 n_all:mg "all" = none
 n_range:mg "range" = none
 n_str:mg "str" = none
 n_ord:mg "ord" = none
 n_enumerate:mg "enumerate" = none
 m_Walk:mg "Walk" = some (.ref t.C_Walk)
 c_Walk:Cls K t.C_Walk
 k_Walk:Mk K t.C_Walk t.cZ
 na_Walk_coming:kF K t.C_Walk "coming"
 m_TAIL:mg "TAIL" = some (.ref t.v_TAIL)
 r_TAIL:RelV (.ref t.v_TAIL) (.ref t.v_TAIL)
 q_TAIL:∀ H,SqT K H t.v_TAIL [.int 128,.int 191]
 m_BLANK:mg "BLANK" = some t.v_BLANK
 r_BLANK:RelV (.int 32) t.v_BLANK
 m_QUOTE:mg "QUOTE" = some t.v_QUOTE
 r_QUOTE:RelV (.int 34) t.v_QUOTE
 m_PLUS:mg "PLUS" = some t.v_PLUS
 r_PLUS:RelV (.int 43) t.v_PLUS
 m_COMMA:mg "COMMA" = some t.v_COMMA
 r_COMMA:RelV (.int 44) t.v_COMMA
 m_MINUS:mg "MINUS" = some t.v_MINUS
 r_MINUS:RelV (.int 45) t.v_MINUS
 m_POINT:mg "POINT" = some t.v_POINT
 r_POINT:RelV (.int 46) t.v_POINT
 m_NOUGHT:mg "NOUGHT" = some t.v_NOUGHT
 r_NOUGHT:RelV (.int 48) t.v_NOUGHT
 m_NINE:mg "NINE" = some t.v_NINE
 r_NINE:RelV (.int 57) t.v_NINE
 m_COLON:mg "COLON" = some t.v_COLON
 r_COLON:RelV (.int 58) t.v_COLON
 m_BIG_E:mg "BIG_E" = some t.v_BIG_E
 r_BIG_E:RelV (.int 69) t.v_BIG_E
 m_ROW_BEGIN:mg "ROW_BEGIN" = some t.v_ROW_BEGIN
 r_ROW_BEGIN:RelV (.int 91) t.v_ROW_BEGIN
 m_BACKSLASH:mg "BACKSLASH" = some t.v_BACKSLASH
 r_BACKSLASH:RelV (.int 92) t.v_BACKSLASH
 m_ROW_END:mg "ROW_END" = some t.v_ROW_END
 r_ROW_END:RelV (.int 93) t.v_ROW_END
 m_SMALL_E:mg "SMALL_E" = some t.v_SMALL_E
 r_SMALL_E:RelV (.int 101) t.v_SMALL_E
 m_SMALL_U:mg "SMALL_U" = some t.v_SMALL_U
 r_SMALL_U:RelV (.int 117) t.v_SMALL_U
 m_FIELDS_BEGIN:mg "FIELDS_BEGIN" = some t.v_FIELDS_BEGIN
 r_FIELDS_BEGIN:RelV (.int 123) t.v_FIELDS_BEGIN
 m_FIELDS_END:mg "FIELDS_END" = some t.v_FIELDS_END
 r_FIELDS_END:RelV (.int 125) t.v_FIELDS_END
 m_WHITE:mg "WHITE" = some (.ref t.v_WHITE)
 r_WHITE:RelV (.ref t.v_WHITE) (.ref t.v_WHITE)
 q_WHITE:∀ H,SqT K H t.v_WHITE [.int 9,.int 10,.int 13,.int 32]
 m_WORDS:mg "WORDS" = some (.ref t.v_WORDS)
 r_WORDS:RelV (.ref t.v_WORDS) (.ref t.v_WORDS)
 q_WORDS:DKP K t.v_WORDS [(110,.tup ([117,108,108].map .int)),(116,.tup ([114,117,101].map .int)),(102,.tup ([97,108,115,101].map .int))]
 m_SHORT_ESCAPES:mg "SHORT_ESCAPES" = some (.ref t.v_SHORT_ESCAPES)
 r_SHORT_ESCAPES:RelV (.ref t.v_SHORT_ESCAPES) (.ref t.v_SHORT_ESCAPES)
 q_SHORT_ESCAPES:DKP K t.v_SHORT_ESCAPES [(34,.int 34),(92,.int 92),(47,.int 47),(98,.int 8),(102,.int 12),(110,.int 10),(114,.int 13),(116,.int 9)]
 m_MOST_BRACKETS:mg "MOST_BRACKETS" = some t.v_MOST_BRACKETS
 r_MOST_BRACKETS:RelV (.int 64) t.v_MOST_BRACKETS
 m_LOOSE:mg "LOOSE" = some (.ref t.v_LOOSE)
 r_LOOSE:RelV (.ref t.v_LOOSE) (.ref t.v_LOOSE)
 q_LOOSE:∀ H,SqT K H t.v_LOOSE [.str "white",.str "figures",.str "fraction",.str "exponent",.str "sign"]
 m_UNENDED:mg "UNENDED" = some (.ref t.v_UNENDED)
 r_UNENDED:RelV (.ref t.v_UNENDED) (.ref t.v_UNENDED)
 q_UNENDED:∀ H,SqT K H t.v_UNENDED [.str "row",.str "more row",.str "fields",.str "more fields"]
 m_SHORTEST:mg "SHORTEST" = some (.ref t.v_SHORTEST)
 r_SHORTEST:RelV (.ref t.v_SHORTEST) (.ref t.v_SHORTEST)
 q_SHORTEST:DTP w K t.v_SHORTEST [("value",.tup ([48].map .int)),("lead",.tup ([48].map .int)),("text",.tup ([34].map .int)),("name",.tup ([34,34].map .int)),("escape",.tup ([34].map .int)),("code",.tup ([48,48,48,48].map .int)),("code d",.tup ([48,48,48].map .int)),("hex",.tup ([48].map .int)),("hex d",.tup ([68].map .int)),("hex c to f",.tup ([67].map .int)),("row",.tup ([93].map .int)),("more row",.tup ([93].map .int)),("fields",.tup ([125].map .int)),("more fields",.tup ([125].map .int))]
noncomputable def cB(t:Adr)(c:String):Option Addr:=if c = "Walk" then some t.C_Walk else none
theorem ik{K:PySem.W.Frag}{mg:Str->Option Value}{t:Adr}(T:Txt w K mg t):∀ c C,cB t c=some C->mi c=true->Cls K C /\ kF K C "coming":=by
 intro c C h1 h2;unfold cB at h1;unfold mi at h2
 by_cases e:c = "Walk"
 . subst e;simp at h1;subst h1;exact⟨T.c_Walk,T.na_Walk_coming⟩
 rw[if_neg e]at h1;cases h1
section
variable{P:Program}{w:World}{K:PySem.W.Frag}{mg:Str->Option Value}{base:Heap}{t:Adr}
theorem pL(T:Txt w K mg t):cw P w K mg base (CXE P w) 1 t.cZ t.d_Walk___init__ iV (spI K (cB t) cZ):=
 yM T.F_Walk___init__ pO fun _ _ _ _ _ _ hr=>⟨_,(av (GJ (qv 0) (aI (aa aL (aa aL (aa aL au)))))),
  (Dg jE (HZ (aJ (ae aM (ae aM (ae aM aw))))) (ik T))⟩
theorem uh(T:Txt w K mg t):cw P w K mg base (CXE P w) 1 t.eD t.d_word_rest lP (spP K (cB t) eD):=
 fF T.e_word_rest.F tZ fun _ _ _ _ _ _ hr=>⟨_,(av (aA (wq (aY rfl T.m_WORDS T.r_WORDS) (qv 0)))),
  (aB (vG T.q_WORDS ag))⟩
theorem kZ(T:Txt w K mg t):cw P w K mg base (CXE P w) 1 t.dZ t.d_is_figure lI (spP K (cB t) dZ):=
 fF T.eZ.F uB fun _ _ _ _ _ _ hr=>⟨_,(av (aA (AJ kH kH (aY rfl T.m_NOUGHT T.r_NOUGHT) (qv 0) (aY rfl T.m_NINE T.r_NINE)))),
  (aB (ji kL kL af ag af))⟩
theorem m9(T:Txt w K mg t):cw P w K mg base (CXE P w) 2 t.dn t.d_behind_lead j5 (spP K (cB t) dn):=
 fF T.fD.F rq fun _ _ _ _ _ _ hr=>⟨_,(ak (aT (bQ bL (qv 0) (aY rfl T.m_NOUGHT T.r_NOUGHT)) (av (aA (aI (aa aL (aa aL au))))) aF)
   (ak (aT (dk (qx (kZ T) T.eZ hr aQ (aa (qv 0) au)) (fun _=>rfl)) (av (aA (aI (aa aL (aa aL (aa aL au)))))) aF)
   (av (aA de)))),
  (ax (aU (ay (aq bK ag af)) (aB (aJ (ae aM (ae aM aw)))) aG)
    (ax (aU (dD (aP (ae ag aw))) (aB (aJ (ae aM (ae aM (ae aM aw))))) aG)
    (aB df)))⟩
theorem lW(T:Txt w K mg t):cw P w K mg base (CXE P w) 3 t.bF t.d_behind_value jz (spP K (cB t) bF):=
 fF T.eV.F lT fun _ _ _ _ _ _ hr=>⟨_,(ak (aT (bQ bL (qv 0) (aY rfl T.m_ROW_BEGIN T.r_ROW_BEGIN)) (av (aA (aI (aa aL (aa aL au))))) aF)
   (ak (aT (bQ bL (qv 0) (aY rfl T.m_FIELDS_BEGIN T.r_FIELDS_BEGIN)) (av (aA (aI (aa aL (aa aL au))))) aF)
   (ak (aT (bQ bL (qv 0) (aY rfl T.m_QUOTE T.r_QUOTE)) (av (aA (aI (aa aL au)))) aF)
   (ak (aT (bQ bL (qv 0) (aY rfl T.m_MINUS T.r_MINUS)) (av (aA (aI (aa aL au)))) aF)
   (ak (qz 1 lT.nd (qx (uh T) T.e_word_rest hr aQ (aa (qv 0) au)))
   (ak (aT (bQ yB (qv 1) de) (av (aA (qu (M:=[]) (ι:=[]) (x:="sign") ⟨rfl,rfl,rfl,rfl,rfl,rfl,rfl,rfl,rfl,rfl,rfl,by decide +kernel⟩ rfl (Gx (qv 1)) fun _ _ _ _=>(dG (aa (qv 0) (aa (qv 0) au)))))) aF)
   (av (aA (qx (m9 T) T.fD hr aQ (aa (qv 0) au)))))))))),
  (ax (aU (ay (aq bK ag af)) (aB (aJ (ae aM (ae aM aw)))) aG)
    (ax (aU (ay (aq bK ag af)) (aB (aJ (ae aM (ae aM aw)))) aG)
    (ax (aU (ay (aq bK ag af)) (aB (aJ (ae aM aw))) aG)
    (ax (aU (ay (aq bK ag af)) (aB (aJ (ae aM aw))) aG)
    (ax (aO (aP (ae ag aw)))
    (ax (aU (ay (aq yw ag df)) (aB (Cg (by decide) ag (dF (ae ag (ae ag aw))))) aG)
    (aB (aP (ae ag aw)))))))))⟩
theorem nK(T:Txt w K mg t):cw P w K mg base (CXE P w) 3 t.aS t.d_behind_in_number gq (spP K (cB t) aS):=
 fF T.e_behind_in_number.F nJ fun _ _ _ _ _ _ hr=>⟨_,(ak (aT (bQ bL (qv 0) aL) (av (aA (qx (m9 T) T.fD hr aQ (aa (qv 1) au)))) aF)
   (ak (aT (bQ bL (qv 0) aL) (av (aA (dh (by exact(dk (qx (kZ T) T.eZ hr aQ (aa (qv 1) au)) (fun _=>rfl))) (aI (aa aL au)) de))) aF)
   (ak (aT (bQ bL (qv 0) aL) (av (aA (dh (by exact(bQ bL (qv 1) (aY rfl T.m_POINT T.r_POINT))) (aI (aa (dG (aa (aY rfl T.m_NOUGHT T.r_NOUGHT) (aa (aY rfl T.m_NINE T.r_NINE) au))) (aa aL au))) de))) aF)
   (ak (aT (bQ bL (qv 0) aL) (av (aA (dh (by exact(iN kE (qv 1) (dG (aa (aY rfl T.m_SMALL_E T.r_SMALL_E) (aa (aY rfl T.m_BIG_E T.r_BIG_E) au))) rfl)) (aI (aa aL (aa (dG (aa (aY rfl T.m_NOUGHT T.r_NOUGHT) (aa (aY rfl T.m_NINE T.r_NINE) au))) (aa aL au)))) de))) aF)
   (av (aA (dh (by exact(iN kE (qv 1) (dG (aa (aY rfl T.m_PLUS T.r_PLUS) (aa (aY rfl T.m_MINUS T.r_MINUS) au))) rfl)) (aI au) de))))))),
  (ax (aU (ay (aq bK ag aM)) (aB (aP (ae ag aw))) aG)
    (ax (aU (ay (aq bK ag aM)) (aB (iU (dD (aP (ae ag aw))) (aJ (ae aM aw)) df)) aG)
    (ax (aU (ay (aq bK ag aM)) (aB (iU (ay (aq bK ag af)) (aJ (ae (dF (ae af (ae af aw))) (ae aM aw))) df)) aG)
    (ax (aU (ay (aq bK ag aM)) (aB (iU (ay (aq (nT hr.units) ag (dF (ae af (ae af aw))))) (aJ (ae aM (ae (dF (ae af (ae af aw))) (ae aM aw)))) df)) aG)
    (aB (iU (ay (aq (nT hr.units) ag (dF (ae af (ae af aw))))) (aJ aw) df))))))⟩
theorem o9(T:Txt w K mg t):cw P w K mg base (CXE P w) 2 t.fb t.d_hex_worth lL (spP K (cB t) fb):=
 fF T.hV.F uC fun _ _ _ _ _ _ hr=>⟨_,(ak (aT (dk (qx (kZ T) T.eZ hr aQ (aa (qv 0) au)) (fun _=>rfl)) (av (aA (aC jD (qv 0) (aY rfl T.m_NOUGHT T.r_NOUGHT)))) aF)
   (ak (aT (jW kH kH ai (qv 0) ai) (av (aA (aC jD (qv 0) ai))) aF)
   (ak (aT (jW kH kH ai (qv 0) ai) (av (aA (aC jD (qv 0) ai))) aF)
   (av (aA de))))),
  (ax (aU (dD (aP (ae ag aw))) (aB (aq jC ag af)) aG)
    (ax (aU (ay (ji kL kL af ag af)) (aB (aq jC ag af)) aG)
    (ax (aU (ay (ji kL kL af ag af)) (aB (aq jC ag af)) aG)
    (aB df))))⟩
theorem pH(T:Txt w K mg t):cw P w K mg base (CXE P w) 1 t.cY t.d_behind_code_d i4 (spP K (cB t) cY):=
 fF T.gM.F kP fun _ _ _ _ _ _ hr=>⟨_,(ak (aT (bQ il (qv 0) ai) (av (aA (aI (aa aL (aa aL au))))) aF)
   (ak (aT (bQ il (qv 0) ai) (ak (qz 1 kP.nd (aI (aa (dG (aa (aY rfl T.m_BACKSLASH T.r_BACKSLASH) (aa (aY rfl T.m_BACKSLASH T.r_BACKSLASH) au))) (aa (dG (aa (aY rfl T.m_SMALL_U T.r_SMALL_U) (aa (aY rfl T.m_SMALL_U T.r_SMALL_U) au))) (aa aL (aa aL (aa aL (aa aL au))))))))
   (av (aA (aC cW (aI (aa aL (aa aL au))) (qv 1))))) aF)
   (av (aA de)))),
  (ax (aU (ay (aq iH ag af)) (aB (aJ (ae aM (ae aM aw)))) aG)
    (ax (aU (ay (aq iH ag af)) (ax (aO (aJ (ae (dF (ae af (ae af aw))) (ae (dF (ae af (ae af aw))) (ae aM (ae aM (ae aM (ae aM aw))))))))
    (aB (aq dR (aJ (ae aM (ae aM aw))) ag))) aG)
    (aB df)))⟩
theorem oA(T:Txt w K mg t):cw P w K mg base (CXE P w) 1 t.cx t.d_second_of_three gT (spP K (cB t) cx):=
 fF T.e_second_of_three.F oz fun _ _ _ _ _ _ hr=>⟨_,(ak (aT (bQ bL (qv 0) ai) (av (aA (dG (aa ai (aa ai au))))) aF)
   (ak (aT (bQ bL (qv 0) ai) (av (aA (dG (aa ai (aa ai au))))) aF)
   (av (aA (aY rfl T.m_TAIL T.r_TAIL))))),
  (ax (aU (ay (aq bK ag af)) (aB (dF (ae af (ae af aw)))) aG)
    (ax (aU (ay (aq bK ag af)) (aB (dF (ae af (ae af aw)))) aG)
    (aB (lA T.q_TAIL))))⟩
theorem oO(T:Txt w K mg t):cw P w K mg base (CXE P w) 1 t.cL t.d_second_of_four iz (spP K (cB t) cL):=
 fF T.e_second_of_four.F oN fun _ _ _ _ _ _ hr=>⟨_,(ak (aT (bQ bL (qv 0) ai) (av (aA (dG (aa ai (aa ai au))))) aF)
   (ak (aT (bQ bL (qv 0) ai) (av (aA (dG (aa ai (aa ai au))))) aF)
   (av (aA (aY rfl T.m_TAIL T.r_TAIL))))),
  (ax (aU (ay (aq bK ag af)) (aB (dF (ae af (ae af aw)))) aG)
    (ax (aU (ay (aq bK ag af)) (aB (dF (ae af (ae af aw)))) aG)
    (aB (lA T.q_TAIL))))⟩
theorem BM(T:Txt w K mg t):cw P w K mg base (CXE P w) 2 t.iQ t.d_tails r6 (spP K (cB t) iQ):=
 fF T.e_tails.F AE fun _ _ _ _ _ _ hr=>⟨_,(ak (aT (jW kH il ai (qv 0) ai) (av (aA (aI au))) aF)
   (ak (aT (jW kH il ai (qv 0) ai) (av (aA (aI (aa (aY rfl T.m_TAIL T.r_TAIL) au)))) aF)
   (ak (aT (jW kH il ai (qv 0) ai) (av (aA (aI (aa (qx (oA T) T.e_second_of_three hr aQ (aa (qv 0) au)) (aa (aY rfl T.m_TAIL T.r_TAIL) au))))) aF)
   (ak (aT (jW kH il ai (qv 0) ai) (av (aA (aI (aa (qx (oO T) T.e_second_of_four hr aQ (aa (qv 0) au)) (aa (aY rfl T.m_TAIL T.r_TAIL) (aa (aY rfl T.m_TAIL T.r_TAIL) au)))))) aF)
   (av (aA de)))))),
  (ax (aU (ay (ji kL iH af ag af)) (aB (aJ aw)) aG)
    (ax (aU (ay (ji kL iH af ag af)) (aB (aJ (ae (lA T.q_TAIL) aw))) aG)
    (ax (aU (ay (ji kL iH af ag af)) (aB (aJ (ae (aP (ae ag aw)) (ae (lA T.q_TAIL) aw)))) aG)
    (ax (aU (ay (ji kL iH af ag af)) (aB (aJ (ae (aP (ae ag aw)) (ae (lA T.q_TAIL) (ae (lA T.q_TAIL) aw))))) aG)
    (aB df)))))⟩
theorem nL(T:Txt w K mg t):cw P w K mg base (CXE P w) 3 t.bN t.d_behind_character gp (spP K (cB t) bN):=
 fF T.fq.F jH fun _ _ _ _ _ _ hr=>⟨_,(ak (aT (bQ bL (qv 0) (aY rfl T.m_QUOTE T.r_QUOTE)) (av (aA (aI au))) aF)
   (ak (aT (bQ bL (qv 0) (aY rfl T.m_BACKSLASH T.r_BACKSLASH)) (av (aA (aI (aa aL (aa aL au))))) aF)
   (ak (qz 1 jH.nd (qx (BM T) T.e_tails hr aQ (aa (qv 0) au)))
   (ak (aT (vZ (Ik (bQ il (qv 0) (aY rfl T.m_BLANK T.r_BLANK)) (Gw (bQ rh (qv 1) de)))) (av (aA de)) aF)
   (av (aA (aC cW (qv 1) (aI (aa aL au))))))))),
  (ax (aU (ay (aq bK ag af)) (aB (aJ aw)) aG)
    (ax (aU (ay (aq bK ag af)) (aB (aJ (ae aM (ae aM aw)))) aG)
    (ax (aO (aP (ae ag aw)))
    (ax (aU (Hk (ay (aq iH ag af)) (ay (aq sm ag df))) (aB df) aG)
    (aB (aq dR ag (aJ (ae aM aw))))))))⟩
theorem qg(T:Txt w K mg t):cw P w K mg base (CXE P w) 1 t.bG t.d_short_escape jr (spP K (cB t) bG):=
 fF T.iP.F qp fun _ _ _ _ _ _ hr=>⟨_,(av (aA (wq (aY rfl T.m_SHORT_ESCAPES T.r_SHORT_ESCAPES) (qv 0)))),
  (aB (vG T.q_SHORT_ESCAPES ag))⟩
theorem nN(T:Txt w K mg t):cw P w K mg base (CXE P w) 2 t.b5 t.d_behind_backslash gv (spP K (cB t) b5):=
 fF T.ft.F nI fun _ _ _ _ _ _ hr=>⟨_,(ak (aT (bQ bL (qv 0) (aY rfl T.m_SMALL_U T.r_SMALL_U)) (av (aA (aI (aa aL au)))) aF)
   (av (aA (dh (by exact(bQ rh (qx (qg T) T.iP hr aQ (aa (qv 0) au)) de)) de (aI au))))),
  (ax (aU (ay (aq bK ag af)) (aB (aJ (ae aM aw))) aG)
    (aB (iU (ay (aq sm (aP (ae ag aw)) df)) df (aJ aw))))⟩
theorem oU(T:Txt w K mg t):cw P w K mg base (CXE P w) 4 t.bC t.d_behind_in_text ir (spP K (cB t) bC):=
 fF T.e_behind_in_text.F ki fun _ _ _ _ _ _ hr=>⟨_,(ak (aT (bQ bL (qv 0) aL) (av (aA (qx (nL T) T.fq hr aQ (aa (qv 1) au)))) aF)
   (ak (aT (bQ bL (qv 0) aL) (av (aA (qx (nN T) T.ft hr aQ (aa (qv 1) au)))) aF)
   (ak (qz 2 ki.nd (qx (o9 T) T.hV hr aQ (aa (qv 1) au)))
   (ak (aT (bQ rh (qv 2) de) (av (aA de)) aF)
   (ak (aT (bQ bL (qv 0) aL) (av (aA (dh (by exact(bQ bL (qv 2) ai)) (aI (aa aL au)) (aI (aa aL (aa aL (aa aL au))))))) aF)
   (av (aA (qx (pH T) T.gM hr aQ (aa (qv 2) au))))))))),
  (ax (aU (ay (aq bK ag aM)) (aB (aP (ae ag aw))) aG)
    (ax (aU (ay (aq bK ag aM)) (aB (aP (ae ag aw))) aG)
    (ax (aO (aP (ae ag aw)))
    (ax (aU (ay (aq sm ag df)) (aB df) aG)
    (ax (aU (ay (aq bK ag aM)) (aB (iU (ay (aq bK ag af)) (aJ (ae aM aw)) (aJ (ae aM (ae aM (ae aM aw)))))) aG)
    (aB (aP (ae ag aw))))))))⟩
theorem sG(T:Txt w K mg t):cw P w K mg base (CXE P w) 3 t.cU t.d_behind_hex kq (spP K (cB t) cU):=
 fF T.e_behind_hex.F nW fun _ _ _ _ _ _ hr=>⟨_,(ak (qz 2 nW.nd (qx (o9 T) T.hV hr aQ (aa (qv 1) au)))
   (ak (aT (bQ rh (qv 2) de) (av (aA de)) aF)
   (ak (aT (bQ bL (qv 0) aL) (av (aA (dh (by exact(bQ bL (qv 2) ai)) (aI au) de))) aF)
   (ak (aT (bQ bL (qv 0) aL) (av (aA (dh (by exact(bQ qJ (qv 2) ai)) (aI au) de))) aF)
   (av (aA (aI au))))))),
  (ax (aO (aP (ae ag aw)))
    (ax (aU (ay (aq sm ag df)) (aB df) aG)
    (ax (aU (ay (aq bK ag aM)) (aB (iU (ay (aq bK ag af)) (aJ aw) df)) aG)
    (ax (aU (ay (aq bK ag aM)) (aB (iU (ay (aq qZ ag af)) (aJ aw) df)) aG)
    (aB (aJ aw))))))⟩
theorem nO(T:Txt w K mg t):cw P w K mg base (CXE P w) 4 t.bS t.d_behind_row_begin gB (spP K (cB t) bS):=
 fF T.fi.F jG fun _ _ _ _ _ _ hr=>⟨_,(ak (aT (bQ bL (qv 0) (aY rfl T.m_ROW_END T.r_ROW_END)) (av (aA (aI au))) aF)
   (ak (qz 1 jG.nd (qx (lW T) T.eV hr aQ (aa (qv 0) au)))
   (av (aA (dh (by exact(bQ rh (qv 1) de)) de (aC cW (qv 1) (aI (aa aL (aa aL au))))))))),
  (ax (aU (ay (aq bK ag af)) (aB (aJ aw)) aG)
    (ax (aO (aP (ae ag aw)))
    (aB (iU (ay (aq sm ag df)) df (aq dR ag (aJ (ae aM (ae aM aw))))))))⟩
theorem mP(T:Txt w K mg t):cw P w K mg base (CXE P w) 1 t.dI t.d_member_rest jY (spP K (cB t) dI):=
 fF T.cR.F sj fun _ _ _ _ _ _ hr=>⟨_,(av (aA (aI (aa aL (aa (dG (aa (aY rfl T.m_COLON T.r_COLON) (aa (aY rfl T.m_COLON T.r_COLON) au))) (aa aL (aa aL (aa aL (aa aL au))))))))),
  (aB (aJ (ae aM (ae (dF (ae af (ae af aw))) (ae aM (ae aM (ae aM (ae aM aw))))))))⟩
theorem lg(T:Txt w K mg t):cw P w K mg base (CXE P w) 2 t.bP t.d_behind_fields_begin fk (spP K (cB t) bP):=
 fF T.dW.F lq fun _ _ _ _ _ _ hr=>⟨_,(ak (aT (bQ bL (qv 0) (aY rfl T.m_FIELDS_END T.r_FIELDS_END)) (av (aA (aI au))) aF)
   (av (aA (dh (by exact(bQ bL (qv 0) (aY rfl T.m_QUOTE T.r_QUOTE))) (aC cW (aI (aa aL au)) (sX ((mP T).mono (by decide)) hr rfl T.cR.m T.cR.F.kp T.cR.b aQ)) de)))),
  (ax (aU (ay (aq bK ag af)) (aB (aJ aw)) aG)
    (aB (iU (ay (aq bK ag af)) (aq dR (aJ (ae aM aw)) (aP aw)) df)))⟩
theorem mj(T:Txt w K mg t):cw P w K mg base (CXE P w) 5 t.aX t.d_behind_in_brackets fJ (spP K (cB t) aX):=
 fF T.e_behind_in_brackets.F lZ fun _ _ _ _ _ _ hr=>⟨_,(ak (aT (bQ bL (qv 0) aL) (av (aA (qx (nO T) T.fi hr aQ (aa (qv 1) au)))) aF)
   (ak (aT (bQ bL (qv 0) aL) (av (aA (qx (lg T) T.dW hr aQ (aa (qv 1) au)))) aF)
   (ak (aT (bQ bL (qv 0) aL) (ak (aT (bQ bL (qv 1) (aY rfl T.m_COMMA T.r_COMMA)) (av (aA (aI (aa aL (aa aL (aa aL (aa aL au))))))) aF)
   (av (aA (dh (by exact(bQ bL (qv 1) (aY rfl T.m_ROW_END T.r_ROW_END))) (aI au) de)))) aF)
   (ak (aT (bQ bL (qv 1) (aY rfl T.m_COMMA T.r_COMMA)) (av (aA (aC cW (aI (aa aL (aa aL au))) (sX ((mP T).mono (by decide)) hr rfl T.cR.m T.cR.F.kp T.cR.b aQ)))) aF)
   (av (aA (dh (by exact(bQ bL (qv 1) (aY rfl T.m_FIELDS_END T.r_FIELDS_END))) (aI au) de))))))),
  (ax (aU (ay (aq bK ag aM)) (aB (aP (ae ag aw))) aG)
    (ax (aU (ay (aq bK ag aM)) (aB (aP (ae ag aw))) aG)
    (ax (aU (ay (aq bK ag aM)) (ax (aU (ay (aq bK ag af)) (aB (aJ (ae aM (ae aM (ae aM (ae aM aw)))))) aG)
    (aB (iU (ay (aq bK ag af)) (aJ aw) df))) aG)
    (ax (aU (ay (aq bK ag af)) (aB (aq dR (aJ (ae aM (ae aM aw))) (aP aw))) aG)
    (aB (iU (ay (aq bK ag af)) (aJ aw) df))))))⟩
theorem vd(T:Txt w K mg t):cw P w K mg base (CXE P w) 1 t.gX t.d_is_white mU (spP K (cB t) gX):=
 fF T.lu.F vP fun _ _ _ _ _ _ hr=>⟨_,(av (aA (fg kE (qv 0) (aY rfl T.m_WHITE T.r_WHITE) rfl))),
  (aB (aq (nT hr.units) ag (lA T.q_WHITE)))⟩
theorem zD(T:Txt w K mg t):cw P w K mg base (CXE P w) 6 t.jh t.d_behind pK (spP K (cB t) jh):=
 fF T.o1.F zR fun _ _ _ _ _ _ hr=>⟨_,(ak (aT (dk (jg nc rfl T.n_isinstance L2.E.boot_isinstance (aa (qv 0) (aa (o2 (v:=.ty _) rfl T.n_tuple L2.E.boot_tuple rfl) au))) (fun _=>rfl)) (av (aA (dh (by exact(jW kH kH (qi tY (qv 0) ai) (qv 1) (qi tY (qv 0) ai))) (aI au) de))) aF)
   (ak (aT (iN kE (qv 0) (dG (aa aL (aa aL (aa aL (aa aL (aa aL au)))))) rfl) (av (aA (qx (nK T) T.e_behind_in_number hr aQ (aa (qv 0) (aa (qv 1) au))))) aF)
   (ak (aT (iN kE (qv 0) (dG (aa aL (aa aL (aa aL (aa aL au))))) rfl) (av (aA (qx (oU T) T.e_behind_in_text hr aQ (aa (qv 0) (aa (qv 1) au))))) aF)
   (ak (aT (iN kE (qv 0) (dG (aa aL (aa aL (aa aL au)))) rfl) (av (aA (qx (sG T) T.e_behind_hex hr aQ (aa (qv 0) (aa (qv 1) au))))) aF)
   (ak (aT (iN kE (qv 0) (aY rfl T.m_UNENDED T.r_UNENDED) rfl) (av (aA (qx (mj T) T.e_behind_in_brackets hr aQ (aa (qv 0) (aa (qv 1) au))))) aF)
   (ak (aT (bQ bL (qv 0) aL) (av (aA (dh (by exact(dk (qx (vd T) T.lu hr aQ (aa (qv 1) au)) (fun _=>rfl))) (aI (aa aL au)) de))) aF)
   (ak (aT (bQ bL (qv 0) aL) (av (aA (dh (by exact(bQ bL (qv 1) (aY rfl T.m_QUOTE T.r_QUOTE))) (aI (aa aL au)) de))) aF)
   (av (aA (qx (lW T) T.eV hr aQ (aa (qv 1) au))))))))))),
  (ax (aU (dD (qI ag)) (aB (iU (ay (ji kL kL (aq uQ ag af) ag (aq uQ ag af))) (aJ aw) df)) aG)
    (ax (aU (ay (aq (nT hr.units) ag (dF (ae aM (ae aM (ae aM (ae aM (ae aM aw)))))))) (aB (aP (ae ag (ae ag aw)))) aG)
    (ax (aU (ay (aq (nT hr.units) ag (dF (ae aM (ae aM (ae aM (ae aM aw))))))) (aB (aP (ae ag (ae ag aw)))) aG)
    (ax (aU (ay (aq (nT hr.units) ag (dF (ae aM (ae aM (ae aM aw)))))) (aB (aP (ae ag (ae ag aw)))) aG)
    (ax (aU (ay (aq (nT hr.units) ag (vb fun S=>by unfold Rep;exact⟨_,_,rfl,T.q_UNENDED S,(.cons (by unfold Rep;rfl) (.cons (by unfold Rep;rfl) (.cons (by unfold Rep;rfl) (.cons (by unfold Rep;rfl) .nil))))⟩))) (aB (aP (ae ag (ae ag aw)))) aG)
    (ax (aU (ay (aq bK ag aM)) (aB (iU (dD (aP (ae ag aw))) (aJ (ae aM aw)) df)) aG)
    (ax (aU (ay (aq bK ag aM)) (aB (iU (ay (aq bK ag af)) (aJ (ae aM aw)) df)) aG)
    (aB (aP (ae ag aw))))))))))⟩
theorem pG(T:Txt w K mg t):cw P w K mg base (CXE P w) 1 t.b7 t.d_Walk_brackets iW (spI K (cB t) b7):=
 yM T.F_Walk_brackets pJ fun _ _ _ _ _ _ hr=>⟨_,(av (aA (kR T.n_len (zB (M:=[]) (ι:=[]) (x:="item") ⟨rfl,rfl,rfl,rfl,rfl,rfl,rfl,rfl,rfl,rfl,rfl,by decide +kernel⟩ rfl (lJ (rO (qv 0))) (fun _ _ _ _=>(iN kE (qv 0) (aY rfl T.m_UNENDED T.r_UNENDED) rfl)) fun _ _ _ _=>(qv 0))))),
  (aB (cP eY (wN (by decide) (yu (wA jE (ik T))) (ay (aq (nT hr.units) ag (vb fun S=>by unfold Rep;exact⟨_,_,rfl,T.q_UNENDED S,(.cons (by unfold Rep;rfl) (.cons (by unfold Rep;rfl) (.cons (by unfold Rep;rfl) (.cons (by unfold Rep;rfl) .nil))))⟩))) ag)))⟩
theorem qh(T:Txt w K mg t):cw P w K mg base (CXE P w) 7 t.dv t.d_Walk_goes_on jm (spI K (cB t) dv):=
 yM T.F_Walk_goes_on js fun _ _ _ _ _ _ hr=>⟨_,(ak (qG i8 (dk (rO (qv 0)) (fun _=>rfl)) (ak (qz 2 js.nd (FJ PySem.F.plainAttrs_list PySem.F.slot_list_pop PySem.F.type_list_pop ET (rO (qv 0))))
   (ak (qz 3 js.nd (qx (zD T) T.o1 hr aQ (aa (qv 2) (aa (qv 1) au))))
   (ak (aT (bQ yB (qv 3) de) (ak (qex xl (rO (qv 0)) (B4 (qv 3) (vH rF ai)))
   (av (aA (fg kH (zf (qv 0) T.c_Walk T.h_Walk_brackets ((pG T).mono (by decide)) hr T.b_Walk_brackets aQ) (aY rfl T.m_MOST_BRACKETS T.r_MOST_BRACKETS) (iX _))))) aF)
   (av (aT (iN Ai (qv 2) (aY rfl T.m_LOOSE T.r_LOOSE) rfl) (av (aA D4)) aF))))))
   (av (aA D4))),
  (ax (qL (zi (wA jE (ik T))) (ax (ym (C3 (wA jE (ik T))))
    (ax (aO (aP (ae ag (ae ag aw))))
    (ax (aU (ay (aq yw ag df)) (ax (xp (wA jE (ik T)) (BQ ag (vw so af)))
    (aB (aq kL (Bx rfl rfl (Iu jE) tX) af))) aG)
    (aU (ay (aq (Aw hr.units) ag (vb fun S=>by unfold Rep;exact⟨_,_,rfl,T.q_LOOSE S,(.cons (by unfold Rep;rfl) (.cons (by unfold Rep;rfl) (.cons (by unfold Rep;rfl) (.cons (by unfold Rep;rfl) (.cons (by unfold Rep;rfl) .nil)))))⟩))) (aB D8) aG)))))
    (aB D8))⟩
theorem uL(T:Txt w K mg t):cw P w K mg base (CXE P w) 8 t.fe t.d_Walk_take lN (spI K (cB t) fe):=
 yM T.F_Walk_take lF fun _ _ _ _ _ _ hr=>⟨_,(ak (ou i8 rfl (Cp rfl T.n_enumerate (aa (qv 1) au)) (F9 rfl (vg (kd (i:=2) lF.nd rfl (by first|exact Or.inl rfl|exact Or.inr rfl)) (vg (kd (i:=3) lF.nd rfl (by first|exact Or.inl rfl|exact Or.inr rfl)) DA))) (av (aT (wR (dk (vU (qv 0) T.c_Walk T.h_Walk_goes_on ((qh T).mono (by decide)) hr T.b_Walk_goes_on aQ (aa (qv 3) au)) (fun _=>rfl))) (av (aA (qv 2))) aF)))
   (av (aA (kR T.n_len (qv 1))))),
  (ax (C5 ag (DL (vR rfl rfl (Ek jE) (v5 (DU (W:=fun _ _ _ _=>False) ag) tX)) sY aG))
    (aB (cP eY ag)))⟩
theorem wG(T:Txt w K mg t):cw P w K mg base (CXE P w) 1 t.gV t.d_shortest mB (spP K (cB t) gV):=
 fF T.lH.F wD fun _ _ _ _ _ _ hr=>⟨_,(ak (aT (dk (jg nc rfl T.n_isinstance L2.E.boot_isinstance (aa (qv 0) (aa (o2 (v:=.ty _) rfl T.n_tuple L2.E.boot_tuple rfl) au))) (fun _=>rfl)) (av (aA (dG (aa (qi tY (qv 0) ai) au)))) aF)
   (av (aA (BU (aY rfl T.m_SHORTEST T.r_SHORTEST) (qv 0) (dG au))))),
  (ax (aU (dD (qI ag)) (aB (dF (ae (aq uQ ag af) aw))) aG)
    (aB (Ck T.q_SHORTEST ag (dF aw))))⟩
theorem zl(T:Txt w K mg t):cw P w K mg base (CXE P w) 9 t.j6 t.d_ending pj (spP K (cB t) j6):=
 fF T.o7.F kQ fun _ _ _ _ _ _ hr=>⟨_,(ak (qz 1 kQ.nd (Bt T.k_Walk (pL T) (hr.mono (by decide)) rfl T.m_Walk T.b_Walk___init__))
   (ak (qz 2 kQ.nd (vU (qv 1) T.c_Walk T.h_Walk_take ((uL T).mono (by decide)) hr T.b_Walk_take aQ (aa (qv 0) au)))
   (ak (aT (bQ il (qv 2) (kR T.n_len (qv 0))) (av DK) aF)
   (ak (qz 3 kQ.nd (aI au))
   (ak (ou i8 rfl (lJ (B4 (rO (qv 1)) (vH rF ai))) (kd (i:=4) kQ.nd rfl (by first|exact Or.inl rfl|exact Or.inr rfl)) (av (qex xf (qv 3) (qx (wG T) T.lH hr aQ (aa (qv 4) au)))))
   (av (aA (qv 3)))))))),
  (ax (uk (DD rfl))
    (ax (ym (vR rfl rfl (Ek jE) (v5 (DU (W:=fun _ _ _ _=>False) ag) tX)))
    (ax (aU (ay (aq iH ag (cP eY ag))) Dy aG)
    (ax (uk (HZ (aJ aw)))
    (ax (qr (BQ (yu (wA jE (ik T))) (vw so af)) (xw jE (aP (ae ag aw))))
    (xV (i:=3) sY))))))⟩
theorem wJ(T:Txt w K mg t):cw P w K mg base (CXE P w) 1 t.hJ t.d_law_cell m8 (spP K (cB t) hJ):=
 fF T.kY.F wF fun _ _ _ _ _ _ hr=>⟨_,(ak (aT (dk (qv 0) (fun _=>rfl)) (av (aA (qi fM (qv 0) (aC bY (qv 1) (kR T.n_len (qv 0)))))) aF)
   (av (aA ai))),
  (ax (aU (dD ag) (aB (aq iJ ag (aq bZ ag (cP eY ag)))) aG)
    (aB af))⟩
theorem dP(T:Txt w K mg t):cw P w K mg base (CXE P w) 2 t.cp t.d_law_mix oj (spP K (cB t) cp):=
 fF T.bH.F oi fun _ _ _ _ _ _ hr=>⟨_,(ak (qz 2 oi.nd (aC bY (aC bJ (qx (wJ T) T.kY hr aQ (aa (qv 0) (aa (qv 1) au))) (aC qU ai (aC bJ (qv 1) ai))) ai))
   (ak (qz 2 oi.nd (aC bY (aC qU (qv 2) ai) ai))
   (av (aA (aC bY (aC bJ (aC qU (aC dX (qv 2) ai) ai) (qv 2)) ai))))),
  (ax (aO (aq bZ (aq bI (aP (ae ag (ae ag aw))) (aq rM af (aq bI ag af))) af))
    (ax (aO (aq bZ (aq rM ag af) af))
    (aB (aq bZ (aq bI (aq rM (aq dU ag af) af) ag) af))))⟩
theorem uf(T:Txt w K mg t):cw P w K mg base (CXE P w) 1 t.gi t.d_law_whole lK (spP K (cB t) gi):=
 fF T.kb.F uo fun _ _ _ _ _ _ hr=>⟨_,(av (aA (xj (jg nc rfl T.n_isinstance L2.E.boot_isinstance (aa (qv 0) (aa (o2 (v:=.ty _) rfl T.n_int L2.E.boot_int rfl) au))) (xY (Gd (jg nc rfl T.n_isinstance L2.E.boot_isinstance (aa (qv 0) (aa (o2 (v:=.ty _) rfl T.n_bool L2.E.boot_bool rfl) au)))))))),
  (aB (xo (qI ag) (GH (qI ag))))⟩
theorem sC(T:Txt w K mg t):cw P w K mg base (CXE P w) 2 t.fo t.d_law_wholes kB (spP K (cB t) fo):=
 fF T.jI.F sO fun _ _ _ _ _ _ hr=>⟨_,(av (aA (xj (jg nc rfl T.n_isinstance L2.E.boot_isinstance (aa (qv 0) (aa (o2 (v:=.ty _) rfl T.n_list L2.E.boot_list rfl) au))) (xY (jg zA rfl T.n_all L2.E.boot_all (aa (qu (M:=[]) (ι:=[]) (x:="_law_one") ⟨rfl,rfl,rfl,rfl,rfl,rfl,rfl,rfl,rfl,rfl,rfl,by decide +kernel⟩ rfl (lJ (qv 0)) fun _ _ _ _=>(qx (uf T) T.kb hr ya (aa (qv 0) au))) au)))))),
  (aB (xo (qI ag) (cP (G1 hr.hd) (vp (by decide) ag (aP (ae ag aw))))))⟩
theorem uE(T:Txt w K mg t):cw P w K mg base (CXE P w) 1 t.dH t.d_law_eight lR (spP K (cB t) dH):=
 fF T.kg.F gm fun _ _ _ _ _ _ hr=>⟨_,(ak (aT (bQ il (qv 0) ai) (av (aA (aI (aa (qv 0) au)))) aF)
   (ak (qz 1 gm.nd (aC bJ (aC bJ ai (ij kJ rfl T.n_int L2.E.boot_int (aa (fg qJ (qv 0) ai (iX _)) au))) (ij kJ rfl T.n_int L2.E.boot_int (aa (fg qJ (qv 0) ai (iX _)) au))))
   (ak (qz 2 gm.nd (aI au))
   (ak (ou i8 rfl (nA rfl T.n_range (aa (qv 1) au)) (kd (i:=3) gm.nd rfl (by first|exact Or.inl rfl|exact Or.inr rfl)) (ak (qz 2 gm.nd (aC cW (aI (aa (aC bJ ai (aC bY (qv 0) ai)) au)) (qv 2)))
   (av (qz 0 gm.nd (aC dX (qv 0) ai)))))
   (av (aA (aC cW (aI (aa (aC bJ (qi fM (aI (aa ai (aa ai (aa ai au)))) (aC jD (qv 1) ai)) (qv 0)) au)) (qv 2)))))))),
  (ax (aU (ay (aq iH ag af)) (aB (aJ (ae ag aw))) aG)
    (ax (aO (aq bI (aq bI af (cP oS (aq qZ ag af))) (cP oS (aq qZ ag af))))
    (ax (aO (aJ aw))
    (ax (yh ag (ax (aO (aq dR (aJ (ae (aq bI af (aq bZ ag af)) aw)) ag))
    (aO (aq dU ag af))))
    (aB (aq dR (aJ (ae (aq bI (aq iJ (aJ (ae af (ae af (ae af aw)))) (aq jC ag af)) ag) aw)) ag))))))⟩
theorem oa(T:Txt w K mg t):cw P w K mg base (CXE P w) 1 t.gn t.d_law_hex oe (spP K (cB t) gn):=
 fF T.i3.F gO fun _ _ _ _ _ _ hr=>⟨_,(ak (qz 2 gO.nd (aI au))
   (ak (ou i8 rfl (nA rfl T.n_range (aa ai au)) (kd (i:=3) gO.nd rfl (by first|exact Or.inl rfl|exact Or.inr rfl)) (ak (qz 4 gO.nd (aC bY (qv 0) ai))
   (ak (aT (bQ il (qv 4) ai) (av (qz 2 gO.nd (aC cW (aI (aa (aC bJ ai (qv 4)) au)) (qv 2)))) (av (qz 2 gO.nd (aC cW (aI (aa (aC bJ (dh (by exact(dk (qv 1) (fun _=>rfl))) ai ai) (qv 4)) au)) (qv 2)))))
   (av (qz 0 gO.nd (aC dX (qv 0) ai))))))
   (av (aA (aC cW (aI (aa ai (aa ai au))) (qv 2)))))),
  (ax (aO (aJ aw))
    (ax (yh af (ax (aO (aq bZ ag af))
    (ax (aU (ay (aq iH ag af)) (aO (aq dR (aJ (ae (aq bI af ag) aw)) ag)) (aO (aq dR (aJ (ae (aq bI (iU (dD ag) af af) ag) aw)) ag)))
    (aO (aq dU ag af)))))
    (aB (aq dR (aJ (ae af (ae af aw))) ag))))⟩
theorem vi(T:Txt w K mg t):cw P w K mg base (CXE P w) 2 t.gQ t.d_law_sign mE (spP K (cB t) gQ):=
 fF T.lQ.F kh fun _ _ _ _ _ _ hr=>⟨_,(ak (qz 2 kh.nd (yA (gF ai ai (gF ai ai (gF ai ai (gF ai ai (gF ai ai (gF ai ai (gF ai ai (gF ai ai yG))))))))))
   (ak (qz 3 kh.nd (aC bY (qv 1) ai))
   (ak (aT (vZ (n8 (bQ bL (qv 3) ai) (qF (F8 (Ar hr) (qv 0) (qv 2))))) (av (aA (aI (aa ai (aa (C4 (Ar hr) (qv 2) (qv 0) (fun _ _=>rfl)) au))))) aF)
   (ak (aT (vZ (n8 (bQ Ec (qv 3) ai) (n8 (bQ qJ (qv 0) ai) (n8 (bQ yZ (qv 0) ai) (qF (bQ yZ (qv 0) ai)))))) (av (aA (qx (uE T) T.kg hr aQ (aa (qv 0) au)))) aF)
   (ak (aT (bQ il (qv 0) ai) (av (aA (qx (oa T) T.i3 hr aQ (aa (qv 0) (aa (fg bL (qv 3) ai (iX _)) au))))) aF)
   (ak (qz 4 kh.nd (aC jD (qv 0) ai))
   (av (aA (aC cW (qx (oa T) T.i3 hr aQ (aa (aC bJ ai (aC dX (qv 4) ai)) (aa (fg bL (qv 3) ai (iX _)) au))) (qx (oa T) T.i3 hr aQ (aa (aC bJ ai (aC bY (qv 4) ai)) (aa (fg bL (qv 3) ai (iX _)) au)))))))))))),
  (ax (uk (GS (kvs:=[(34,34),(92,92),(47,47),(8,98),(12,102),(10,110),(13,114),(9,116)]) (by decide) (by decide)))
    (ax (aO (aq bZ ag af))
    (ax (aU (om (ay (aq bK ag af)) (ay (DN ag jE))) (aB (aJ (ae af (ae (Dc jE ag) aw)))) aG)
    (ax (aU (om (ay (aq Ew ag af)) (om (ay (aq qZ ag af)) (om (ay (aq yo ag af)) (ay (aq yo ag af))))) (aB (aP (ae ag aw))) aG)
    (ax (aU (ay (aq iH ag af)) (aB (aP (ae ag (ae (aq bK ag af) aw)))) aG)
    (ax (aO (aq jC ag af))
    (aB (aq dR (aP (ae (aq bI af (aq dU ag af)) (ae (aq bK ag af) aw))) (aP (ae (aq bI af (aq bZ ag af)) (ae (aq bK ag af) aw)))))))))))⟩
theorem wy(T:Txt w K mg t):cw P w K mg base (CXE P w) 3 t.gY t.d_law_text mS (spP K (cB t) gY):=
 fF T.kU.F hZ fun _ _ _ _ _ _ hr=>⟨_,(ak (qz 2 hZ.nd (aI (aa ai au)))
   (ak (qz 3 hZ.nd ai)
   (ak (ou i8 rfl (lJ (qv 0)) (kd (i:=4) hZ.nd rfl (by first|exact Or.inl rfl|exact Or.inr rfl)) (ak (qz 2 hZ.nd (aC cW (qv 2) (qx (vi T) T.lQ hr aQ (aa (qv 4) (aa (aC bJ (aC dX (qv 1) (aC bJ ai (aC bY (qv 3) ai))) (qv 3)) au)))))
   (av (qz 3 hZ.nd (aC bJ (qv 3) ai)))))
   (av (aA (aC cW (qv 2) (aI (aa ai au)))))))),
  (ax (aO (aJ (ae af aw)))
    (ax (aO af)
    (ax (qr ag (ax (aO (aq dR ag (aP (ae ag (ae (aq bI (aq dU ag (aq bI af (aq bZ ag af))) ag) aw)))))
    (aO (aq bI ag af))))
    (aB (aq dR ag (aJ (ae af aw)))))))⟩
theorem oG(T:Txt w K mg t):cw P w K mg base (CXE P w) 1 t.cy t.d_law_number_left gW (spP K (cB t) cy):=
 fF T.e_law_number_left.F oF fun _ _ _ _ _ _ hr=>⟨_,(ak (aT (iN kE (qi fM (qv 0) (vH rF ai)) (dG (aa ai (aa ai (aa ai (aa ai (aa ai au)))))) rfl) (av (aA (aI (aa ai au)))) aF)
   (av (aA (aI au)))),
  (ax (aU (ay (aq (nT hr.units) (aq iJ ag (vw so af)) (dF (ae af (ae af (ae af (ae af (ae af aw)))))))) (aB (aJ (ae af aw))) aG)
    (aB (aJ aw)))⟩
theorem ug(T:Txt w K mg t):cw P w K mg base (CXE P w) 1 t.eE t.d_law_plain kW (spP K (cB t) eE):=
 fF T.e_law_plain.F lC fun _ _ _ _ _ _ hr=>⟨_,(ak (aT (bQ bL (qv 0) ai) (av (aA (dG (aa ai (aa ai au))))) aF)
   (ak (qG i8 (bQ bL (aC bY (qv 0) ai) ai) (ak (qz 0 lC.nd (aC dX (qv 0) ai))
   (av (qz 1 lC.nd (aC bJ (qv 1) ai)))))
   (av (aA (dG (aa (qv 0) (aa (qv 1) au))))))),
  (ax (aU (ay (aq bK ag af)) (aB (dF (ae af (ae af aw)))) aG)
    (ax (qL (ay (aq bK (aq bZ ag af) af)) (ax (aO (aq dU ag af))
    (aO (aq bI ag af))))
    (aB (dF (ae ag (ae ag aw))))))⟩
theorem sP(T:Txt w K mg t):cw P w K mg base (CXE P w) 2 t.fu t.d_law_number kG (spP K (cB t) fu):=
 fF T.jJ.F bq fun _ _ _ _ _ _ hr=>⟨_,(ak (qz 1 bq.nd (fg bL (aC bY (qv 0) ai) ai (iX _)))
   (ak (yi (i:=2) bq.nd rfl (by first|exact Or.inl rfl|exact Or.inr rfl) (M:=[]) (ι:=[]) (x:="_law_sign_here") ⟨rfl,rfl,rfl,rfl,rfl,rfl,rfl,rfl,rfl,rfl,rfl,by decide +kernel⟩ rfl (AR (ij oJ rfl T.n_str L2.E.boot_str (aa (aC bY (aC dX (qv 0) ai) ai) au))) fun _ _ _ _=>(ij Ae rfl T.n_int L2.E.boot_int (aa (qv 0) au)))
   (ak (qz 3 bq.nd (dh (by exact(dk (qv 1) (fun _=>rfl))) (aI (aa ai au)) (aI au)))
   (ak (qz 3 bq.nd (aC cW (qv 3) (qu (M:=[]) (ι:=[]) (x:="_law_figure") ⟨rfl,rfl,rfl,rfl,rfl,rfl,rfl,rfl,rfl,rfl,rfl,by decide +kernel⟩ rfl (lJ (qv 2)) fun _ _ _ _=>(aC bJ ai (qv 0)))))
   (ak (qz 4 bq.nd ai)
   (ak (ou i8 rfl (lJ (qv 2)) (kd (i:=5) bq.nd rfl (by first|exact Or.inl rfl|exact Or.inr rfl)) (av (qz 4 bq.nd (aC bJ (aC qU (qv 4) ai) (qv 5)))))
   (ak (qz 6 bq.nd ai)
   (ak (aT (bQ bL (aC bY (aC dX (qv 0) ai) ai) ai) (ak (qap fE (qv 3) ai)
   (av (ou i8 rfl (lJ (iw jK (aI (aa (aC bY (aC dX (qv 0) ai) ai) (aa (aC bY (aC dX (qv 0) ai) ai) (aa ai au)))) nB (gL (aC bJ ai (aC bY (aC dX (qv 0) ai) ai))))) (kd (i:=5) bq.nd rfl (by first|exact Or.inl rfl|exact Or.inr rfl)) (ak (qap fE (qv 3) (aC bJ ai (qv 5)))
   (ak (qz 4 bq.nd (aC bJ (aC qU (qv 4) ai) (qv 5)))
   (av (qz 6 bq.nd (aC jD (qv 6) ai)))))))) aF)
   (ak (aT (bQ bL (aC bY (aC dX (qv 0) ai) ai) ai) (ak (qz 7 bq.nd (aC bY (aC dX (qv 0) ai) ai))
   (ak (qap fE (qv 3) (qi fM (aI (aa ai (aa ai au))) (aC bY (aC dX (qv 0) ai) ai)))
   (ak (qz 8 bq.nd (fg bL (aC bY (aC dX (qv 0) ai) ai) ai (iX _)))
   (ak (aT (dk (qv 8) (fun _=>rfl)) (av (qap fE (qv 3) ai)) (av (aT (bQ bL (aC bY (aC dX (qv 0) ai) ai) ai) (av (qap fE (qv 3) ai)) aF)))
   (ak (aT (bQ bL (aC bY (aC dX (qv 0) ai) ai) ai) (av (qap fE (qv 3) ai)) aF)
   (ak (qz 3 bq.nd (aC cW (qv 3) (qu (M:=[]) (ι:=[]) (x:="_law_sign_here") ⟨rfl,rfl,rfl,rfl,rfl,rfl,rfl,rfl,rfl,rfl,rfl,by decide +kernel⟩ rfl (AR (ij oJ rfl T.n_str L2.E.boot_str (aa (qv 7) au))) fun _ _ _ _=>(jg AO rfl T.n_ord L2.E.boot_ord (aa (qv 0) au)))))
   (av (qz 6 bq.nd (aC bJ (qv 6) (dh (by exact(dk (qv 8) (fun _=>rfl))) (vH rF (qv 7)) (qv 7))))))))))) aF)
   (ak (aT (dk (qv 1) (fun _=>rfl)) (av (qz 4 bq.nd (vH rF (qv 4)))) aF)
   (av (aA (dG (aa (qv 3) (aa (qx (ug T) T.e_law_plain hr aQ (aa (qv 4) (aa (qv 6) au))) au))))))))))))))),
  (ax (aO (aq bK (aq bZ ag af) af))
    (ax (aO (vo (by decide) (cP Cj (aq bZ (aq dU ag af) af)) (cP Cu ag)))
    (ax (aO (iU (dD ag) (aJ (ae af aw)) (aJ aw)))
    (ax (aO (aq dR ag (vp (by decide) ag (aq bI af ag))))
    (ax (aO af)
    (ax (jQ (i:=2) (qr ag (aO (aq bI (aq rM ag af) ag))))
    (ax (aO af)
    (ax (aU (ay (aq bK (aq bZ (aq dU ag af) af) af)) (ax (jP af)
    (qr (lb (aJ (ae (aq bZ (aq dU ag af) af) (ae (aq bZ (aq dU ag af) af) (ae af aw)))) nC (gK (aq bI af (aq bZ (aq dU ag af) af)))) (ax (jP (aq bI af ag))
    (ax (aO (aq bI (aq rM ag af) ag))
    (aO (aq jC ag af)))))) aG)
    (ax (aU (ay (aq bK (aq bZ (aq dU ag af) af) af)) (ax (aO (aq bZ (aq dU ag af) af))
    (ax (jP (aq iJ (aJ (ae af (ae af aw))) (aq bZ (aq dU ag af) af)))
    (ax (aO (aq bK (aq bZ (aq dU ag af) af) af))
    (ax (aU (dD ag) (jP af) (aU (ay (aq bK (aq bZ (aq dU ag af) af) af)) (jP af) aG))
    (ax (aU (ay (aq bK (aq bZ (aq dU ag af) af) af)) (jP af) aG)
    (ax (aO (aq dR ag (vo (by decide) (cP Cj ag) (cP GR ag))))
    (aO (aq bI ag (iU (dD ag) (vw so ag) ag))))))))) aG)
    (ax (aU (dD ag) (aO (vw so ag)) aG)
    (jQ (i:=3) (aB (dF (ae ag (ae (aP (ae ag (ae ag aw))) aw)))))))))))))))⟩
theorem uG(T:Txt w K mg t):cw P w K mg base (CXE P w) 1 t.da t.d_law_point lr (spP K (cB t) da):=
 fF T.ke.F lp fun _ _ _ _ _ _ hr=>⟨_,(ak (qz 1 lp.nd (aC bY (qv 0) ai))
   (ak (qz 2 lp.nd (aC dX (qv 0) ai))
   (ak (aT (bQ il (qv 1) ai) (av (aA (aC bJ ai (aC bY (qv 2) ai)))) aF)
   (ak (aT (bQ il (qv 1) ai) (av (aA (qi fM (aI (aa ai (aa ai (aa ai (aa ai (aa ai (aa ai (aa ai (aa ai (aa ai (aa ai (aa ai au)))))))))))) (aC bY (qv 2) ai)))) aF)
   (ak (aT (bQ bL (qv 1) ai) (av (aA (aC bJ ai (aC bY (qv 2) ai)))) aF)
   (ak (aT (bQ bL (qv 1) ai) (av (aA (aC bJ ai (aC bY (qv 2) ai)))) aF)
   (ak (aT (bQ bL (qv 1) ai) (av (aA (aC bJ ai (aC bY (qv 2) ai)))) aF)
   (av (aA (aC bJ ai (aC bY (qv 2) ai))))))))))),
  (ax (aO (aq bZ ag af))
    (ax (aO (aq dU ag af))
    (ax (aU (ay (aq iH ag af)) (aB (aq bI af (aq bZ ag af))) aG)
    (ax (aU (ay (aq iH ag af)) (aB (aq iJ (aJ (ae af (ae af (ae af (ae af (ae af (ae af (ae af (ae af (ae af (ae af (ae af aw)))))))))))) (aq bZ ag af))) aG)
    (ax (aU (ay (aq bK ag af)) (aB (aq bI af (aq bZ ag af))) aG)
    (ax (aU (ay (aq bK ag af)) (aB (aq bI af (aq bZ ag af))) aG)
    (ax (aU (ay (aq bK ag af)) (aB (aq bI af (aq bZ ag af))) aG)
    (aB (aq bI af (aq bZ ag af))))))))))⟩
theorem pk(T:Txt w K mg t):cw P w K mg base (CXE P w) 1 t.cX t.d_law_text_left i6 (spP K (cB t) cX):=
 fF T.e_law_text_left.F aW fun _ _ _ _ _ _ hr=>⟨_,(ak (qz 1 aW.nd ai)
   (ak (qG i8 (bQ il (qv 1) (kR T.n_len (qv 0))) (av (aT (bQ yZ (qi fM (qv 0) (qv 1)) ai) (ak (qz 2 aW.nd (qi fM (qv 0) (qv 1)))
   (ak (qz 3 aW.nd (aC bJ (aC bJ (aC bJ ai (ij kJ rfl T.n_int L2.E.boot_int (aa (fg qJ (qv 2) ai (iX _)) au))) (ij kJ rfl T.n_int L2.E.boot_int (aa (fg qJ (qv 2) ai (iX _)) au))) (ij kJ rfl T.n_int L2.E.boot_int (aa (fg qJ (qv 2) ai (iX _)) au))))
   (ak (aT (bQ Ec (aC bJ (qv 1) (qv 3)) (kR T.n_len (qv 0))) (ak (qz 4 aW.nd (aC jD (aC bJ (qv 1) (qv 3)) (kR T.n_len (qv 0))))
   (ak (qz 5 aW.nd (Bl (Ar hr) (yA (gF ai ai (gF ai ai yG))) (qi fM (qv 0) (qv 1)) ai))
   (ak (aT (bQ il (qv 4) (aC jD (qv 3) ai)) (av (qz 5 aW.nd ai)) aF)
   (av (aA (aC cW (aC cW (aI (aa (qv 5) au)) (aC xb (aI (aa ai au)) (aC jD (qv 4) ai))) (aI (aa ai au)))))))) aF)
   (av (qz 1 aW.nd (aC bJ (qv 1) (qv 3))))))) (av (aT (bQ bL (aC bJ (qv 1) ai) (kR T.n_len (qv 0))) (av (aA (aI (aa ai (aa ai au))))) (av (aT (bQ yZ (qi fM (qv 0) (aC bJ (qv 1) ai)) ai) (av (qz 1 aW.nd (aC bJ (qv 1) ai))) (ak (qz 6 aW.nd (iw jK (qv 0) (gL (aC bJ (qv 1) ai)) (gL (aC bJ (qv 1) ai))))
   (ak (qz 7 aW.nd (fg Cm (iw jK (qv 6) nB (gL ai)) (dG (aa (aI (aa ai au)) (aa (aI (aa ai au)) au))) rfl))
   (ak (aT (dk (qv 7) (fun _=>rfl)) (av (qz 7 aW.nd (fg Cm (iw jK (qv 6) (gL ai) (gL ai)) (dG (aa (aI (aa ai au)) (aa (aI (aa ai au)) (aa (aI (aa ai au)) (aa (aI (aa ai au)) (aa (aI (aa ai au)) (aa (aI (aa ai au)) au))))))) rfl))) aF)
   (ak (aT (vZ (n8 (bQ il (kR T.n_len (qv 6)) ai) (qF (wR (dk (qv 7) (fun _=>rfl)))))) (av (aA (aC cW (aC xb (aI (aa ai au)) (aC jD ai (kR T.n_len (qv 6)))) (aI (aa ai au))))) aF)
   (av (aT (wR (dk (qv 7) (fun _=>rfl))) (av (qz 1 aW.nd (aC bJ (qv 1) ai))) (ak (qz 8 aW.nd (aC cW (aC xb (aI (aa ai au)) (aC jD ai (kR T.n_len (qv 6)))) (aI (aa ai (aa ai (aa ai (aa ai (aa ai (aa ai au)))))))))
   (ak (qz 9 aW.nd (iw jK (qv 0) (gL (aC bJ (qv 1) ai)) (gL (aC bJ (qv 1) ai))))
   (ak (aT (bQ il (kR T.n_len (qv 9)) ai) (ak (qz 10 aW.nd (iw jK (aI (aa ai (aa ai (aa ai (aa ai (aa ai (aa ai au))))))) (gL (kR T.n_len (qv 9))) nB))
   (av (aA (aC cW (aC cW (iw jK (qv 8) nB (gL (aC jD ai (kR T.n_len (qv 6))))) (qv 10)) (aI (aa ai au)))))) aF)
   (av (qz 1 aW.nd (aC bJ (qv 1) ai)))))))))))))))))))
   (av (aA (aI (aa ai au)))))),
  (ax (aO af)
    (ax (qL (ay (aq iH ag (cP eY ag))) (aU (ay (aq yo (aq iJ ag ag) af)) (ax (aO (aq iJ ag ag))
    (ax (aO (aq bI (aq bI (aq bI af (cP oS (aq qZ ag af))) (cP oS (aq qZ ag af))) (cP oS (aq qZ ag af))))
    (ax (aU (ay (aq Ew (aq bI ag ag) (cP eY ag))) (ax (aO (aq jC (aq bI ag ag) (cP eY ag)))
    (ax (aO (zv (kvs:=[(224,160),(240,144)]) (by decide) (by decide) (aq iJ ag ag) af))
    (ax (aU (ay (aq iH ag (aq jC ag af))) (aO af) aG)
    (aB (aq dR (aq dR (aJ (ae ag aw)) (xR (aJ (ae af aw)) (aq jC ag af))) (aJ (ae af aw))))))) aG)
    (aO (aq bI ag ag))))) (aU (ay (aq bK (aq bI ag af) (cP eY ag))) (aB (aJ (ae af (ae af aw)))) (aU (ay (aq yo (aq iJ ag (aq bI ag af)) af)) (aO (aq bI ag af)) (ax (aO (lb ag (gK (aq bI ag af)) (gK (aq bI ag af))))
    (ax (aO (aq (Ay hr.units) (lb ag nC (gK af)) (dF (ae (aJ (ae af aw)) (ae (aJ (ae af aw)) aw)))))
    (ax (aU (dD ag) (aO (aq (Ay hr.units) (lb ag (gK af) (gK af)) (dF (ae (aJ (ae af aw)) (ae (aJ (ae af aw)) (ae (aJ (ae af aw)) (ae (aJ (ae af aw)) (ae (aJ (ae af aw)) (ae (aJ (ae af aw)) aw))))))))) aG)
    (ax (aU (om (ay (aq iH (cP eY ag) af)) (Bd (dD ag))) (aB (aq dR (xR (aJ (ae af aw)) (aq jC af (cP eY ag))) (aJ (ae af aw)))) aG)
    (aU (Bd (dD ag)) (aO (aq bI ag af)) (ax (aO (aq dR (xR (aJ (ae af aw)) (aq jC af (cP eY ag))) (aJ (ae af (ae af (ae af (ae af (ae af (ae af aw)))))))))
    (ax (aO (lb ag (gK (aq bI ag af)) (gK (aq bI ag af))))
    (ax (aU (ay (aq iH (cP eY ag) af)) (ax (aO (lb (aJ (ae af (ae af (ae af (ae af (ae af (ae af aw))))))) (gK (cP eY ag)) nC))
    (aB (aq dR (aq dR (lb ag nC (gK (aq jC af (cP eY ag)))) ag) (aJ (ae af aw))))) aG)
    (aO (aq bI ag af))))))))))))))
    (aB (aJ (ae af aw)))))⟩
theorem GV(T:Txt w K mg t):cw P w K mg base (CXE P w) 10 t.ti t.d_law xu (spP K (cB t) ti):=
 fF T.Cb.F fV fun _ _ _ _ _ _ hr=>⟨_,(ak (qz 1 fV.nd (aC bY (qx (dP T) T.bH hr aQ (aa (qv 0) (aa ai au))) ai))
   (ak (aT (bQ il (qv 1) ai) (av (qz 2 fV.nd (qi fM (aI (aa (aI (aa ai (aa ai (aa ai (aa ai au))))) (aa (aI (aa ai (aa ai (aa ai (aa ai au))))) (aa (aI (aa ai (aa ai (aa ai (aa ai (aa ai au)))))) au)))) (aC bY (qx (dP T) T.bH hr aQ (aa (qv 0) (aa ai au))) ai)))) (av (aT (bQ bL (qv 1) ai) (av (qz 2 fV.nd (qi tY (qx (sP T) T.jJ hr aQ (aa (qx (dP T) T.bH hr aQ (aa (qv 0) (aa ai au))) au)) ai))) (ak (yi (i:=3) fV.nd rfl (by first|exact Or.inl rfl|exact Or.inr rfl) (M:=["_law_script"]) (ι:=[0]) (x:="_law_k") ⟨rfl,rfl,rfl,rfl,rfl,rfl,rfl,rfl,rfl,rfl,rfl,by decide +kernel⟩ rfl (nA rfl T.n_range (aa (aC bJ ai (aC bY (qx (dP T) T.bH hr aQ (aa (qv 0) (aa ai au))) ai)) au)) fun _ _ _ _=>(qx (uG T) T.ke hr ya (aa (qx (dP T) T.bH hr ya (aa (qv 0) (aa (aC bJ ai (qv 1)) au))) au)))
   (av (qz 2 fV.nd (qx (wy T) T.kU hr aQ (aa (qv 3) (aa (qx (dP T) T.bH hr aQ (aa (qv 0) (aa ai au))) au)))))))))
   (ak (qz 4 fV.nd (qi fM (aI (aa (aI au) (aa (aI (aa ai (aa ai (aa ai au)))) (aa (aI (aa ai (aa ai (aa ai (aa ai au))))) (aa (aI (aa ai (aa ai (aa ai (aa ai (aa ai (aa ai au))))))) au))))) (aC bY (qx (dP T) T.bH hr aQ (aa (qv 0) (aa ai au))) ai)))
   (ak (qz 5 fV.nd (qi fM (aI (aa (aI au) (aa (aI (aa ai au)) (aa (aI (aa ai au)) (aa (aI (aa ai (aa ai au))) au))))) (aC bY (qx (dP T) T.bH hr aQ (aa (qv 0) (aa ai au))) ai)))
   (ak (qz 6 fV.nd (aC bY (qx (dP T) T.bH hr aQ (aa (qv 0) (aa ai au))) (kR T.n_len (qv 2))))
   (ak (zQ (i:=7) fV.nd rfl (by first|exact Or.inl rfl|exact Or.inr rfl) (M:=["_law_token"]) (ι:=[2]) (x:="_law_k") ⟨rfl,rfl,rfl,rfl,rfl,rfl,rfl,rfl,rfl,rfl,rfl,by decide +kernel⟩ rfl (nA rfl T.n_range (aa (kR T.n_len (qv 2)) au)) (fun _ _ _ _=>(iN kE (qi fM (qv 0) (qv 1)) (dG (aa ai (aa ai (aa ai (aa ai (aa ai au)))))) rfl)) fun _ _ _ _=>(qv 1))
   (ak (aT (vZ (n8 (bQ bL (qv 1) ai) (n8 (dk (qv 7) (fun _=>rfl)) (qF (bQ bL (aC bY (qx (dP T) T.bH hr aQ (aa (qv 0) (aa ai au))) ai) ai))))) (av (qz 6 fV.nd (qi fM (qv 7) (aC bY (qx (dP T) T.bH hr aQ (aa (qv 0) (aa ai au))) (kR T.n_len (qv 7)))))) aF)
   (ak (qz 8 fV.nd (iw jK (qv 2) nB (gL (aC bJ ai (qv 6)))))
   (ak (aT (bQ il (qv 1) ai) (av (qz 9 fV.nd (iw jK (qv 2) (gL (kR T.n_len (qv 8))) nB))) (av (aT (bQ bL (qv 1) ai) (av (qz 9 fV.nd (qx (oG T) T.e_law_number_left hr aQ (aa (qv 8) au)))) (av (aT (bQ bL (kR T.n_len (qv 8)) (kR T.n_len (qv 2))) (av (qz 9 fV.nd (aI au))) (av (qz 9 fV.nd (qx (pk T) T.e_law_text_left hr aQ (aa (qv 8) au)))))))))
   (ak (qz 10 fV.nd (qx (zl T) T.o7 hr aQ (aa (aC cW (qv 4) (qv 8)) au)))
   (av (aA (xj (qx (sC T) T.jI hr aQ (aa (qv 10) au)) (xY (fg Fh (qv 10) (aC cW (qv 9) (qv 5)) (iX _)))))))))))))))),
  (ax (aO (aq bZ (aP (ae ag (ae af aw))) af))
    (ax (aU (ay (aq iH ag af)) (aO (aq iJ (aJ (ae (aJ (ae af (ae af (ae af (ae af aw))))) (ae (aJ (ae af (ae af (ae af (ae af aw))))) (ae (aJ (ae af (ae af (ae af (ae af (ae af aw)))))) aw)))) (aq bZ (aP (ae ag (ae af aw))) af))) (aU (ay (aq bK ag af)) (aO (aq uQ (aP (ae (aP (ae ag (ae af aw))) aw)) af)) (ax (aO (Bq (by decide) (aq bI af (aq bZ (aP (ae ag (ae af aw))) af)) (aP (ae (aP (ae ag (ae (aq bI af ag) aw))) aw))))
    (jQ (i:=3) (aO (aP (ae ag (ae (aP (ae ag (ae af aw))) aw))))))))
    (ax (aO (aq iJ (aJ (ae (aJ aw) (ae (aJ (ae af (ae af (ae af aw)))) (ae (aJ (ae af (ae af (ae af (ae af aw))))) (ae (aJ (ae af (ae af (ae af (ae af (ae af (ae af aw))))))) aw))))) (aq bZ (aP (ae ag (ae af aw))) af)))
    (ax (aO (aq iJ (aJ (ae (aJ aw) (ae (aJ (ae af aw)) (ae (aJ (ae af aw)) (ae (aJ (ae af (ae af aw))) aw))))) (aq bZ (aP (ae ag (ae af aw))) af)))
    (ax (aO (aq bZ (aP (ae ag (ae af aw))) (cP eY ag)))
    (ax (aO (xr (by decide) (cP eY ag) (ay (aq (nT hr.units) (aq iJ ag ag) (dF (ae af (ae af (ae af (ae af (ae af aw)))))))) ag))
    (ax (aU (om (ay (aq bK ag af)) (om (dD ag) (ay (aq bK (aq bZ (aP (ae ag (ae af aw))) af) af)))) (aO (aq iJ ag (aq bZ (aP (ae ag (ae af aw))) (cP eY ag)))) aG)
    (ax (aO (lb ag nC (gK (aq bI af ag))))
    (ax (aU (ay (aq iH ag af)) (aO (lb ag (gK (cP eY ag)) nC)) (aU (ay (aq bK ag af)) (jQ (i:=8) (aO (aP (ae ag aw)))) (aU (ay (aq bK (cP eY ag) (cP eY ag))) (aO (aJ aw)) (jQ (i:=8) (aO (aP (ae ag aw)))))))
    (ax (aO (aP (ae (aq dR ag ag) aw)))
    (jQ (i:=10) (aB (xo (aP (ae ag aw)) (aq (Gi hr.units) ag (aq dR ag ag)))))))))))))))⟩
end
open PySem.W in
theorem all_mk{l:PySem.W.OpenLaw}{w:World}{K:PySem.W.Frag}{h:Heap}{mg:Str->Option Value}{fa:Addr}(X:K.In h)(G:h.Ns mainGlobals mg)(hfa:mg "law" = some (.ref fa))
  (h0:Fd K "tails" uD f0 d0)
  (h1:Fd K "second_of_three" iA f1 d1)
  (h2:Fd K "second_of_four" iZ f2 d2)
  (h3:Fd K "is_white" oB f3 d3)
  (h4:Fd K "is_figure" mv f4 d4)
  (h5:Fd K "hex_worth" m5 f5 d5)
  (h6:Fd K "word_rest" mK f6 d6)
  (h7:Fd K "short_escape" j3 f7 d7)
  (h8:Fd K "behind" rP f8 d8)
  (h9:Fd K "behind_value" jZ f9 d9)
  (h10:Fd K "behind_lead" kA f10 d10)
  (h11:Fd K "behind_in_number" gZ f11 d11)
  (h12:Fd K "behind_in_text" i5 f12 d12)
  (h13:Fd K "behind_character" gN f13 d13)
  (h14:Fd K "behind_backslash" hE f14 d14)
  (h15:Fd K "behind_code_d" jw f15 d15)
  (h16:Fd K "behind_hex" kS f16 d16)
  (h17:Fd K "behind_in_brackets" fU f17 d17)
  (h18:Fd K "behind_row_begin" gU f18 d18)
  (h19:Fd K "behind_fields_begin" fG f19 d19)
  (h20:Fd K "member_rest" ky f20 d20)
  (h21:Fd K "ending" rp f21 d21)
  (h22:Fd K "shortest" ox f22 d22)
  (h23:Fd K "_law_cell" oh f23 d23)
  (h24:Fd K "_law_mix" ph f24 d24)
  (h25:Fd K "_law_whole" mY f25 d25)
  (h26:Fd K "_law_wholes" lG f26 d26)
  (h27:Fd K "_law_point" mV f27 d27)
  (h28:Fd K "_law_eight" ng f28 d28)
  (h29:Fd K "_law_hex" pI f29 d29)
  (h30:Fd K "_law_sign" oo f30 d30)
  (h31:Fd K "_law_text" ot f31 d31)
  (h32:Fd K "_law_number" lj f32 d32)
  (h33:Fd K "_law_plain" mW f33 d33)
  (h34:Fd K "_law_text_left" jq f34 d34)
  (h35:Fd K "_law_number_left" iC f35 d35)
  (a36:nsIn K mainGlobals "law" = some (some (.ref f36))) (l36:K.lookup f36=some ⟨oc36,od36,.func (fnOf "law" "law" (fh vf) (dE vf) (aD vf) .none kV36 dc36 pm36 an36 cd36 ct36),sl36⟩) (c36:codeIn K cd36 "law" = true) (k36:keepIn K (.ref f36)=true)
  (a37:findIn K (.ref C0) "__init__" = some (some (.ref f37))) (i37:isFn K (.ref f37)=true) (l37:K.lookup f37=some ⟨oc37,od37,.func (fnOf "__init__" "Walk.__init__" (fh dA) (dE dA) (aD dA) .none kV37 dc37 pm37 an37 cd37 ct37),sl37⟩) (c37:codeIn K cd37 "Walk.__init__" = true) (k37:keepIn K (.ref f37)=true)
  (a38:findIn K (.ref C0) "take" = some (some (.ref f38))) (i38:isFn K (.ref f38)=true) (l38:K.lookup f38=some ⟨oc38,od38,.func (fnOf "take" "Walk.take" (fh gg) (dE gg) (aD gg) .none kV38 dc38 pm38 an38 cd38 ct38),sl38⟩) (c38:codeIn K cd38 "Walk.take" = true) (k38:keepIn K (.ref f38)=true)
  (a39:findIn K (.ref C0) "goes_on" = some (some (.ref f39))) (i39:isFn K (.ref f39)=true) (l39:K.lookup f39=some ⟨oc39,od39,.func (fnOf "goes_on" "Walk.goes_on" (fh dJ) (dE dJ) (aD dJ) .none kV39 dc39 pm39 an39 cd39 ct39),sl39⟩) (c39:codeIn K cd39 "Walk.goes_on" = true) (k39:keepIn K (.ref f39)=true)
  (a40:findIn K (.ref C0) "brackets" = some (some (.ref f40))) (i40:isFn K (.ref f40)=true) (l40:K.lookup f40=some ⟨oc40,od40,.func (fnOf "brackets" "Walk.brackets" (fh dB) (dE dB) (aD dB) .none kV40 dc40 pm40 an40 cd40 ct40),sl40⟩) (c40:codeIn K cd40 "Walk.brackets" = true) (k40:keepIn K (.ref f40)=true)
  (z0:nsIn K mainGlobals "isinstance" = some none)
  (z1:nsIn K mainGlobals "tuple" = some none)
  (z2:nsIn K mainGlobals "len" = some none)
  (z3:nsIn K mainGlobals "int" = some none)
  (z4:nsIn K mainGlobals "bool" = some none)
  (z5:nsIn K mainGlobals "list" = some none)
  (z6:nsIn K mainGlobals "all" = some none)
  (z7:nsIn K mainGlobals "range" = some none)
  (z8:nsIn K mainGlobals "str" = some none)
  (z9:nsIn K mainGlobals "ord" = some none)
  (z10:nsIn K mainGlobals "enumerate" = some none)
  (ca0:nsIn K mainGlobals "Walk" = some (some (.ref C0))) (pg0:plainGet K C0 Str.empty=true) (hd0:hasDictIn K C0=true) (po0:plainOver K C0=true) (sa0:findIn K (.ref C0) "__setattr__" = some (some (.builtin "object.__setattr__"))) (mk0:makesIn K C0=true) (kc0:keepIn K (.ref C0)=true)
  (na0_0:findIn K (.ref C0) "coming" = some none)
  (va0:nsIn K mainGlobals "TAIL" = some (some (.ref v0))) (vl0:K.lookup v0=some ⟨.type "tuple",vd0,.seq #[.int 128 t0_0,.int 191 t0_1] vn0,vs0⟩)
  (va1:nsIn K mainGlobals "BLANK" = some (some (.int 32 t1)))
  (va2:nsIn K mainGlobals "QUOTE" = some (some (.int 34 t2)))
  (va3:nsIn K mainGlobals "PLUS" = some (some (.int 43 t3)))
  (va4:nsIn K mainGlobals "COMMA" = some (some (.int 44 t4)))
  (va5:nsIn K mainGlobals "MINUS" = some (some (.int 45 t5)))
  (va6:nsIn K mainGlobals "POINT" = some (some (.int 46 t6)))
  (va7:nsIn K mainGlobals "NOUGHT" = some (some (.int 48 t7)))
  (va8:nsIn K mainGlobals "NINE" = some (some (.int 57 t8)))
  (va9:nsIn K mainGlobals "COLON" = some (some (.int 58 t9)))
  (va10:nsIn K mainGlobals "BIG_E" = some (some (.int 69 t10)))
  (va11:nsIn K mainGlobals "ROW_BEGIN" = some (some (.int 91 t11)))
  (va12:nsIn K mainGlobals "BACKSLASH" = some (some (.int 92 t12)))
  (va13:nsIn K mainGlobals "ROW_END" = some (some (.int 93 t13)))
  (va14:nsIn K mainGlobals "SMALL_E" = some (some (.int 101 t14)))
  (va15:nsIn K mainGlobals "SMALL_U" = some (some (.int 117 t15)))
  (va16:nsIn K mainGlobals "FIELDS_BEGIN" = some (some (.int 123 t16)))
  (va17:nsIn K mainGlobals "FIELDS_END" = some (some (.int 125 t17)))
  (va18:nsIn K mainGlobals "WHITE" = some (some (.ref v18))) (vl18:K.lookup v18=some ⟨.type "tuple",vd18,.seq #[.int 9 t18_0,.int 10 t18_1,.int 13 t18_2,.int 32 t18_3] vn18,vs18⟩)
  (va19:nsIn K mainGlobals "WORDS" = some (some (.ref v19))) (vl19:K.lookup v19=some ⟨.type "dict",none,.dict #[⟨110,.int 110 tk19_0,.ref w19_0⟩,⟨116,.int 116 tk19_1,.ref w19_1⟩,⟨102,.int 102 tk19_2,.ref w19_2⟩] ep19,#[]⟩)
  (wl19_0:K.lookup w19_0=some ⟨.type "tuple",wd19_0,.seq #[.int 117 tx19_0_0,.int 108 tx19_0_1,.int 108 tx19_0_2] wn19_0,ws19_0⟩)
  (wl19_1:K.lookup w19_1=some ⟨.type "tuple",wd19_1,.seq #[.int 114 tx19_1_0,.int 117 tx19_1_1,.int 101 tx19_1_2] wn19_1,ws19_1⟩)
  (wl19_2:K.lookup w19_2=some ⟨.type "tuple",wd19_2,.seq #[.int 97 tx19_2_0,.int 108 tx19_2_1,.int 115 tx19_2_2,.int 101 tx19_2_3] wn19_2,ws19_2⟩)
  (vm19:(v19==sysModules)=false)
  (va20:nsIn K mainGlobals "SHORT_ESCAPES" = some (some (.ref v20))) (vl20:K.lookup v20=some ⟨.type "dict",none,.dict #[⟨34,.int 34 tk20_0,(.int 34 tv20_0)⟩,⟨92,.int 92 tk20_1,(.int 92 tv20_1)⟩,⟨47,.int 47 tk20_2,(.int 47 tv20_2)⟩,⟨98,.int 98 tk20_3,(.int 8 tv20_3)⟩,⟨102,.int 102 tk20_4,(.int 12 tv20_4)⟩,⟨110,.int 110 tk20_5,(.int 10 tv20_5)⟩,⟨114,.int 114 tk20_6,(.int 13 tv20_6)⟩,⟨116,.int 116 tk20_7,(.int 9 tv20_7)⟩] ep20,#[]⟩)
  (vm20:(v20==sysModules)=false)
  (va21:nsIn K mainGlobals "MOST_BRACKETS" = some (some (.int 64 t21)))
  (va22:nsIn K mainGlobals "LOOSE" = some (some (.ref v22))) (vl22:K.lookup v22=some ⟨.type "tuple",vd22,.seq #[.str "white" t22_0,.str "figures" t22_1,.str "fraction" t22_2,.str "exponent" t22_3,.str "sign" t22_4] vn22,vs22⟩)
  (va23:nsIn K mainGlobals "UNENDED" = some (some (.ref v23))) (vl23:K.lookup v23=some ⟨.type "tuple",vd23,.seq #[.str "row" t23_0,.str "more row" t23_1,.str "fields" t23_2,.str "more fields" t23_3] vn23,vs23⟩)
  (va24:nsIn K mainGlobals "SHORTEST" = some (some (.ref v24))) (vl24:K.lookup v24=some ⟨.type "dict",none,.dict #[⟨hashStr w "value",.str "value" tk24_0,.ref w24_0⟩,⟨hashStr w "lead",.str "lead" tk24_1,.ref w24_1⟩,⟨hashStr w "text",.str "text" tk24_2,.ref w24_2⟩,⟨hashStr w "name",.str "name" tk24_3,.ref w24_3⟩,⟨hashStr w "escape",.str "escape" tk24_4,.ref w24_4⟩,⟨hashStr w "code",.str "code" tk24_5,.ref w24_5⟩,⟨hashStr w "code d",.str "code d" tk24_6,.ref w24_6⟩,⟨hashStr w "hex",.str "hex" tk24_7,.ref w24_7⟩,⟨hashStr w "hex d",.str "hex d" tk24_8,.ref w24_8⟩,⟨hashStr w "hex c to f",.str "hex c to f" tk24_9,.ref w24_9⟩,⟨hashStr w "row",.str "row" tk24_10,.ref w24_10⟩,⟨hashStr w "more row",.str "more row" tk24_11,.ref w24_11⟩,⟨hashStr w "fields",.str "fields" tk24_12,.ref w24_12⟩,⟨hashStr w "more fields",.str "more fields" tk24_13,.ref w24_13⟩] ep24,#[]⟩)
  (wl24_0:K.lookup w24_0=some ⟨.type "tuple",wd24_0,.seq #[.int 48 tx24_0_0] wn24_0,ws24_0⟩)
  (wl24_1:K.lookup w24_1=some ⟨.type "tuple",wd24_1,.seq #[.int 48 tx24_1_0] wn24_1,ws24_1⟩)
  (wl24_2:K.lookup w24_2=some ⟨.type "tuple",wd24_2,.seq #[.int 34 tx24_2_0] wn24_2,ws24_2⟩)
  (wl24_3:K.lookup w24_3=some ⟨.type "tuple",wd24_3,.seq #[.int 34 tx24_3_0,.int 34 tx24_3_1] wn24_3,ws24_3⟩)
  (wl24_4:K.lookup w24_4=some ⟨.type "tuple",wd24_4,.seq #[.int 34 tx24_4_0] wn24_4,ws24_4⟩)
  (wl24_5:K.lookup w24_5=some ⟨.type "tuple",wd24_5,.seq #[.int 48 tx24_5_0,.int 48 tx24_5_1,.int 48 tx24_5_2,.int 48 tx24_5_3] wn24_5,ws24_5⟩)
  (wl24_6:K.lookup w24_6=some ⟨.type "tuple",wd24_6,.seq #[.int 48 tx24_6_0,.int 48 tx24_6_1,.int 48 tx24_6_2] wn24_6,ws24_6⟩)
  (wl24_7:K.lookup w24_7=some ⟨.type "tuple",wd24_7,.seq #[.int 48 tx24_7_0] wn24_7,ws24_7⟩)
  (wl24_8:K.lookup w24_8=some ⟨.type "tuple",wd24_8,.seq #[.int 68 tx24_8_0] wn24_8,ws24_8⟩)
  (wl24_9:K.lookup w24_9=some ⟨.type "tuple",wd24_9,.seq #[.int 67 tx24_9_0] wn24_9,ws24_9⟩)
  (wl24_10:K.lookup w24_10=some ⟨.type "tuple",wd24_10,.seq #[.int 93 tx24_10_0] wn24_10,ws24_10⟩)
  (wl24_11:K.lookup w24_11=some ⟨.type "tuple",wd24_11,.seq #[.int 93 tx24_11_0] wn24_11,ws24_11⟩)
  (wl24_12:K.lookup w24_12=some ⟨.type "tuple",wd24_12,.seq #[.int 125 tx24_12_0] wn24_12,ws24_12⟩)
  (wl24_13:K.lookup w24_13=some ⟨.type "tuple",wd24_13,.seq #[.int 125 tx24_13_0] wn24_13,ws24_13⟩)
  (vm24:(v24==sysModules)=false):
  ∃ fd:FuncData,(∀(s:Shared) (v:Value),BindsTo s fd ⟨[v],[]⟩ [("_law_script",v)]) /\ ∀ base:Heap,K.In base->base.Ns mainGlobals mg->cw l.prog w K mg base (CXE l.prog w) 10 fa fd ["_law_script"] (ub K):=by
 have e:=hfa.symm.trans (PySem.W.mg_of X G a36);cases e
 have T:Txt w K mg ⟨f0,d0,f1,d1,f2,d2,f3,d3,f4,d4,f5,d5,f6,d6,f7,d7,f8,d8,f9,d9,f10,d10,f11,d11,f12,d12,f13,d13,f14,d14,f15,d15,f16,d16,f17,d17,f18,d18,f19,d19,f20,d20,f21,d21,f22,d22,f23,d23,f24,d24,f25,d25,f26,d26,f27,d27,f28,d28,f29,d29,f30,d30,f31,d31,f32,d32,f33,d33,f34,d34,f35,d35,f36,_,f37,_,f38,_,f39,_,f40,_,C0,v0,_,_,_,_,_,_,_,_,_,_,_,_,_,_,_,_,_,v18,v19,v20,_,v22,v23,v24⟩:=⟨h0.e1 X G,
  h1.e1 X G,
  h2.e1 X G,
  h3.e1 X G,
  h4.e1 X G,
  h5.e1 X G,
  h6.e1 X G,
  h7.e1 X G,
  h8.e2 X G,
  h9.e1 X G,
  h10.e1 X G,
  h11.e2 X G,
  h12.e2 X G,
  h13.e1 X G,
  h14.e1 X G,
  h15.e1 X G,
  h16.e2 X G,
  h17.e2 X G,
  h18.e1 X G,
  h19.e1 X G,
  h20.e0 X G,
  h21.e1 X G,
  h22.e1 X G,
  h23.e2 X G,
  h24.e2 X G,
  h25.e1 X G,
  h26.e1 X G,
  h27.e1 X G,
  h28.e1 X G,
  h29.e2 X G,
  h30.e2 X G,
  h31.e2 X G,
  h32.e1 X G,
  h33.e2 X G,
  h34.e1 X G,
  h35.e1 X G,
  (dj a36 l36 c36 k36).e1 X G,
  lz (st:=dA) l37 c37 k37,(lz (st:=dA) l37 c37 k37).binds (ps:=["self"]) fun _ _ _ _ _ _ us hl=>match us,hl with|[_],_=>rfl,
  lz (st:=gg) l38 c38 k38,⟨a38,i38,k38⟩,(lz (st:=gg) l38 c38 k38).binds (ps:=["self","row"]) fun _ _ _ _ _ _ us hl=>match us,hl with|[_,_],_=>rfl,
  lz (st:=dJ) l39 c39 k39,⟨a39,i39,k39⟩,(lz (st:=dJ) l39 c39 k39).binds (ps:=["self","byte"]) fun _ _ _ _ _ _ us hl=>match us,hl with|[_,_],_=>rfl,
  lz (st:=dB) l40 c40 k40,⟨a40,i40,k40⟩,(lz (st:=dB) l40 c40 k40).binds (ps:=["self"]) fun _ _ _ _ _ _ us hl=>match us,hl with|[_],_=>rfl,
  PySem.W.mg_none_of X G z0,
  PySem.W.mg_none_of X G z1,
  PySem.W.mg_none_of X G z2,
  PySem.W.mg_none_of X G z3,
  PySem.W.mg_none_of X G z4,
  PySem.W.mg_none_of X G z5,
  PySem.W.mg_none_of X G z6,
  PySem.W.mg_none_of X G z7,
  PySem.W.mg_none_of X G z8,
  PySem.W.mg_none_of X G z9,
  PySem.W.mg_none_of X G z10,
  PySem.W.mg_of X G ca0,⟨pg0,hd0,po0,sa0⟩,⟨mk0,a37,i37,kc0⟩,
  na0_0,
  PySem.W.mg_of X G va0,rfl,fun H=>.inr ⟨_,_,_,vl0,rfl,rfl,(by show 2<=sizeLine;decide),.cons ⟨_,rfl⟩ (.cons ⟨_,rfl⟩ (.nil))⟩,
  PySem.W.mg_of X G va1,⟨t1,rfl⟩,
  PySem.W.mg_of X G va2,⟨t2,rfl⟩,
  PySem.W.mg_of X G va3,⟨t3,rfl⟩,
  PySem.W.mg_of X G va4,⟨t4,rfl⟩,
  PySem.W.mg_of X G va5,⟨t5,rfl⟩,
  PySem.W.mg_of X G va6,⟨t6,rfl⟩,
  PySem.W.mg_of X G va7,⟨t7,rfl⟩,
  PySem.W.mg_of X G va8,⟨t8,rfl⟩,
  PySem.W.mg_of X G va9,⟨t9,rfl⟩,
  PySem.W.mg_of X G va10,⟨t10,rfl⟩,
  PySem.W.mg_of X G va11,⟨t11,rfl⟩,
  PySem.W.mg_of X G va12,⟨t12,rfl⟩,
  PySem.W.mg_of X G va13,⟨t13,rfl⟩,
  PySem.W.mg_of X G va14,⟨t14,rfl⟩,
  PySem.W.mg_of X G va15,⟨t15,rfl⟩,
  PySem.W.mg_of X G va16,⟨t16,rfl⟩,
  PySem.W.mg_of X G va17,⟨t17,rfl⟩,
  PySem.W.mg_of X G va18,rfl,fun H=>.inr ⟨_,_,_,vl18,rfl,rfl,(by show 4<=sizeLine;decide),.cons ⟨_,rfl⟩ (.cons ⟨_,rfl⟩ (.cons ⟨_,rfl⟩ (.cons ⟨_,rfl⟩ (.nil))))⟩,
  PySem.W.mg_of X G va19,rfl,⟨[(110,.ref w19_0),(116,.ref w19_1),(102,.ref w19_2)],⟨vm19,by simp,_,_,vl19,.cons ⟨rfl,⟨_,rfl⟩,rfl⟩ (.cons ⟨rfl,⟨_,rfl⟩,rfl⟩ (.cons ⟨rfl,⟨_,rfl⟩,rfl⟩ (.nil)))⟩,.cons ⟨rfl,fun _=>by unfold Rep;exact⟨_,[.int 117,.int 108,.int 108],rfl,.inr ⟨_,_,_,wl19_0,rfl,rfl,(by show 3<=sizeLine;decide),.cons ⟨_,rfl⟩ (.cons ⟨_,rfl⟩ (.cons ⟨_,rfl⟩ (.nil)))⟩,bj.ints (ns:=[117,108,108])⟩⟩ (.cons ⟨rfl,fun _=>by unfold Rep;exact⟨_,[.int 114,.int 117,.int 101],rfl,.inr ⟨_,_,_,wl19_1,rfl,rfl,(by show 3<=sizeLine;decide),.cons ⟨_,rfl⟩ (.cons ⟨_,rfl⟩ (.cons ⟨_,rfl⟩ (.nil)))⟩,bj.ints (ns:=[114,117,101])⟩⟩ (.cons ⟨rfl,fun _=>by unfold Rep;exact⟨_,[.int 97,.int 108,.int 115,.int 101],rfl,.inr ⟨_,_,_,wl19_2,rfl,rfl,(by show 4<=sizeLine;decide),.cons ⟨_,rfl⟩ (.cons ⟨_,rfl⟩ (.cons ⟨_,rfl⟩ (.cons ⟨_,rfl⟩ (.nil))))⟩,bj.ints (ns:=[97,108,115,101])⟩⟩ (.nil)))⟩,
  PySem.W.mg_of X G va20,rfl,⟨[(34,.int 34),(92,.int 92),(47,.int 47),(98,.int 8),(102,.int 12),(110,.int 10),(114,.int 13),(116,.int 9)],⟨vm20,by simp,_,_,vl20,.cons ⟨rfl,⟨_,rfl⟩,⟨_,rfl⟩⟩ (.cons ⟨rfl,⟨_,rfl⟩,⟨_,rfl⟩⟩ (.cons ⟨rfl,⟨_,rfl⟩,⟨_,rfl⟩⟩ (.cons ⟨rfl,⟨_,rfl⟩,⟨_,rfl⟩⟩ (.cons ⟨rfl,⟨_,rfl⟩,⟨_,rfl⟩⟩ (.cons ⟨rfl,⟨_,rfl⟩,⟨_,rfl⟩⟩ (.cons ⟨rfl,⟨_,rfl⟩,⟨_,rfl⟩⟩ (.cons ⟨rfl,⟨_,rfl⟩,⟨_,rfl⟩⟩ (.nil))))))))⟩,.cons ⟨rfl,fun _=>by unfold Rep;rfl⟩ (.cons ⟨rfl,fun _=>by unfold Rep;rfl⟩ (.cons ⟨rfl,fun _=>by unfold Rep;rfl⟩ (.cons ⟨rfl,fun _=>by unfold Rep;rfl⟩ (.cons ⟨rfl,fun _=>by unfold Rep;rfl⟩ (.cons ⟨rfl,fun _=>by unfold Rep;rfl⟩ (.cons ⟨rfl,fun _=>by unfold Rep;rfl⟩ (.cons ⟨rfl,fun _=>by unfold Rep;rfl⟩ (.nil))))))))⟩,
  PySem.W.mg_of X G va21,⟨t21,rfl⟩,
  PySem.W.mg_of X G va22,rfl,fun H=>.inr ⟨_,_,_,vl22,rfl,rfl,(by show 5<=sizeLine;decide),.cons ⟨_,rfl⟩ (.cons ⟨_,rfl⟩ (.cons ⟨_,rfl⟩ (.cons ⟨_,rfl⟩ (.cons ⟨_,rfl⟩ (.nil)))))⟩,
  PySem.W.mg_of X G va23,rfl,fun H=>.inr ⟨_,_,_,vl23,rfl,rfl,(by show 4<=sizeLine;decide),.cons ⟨_,rfl⟩ (.cons ⟨_,rfl⟩ (.cons ⟨_,rfl⟩ (.cons ⟨_,rfl⟩ (.nil))))⟩,
  PySem.W.mg_of X G va24,rfl,⟨[("value",.ref w24_0),("lead",.ref w24_1),("text",.ref w24_2),("name",.ref w24_3),("escape",.ref w24_4),("code",.ref w24_5),("code d",.ref w24_6),("hex",.ref w24_7),("hex d",.ref w24_8),("hex c to f",.ref w24_9),("row",.ref w24_10),("more row",.ref w24_11),("fields",.ref w24_12),("more fields",.ref w24_13)],⟨vm24,by(simp only[List.map];decide),_,_,vl24,.cons ⟨rfl,⟨_,rfl⟩,rfl⟩ (.cons ⟨rfl,⟨_,rfl⟩,rfl⟩ (.cons ⟨rfl,⟨_,rfl⟩,rfl⟩ (.cons ⟨rfl,⟨_,rfl⟩,rfl⟩ (.cons ⟨rfl,⟨_,rfl⟩,rfl⟩ (.cons ⟨rfl,⟨_,rfl⟩,rfl⟩ (.cons ⟨rfl,⟨_,rfl⟩,rfl⟩ (.cons ⟨rfl,⟨_,rfl⟩,rfl⟩ (.cons ⟨rfl,⟨_,rfl⟩,rfl⟩ (.cons ⟨rfl,⟨_,rfl⟩,rfl⟩ (.cons ⟨rfl,⟨_,rfl⟩,rfl⟩ (.cons ⟨rfl,⟨_,rfl⟩,rfl⟩ (.cons ⟨rfl,⟨_,rfl⟩,rfl⟩ (.cons ⟨rfl,⟨_,rfl⟩,rfl⟩ (.nil))))))))))))))⟩,.cons ⟨rfl,fun _=>by unfold Rep;exact⟨_,[.int 48],rfl,.inr ⟨_,_,_,wl24_0,rfl,rfl,(by show 1<=sizeLine;decide),.cons ⟨_,rfl⟩ (.nil)⟩,bj.ints (ns:=[48])⟩⟩ (.cons ⟨rfl,fun _=>by unfold Rep;exact⟨_,[.int 48],rfl,.inr ⟨_,_,_,wl24_1,rfl,rfl,(by show 1<=sizeLine;decide),.cons ⟨_,rfl⟩ (.nil)⟩,bj.ints (ns:=[48])⟩⟩ (.cons ⟨rfl,fun _=>by unfold Rep;exact⟨_,[.int 34],rfl,.inr ⟨_,_,_,wl24_2,rfl,rfl,(by show 1<=sizeLine;decide),.cons ⟨_,rfl⟩ (.nil)⟩,bj.ints (ns:=[34])⟩⟩ (.cons ⟨rfl,fun _=>by unfold Rep;exact⟨_,[.int 34,.int 34],rfl,.inr ⟨_,_,_,wl24_3,rfl,rfl,(by show 2<=sizeLine;decide),.cons ⟨_,rfl⟩ (.cons ⟨_,rfl⟩ (.nil))⟩,bj.ints (ns:=[34,34])⟩⟩ (.cons ⟨rfl,fun _=>by unfold Rep;exact⟨_,[.int 34],rfl,.inr ⟨_,_,_,wl24_4,rfl,rfl,(by show 1<=sizeLine;decide),.cons ⟨_,rfl⟩ (.nil)⟩,bj.ints (ns:=[34])⟩⟩ (.cons ⟨rfl,fun _=>by unfold Rep;exact⟨_,[.int 48,.int 48,.int 48,.int 48],rfl,.inr ⟨_,_,_,wl24_5,rfl,rfl,(by show 4<=sizeLine;decide),.cons ⟨_,rfl⟩ (.cons ⟨_,rfl⟩ (.cons ⟨_,rfl⟩ (.cons ⟨_,rfl⟩ (.nil))))⟩,bj.ints (ns:=[48,48,48,48])⟩⟩ (.cons ⟨rfl,fun _=>by unfold Rep;exact⟨_,[.int 48,.int 48,.int 48],rfl,.inr ⟨_,_,_,wl24_6,rfl,rfl,(by show 3<=sizeLine;decide),.cons ⟨_,rfl⟩ (.cons ⟨_,rfl⟩ (.cons ⟨_,rfl⟩ (.nil)))⟩,bj.ints (ns:=[48,48,48])⟩⟩ (.cons ⟨rfl,fun _=>by unfold Rep;exact⟨_,[.int 48],rfl,.inr ⟨_,_,_,wl24_7,rfl,rfl,(by show 1<=sizeLine;decide),.cons ⟨_,rfl⟩ (.nil)⟩,bj.ints (ns:=[48])⟩⟩ (.cons ⟨rfl,fun _=>by unfold Rep;exact⟨_,[.int 68],rfl,.inr ⟨_,_,_,wl24_8,rfl,rfl,(by show 1<=sizeLine;decide),.cons ⟨_,rfl⟩ (.nil)⟩,bj.ints (ns:=[68])⟩⟩ (.cons ⟨rfl,fun _=>by unfold Rep;exact⟨_,[.int 67],rfl,.inr ⟨_,_,_,wl24_9,rfl,rfl,(by show 1<=sizeLine;decide),.cons ⟨_,rfl⟩ (.nil)⟩,bj.ints (ns:=[67])⟩⟩ (.cons ⟨rfl,fun _=>by unfold Rep;exact⟨_,[.int 93],rfl,.inr ⟨_,_,_,wl24_10,rfl,rfl,(by show 1<=sizeLine;decide),.cons ⟨_,rfl⟩ (.nil)⟩,bj.ints (ns:=[93])⟩⟩ (.cons ⟨rfl,fun _=>by unfold Rep;exact⟨_,[.int 93],rfl,.inr ⟨_,_,_,wl24_11,rfl,rfl,(by show 1<=sizeLine;decide),.cons ⟨_,rfl⟩ (.nil)⟩,bj.ints (ns:=[93])⟩⟩ (.cons ⟨rfl,fun _=>by unfold Rep;exact⟨_,[.int 125],rfl,.inr ⟨_,_,_,wl24_12,rfl,rfl,(by show 1<=sizeLine;decide),.cons ⟨_,rfl⟩ (.nil)⟩,bj.ints (ns:=[125])⟩⟩ (.cons ⟨rfl,fun _=>by unfold Rep;exact⟨_,[.int 125],rfl,.inr ⟨_,_,_,wl24_13,rfl,rfl,(by show 1<=sizeLine;decide),.cons ⟨_,rfl⟩ (.nil)⟩,bj.ints (ns:=[125])⟩⟩ (.nil))))))))))))))⟩⟩
 exact⟨_,fun s v=>.of_eq rfl,fun base _ _=>(GV T).imp (Dz fun ns h=>Cb ns h)⟩
theorem walk{l:PySem.W.OpenLaw}{q:Program}{loose:List Str}{XP:(Str->Option Value)->Heap->Prop}{YP:World->Heap->Prop}{d:DefRec}{K:Params->PySem.W.Frag}(hn:l.most=some 63)(hdf:d.params.defaults=[])
  (hY:∀(w:World) (h:Heap),YP w h->(K w.params).In h)
  (F:∀(w:World) (mg:Str->Option Value) (fa:Addr) (h:Heap),(K w.params).In h->h.Ns mainGlobals mg->mg d.name=some (.ref fa) ->
    ∃ fd:FuncData,(∀(s:Shared) (u:Value),BindsTo s fd ⟨[u],[]⟩ [("_law_script",u)]) /\ ∀ base:Heap,(K w.params).In base->base.Ns mainGlobals mg->cw l.prog w (K w.params) mg base (CXE l.prog w) 10 fa fd ["_law_script"] (ub (K w.params))):
  PySem.W.WalkO q loose XP YP l.row.toRowW d [] (fun f vs=>PySem.call f vs):=
 L2.Dr (n:=63) (k:=10) (x:="_law_script") (CX:=fun w=>CXE l.prog w) (sp:=fun w=>ub (K w.params)) hn (by decide) hdf ⟨rfl,by decide,by decide⟩ hY F (fun _ _ a ns hl _ hS=>⟨a,ns,rfl,hS,hl,fun _=>rfl⟩) fun _ _ _ _ _ z=>let ⟨_,_,_,_,_,_,_,_,_,_,f⟩:=z;f
end L2.plainglass_k10_endings_in_tokens
open PySem PySem.W PyProof.Rows
namespace PySem.W.Fast
def tw11072585756921621353:=0
def tw7515829926361406025:=0
def tw5542459451769109756:=0
def tw15985644350697651207:=0
def tw18397120678493687653:=0
def tw925658082737574103:=0
def tw16820906090581293511:=0
def tw8716106968457892063:=0
def tw11087733266606273568:=0
def tw10903428678852155224:=0
def tw5599664857314224637:=0
def tw16112582889362362792:=0
def tw5678742703253609457:=0
def tw3882397839865724586:=0
def tw2299217373770389128:=0
def tw14094913723850082978:=0
def tw16031204336950082554:=0
def tw12485074905186269149:=0
def tw6270150391613818964:=0
def tw16673671266820470901:=0
def tw13765898120940848117:=0
def tw1259212451721552500:=0
def tw11723141617148245869:=0
def tw9214811306968812538:=0
def tw15604919107423409576:=0
def tw7518378551407195260:=0
def tw11544787019998382096:=0
def tw15920035823059365501:=0
def tw5252290455152414357:=0
def tw10859370983577445551:=0
def tw10844174036343793115:=0
def tw17547060681004568249:=0
def tw16778041792541038114:=0
def tw3683648469684023517:=0
def tw15489977001894741948:=0
def tw9279524344733303144:=0
def tw3050666770248596990:=0
def tw6679206965859176315:=0
def tw2394250634521687867:=0
def tw16530868105493989877:=0
def tw18109132224682591210:=0
def tw5894929484216304210:=0
def tw10850832527505549347:=0
def tw11321075977397528294:=0
def tw645246082120528008:=0
def tw1235755066951570064:=0
def tw9301725595463259865:=0
def tw13958124947677560479:=0
def tw11588742226253335878:=0
def tw9830230260332022268:=0
def tw17069531345242128999:=0
def tw15501462273039740790:=0
def tw16618836240620983024:=0
def tw10421567011497559135:=0
def tw9365418263285128246:=0
def tw16481120263994182857:=0
def tw5728668372707221052:=0
def tw18134736423080536718:=0
def tw11013081475078105455:=0
def tw11268648175018798606:=0
def tw4167889405275065595:=0
def tw5680225240327295009:=0
def tw5721338690335542216:=0
def tw2960430955972917894:=0
def tw2782642586232907401:=0
def tw990002525543069180:=0
def tw4461506441522110888:=0
def tw11158136722681504686:=0
def tw18436669443522528412:=0
def tw11308836586937345065:=0
def tw8805489341925791588:=0
def tw9283252990386084328:=0
def tw10726665054860098201:=0
def tw13503465214149638321:=0
def tw7289128933234876796:=0
def tw9019137575731204288:=0
def tw2612734121348777219:=0
def tw3803503307774982551:=0
def tw11244569316917678684:=0
def tw4520887785323408962:=0
def tw6896094904013954357:=0
def tw6858237991374618534:=0
def tw14533189927604652925:=0
def tw7652597495226572034:=0
def tw9512875871346152934:=0
def tw14844477711259317751:=0
def tw3650152906911997721:=0
def tw5586650419522083932:=0
end PySem.W.Fast
set_option maxRecDepth 100000 in
set_option maxHeartbeats 0 in
theorem PySem.Challenge.cw_plainglass_k10_endings_in_tokens_holds : PySem.Challenge.rw_plainglass_k10_endings_in_tokens.Holds := by
 w_on;o_law;k_head;(case hw=>w_witness2)
 k_fill
 refine L2.plainglass_k10_endings_in_tokens.walk (l:=PySem.Challenge.rw_plainglass_k10_endings_in_tokens) rfl rfl (fun w h Y=>PySem.W.kIn_of Y) ?F
 case F=>
  intro w mg fa h KX G hmg
  refine' L2.plainglass_k10_endings_in_tokens.all_mk KX G hmg (L2.E.dj ?a0 ?l0 ?c0 ?k0) (L2.E.dj ?a1 ?l1 ?c1 ?k1) (L2.E.dj ?a2 ?l2 ?c2 ?k2) (L2.E.dj ?a3 ?l3 ?c3 ?k3) (L2.E.dj ?a4 ?l4 ?c4 ?k4) (L2.E.dj ?a5 ?l5 ?c5 ?k5) (L2.E.dj ?a6 ?l6 ?c6 ?k6) (L2.E.dj ?a7 ?l7 ?c7 ?k7) (L2.E.dj ?a8 ?l8 ?c8 ?k8) (L2.E.dj ?a9 ?l9 ?c9 ?k9) (L2.E.dj ?a10 ?l10 ?c10 ?k10) (L2.E.dj ?a11 ?l11 ?c11 ?k11) (L2.E.dj ?a12 ?l12 ?c12 ?k12) (L2.E.dj ?a13 ?l13 ?c13 ?k13) (L2.E.dj ?a14 ?l14 ?c14 ?k14) (L2.E.dj ?a15 ?l15 ?c15 ?k15) (L2.E.dj ?a16 ?l16 ?c16 ?k16) (L2.E.dj ?a17 ?l17 ?c17 ?k17) (L2.E.dj ?a18 ?l18 ?c18 ?k18) (L2.E.dj ?a19 ?l19 ?c19 ?k19) (L2.E.dj ?a20 ?l20 ?c20 ?k20) (L2.E.dj ?a21 ?l21 ?c21 ?k21) (L2.E.dj ?a22 ?l22 ?c22 ?k22) (L2.E.dj ?a23 ?l23 ?c23 ?k23) (L2.E.dj ?a24 ?l24 ?c24 ?k24) (L2.E.dj ?a25 ?l25 ?c25 ?k25) (L2.E.dj ?a26 ?l26 ?c26 ?k26) (L2.E.dj ?a27 ?l27 ?c27 ?k27) (L2.E.dj ?a28 ?l28 ?c28 ?k28) (L2.E.dj ?a29 ?l29 ?c29 ?k29) (L2.E.dj ?a30 ?l30 ?c30 ?k30) (L2.E.dj ?a31 ?l31 ?c31 ?k31) (L2.E.dj ?a32 ?l32 ?c32 ?k32) (L2.E.dj ?a33 ?l33 ?c33 ?k33) (L2.E.dj ?a34 ?l34 ?c34 ?k34) (L2.E.dj ?a35 ?l35 ?c35 ?k35) ?a36 ?l36 ?c36 ?k36 ?a37 ?i37 ?l37 ?c37 ?k37 ?a38 ?i38 ?l38 ?c38 ?k38 ?a39 ?i39 ?l39 ?c39 ?k39 ?a40 ?i40 ?l40 ?c40 ?k40 ?z0 ?z1 ?z2 ?z3 ?z4 ?z5 ?z6 ?z7 ?z8 ?z9 ?z10 ?ca0 ?pg0 ?hd0 ?po0 ?sa0 ?mk0 ?kc0 ?na0_0 ?va0 ?vl0 ?va1 ?va2 ?va3 ?va4 ?va5 ?va6 ?va7 ?va8 ?va9 ?va10 ?va11 ?va12 ?va13 ?va14 ?va15 ?va16 ?va17 ?va18 ?vl18 ?va19 ?vl19 ?wl19_0 ?wl19_1 ?wl19_2 ?vm19 ?va20 ?vl20 ?vm20 ?va21 ?va22 ?vl22 ?va23 ?vl23 ?va24 ?vl24 ?wl24_0 ?wl24_1 ?wl24_2 ?wl24_3 ?wl24_4 ?wl24_5 ?wl24_6 ?wl24_7 ?wl24_8 ?wl24_9 ?wl24_10 ?wl24_11 ?wl24_12 ?wl24_13 ?vm24
  (case ca0|a0|l0|c0|k0|a1|l1|c1|k1|a2|l2|c2|k2|a3|l3|c3|k3|a4|l4|c4|k4|a5|l5|c5|k5|a6|l6|c6|k6|a7|l7|c7|k7|a8|l8|c8|k8|a9|l9|c9|k9|a10|l10|c10|k10|a11|l11|c11|k11|a12|l12|c12|k12|a13|l13|c13|k13|a14|l14|c14|k14|a15|l15|c15|k15|a16|l16|c16|k16|a17|l17|c17|k17|a18|l18|c18|k18|a19|l19|c19|k19|a20|l20|c20|k20|a21|l21|c21|k21|a22|l22|c22|k22|a23|l23|c23|k23|a24|l24|c24|k24|a25|l25|c25|k25|a26|l26|c26|k26|a27|l27|c27|k27|a28|l28|c28|k28|a29|l29|c29|k29|a30|l30|c30|k30|a31|l31|c31|k31|a32|l32|c32|k32|a33|l33|c33|k33|a34|l34|c34|k34|a35|l35|c35|k35|a36|l36|c36|k36|a37|i37|l37|c37|k37|a38|i38|l38|c38|k38|a39|i39|l39|c39|k39|a40|i40|l40|c40|k40|z0|z1|z2|z3|z4|z5|z6|z7|z8|z9|z10|pg0|hd0|po0|sa0|mk0|kc0|na0_0|va0|vl0|va1|va2|va3|va4|va5|va6|va7|va8|va9|va10|va11|va12|va13|va14|va15|va16|va17|va18|vl18|va19|vl19|wl19_0|wl19_1|wl19_2=>k_is)
  (case vm19=>first|decide|rfl)
  (case va20|vl20=>k_is)
  (case vm20=>first|decide|rfl)
  (case va21|va22|vl22|va23|vl23|va24|vl24|wl24_0|wl24_1|wl24_2|wl24_3|wl24_4|wl24_5|wl24_6|wl24_7|wl24_8|wl24_9|wl24_10|wl24_11|wl24_12|wl24_13=>k_is)
  (case vm24=>first|decide|rfl)
