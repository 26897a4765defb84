import PyProof.Rows.All
import Wide.All
import OpenK.AllK
import Wide.FinOn
import Lean
import PyProof.EqAt
import PyProof.EqKinds
import PyProof.TupleCall
import PySem.Challenge.RW_plainglass_k07_whole_any_bytes
set_option Elab.async false
set_option linter.all false
set_option compiler.extract_closed false
set_option maxRecDepth 100000
namespace L2
open PySem PySem.Spec PyProof.Rows
abbrev Key:=Sum Int Str
noncomputable def tu:Key->Value->Bool
 |.inl k,v=>Value.isInt k v
 |.inr x,v=>Value.isStrOf x v
noncomputable def HM(w:World):Key->Int
 |.inl k=>hashInt k
 |.inr x=>hashStr w x
theorem eW:∀{k:Key} {v:Value},tu k v=true->(∃ i t,k=Sum.inl i /\ v=Value.int i t) \/ (∃ x t,k=Sum.inr x /\ v=Value.str x t)
 | .inl i,v,h=>by
   obtain⟨t,e⟩:=Value.isInt_shape (k:=i) (v:=v) h;exact .inl ⟨i,t,rfl,e⟩
 | .inr x,v,h=>by
   obtain⟨t,e⟩:=Value.isStrOf_shape (x:=x) (v:=v) h;exact .inr ⟨x,t,rfl,e⟩
theorem yK(i:Int)(t:Tok):tu (.inl i) (.int i t)=true:=by simp[tu,Value.isInt]
theorem yW(x:Str)(t:Tok):tu (.inr x) (.str x t)=true:=by simp[tu,Value.isStrOf]
theorem Fx(a b:Int):decide ((Sum.inl a:Key)=Sum.inl b)=(a==b):=by
 by_cases e:a=b
 . subst e;simp
 . have h:¬ (Sum.inl a:Key)=Sum.inl b:=fun q=>e (Sum.inl.inj q)
   rw[decide_eq_false h]
   exact(beq_eq_false_iff_ne.mpr e).symm
theorem Ft(a b:Str):decide ((Sum.inr a:Key)=Sum.inr b)=decide (a=b):=by
 by_cases e:a=b
 . subst e;simp
 . have h:¬ (Sum.inr a:Key)=Sum.inr b:=fun q=>e (Sum.inr.inj q)
   rw[decide_eq_false h,decide_eq_false e]
theorem EK(a:Int)(b:Str):decide ((Sum.inl a:Key)=Sum.inr b)=false:=decide_eq_false (fun q=>nomatch q)
theorem Ed(a:Str)(b:Int):decide ((Sum.inr a:Key)=Sum.inl b)=false:=decide_eq_false (fun q=>nomatch q)
noncomputable def eV(prog:Program)(w:World):PySem.KeyKind prog w Key where
 is:=tu
 hash:=HM w
 inj:=fun v a b ha hb=>by
  rcases eW ha with⟨i,t,rfl,rfl⟩|⟨x,t,rfl,rfl⟩
  . rcases eW hb with⟨j,u,rfl,e⟩|⟨y,u,rfl,e⟩
    . injection e with e1 _;rw[e1]
    . exact nomatch e
  . rcases eW hb with⟨j,u,rfl,e⟩|⟨y,u,rfl,e⟩
    . exact nomatch e
    . injection e with e1 _;rw[e1]
 byValue:=fun k v h=>by
  rcases eW h with⟨i,t,rfl,rfl⟩|⟨x,t,rfl,rfl⟩<;>rfl
 pyHash:=fun hv h=>by
  rcases eW hv with⟨i,t,rfl,rfl⟩|⟨x,t,rfl,rfl⟩
  . exact wpAny_pyHash_int h
  . exact wpAny_pyHash_str h
 eqBool:=fun hu hv h=>by
  rcases eW hu with⟨i,t,rfl,rfl⟩|⟨x,t,rfl,rfl⟩
  . rcases eW hv with⟨j,u,rfl,rfl⟩|⟨y,u,rfl,rfl⟩
    . rw[Fx]at h;exact wpAny_eqBool_int h
    . rw[EK]at h;exact SeqAt.EqAt.int_str i t y u _ _ _ _ h
  . rcases eW hv with⟨j,u,rfl,rfl⟩|⟨y,u,rfl,rfl⟩
    . rw[Ed]at h;exact SeqAt.EqAt.str_int x t j u _ _ _ _ h
    . rw[Ft]at h;exact wpAny_eqBool_str h
 «strs»:=fun k x t v h=>by
  rcases eW h with⟨i,u,rfl,e⟩|⟨y,u,rfl,e⟩
  . exact nomatch e
  . injection e with e1 _
    subst e1
    cases v<;>rfl
theorem wI(prog:Program)(w:World)(i:Int)(t:Tok):(eV prog w).is (.inl i) (.int i t)=true:=yK i t
theorem v7(prog:Program)(w:World)(x:Str)(t:Tok):(eV prog w).is (.inr x) (.str x t)=true:=yW x t
inductive V where
 |non|bl (b:Bool)|int (i:Int)|str (x:Str)|byt (b:Array UInt8)|flt (b:UInt64)|ref (a:Addr)|ty (n:String)
 deriving DecidableEq
noncomputable def RelV:V->Value->Prop
 |.non,u=>u=Value.none
 |.bl b,u=>u=Value.bool b
 |.int i,u=>∃ t,u=Value.int i t
 |.str x,u=>∃ t,u=Value.str x t
 |.byt b,u=>∃ t,u=Value.bytes b t
 |.flt b,u=>∃ t,u=Value.float b t
 |.ref a,u=>u=Value.ref a
 |.ty n,u=>u=Value.type n
abbrev Vals:List V->List Value->Prop:=Paired RelV
theorem Vals.length{xs:List V}{us:List Value}(r:Vals xs us):xs.length=us.length:=Paired.length r
theorem Vals.get:∀{xs:List V} {us:List Value} {i:Nat} {x:V},Vals xs us->xs[i]?=some x->∃ u,us[i]?=some u /\ RelV x u
 |_,_,_,_,.nil,e=>by simp at e
 |_,_,0,_,.cons r _,e=>by simp at e;subst e;exact⟨_,rfl,r⟩
 | _,_,i+1,x,.cons _ t,e=>by
   obtain⟨u,h1,h2⟩:=Vals.get (i:=i) (x:=x) t (by simpa using e)
   exact⟨u,by simpa using h1,h2⟩
theorem Vals.append:∀{xs ys:List V} {us ws:List Value},Vals xs us->Vals ys ws->Vals (xs++ys) (us++ws)
 |_,_,_,_,.nil,s=>s
 |_,_,_,_,.cons r t,s=>.cons r (Vals.append t s)
theorem Vals.take:∀{xs:List V} {us:List Value} (n:Nat),Vals xs us->Vals (xs.take n) (us.take n)
 |_,_,0,_=>.nil
 |_,_,_+1,.nil=>.nil
 |_,_,n+1,.cons r t=>.cons r (Vals.take n t)
theorem Vals.drop:∀{xs:List V} {us:List Value} (n:Nat),Vals xs us->Vals (xs.drop n) (us.drop n)
 |_,_,0,r=>r
 |_,_,_+1,.nil=>.nil
 |_,_,n+1,.cons _ t=>Vals.drop n t
noncomputable def bO:Option V->Option Value->Prop
 |some v,some u=>RelV v u
 |none,none=>True
 |_,_=>False
noncomputable def KV{κ:Type}:List (κ×V)->List (κ×Value)->Prop:=Paired fun (p:κ×V) (q:κ×Value)=>p.1=q.1 /\ RelV p.2 q.2
noncomputable def kV:Key->V
 |.inl i=>.int i
 |.inr x=>.str x
inductive HO where
  |lst (xs:List V)
  |tup (xs:List V)
  |dK (kvs:List (Key×V))|dT (kvs:List (List Key×V))
  |set (S:Int->Bool) (n:Nat)
  |ins (C dx:Addr) (fs:List (Str×V))
  |own (x:Addr)
  |xd (fs:List (Str×V))
  |met (f x:Addr)
  |rng (lo hi:Int)
  |frz (o:Obj) (u:HO)
  |tbl (ps:Array Value)
  |ext (φ:Heap->Prop)
abbrev Hp:=Addr->Option HO
noncomputable def upd(H:Hp)(a:Addr)(o:HO):Hp:=fun b=>if b=a then some o else H b
theorem bF{H:Hp}{a:Addr}{o:HO}:upd H a o a=some o:=by unfold upd;rw[if_pos rfl]
theorem bD{H:Hp}{a b:Addr}{o:HO}(h:b≠a):upd H a o b=H b:=by unfold upd;rw[if_neg h]
theorem Cf{H:Hp}{a:Addr}{o u:HO}:upd (upd H a o) a u=upd H a u:=by
 funext b;unfold upd;split<;>rfl
theorem eG{H:Hp}{a b:Addr}{o:HO}(h:H a=some o)(h':H b=none):a≠b:=by
 intro e;subst e;rw[h]at h';cases h'
section
variable(P:Program)(w:World)
noncomputable def gn(H:Hp)(h:Heap)(a:Addr):HO->Prop
 |.lst xs=>xs.length<=sizeLine /\ ∃(its:List Value) (n:Nat),Vals xs its /\ h.get? a=some { cls:=.type "list",data:=.seq its.toArray n }
 |.tup xs=>xs.length<=sizeLine /\ ∃ its:List Value,Vals xs its /\ IsTup h a its.toArray
 |.dK kvs=>kvs.length<=sizeLine /\ (a==sysModules)=false /\ ∃ vs,KV kvs vs /\ h.DictOf (eV P w) a vs
 | .dT kvs=>kvs.length <= sizeLine /\ (a == sysModules) = false /\ ∃ xs:List (List Key × Addr × Value),
    Paired (fun (p:List Key×V) (q:List Key×Addr×Value)=>p.1=q.1 /\ H q.2.1=some (.tup (p.1.map kV)) /\ RelV p.2 q.2.2) kvs xs /\
    ∃ o es ep,h.get? a=some o /\ o.ExactDict /\ o.data=.dict es ep /\ es.toList=xs.map (entryOfKey (tupleKind (eV P w))) /\ (xs.map (·.1)).Nodup
 |.set S n=>h.SetOf (intKind P w) a S n
 | .ins C dx fs=>H dx = some (.own a) /\ fs.length <= 1000 /\ dx ≠ a /\ h.get? a = some (PySem.W.instObj C dx) /\
    ∃ mA,h.Ns1 dx mA /\ (∀ f,bO (fs.lookup f) (mA f)) /\ PySem.Within mA (fs.map (·.1))
 |.own _=>∃ o,h.get? a=some o
 |.xd fs=>∃ mA,h.Ns1 a mA /\ ∀ f,bO (fs.lookup f) (mA f)
 |.rng lo hi=>∃ t u v,h.get? a=some { cls:=.type "range",data:=.fields #[.int lo t,.int hi u,.int 1 v] }
 |.frz o u=>h.get? a=some o /\ gn H h a u
 |.tbl ps=>h.get? a=some { cls:=.none,data:=.fields ps }
 |.met f x=>h.get? a=some (PySem.W.methodObj (.ref f) (.ref x))
 |.ext φ=>φ h /\ (∃ o,h.get? a=some o) /\ ∀ h1 h2:Heap,φ h1->(∀ o,h1.get? a=some o->h2.get? a=some o)->φ h2
noncomputable def HOk(H:Hp)(h:Heap):Prop:=∀ a o,H a=some o->gn P w H h a o
end
section
variable{P:Program}{w:World}{H H':Hp}{h h':Heap}{a:Addr}{o:HO}
theorem gn.lt(x:gn P w H h a o):a<h.objs.size:=by
 cases o with
 |lst xs=>obtain⟨_,_,_,_,e⟩:=x;exact Heap.lt_size e
 |tup xs=>obtain⟨_,_,_,p⟩:=x;exact p.lt
 |dK kvs=>obtain⟨_,_,_,_,o,_,_,e,_⟩:=x;exact Heap.lt_size e
 |dT kvs=>obtain⟨_,_,_,_,o,_,_,e,_⟩:=x;exact Heap.lt_size e
 |set S n=>obtain⟨o,_,_,_,e,_⟩:=x;exact Heap.lt_size e
 |ins C dx fs=>obtain⟨_,_,_,e,_⟩:=x;exact Heap.lt_size e
 |own y=>obtain⟨_,e⟩:=x;exact Heap.lt_size e
 |xd fs=>obtain⟨_,⟨_,_,_,e,_⟩,_⟩:=x;exact Heap.lt_size e
 |rng lo hi=>obtain⟨_,_,_,e⟩:=x;exact Heap.lt_size e
 |frz ob u=>obtain⟨e,_⟩:=x;exact Heap.lt_size e
 |tbl ps=>exact Heap.lt_size (show h.get? a=some _ from x)
 |met f y=>exact Heap.lt_size (show h.get? a=some _ from x)
 |ext φ=>obtain⟨_,⟨_,e⟩,_⟩:=x;exact Heap.lt_size e
theorem Paired.Ec{α β:Type}{F G:α->β->Prop}:∀{l₁:List α} {l₂:List β},Paired F l₁ l₂->(∀ a b,F a b->G a b)->Paired G l₁ l₂
 |_,_,.nil,_=>.nil
 |_,_,.cons r t,f=>.cons (f _ _ r) (Paired.Ec t f)
theorem gn.qS(x:gn P w H h a o)(k:∀ b u,(b=a \/ H b=some (.own a))->h.get? b=some u->h'.get? b=some u)
  (ho:∀ b,H b=some (.own a)->H' b=some (.own a)) (ht:∀ b xs,H b=some (.tup xs)->H' b=some (.tup xs)):gn P w H' h' a o:=by
 induction o with
 |lst xs=>obtain⟨z,its,n,r,e⟩:=x;exact⟨z,its,n,r,k _ _ (.inl rfl) e⟩
 |tup xs=>obtain⟨z,its,r,ob,e,c⟩:=x;exact⟨z,its,r,ob,k _ _ (.inl rfl) e,c⟩
 |dK kvs=>obtain⟨z,y,vs,r,ob,es,ep,e,c⟩:=x;exact⟨z,y,vs,r,ob,es,ep,k _ _ (.inl rfl) e,c⟩
 | dT kvs=>
   obtain⟨z,y,xs,r,ob,es,ep,e,c⟩:=x
   exact⟨z,y,xs,Paired.Ec r fun p q z=>⟨z.1,ht _ _ z.2.1,z.2.2⟩,ob,es,ep,k _ _ (.inl rfl) e,c⟩
 |set S n=>obtain⟨ob,es,ep,t,e,c⟩:=x;exact⟨ob,es,ep,t,k _ _ (.inl rfl) e,c⟩
 | ins C dx fs=>
   obtain⟨d,z,ne,e,mA,⟨od,es,ep,e2,c⟩,r⟩:=x
   exact⟨ho _ d,z,ne,k _ _ (.inl rfl) e,mA,⟨od,es,ep,k _ _ (.inr d) e2,c⟩,r⟩
 |own y=>obtain⟨ob,e⟩:=x;exact⟨ob,k _ _ (.inl rfl) e⟩
 |xd fs=>obtain⟨mA,⟨od,es,ep,e,c⟩,r⟩:=x;exact⟨mA,⟨od,es,ep,k _ _ (.inl rfl) e,c⟩,r⟩
 |rng lo hi=>obtain⟨t,u,v,e⟩:=x;exact⟨t,u,v,k _ _ (.inl rfl) e⟩
 |frz ob u ih=>obtain⟨e,q⟩:=x;exact⟨k _ _ (.inl rfl) e,ih q⟩
 | tbl ps=>
   have e:h.get? a=some { cls:=.none,data:=.fields ps }:=x
   show h'.get? a=some { cls:=.none,data:=.fields ps };exact k a _ (.inl rfl) e
 | met f y=>
   have e:h.get? a=some (PySem.W.methodObj (.ref f) (.ref y)):=x
   show h'.get? a=some (PySem.W.methodObj (.ref f) (.ref y));exact k a _ (.inl rfl) e
 |ext φ=>obtain⟨p,⟨o,e⟩,st⟩:=x;exact⟨st _ _ p fun o q=>k _ _ (.inl rfl) q,⟨o,k _ _ (.inl rfl) e⟩,st⟩
theorem HOk.lt(x:HOk P w H h)(e:H a=some o):a<h.objs.size:=(x a o e).lt
theorem HOk.fresh(x:HOk P w H h)(e:h.objs.size<=a):H a=none:=by
 cases q:H a with
 |none=>rfl
 |some u=>exact absurd (Nat.lt_of_lt_of_le (x.lt q) e) (Nat.lt_irrefl _)
theorem HOk.kept(x:HOk P w H h)(k:∀ b u,h.get? b=some u->h'.get? b=some u):HOk P w H h':=fun a o e=>
 (x a o e).qS (fun b u _ q=>k b u q) (fun _ q=>q) fun _ _ q=>q
theorem HOk.laid(x:HOk P w H h)(k:∀ b u,h.get? b=some u->h'.get? b=some u)(hp:h.objs.size<=a)(new:gn P w (upd H a o) h' a o):HOk P w (upd H a o) h':=fun b u e=>by
 have hn:=x.fresh hp
 by_cases hb:b=a
 . subst hb;rw[bF]at e;cases e;exact new
 . rw[bD hb]at e
   exact(x b u e).qS (fun c v _ q=>k c v q) (fun c q=>by rw[bD (eG q hn)];exact q) fun c xs q=>by rw[bD (eG q hn)];exact q
end
noncomputable def Rd(H:Hp)(a:Addr)(u:HO):Prop:=H a=some u \/ ∃ o,H a=some (.frz o u)
theorem Rd.ok{P:Program}{w:World}{H:Hp}{h:Heap}{a:Addr}{u:HO}(r:Rd H a u)(x:HOk P w H h):gn P w H h a u:=by
 rcases r with r|⟨o,r⟩
 . exact x a u r
 . obtain⟨_,q⟩:=x a _ r;exact q
noncomputable def Mut:Option HO->Prop
 |some (.lst _)=>True
 |some (.dK _)=>True
 |some (.dT _)=>True
 |some (.set _ _)=>True
 |some (.ins _ _ _)=>True
 |some (.ext _)=>True
 |_=>False
section
variable{P:Program}{w:World}{H:Hp}{h h':Heap}{x e:Addr}{o':HO}
theorem HOk.write(ok:HOk P w H h)(mu:Mut (H x))(he:e=x \/ H e=some (.own x))(k:∀ b u,b≠e->h.get? b=some u->h'.get? b=some u)(heo:∃ u,h'.get? e=some u)
  (new:gn P w (upd H x o') h' x o'):HOk P w (upd H x o') h':=fun b u q=>by
 have nown:∀ c y,H c=some (.own y)->c≠x:=fun c y r z=>by subst z;rw[r]at mu;exact mu
 have ntup:∀ c xs,H c=some (.tup xs)->c≠x:=fun c xs r z=>by subst z;rw[r]at mu;exact mu
 by_cases hb:b=x
 . subst hb;rw[bF]at q;cases q;exact new
 . rw[bD hb]at q
   by_cases hbe:b=e
   . have q':H b = some (.own x):=by
      rcases he with z|z
      . exact absurd (hbe.trans z) hb
      . rw[hbe];exact z
     rw[q]at q';cases q';obtain⟨v,hv⟩:=heo
     exact⟨v,by rw[hbe];exact hv⟩
   . refine(ok b u q).qS (fun c v hc r=>k c v ?_ r) (fun c r=>by rw[bD (nown c b r)];exact r) fun c xs r=>by rw[bD (ntup c xs r)];exact r
     rcases hc with rfl|hc
     . exact hbe
     . rintro rfl
       rcases he with z|z
       . exact nown c b hc z
       . rw[hc]at z;cases z;exact hb rfl
end
structure Un(fs ex:List Addr)(H H':Hp)(h h':Heap):Prop where
 keep:∀ b o,h.get? b=some o->H b=none->b∉fs->b∉ex->h'.get? b=some o
 slot:∀ b o,h.get? b=some o->H b=none->b∈fs->b∉ex->∃ sl,h'.get? b=some { o with slots:=sl }
 free:∀ b o,h.get? b=some o->H b=none->b∉ex->H' b=none
 there:∀ b o,h.get? b=some o->b∉ex->∃ o',h'.get? b=some o'
 tups:∀ b xs,H b=some (.tup xs)->H' b=some (.tup xs)
 frzs:∀ b o u,H b=some (.frz o u)->H' b=some (.frz o u)
 tbls:∀ b ps,H b=some (.tbl ps)->∃ more,H' b=some (.tbl (ps++more))
section
variable{fs fs' ex ex':List Addr}{H H1 H2:Hp}{h h1 h2 h':Heap}{a x e:Addr}{o:HO}
theorem Un.any(u:Un fs ex H H1 h h1){b:Addr}{ob:Obj}(q:h.get? b=some ob)(n:H b=none)(hx:b∉ex):∃ sl,h1.get? b=some { ob with slots:=sl }:=by
 by_cases hb:b∈fs
 . exact u.slot b ob q n hb hx
 . exact⟨ob.slots,u.keep b ob q n hb hx⟩
theorem Un.kept(k:∀ b u,h.get? b=some u->h'.get? b=some u):Un fs ex H H h h':=
 ⟨fun b ob q _ _ _=>k b ob q,fun b ob q _ _ _=>⟨ob.slots,k b ob q⟩,fun _ _ _ n _=>n,fun b ob q _=>⟨ob,k b ob q⟩,fun _ _ q=>q,fun _ _ _ q=>q,fun _ ps q=>⟨#[],by rw[q];simp⟩⟩
theorem Un.refl:Un fs ex H H h h:=Un.kept fun _ _ q=>q
theorem Un.laid(k:∀ b u,h.get? b=some u->h'.get? b=some u)(hp:h.objs.size<=a)(hn:H a=none):Un fs ex H (upd H a o) h h' where
 keep:=fun b u q _ _ _=>k b u q
 slot:=fun b u q _ _ _=>⟨u.slots,k b u q⟩
 free:=fun b u q n _=>by rw[bD (Nat.ne_of_lt (Nat.lt_of_lt_of_le (Heap.lt_size q) hp))];exact n
 there:=fun b u q _=>⟨u,k b u q⟩
 tups:=fun b xs q=>by rw[bD (eG q hn)];exact q
 frzs:=fun b u xs q=>by rw[bD (eG q hn)];exact q
 tbls:=fun b ps q=>⟨#[],by rw[bD (eG q hn),q];simp⟩
theorem Un.write(mu:Mut (H x))(he:e=x \/ H e=some (.own x))(k:∀ b u,b≠e->h.get? b=some u->h'.get? b=some u)(heo:∃ u,h'.get? e=some u):Un fs ex H (upd H x o) h h':=by
 have hx:∀ b,H b=none->b≠x:=fun b n z=>by subst z;rw[n]at mu;exact mu
 have hb:∀ b,H b=none->b≠e:=fun b n z=>by
  subst z
  rcases he with r|r
  . exact hx b n r
  . rw[n]at r;cases r
 have hm:∀ b u,H b=some u->¬ Mut (some u)->b≠x:=fun b u q nm z=>by subst z;rw[q]at mu;exact nm mu
 refine⟨fun b u q n _ _=>k b u (hb b n) q,fun b u q n _ _=>⟨u.slots,k b u (hb b n) q⟩,fun b u q n _=>by rw[bD (hx b n)];exact n,fun b u q _=>?_,
  fun b xs q=>by rw[bD (hm b _ q fun z=>z)];exact q,fun b u xs q=>by rw[bD (hm b _ q fun z=>z)];exact q,fun b ps q=>⟨#[],by rw[bD (hm b _ q fun z=>z),q];simp⟩⟩
 by_cases hbe:b=e
 . subst hbe;exact heo
 . exact⟨u,k b u hbe q⟩
end
noncomputable def trk(h:Heap)(H:Hp):List Addr:=(List.range h.objs.size).filter fun a=>(H a).isSome
noncomputable def uN(h:Heap)(H:Hp):Heap:=PySem.W.hideAll h (trk h H)
theorem y0(h:Heap)(H:Hp):(uN h H).objs.size=h.objs.size:=PySem.W.hideAll_size _ _
theorem AJ{h:Heap}{H:Hp}{b:Addr}{o:Obj}(e:h.get? b=some o)(n:H b=none):(uN h H).get? b=some o:=
 PySem.W.hideAll_get _ e fun hm=>by
  have q:(H b).isSome=true:=(List.mem_filter.mp hm).2
  rw[n]at q;simp at q
theorem BP{h:Heap}{H:Hp}{b:Addr}{o:Obj}(e:(uN h H).get? b=some o):h.get? b=some o /\ H b=none:=by
 have e':h.get? b=some o:=PySem.W.of_hideAll (trk h H) e
 refine⟨e',?_⟩
 cases q:H b with
 |none=>rfl
 | some x=>
   have hm:b∈trk h H:=List.mem_filter.mpr ⟨List.mem_range.mpr (Heap.lt_size e'),by simp[q]⟩
   have z:(uN h H).get? b=none:=PySem.W.hideAll_none (trk h H) hm
   rw[z]at e;cases e
noncomputable def Cr(g h:Heap)(L:Addr):List (Addr×Obj):=(List.range h.objs.size).filterMap fun a=>if a=L \/ (g.get? a).isSome=true then none else(h.get? a).map fun o=>(a,o)
noncomputable def rest(g h:Heap)(L d:Addr):List (Addr×Obj):=(Cr g h L).filter fun p=>decide (p.1≠d)
structure Mod(K:PySem.W.Frag)(mg:Str->Option Value)(base:Heap):Prop where
 kin:K.In base
 glob:base.Ns mainGlobals mg
 blt:∃ mb,base.Ns builtinsNs mb /\ ∀ x:Str,x ≠ "__name__" -> mb x=bootBuiltins x
 nolimit:base.NoLimit
structure Cx where
 prog:Program
 w:World
 K:PySem.W.Frag
 mg:Str->Option Value
 base:Heap
 A:Around
 N:List Str
 s₀:Shared
 H₀:Hp
 env:Env
 outer:List Env
 stack:List Env
 ex:List Addr
 fn:Str->Bool
 calm:Bool
 pn:List (Addr×Obj)
 xe:Value->Shared->Prop
noncomputable def frs(l:List Env):List Addr:=l.filterMap (·.frame)
noncomputable abbrev Cx.fs(X:Cx):List Addr:=frs X.outer
noncomputable def Vis(sc:Scope)(x:Str):Prop:=sc.names.lookup x=some .local \/ sc.names.lookup x=some .cell \/ sc.names.lookup x=some .free
noncomputable def Loc(sc:Scope)(x:Str):Prop:=sc.names.lookup x=some .local \/ sc.names.lookup x=some .cell
noncomputable def Look(env:Env)(h:Heap)(m:Str->Option Value)(x:Str)(u:Value):Prop:=
 (env.kindOf x=some .local /\ m x=some u) \/ ((env.kindOf x=some .cell \/ env.kindOf x=some .free) /\ ∃ c,env.cells.lookup x=some c /\ h.IsCell c (some u))
structure Cx.Ok(X:Cx):Prop where
 mod:Mod X.K X.mg X.base
 kind:X.env.scope.kind=.function
 glob:X.env.globals=mainGlobals
 blt:X.env.builtins=builtinsNs
 above:X.s₀.heap.objs.size<=X.env.locals
 inj:∀ x y c,X.env.cells.lookup x=some c->X.env.cells.lookup y=some c->x=y
 has:∀ x,(X.env.kindOf x=some .cell \/ X.env.kindOf x=some .free)->∃ c,X.env.cells.lookup x=some c
 cab:∀ x c,X.fn x=true->X.env.cells.lookup x=some c->X.s₀.heap.objs.size<=c
 hd:X.calm=true->X.A.handled=none
 frames:X.A.frames=some X.stack
 stk:X.stack=X.outer \/ (X.stack=X.env ::X.outer /\ X.env.frame=some X.env.locals)
 exf:∀ b∈X.ex,b≠X.env.locals /\ ∀ x c,X.env.cells.lookup x=some c->c≠b
 bs:∀ b o,X.base.get? b=some o->X.s₀.heap.get? b=some o /\ X.H₀ b=none
 bsz:X.base.objs.size<=X.s₀.heap.objs.size
 noex:∀ b o,X.base.get? b=some o->b∉X.ex
 exfs:∀ b∈X.ex,b∉X.fs
 sX:X.s₀.heap.FunFrames X.base X.outer
 frf:∀ b∈X.fs,X.H₀ b=none
structure Inv(X:Cx)(pins:List (Addr×Obj))(σ:List (Option V))(H:Hp)(s:Shared):Prop where
 ok:X.Ok
 os:s.os=X.s₀.os
 bare:AllBare s.gens
 base:Un X.fs X.ex X.H₀ H X.s₀.heap s.heap
 loc:∃ m,s.heap.Ns X.env.locals m /\ ∀(i:Nat) (x:Str) (v:V),X.N[i]?=some x->σ[i]?=some (some v)->Vis X.env.scope x->∃ u,RelV v u /\ Look X.env s.heap m x u
 cell:∀ x c,X.env.cells.lookup x=some c->∃ v,s.heap.IsCell c v
 free:H X.env.locals=none
 freeC:∀ x c,X.env.cells.lookup x=some c->H c=none
 pin:∀ p∈X.pn++pins,s.heap.get? p.1=some p.2 /\ H p.1=none /\ p.1≠X.env.locals /\ p.1∉X.fs /\ ∀ v,p.2.data≠.cell v
 hok:HOk X.prog X.w H s.heap
 len:σ.length=X.N.length
section
variable{X:Cx}{pins:List (Addr×Obj)}{σ:List (Option V)}{H H':Hp}{s:Shared}{h':Heap}
theorem Cx.Ok.Hf(ok:X.Ok){b:Addr}{o:Obj}(e:X.base.get? b=some o):b∉X.fs:=fun hb=>by
 have:=(ok.sX.mem hb).1;rw[e]at this;cases this
theorem Inv.bs(I:Inv X pins σ H s):∀ b o,X.base.get? b=some o->s.heap.get? b=some o /\ H b=none:=fun b o e=>
 ⟨I.base.keep b o (I.ok.bs b o e).1 (I.ok.bs b o e).2 (I.ok.Hf e) (I.ok.noex b o e),I.base.free b o (I.ok.bs b o e).1 (I.ok.bs b o e).2 (I.ok.noex b o e)⟩
theorem Inv.bk(I:Inv X pins σ H s):∀ b o,X.base.get? b=some o->s.heap.get? b=some o:=fun b o e=>(I.bs b o e).1
theorem Inv.mod(I:Inv X pins σ H s):Mod X.K X.mg X.base:=I.ok.mod
theorem Inv.kIn(I:Inv X pins σ H s):X.K.In s.heap:=I.ok.mod.kin.keeps I.bk
theorem Inv.nolimit(I:Inv X pins σ H s):s.heap.NoLimit:=I.ok.mod.nolimit.keeps I.bk
theorem Inv.lt(I:Inv X pins σ H s):X.env.locals<s.heap.objs.size:=let ⟨_,hn,_⟩:=I.loc;hn.lt
theorem Inv.sz(I:Inv X pins σ H s):X.s₀.heap.objs.size<=s.heap.objs.size:=Nat.le_trans I.ok.above (Nat.le_of_lt I.lt)
theorem Inv.HI(I:Inv X pins σ H s){a:Addr}(h:s.heap.objs.size<=a):a∉X.fs:=fun hb=>by
 obtain⟨_,o,ho,_⟩:=I.ok.sX.mem hb;exact absurd (Nat.lt_of_lt_of_le (Heap.lt_size ho) (Nat.le_trans I.sz h)) (Nat.lt_irrefl _)
theorem Inv.cne(I:Inv X pins σ H s):∀ x c,X.env.cells.lookup x=some c->c≠X.env.locals:=fun x c e z=>by
 obtain⟨v,o,ho,hd⟩:=I.cell x c e;obtain⟨m,⟨o',es,ep,ho',hd',_⟩,_⟩:=I.loc;rw[z,ho']at ho;cases ho;rw[hd']at hd;cases hd
theorem Inv.sX(I:Inv X pins σ H s):s.heap.FunFrames X.base X.outer:=by
 have all:∀(l:List Env),(∀ b∈frs l,b∈X.fs)->X.s₀.heap.FunFrames X.base l->s.heap.FunFrames X.base l:=by
  intro l
  induction l with
  |nil=>intro _ _;trivial
  | cons env r ih=>
    intro hs hl;obtain⟨hk,⟨L,o,hf,hn,ho,hd⟩,hr⟩:=hl
    have hL:L∈X.fs:=hs L (by unfold frs;rw[List.filterMap_cons,hf];exact List.mem_cons_self)
    obtain⟨sl,e⟩:=I.base.slot L o ho (I.ok.frf L hL) hL fun z=>I.ok.exfs L z hL
    exact⟨hk,⟨L,_,hf,hn,e,hd⟩,ih (fun b hb=>hs b (by unfold frs;rw[List.filterMap_cons,hf];exact List.mem_cons_of_mem _ hb)) hr⟩
 exact all X.outer (fun _ hb=>hb) I.ok.sX
theorem Inv.stack(I:Inv X pins σ H s):s.heap.FunFrames X.base X.stack:=by
 rcases I.ok.stk with e|⟨e,hf⟩
 . rw[e];exact I.sX
 . rw[e];obtain⟨m,hn,_⟩:=I.loc;refine .cons (by rw[I.ok.kind];decide) hf hn ?_ I.sX;exact Heap.get?_none_of_le (Nat.le_trans I.ok.bsz I.ok.above)
theorem Inv.wK(I:Inv X pins σ H s):∀ b∈frs X.stack,b∈X.env.locals ::X.fs:=fun b hb=>by
 rcases I.ok.stk with e|⟨e,hf⟩
 . rw[e]at hb;exact List.mem_cons_of_mem _ hb
 . rw[e]at hb;unfold frs at hb;rw[List.filterMap_cons,hf]at hb;exact hb
theorem Inv.vc(I:Inv X pins σ H s):∀ b∈frs X.stack,H b=none:=fun b hb=>by
 rcases List.mem_cons.mp (I.wK b hb)with e|hb
 . rw[e];exact I.free
 . obtain⟨_,o,ho,_⟩:=I.ok.sX.mem hb
   exact I.base.free b o ho (I.ok.frf b hb) fun z=>I.ok.exfs b z hb
theorem Inv.step{g':Array GenState}{t':Nat}{d':Drawn}{ch:List Addr}(I:Inv X pins σ H s)
  (hch:∀ b∈ch,(b∈X.ex \/ X.s₀.heap.objs.size<=b) /\ b≠X.env.locals /\ (∀ x c,X.env.cells.lookup x=some c->c≠b) /\ ∀ p∈X.pn++pins,p.1≠b)
  (keep:∀ b o,b≠X.env.locals->b∉X.fs->b∉ch->s.heap.get? b=some o->H b=none->h'.get? b=some o)
  (slot:∀ b o,b≠X.env.locals->b∈X.fs->b∉ch->s.heap.get? b=some o->H b=none->∃ sl,h'.get? b=some { o with slots:=sl }) (free:∀ b o,b∉ch->s.heap.get? b=some o->H b=none->H' b=none)
  (there:∀ b o,b∉ch->s.heap.get? b=some o->∃ o',h'.get? b=some o')
  (tups:∀ b xs,H b=some (.tup xs)->H' b=some (.tup xs)) (frzs:∀ b o u,H b=some (.frz o u)->H' b=some (.frz o u)) (tbls:∀ b ps,H b=some (.tbl ps)->∃ more,H' b=some (.tbl (ps++more)))
  (ns:∀ m,s.heap.Ns X.env.locals m->h'.Ns X.env.locals m) (hok:HOk X.prog X.w H' h') (hg:AllBare g'):
  Inv X pins σ H' { s with heap:=h',gens:=g',drawn:=d',toks:=t' }:=by
 have neL:∀ b o,X.s₀.heap.get? b=some o->b≠X.env.locals:=fun b o e=>Nat.ne_of_lt (Nat.lt_of_lt_of_le (Heap.lt_size e) I.ok.above)
 have neC:∀ b o,X.s₀.heap.get? b=some o->b∉X.ex->b∉ch:=fun b o e hx hb=>by
  rcases(hch b hb).1 with z|z
  . exact hx z
  . exact absurd (Nat.lt_of_lt_of_le (Heap.lt_size e) z) (Nat.lt_irrefl _)
 have cellK:∀ x c,X.env.cells.lookup x=some c->∀ v,s.heap.IsCell c v->h'.IsCell c v:=fun x c e v ⟨o,ho,hd⟩=>by
  have nch:c∉ch:=fun z=>(hch c z).2.2.1 x c e rfl
  by_cases hc:c∈X.fs
  . obtain⟨sl,q⟩:=slot c o (I.cne x c e) hc nch ho (I.freeC x c e)
    exact⟨_,q,hd⟩
  . exact⟨o,keep c o (I.cne x c e) hc nch ho (I.freeC x c e),hd⟩
 refine⟨I.ok,I.os,hg,⟨fun b o e n hb hx=>?_,fun b o e n hb hx=>?_,fun b o e n hx=>?_,fun b o e hx=>?_,fun b xs e=>tups b xs (I.base.tups b xs e),fun b o xs e=>frzs b o xs (I.base.frzs b o xs e),fun b ps e=>?_⟩,?_,fun x c e=>?_,?_,fun x c e=>?_,fun p hp=>?_,hok,I.len⟩
 . exact keep b o (neL b o e) hb (neC b o e hx) (I.base.keep b o e n hb hx) (I.base.free b o e n hx)
 . obtain⟨sl,e1⟩:=I.base.slot b o e n hb hx;obtain⟨sl',e2⟩:=slot b _ (neL b o e) hb (neC b o e hx) e1 (I.base.free b o e n hx)
   exact⟨sl',e2⟩
 . obtain⟨o',e1⟩:=I.base.there b o e hx;exact free b o' (neC b o e hx) e1 (I.base.free b o e n hx)
 . obtain⟨o',e1⟩:=I.base.there b o e hx;exact there b o' (neC b o e hx) e1
 . obtain⟨m1,e1⟩:=I.base.tbls b ps e;obtain⟨m2,e2⟩:=tbls b _ e1
   exact⟨m1++m2,by rw[e2,Array.append_assoc]⟩
 . obtain⟨m,hn,hl⟩:=I.loc
   refine⟨m,ns m hn,fun i x v e1 e2 e3=>?_⟩
   obtain⟨u,r,l⟩:=hl i x v e1 e2 e3
   refine⟨u,r,?_⟩
   rcases l with l|⟨k,c,e,z⟩
   . exact .inl l
   . exact .inr ⟨k,c,e,cellK x c e _ z⟩
 . obtain⟨v,z⟩:=I.cell x c e
   exact⟨v,cellK x c e v z⟩
 . obtain⟨m,⟨o,_,_,ho,_⟩,_⟩:=I.loc;exact free _ o (fun z=>(hch _ z).2.1 rfl) ho I.free
 . obtain⟨v,o,ho,hd⟩:=I.cell x c e;exact free c o (fun z=>(hch c z).2.2.1 x c e rfl) ho (I.freeC x c e)
 . obtain⟨e,n,ne,nf,d⟩:=I.pin p hp
   have nch:p.1∉ch:=fun z=>(hch p.1 z).2.2.2 p hp rfl
   exact⟨keep p.1 p.2 ne nf nch e n,free p.1 p.2 nch e n,ne,nf,d⟩
theorem Inv.un{t':Nat}(I:Inv X pins σ H s)(u:Un X.fs [] H H' s.heap h')(hok:HOk X.prog X.w H' h'):Inv X pins σ H' { s with heap:=h',toks:=t' }:=by
 obtain⟨m,⟨o,es,ep,ho,r⟩,_⟩:=id I.loc;obtain⟨sl,hL⟩:=u.any ho I.free (by simp)
 exact I.step (g':=s.gens) (d':=s.drawn) (ch:=[]) (fun _ z=>nomatch z) (fun b o _ hb _ e n=>u.keep b o e n hb (by simp)) (fun b o _ hb _ e n=>u.slot b o e n hb (by simp)) (fun b o _ e n=>u.free b o e n (by simp)) (fun b o _ e=>u.there b o e (by simp)) u.tups u.frzs u.tbls (fun m' hm=>by
  obtain⟨o',es',ep',ho',r'⟩:=hm;rw[ho]at ho';cases ho'
  exact⟨_,es',ep',hL,r'⟩) hok I.bare
theorem Inv.call{g':Array GenState}{t':Nat}{d':Drawn}{ch:List Addr}(I:Inv X pins σ H s)(u:Un (frs X.stack) ch H H' s.heap h')(hok:HOk X.prog X.w H' h')(hg:AllBare g')
  (hch:∀ b∈ch,(b∈X.ex \/ X.s₀.heap.objs.size<=b) /\ b≠X.env.locals /\ (∀ x c,X.env.cells.lookup x=some c->c≠b) /\ ∀ p∈X.pn++pins,p.1≠b):
  Inv X pins σ H' { s with heap:=h',gens:=g',drawn:=d',toks:=t' }:=by
 obtain⟨m,⟨o,es,ep,ho,r⟩,_⟩:=id I.loc
 obtain⟨sl,hL⟩:=u.any ho I.free fun z=>(hch _ z).2.1 rfl
 exact I.step (ch:=ch) hch (fun b o hL hb hc e n=>u.keep b o e n (fun z=>(List.mem_cons.mp (I.wK b z)).elim hL hb) hc) (fun b o _ _ hc e n=>u.any e n hc) (fun b o hc e n=>u.free b o e n hc) (fun b o hc e=>u.there b o e hc) u.tups u.frzs u.tbls (fun m' hm=>by
  obtain⟨o',es',ep',ho',r'⟩:=hm;rw[ho]at ho';cases ho'
  exact⟨_,es',ep',hL,r'⟩) hok hg
theorem Inv.turned{t':Nat}{it:Addr}(I:Inv X pins σ H s)(k:∀ b o,b≠it->s.heap.get? b=some o->h'.get? b=some o)(hn:H it=none)(hL:it≠X.env.locals)
  (h1:it∈X.ex \/ X.s₀.heap.objs.size<=it) (h2:∀ x c,X.env.cells.lookup x=some c->c≠it) (h3:∀ p∈X.pn++pins,p.1≠it):Inv X pins σ H { s with heap:=h',toks:=t' }:=by
 have nit:∀ b u,H b=some u->b≠it:=fun b u e z=>by rw[z,hn]at e;cases e
 refine I.step (g':=s.gens) (d':=s.drawn) (ch:=[it]) (fun b hb=>?_) (fun b o _ _ hc e _=>k b o (fun z=>hc (by simp[z])) e) (fun b o _ _ hc e _=>⟨o.slots,k b o (fun z=>hc (by simp[z])) e⟩) (fun _ _ _ _ n=>n)
  (fun b o hc e=>⟨o,k b o (fun z=>hc (by simp[z])) e⟩) (fun _ _ e=>e) (fun _ _ _ e=>e) (fun b ps e=>⟨#[],by rw[e];simp⟩) (fun m hm=>?_) (fun b u e=>?_) I.bare
 . have e:b=it:=by simpa using hb
   subst e
   exact⟨h1,hL,h2,h3⟩
 . obtain⟨o,es,ep,ho,r⟩:=hm
   exact⟨o,es,ep,k _ o (Ne.symm hL) ho,r⟩
 . refine(I.hok b u e).qS (fun c v hc q=>k c v ?_ q) (fun _ q=>q) fun _ _ q=>q
   rcases hc with z|z
   . rw[z];exact nit b u e
   . exact nit c _ z
theorem Inv.tok(I:Inv X pins σ H s)(t:Nat):Inv X pins σ H { s with toks:=t }:=I.un (h':=s.heap) (t':=t) Un.refl I.hok
theorem Inv.kept{t':Nat}(I:Inv X pins σ H s)(k:∀ b u,s.heap.get? b=some u->h'.get? b=some u):Inv X pins σ H { s with heap:=h',toks:=t' }:=I.un (Un.kept k) (I.hok.kept k)
theorem Inv.laid{a:Addr}{o:HO}{t':Nat}(I:Inv X pins σ H s)(k:∀ b u,s.heap.get? b=some u->h'.get? b=some u)(hp:s.heap.objs.size<=a)(new:gn X.prog X.w (upd H a o) h' a o):
  Inv X pins σ (upd H a o) { s with heap:=h',toks:=t' }:=I.un (Un.laid k hp (I.hok.fresh hp)) (I.hok.laid k hp new)
theorem Inv.write{x e:Addr}{o:HO}{t':Nat}(I:Inv X pins σ H s)(mu:Mut (H x))(he:e=x \/ H e=some (.own x))(k:∀ b u,b≠e->s.heap.get? b=some u->h'.get? b=some u)(heo:∃ u,h'.get? e=some u)
  (new:gn X.prog X.w (upd H x o) h' x o):Inv X pins σ (upd H x o) { s with heap:=h',toks:=t' }:=I.un (Un.write mu he k heo) (I.hok.write mu he k heo new)
theorem Inv.yr{pins':List (Addr×Obj)}(I:Inv X pins σ H s)(h:∀ p∈pins',s.heap.get? p.1=some p.2 /\ H p.1=none /\ p.1≠X.env.locals /\ p.1∉X.fs /\ ∀ v,p.2.data≠.cell v):Inv X pins' σ H s:=
 ⟨I.ok,I.os,I.bare,I.base,I.loc,I.cell,I.free,I.freeC,fun p hp=>(List.mem_append.mp hp).elim (fun z=>I.pin p (List.mem_append_left _ z)) (h p),I.hok,I.len⟩
theorem wC{N:List Str}(hN:N.Nodup){i j:Nat}{x:Str}(a:N[i]?=some x)(b:N[j]?=some x):i=j:=by
 obtain⟨h1,e1⟩:=List.getElem?_eq_some_iff.mp a;obtain⟨h2,e2⟩:=List.getElem?_eq_some_iff.mp b
 exact(List.getElem_inj hN).mp (e1.trans e2.symm)
theorem zx{M:Model}{A:Around}{E:Value->Shared->Prop}{i:Nat}{x:Str}{v:V}{u:Value}{Q:Unit->Shared->Prop}(I:Inv X pins σ H s)(hN:X.N.Nodup)(hi:X.N[i]?=some x)(hx:Loc X.env.scope x)(r:RelV v u)
  (h:∀ s',Inv X pins (σ.set i (some v)) H s'->(∃ a,Heap.SameBut a s.heap s'.heap /\ (a=X.env.locals \/ X.env.cells.lookup x=some a))->Q () s') (hf:X.fn x=true \/ X.env.scope.names.lookup x=some .local:=by first|exact .inl rfl|exact .inr rfl|assumption):wpAny M A (storeName X.env x u) Q E s:=by
 obtain⟨m,hn,hl⟩:=id I.loc
 have hcls:(X.env.scope.kind == .class||(X.env.scope.kind == .module&&X.env.locals != X.env.globals))=false:=by rw[I.ok.kind];rfl
 have hiσ:i<σ.length:=by rw[I.len];exact(List.getElem?_eq_some_iff.mp hi).1
 have cne:=I.cne
 have tracked:∀{a:Addr} {h':Heap},(∃ o,s.heap.get? a=some o /\ H a=none)->Heap.SameBut a s.heap h'->HOk X.prog X.w H h':=fun {a h'} ha hs b ob e=>by
  obtain⟨_,_,hfree⟩:=ha
  refine(I.hok b ob e).qS (fun c w' hc q=>(hs.2 c ?_).trans q) (fun _ q=>q) fun _ _ q=>q
  rintro rfl
  rcases hc with rfl|hc
  . rw[hfree]at e;cases e
  . rw[hfree]at hc;cases hc
 rcases hx with hk|hk
 . refine wpAny_storeName_local hk hn (fun h' hn' hs=>?_) hcls;obtain⟨oL,_,_,hoL,_⟩:=id hn;refine h _ ⟨I.ok,I.os,I.bare,⟨fun b o e n hb hx=>?_,fun b o e n hb hx=>?_,I.base.free,fun b o e hx=>?_,I.base.tups,I.base.frzs,I.base.tbls⟩,⟨_,hn',fun j y v' e1 e2 e3=>?_⟩,fun y c e=>?_,I.free,I.freeC,fun p hp=>?_,tracked ⟨oL,hoL,I.free⟩ hs,by simpa using I.len⟩ ⟨_,hs,.inl rfl⟩
   . exact(hs.2 b (Nat.ne_of_lt (Nat.lt_of_lt_of_le (Heap.lt_size e) I.ok.above))).trans (I.base.keep b o e n hb hx)
   . obtain⟨sl,e1⟩:=I.base.slot b o e n hb hx
     exact⟨sl,(hs.2 b (Nat.ne_of_lt (Nat.lt_of_lt_of_le (Heap.lt_size e) I.ok.above))).trans e1⟩
   . obtain⟨o',e1⟩:=I.base.there b o e hx
     exact⟨o',(hs.2 b (Nat.ne_of_lt (Nat.lt_of_lt_of_le (Heap.lt_size e) I.ok.above))).trans e1⟩
   . by_cases hj:j=i
     . subst hj;rw[hi]at e1;cases e1;rw[List.getElem?_set_self hiσ]at e2;cases e2
       exact⟨u,r,.inl ⟨hk,by simp⟩⟩
     . rw[List.getElem?_set_ne (Ne.symm hj)]at e2;obtain⟨u',r',q⟩:=hl j y v' e1 e2 e3
       refine⟨u',r',?_⟩
       rcases q with⟨k,e⟩|⟨k,c,e,z⟩
       . refine .inl ⟨k,?_⟩
         have:y≠x:=fun e=>hj (wC hN e1 (e ▸ hi))
         simp[this,e]
       . exact .inr ⟨k,c,e,z.sameBut hs (cne y c e)⟩
   . obtain⟨w',z⟩:=I.cell y c e
     exact⟨w',z.sameBut hs (cne y c e)⟩
   . obtain⟨e,n,ne,nf,d⟩:=I.pin p hp
     exact⟨(hs.2 p.1 ne).trans e,n,ne,nf,d⟩
 . have hfn:X.fn x = true:=by
    rcases hf with z|z
    . exact z
    . rw[z]at hk;cases hk
   obtain⟨c,hc⟩:=I.ok.has x (.inl hk);obtain⟨w',z⟩:=I.cell x c hc;refine wpAny_storeName_cell I.ok.kind hk hc z (fun h' hc' hs=>?_);obtain⟨oc,hoc,hocd⟩:=id z;refine h { s with heap:=h' } ⟨I.ok,I.os,I.bare,⟨fun b o e n hb hx=>?_,fun b o e n hb hx=>?_,I.base.free,fun b o e hx=>?_,I.base.tups,I.base.frzs,I.base.tbls⟩,⟨m,hn.sameBut hs (Ne.symm (cne x c hc)),fun j y v' e1 e2 e3=>?_⟩,fun y c' e=>?_,I.free,I.freeC,fun p hp=>?_,tracked ⟨oc,hoc,I.freeC x c hc⟩ hs,by simpa using I.len⟩ ⟨c,hs,.inr hc⟩
   . exact(hs.2 b (Nat.ne_of_lt (Nat.lt_of_lt_of_le (Heap.lt_size e) (I.ok.cab x c hfn hc)))).trans (I.base.keep b o e n hb hx)
   . obtain⟨sl,e1⟩:=I.base.slot b o e n hb hx
     exact⟨sl,(hs.2 b (Nat.ne_of_lt (Nat.lt_of_lt_of_le (Heap.lt_size e) (I.ok.cab x c hfn hc)))).trans e1⟩
   . obtain⟨o',e1⟩:=I.base.there b o e hx
     exact⟨o',(hs.2 b (Nat.ne_of_lt (Nat.lt_of_lt_of_le (Heap.lt_size e) (I.ok.cab x c hfn hc)))).trans e1⟩
   . by_cases hj:j=i
     . subst hj;rw[hi]at e1;cases e1;rw[List.getElem?_set_self hiσ]at e2;cases e2
       exact⟨u,r,.inr ⟨.inl hk,c,hc,hc'⟩⟩
     . rw[List.getElem?_set_ne (Ne.symm hj)]at e2;obtain⟨u',r',q⟩:=hl j y v' e1 e2 e3
       refine⟨u',r',?_⟩
       rcases q with q|⟨k,c',e,z'⟩
       . exact .inl q
       . refine .inr ⟨k,c',e,z'.sameBut hs ?_⟩
         rintro rfl
         exact hj (wC hN e1 (I.ok.inj _ _ _ e hc ▸ hi))
   . by_cases hcc:c'=c
     . subst hcc;exact⟨_,hc'⟩
     . obtain⟨w2,z2⟩:=I.cell y c' e
       exact⟨w2,z2.sameBut hs hcc⟩
   . obtain⟨e,n,ne,nf,d⟩:=I.pin p hp
     refine⟨(hs.2 p.1 ?_).trans e,n,ne,nf,d⟩
     intro q;rw[q,hoc]at e
     have q':oc=p.2:=Option.some.inj e
     exact d w' (by rw[<- q'];exact hocd)
theorem pQ{M:Model}{A:Around}{E:Value->Shared->Prop}{i:Nat}{x:Str}{v:V}{u:Value}{Q:Unit->Shared->Prop}(I:Inv X pins σ H s)(hN:X.N.Nodup)(hi:X.N[i]?=some x)(hx:Loc X.env.scope x)(r:RelV v u)
  (h:∀ s',Inv X pins (σ.set i (some v)) H s'->Q () s') (hf:X.fn x=true \/ X.env.scope.names.lookup x=some .local:=by first|exact .inl rfl|exact .inr rfl|assumption):wpAny M A (storeName X.env x u) Q E s:=
 zx I hN hi hx r (fun s' I' _=>h s' I') hf
theorem Inv.Dn{s':Shared}{ch:List Addr}(I:Inv X pins σ H s)(ho:s'.os=s.os)(u:Un (frs X.stack) ch H H' s.heap s'.heap)(hok:HOk X.prog X.w H' s'.heap)(hg:AllBare s'.gens)
  (hch:∀ b∈ch,(b∈X.ex \/ X.s₀.heap.objs.size<=b) /\ b≠X.env.locals /\ (∀ x c,X.env.cells.lookup x=some c->c≠b) /\ ∀ p∈X.pn++pins,p.1≠b):Inv X pins σ H' s':=by
 obtain⟨h',g',d',t',o'⟩:=s'
 have e:o'=s.os:=ho
 subst e;exact I.call (g':=g') (t':=t') (d':=d') u hok hg hch
end
abbrev XK:=Value->Option Addr->Hp->Prop
abbrev St:=List (Option V)
abbrev VK:=V->Hp->Prop
abbrev TE:=St->Hp->VK->Prop
abbrev TT:=St->Hp->(Bool->Hp->Prop)->Prop
abbrev TA:=St->Hp->(List V->Hp->Prop)->Prop
structure Ends where
 nx:St->Hp->Prop
 rt:VK
 bk:St->Hp->Prop:=fun _ _=>False
 ct:St->Hp->Prop:=fun _ _=>False
abbrev TS:=Ends->St->Hp->Prop
noncomputable def EP(X:Cx)(pins:List (Addr×Obj))(σ:St)(Q:VK)(u:Value)(s':Shared):Prop:=∃ v H',Inv X pins σ H' s' /\ RelV v u /\ Q v H'
noncomputable def TP(X:Cx)(pins:List (Addr×Obj))(σ:St)(Q:Bool->Hp->Prop)(b:Bool)(s':Shared):Prop:=∃ H',Inv X pins σ H' s' /\ Q b H'
noncomputable def AP(X:Cx)(pins:List (Addr×Obj))(σ:St)(Q:List V->Hp->Prop)(us:List Value)(s':Shared):Prop:=∃ vs H',Inv X pins σ H' s' /\ Vals vs us /\ Q vs H'
noncomputable def SP(X:Cx)(pins:List (Addr×Obj))(D:Ends)(f:Flow)(s':Shared):Prop:=
 match f with
 |.next=>∃ σ' H',Inv X pins σ' H' s' /\ D.nx σ' H'
 |.brk=>∃ σ' H',Inv X pins σ' H' s' /\ D.bk σ' H'
 |.cont=>∃ σ' H',Inv X pins σ' H' s' /\ D.ct σ' H'
 |.ret u=>∃ v σ' H',Inv X pins σ' H' s' /\ RelV v u /\ D.rt v H'
noncomputable def PE(X:Cx)(e:Expr)(t:TE):Prop:=
 ∀(pins:List (Addr×Obj)) (s:Shared) (σ:St) (H:Hp) (Q:VK),Inv X pins σ H s->t σ H Q->wpAny (model X.prog X.w) X.A (eval e X.env) (EP X pins σ Q) X.xe s
noncomputable def PT(X:Cx)(e:Expr)(t:TT):Prop:=
 ∀(pins:List (Addr×Obj)) (s:Shared) (σ:St) (H:Hp) (Q:Bool->Hp->Prop),Inv X pins σ H s->t σ H Q->wpAny (model X.prog X.w) X.A (isTrue e X.env (eval e X.env)) (TP X pins σ Q) X.xe s
noncomputable def PW(X:Cx)(e:Expr)(t:TT):Prop:=
 ∀(whole:Sem Value) (pins:List (Addr×Obj)) (s:Shared) (σ:St) (H:Hp) (Q:Bool->Hp->Prop),Inv X pins σ H s->t σ H Q->wpAny (model X.prog X.w) X.A (isTrue e X.env whole) (TP X pins σ Q) X.xe s
theorem PW.pt{X:Cx}{e:Expr}{t:TT}(h:PW X e t):PT X e t:=h _
noncomputable def PA(X:Cx)(es:List Expr)(t:TA):Prop:=
 ∀(pos:Pos) (pins:List (Addr×Obj)) (s:Shared) (σ:St) (H:Hp) (Q:List V->Hp->Prop),Inv X pins σ H s->t σ H Q->wpAny (model X.prog X.w) X.A (spliced (backTo pos (starEach es X.env))) (AP X pins σ Q) X.xe s
noncomputable def PS(X:Cx)(st:Stmt)(t:TS):Prop:=
 ∀(pins:List (Addr×Obj)) (s:Shared) (σ:St) (H:Hp) (D:Ends),Inv X pins σ H s->t D σ H->wpAny (model X.prog X.w) X.A (exec st X.env) (SP X pins D) X.xe s
noncomputable def PSs(X:Cx)(st:List Stmt)(t:TS):Prop:=
 ∀(pins:List (Addr×Obj)) (s:Shared) (σ:St) (H:Hp) (D:Ends),Inv X pins σ H s->t D σ H->wpAny (model X.prog X.w) X.A (execs st X.env) (SP X pins D) X.xe s
theorem thn{α:Type}{t:Sem α}{Q Q':α->Shared->Prop}{M:Model}{A:Around}{E:Value->Shared->Prop}{s:Shared}(h:wpAny M A t Q E s)(hQ:∀ a s,Q a s->Q' a s):wpAny M A t Q' E s:=wpAny_mono h hQ fun _ _ x=>x
section
variable{X:Cx}
theorem bin{a b:Expr}{ta tb:TE}(ha:PE X a ta)(hb:PE X b tb){pins:List (Addr×Obj)}{s:Shared}{σ:St}{H:Hp}{R:V->V->Hp->Prop}(I:Inv X pins σ H s)(h:ta σ H fun x H1=>tb σ H1 fun y H2=>R x y H2)
  {α:Type} {Q:α->Shared->Prop} {f:Value->Value->Sem α}
  (hf:∀ v u s2 x y H2,Inv X pins σ H2 s2->RelV x v->RelV y u->R x y H2->wpAny (model X.prog X.w) X.A (f v u) Q X.xe s2):
  wpAny (model X.prog X.w) X.A (eval a X.env) (fun v s₁=>wpAny (model X.prog X.w) X.A (eval b X.env) (fun u s₂=>wpAny (model X.prog X.w) X.A (f v u) Q X.xe s₂) X.xe s₁) X.xe s:=by
 refine thn (ha pins s σ H _ I h) fun v s1 ⟨x,H1,I1,r1,q1⟩=>?_
 refine thn (hb pins s1 σ H1 _ I1 q1) fun u s2 ⟨y,H2,I2,r2,q2⟩=>?_
 exact hf v u s2 x y H2 I2 r1 r2 q2
noncomputable def qP(i:Nat):TE:=fun σ H Q=>∃ v,σ[i]?=some (some v) /\ Q v H
noncomputable def tC(v:V):TE:=fun _ H Q=>Q v H
theorem ED{i:Nat}{x:Str}{pos:Pos}(hN:X.N[i]?=some x)(hv:Vis X.env.scope x)(hd:(x==("__debug__":Str))=false:=by decide)(hcd:(x==("__classdict__":Str))=false:=by decide):PE X (.Name x pos) (qP i):=by
 intro pins s σ H Q I h;obtain⟨v,e,h⟩:=h;obtain⟨m,hn,hl⟩:=I.loc;obtain⟨u,r,l⟩:=hl i x v hN e hv
 have fin:EP X pins σ Q u s:=⟨v,H,I,r,h⟩
 rcases l with⟨hk,hm⟩|⟨hk,c,hc,hcell⟩
 . exact wpAny_Name (wpAny_loadName_local I.ok.kind hk hn hm fin) hd
 . rcases hk with hk|hk
   . exact wpAny_Name (wpAny_loadName_cell I.ok.kind hk hc hcell fin) hd
   . exact wpAny_Name (wpAny_loadName_free I.ok.kind hk hc hcell fin hcd) hd
theorem Fy{i j pos}:PE X (.Constant (.int i) j pos) (tC (.int i)):=fun _ _ _ H _ I h=>wpAny_Constant_int ⟨.int i,H,I.tok _,⟨_,rfl⟩,h⟩
theorem Gp{b j pos}:PE X (.Constant (.bool b) j pos) (tC (.bl b)):=fun _ _ _ H _ I h=>Constant_bool ⟨.bl b,H,I,rfl,h⟩
theorem Eg{j pos}:PE X (.Constant .none j pos) (tC .non):=fun _ _ _ H _ I h=>Constant_none ⟨.non,H,I,rfl,h⟩
theorem Ea{x j pos}:PE X (.Constant (.str x) j pos) (tC (.str x)):=fun _ _ _ H _ I h=>Calls.Constant_str ⟨.str x,H,I.tok _,⟨_,rfl⟩,h⟩
noncomputable def Gl(X:Cx)(x:Str):Prop:=X.env.kindOf x=some .globalImplicit
theorem rb{E:Value->Shared->Prop}{pins:List (Addr×Obj)}{s:Shared}{σ:St}{H:Hp}{x:Str}{u:Value}{pos:Pos}{Q:Value->Shared->Prop}(I:Inv X pins σ H s)(hg:Gl X x)(hm:X.mg x=some u)(h:Q u s)
  (hd:(x==("__debug__":Str))=false:=by decide):wpAny (model X.prog X.w) X.A (eval (.Name x pos) X.env) Q E s:=
 Calls.Name_function_global I.ok.kind hg (Calls.loadGlobal_global (by rw[I.ok.glob];exact I.mod.glob.keeps I.bk) hm h) hd
theorem si{E:Value->Shared->Prop}{pins:List (Addr×Obj)}{s:Shared}{σ:St}{H:Hp}{x:Str}{u:Value}{pos:Pos}{Q:Value->Shared->Prop}(I:Inv X pins σ H s)(hg:Gl X x)(hm:X.mg x=none)(hv:bootBuiltins x=some u)(h:Q u s)
  (hn:x ≠ "__name__":=by decide) (hd:(x==("__debug__":Str))=false:=by decide):wpAny (model X.prog X.w) X.A (eval (.Name x pos) X.env) Q E s:=by
 obtain⟨mb,h1,h2⟩:=I.mod.blt;exact Calls.Name_function_global I.ok.kind hg (Calls.loadGlobal_builtin (by rw[I.ok.glob];exact I.mod.glob.keeps I.bk) hm (by rw[I.ok.blt];exact h1.keeps I.bk) ((h2 x hn).trans hv) h) hd
theorem Cj{x:Str}{v:V}{u:Value}{pos:Pos}(hg:Gl X x)(hm:X.mg x=some u)(r:RelV v u)(hd:(x==("__debug__":Str))=false:=by decide):PE X (.Name x pos) (tC v):=
 fun _ _ _ H _ I h=>rb I hg hm ⟨v,H,I,r,h⟩ hd
theorem B8{x:Str}{v:V}{u:Value}{pos:Pos}(hg:Gl X x)(hm:X.mg x=none)(hv:bootBuiltins x=some u)(r:RelV v u)(hn:x ≠ "__name__":=by decide)(hd:(x==("__debug__":Str))=false:=by decide):PE X (.Name x pos) (tC v):=
 fun _ _ _ H _ I h=>si I hg hm hv ⟨v,H,I,r,h⟩ hn hd
variable{a b:Expr}{ta tb:TE}{pos:Pos}
noncomputable def PC(X:Cx)(op:CmpOp)(a b:Expr)(t:TE):Prop:=
 ∀(pins:List (Addr×Obj)) (s:Shared) (σ:St) (H:Hp) (Q:VK),Inv X pins σ H s->t σ H Q ->
   wpAny (model X.prog X.w) X.A (eval a X.env) (fun v s₁=>wpAny (model X.prog X.w) X.A (eval b X.env) (fun u s₂=>wpAny (model X.prog X.w) X.A (compareOp op v u) (EP X pins σ Q) X.xe s₂) X.xe s₁) X.xe s
variable{tA tB':TT}{rest:List Expr}
noncomputable def AZ(t u:TT):TT:=fun σ H Q=>t σ H fun c H1=>if c=true then u σ H1 Q else Q false H1
noncomputable def tOr(t u:TT):TT:=fun σ H Q=>t σ H fun c H1=>if c=true then Q true H1 else u σ H1 Q
noncomputable def B5(t:TT):TT:=fun σ H Q=>t σ H fun c H1=>Q (!c) H1
theorem CO(ha:PT X a tA):PW X (.BoolOp .And [a] pos) tA:=by
 intro wh pins s σ H Q I h;refine isTrue_and (thn (ha pins s σ H Q I h) fun c s1 e=>?_)
 cases c with
 |true=>exact isTrue_and_nil e
 |false=>exact e
theorem EF(ha:PT X a tA):PW X (.BoolOp .Or [a] pos) tA:=by
 intro wh pins s σ H Q I h;refine isTrue_or (thn (ha pins s σ H Q I h) fun c s1 e=>?_)
 cases c with
 |false=>exact isTrue_or_nil e
 |true=>exact e
theorem DP(ha:PT X a tA)(hb:PW X (.BoolOp .And (b ::rest) pos) tB'):PW X (.BoolOp .And (a ::b ::rest) pos) (AZ tA tB'):=by
 intro wh pins s σ H Q I h;refine isTrue_and (thn (ha pins s σ H _ I h) fun c s1 ⟨H1,I1,q1⟩=>?_)
 cases c with
 |true=>exact hb wh pins s1 σ H1 Q I1 q1
 |false=>exact⟨H1,I1,q1⟩
theorem F3(ha:PT X a tA)(hb:PW X (.BoolOp .Or (b ::rest) pos) tB'):PW X (.BoolOp .Or (a ::b ::rest) pos) (tOr tA tB'):=by
 intro wh pins s σ H Q I h;refine isTrue_or (thn (ha pins s σ H _ I h) fun c s1 ⟨H1,I1,q1⟩=>?_)
 cases c with
 |true=>exact⟨H1,I1,q1⟩
 |false=>exact hb wh pins s1 σ H1 Q I1 q1
theorem D8(ha:PT X a tA):PT X (.UnaryOp .Not a pos) (B5 tA):=by
 intro pins s σ H Q I h;exact isTrue_not (ha pins s σ H (fun c H1=>Q (!c) H1) I h)
noncomputable def Ae(ta tb:TE):TE:=fun σ H Q=>ta σ H fun x H1=>∃ c,x=.bl c /\ if c=true then tb σ H1 Q else Q (.bl false) H1
noncomputable def Am(ta:TE):TE:=fun σ H Q=>ta σ H fun x H1=>∃ c,x=.bl c /\ Q (.bl (!c)) H1
theorem Ak{op}{t:TE}(h:PE X a t):PE X (.BoolOp op [a] pos) t:=fun pins s σ H Q I hw=>BoolOp_one (h pins s σ H Q I hw)
theorem Fq(ha:PE X a ta)(hb:PE X (.BoolOp .And (b ::rest) pos) tb):PE X (.BoolOp .And (a ::b ::rest) pos) (Ae ta tb):=by
 intro pins s σ H Q I h;refine BoolOp_and (thn (ha pins s σ H _ I h) fun v s1 ⟨x,H1,I1,r1,q1⟩=>?_);obtain⟨c,rfl,q1⟩:=q1;cases r1;refine wpAny_truthy_bool ?_
 cases c with
 |true=>exact hb pins s1 σ H1 Q I1 q1
 |false=>exact⟨.bl false,H1,I1,rfl,q1⟩
theorem D7(ha:PE X a ta):PE X (.UnaryOp .Not a pos) (Am ta):=by
 intro pins s σ H Q I h;refine UnaryOp_ (thn (ha pins s σ H _ I h) fun v s1 ⟨x,H1,I1,r1,q1⟩=>?_);obtain⟨c,rfl,q1⟩:=q1;cases r1;exact not_of (wpAny_truthy_bool ⟨.bl (!c),H1,I1,rfl,q1⟩)
noncomputable def tIf(t:TT)(ta tb:TE):TE:=fun σ H Q=>t σ H fun c H1=>if c=true then ta σ H1 Q else tb σ H1 Q
theorem Bp{c:Expr}(hc:PT X c tA)(ha:PE X a ta)(hb:PE X b tb):PE X (.IfExp c a b pos) (tIf tA ta tb):=by
 intro pins s σ H Q I h;refine wpAny_IfExp (thn (hc pins s σ H _ I h) fun d s1 ⟨H1,I1,q1⟩=>?_)
 cases d with
 |true=>exact ha pins s1 σ H1 Q I1 q1
 |false=>exact hb pins s1 σ H1 Q I1 q1
end
noncomputable def SqL(K:PySem.W.Frag)(H:Hp)(a:Addr)(xs:List V):Prop:=
 Rd H a (.lst xs) \/
  ∃(o:Obj) (its:Array Value) (n:Nat),K.lookup a=some o /\ o.cls=.type "list" /\ o.dict=none /\ o.data=.seq its n /\ its.size<=sizeLine /\ Vals xs its.toList
noncomputable def SqT(K:PySem.W.Frag)(H:Hp)(a:Addr)(xs:List V):Prop:=
 Rd H a (.tup xs) \/
  ∃(o:Obj) (its:Array Value) (n:Nat),K.lookup a=some o /\ o.cls=.type "tuple" /\ o.data=.seq its n /\ its.size<=sizeLine /\ Vals xs its.toList
noncomputable def Ho:Value->Option V
 |.none=>some .non
 |.bool b=>some (.bl b)
 |.int i _=>some (.int i)
 |.str x _=>some (.str x)
 |.bytes b _=>some (.byt b)
 |.float b _=>some (.flt b)
 |.ref a=>some (.ref a)
 |.type n=>some (.ty n)
 |_=>none
theorem RelV.abs{x:V}{u:Value}(r:RelV x u):Ho u=some x:=by
 cases x with
 |non=>cases r;rfl
 |bl _=>cases r;rfl
 |int _=>obtain⟨t,rfl⟩:=r;rfl
 |str _=>obtain⟨t,rfl⟩:=r;rfl
 |byt _=>obtain⟨t,rfl⟩:=r;rfl
 |flt _=>obtain⟨t,rfl⟩:=r;rfl
 |ref _=>cases r;rfl
 |ty _=>cases r;rfl
theorem RelV.inj{x y:V}{u:Value}(r:RelV x u)(q:RelV y u):x=y:=Option.some.inj (r.abs.symm.trans q.abs)
theorem Vals.inj:∀{xs ys:List V} {us:List Value},Vals xs us->Vals ys us->xs=ys
 |_,_,_,.nil,.nil=>rfl
 |_,_,_,.cons r t,.cons r' t'=>by rw[r.inj r',Vals.inj t t']
section
variable{X:Cx}{pins:List (Addr×Obj)}{σ:St}{H:Hp}{s:Shared}{a:Addr}{xs ys:List V}
theorem Inv.list(I:Inv X pins σ H s)(h:SqL X.K H a xs):∃ its:List Value,Vals xs its /\ PlainL s.heap a its.toArray /\ xs.length<=sizeLine:=by
 rcases h with h|⟨o,its,n,hk,hc,hd,hs,hz,r⟩
 . obtain⟨z,its,n,r,e⟩:=h.ok I.hok
   exact⟨its,r,⟨_,n,e,rfl,rfl,rfl⟩,z⟩
 . refine⟨its.toList,r,⟨o,n,I.kIn a o hk,hc,hd,by simpa using hs⟩,?_⟩
   have e:=r.length;simp only[Array.length_toList]at e;omega
theorem Inv.tuple(I:Inv X pins σ H s)(h:SqT X.K H a xs):∃ its:List Value,Vals xs its /\ IsTup s.heap a its.toArray /\ xs.length<=sizeLine:=by
 rcases h with h|⟨o,its,n,hk,hc,hs,hz,r⟩
 . obtain⟨z,its,r,p⟩:=h.ok I.hok
   exact⟨its,r,p,z⟩
 . refine⟨its.toList,r,⟨o,I.kIn a o hk,hc,n,by simpa using hs⟩,?_⟩
   have e:=r.length;simp only[Array.length_toList]at e;omega
theorem Inv.wj(I:Inv X pins σ H s)(h:SqL X.K H a xs)(h':SqL X.K H a ys):xs=ys:=by
 obtain⟨its,r,⟨o,n,e,_,_,d⟩,_⟩:=I.list h;obtain⟨its',r',⟨o',n',e',_,_,d'⟩,_⟩:=I.list h';rw[e]at e';cases e';rw[d]at d'
 injection d' with d1 _
 have:its=its':=by simpa using congrArg Array.toList d1
 subst this;exact r.inj r'
theorem Inv.zk(I:Inv X pins σ H s)(h:SqT X.K H a xs)(h':SqT X.K H a ys):xs=ys:=by
 obtain⟨its,r,⟨o,e,_,n,d⟩,_⟩:=I.tuple h;obtain⟨its',r',⟨o',e',_,n',d'⟩,_⟩:=I.tuple h';rw[e]at e';cases e';rw[d]at d'
 injection d' with d1 _
 have:its=its':=by simpa using congrArg Array.toList d1
 subst this;exact r.inj r'
end
section
variable{X:Cx}{st:Stmt}{rest:List Stmt}{t u:TS}{e:Expr}{te:TE}{pos:Pos}
noncomputable def Bb:TS:=fun D σ H=>D.nx σ H
noncomputable def r9(t u:TS):TS:=fun D σ H=>t { D with nx:=u D } σ H
theorem BS:PSs X [] Bb:=fun _ _ σ H _ I h=>wpAny_execs_nil ⟨σ,H,I,h⟩
theorem Ay(h1:PS X st t)(h2:PSs X rest u):PSs X (st ::rest) (r9 t u):=by
 intro pins s σ H D I h;refine wpAny_execs_cons (thn (h1 pins s σ H { D with nx:=u D } I h) fun f s1 q=>?_)
 cases f with
 | next=>
   obtain⟨σ',H',I',q⟩:=q;exact h2 pins s1 σ' H' D I' q
 |ret v=>exact q
 |brk=>exact q
 |cont=>exact q
theorem CH(h1:PS X st t):PSs X [st] t:=by
 intro pins s σ H D I h;refine wpAny_execs_cons (thn (h1 pins s σ H D I h) fun f s1 q=>?_)
 cases f with
 |next=>exact wpAny_execs_nil q
 |ret v=>exact q
 |brk=>exact q
 |cont=>exact q
theorem Inv.quiet{pins:List (Addr×Obj)}{σ:St}{H:Hp}{s:Shared}(I:Inv X pins σ H s):interactive X.env=false:=by simp[interactive,I.ok.kind]
noncomputable def qK(te:TE):TS:=fun D σ H=>te σ H fun _ H1=>D.nx σ H1
theorem Cz(he:PE X e te)(hs:swapsWith e none pos.line X.env=pure false:=by rfl):PS X (.Expr e pos) (qK te):=by
 intro pins s σ H D I h;exact wpAny_Expr_any (thn (he pins s σ H _ I h) fun v s1 ⟨x,H1,I1,r1,q1⟩=>⟨σ,H1,I1,q1⟩) I.quiet hs
noncomputable def BH(te:TE):TS:=fun D σ H=>te σ H D.rt
theorem Ew(he:PE X e te):PS X (.Return (some e) pos) (BH te):=by
 intro pins s σ H D I h;exact wpAny_Return_some (thn (he pins s σ H _ I h) fun v s1 ⟨x,H1,I1,r1,q1⟩=>⟨x,σ,H1,I1,r1,q1⟩)
noncomputable def vS(c:TT)(t u:TS):TS:=fun D σ H=>c σ H fun b H1=>if b=true then t D σ H1 else u D σ H1
theorem Gg{c:Expr}{a b:List Stmt}{tc:TT}(hc:PT X c tc)(ha:PSs X a t)(hb:PSs X b u):PS X (.If c a b pos) (vS tc t u):=by
 intro pins s σ H D I h;refine wpAny_If (thn (hc pins s σ H _ I h) fun d s1 ⟨H1,I1,q1⟩=>?_)
 cases d with
 |true=>exact ha pins s1 σ H1 D I1 q1
 |false=>exact hb pins s1 σ H1 D I1 q1
end
abbrev TG:=V->St->Hp->(St->Hp->Prop)->Prop
abbrev TGs:=List V->St->Hp->(St->Hp->Prop)->Prop
noncomputable def PG(X:Cx)(target:Expr)(t:TG):Prop:=
 ∀(pins:List (Addr×Obj)) (s:Shared) (σ:St) (H:Hp) (v:V) (u:Value) (Q:St->Hp->Prop),Inv X pins σ H s->RelV v u->t v σ H Q ->
   wpAny (model X.prog X.w) X.A (assign target X.env u) (fun _ s'=>∃ σ' H',Inv X pins σ' H' s' /\ Q σ' H') X.xe s
noncomputable def PGs(X:Cx)(ts:List Expr)(t:TGs):Prop:=
 ∀(pins:List (Addr×Obj)) (s:Shared) (σ:St) (H:Hp) (vs:List V) (us:List Value) (Q:St->Hp->Prop),Inv X pins σ H s->Vals vs us->t vs σ H Q ->
   wpAny (model X.prog X.w) X.A (assignInOrder ((assignEach ts X.env).map (·.2)) us) (fun _ s'=>∃ σ' H',Inv X pins σ' H' s' /\ Q σ' H') X.xe s
section
variable{X:Cx}{pos:Pos}
noncomputable def iY(i:Nat):TG:=fun v σ H Q=>Q (σ.set i (some v)) H
theorem CW{i:Nat}{x:Str}(hN:X.N.Nodup)(hi:X.N[i]?=some x)(hx:Loc X.env.scope x)(hf:X.fn x=true \/ X.env.scope.names.lookup x=some .local:=by first|exact .inl rfl|exact .inr rfl|assumption):PG X (.Name x pos) (iY i):=by
 intro pins s σ H v u Q I r h;exact wpAny_assign_Name (pQ I hN hi hx r (fun s' I'=>⟨_,H,I',h⟩) hf)
noncomputable def FC:TGs:=fun vs σ H Q=>vs=[] /\ Q σ H
noncomputable def yA(t:TG)(u:TGs):TGs:=fun vs σ H Q=>∃ v r,vs=v ::r /\ t v σ H fun σ' H'=>u r σ' H' Q
theorem Co:PGs X [] FC:=by
 intro pins s σ H vs us Q I r h;obtain⟨e,h⟩:=h;subst e;cases r;exact assignInOrder_nil ⟨σ,H,I,h⟩
theorem Ap{e:Expr}{es:List Expr}{t:TG}{u:TGs}(h1:PG X e t)(h2:PGs X es u)
  (hs:(assignEach (e ::es) X.env).map (·.2)=assign e X.env ::(assignEach es X.env).map (·.2):=by rfl):PGs X (e ::es) (yA t u):=by
 intro pins s σ H vs us Q I r h;obtain⟨v,vr,e1,h⟩:=h;subst e1
 cases r with
 | cons r rr=>
   rw[hs];refine assignInOrder_cons (thn (h1 pins s σ H _ _ _ I r h) fun _ s1 ⟨σ1,H1,I1,q1⟩=>?_);exact h2 pins s1 σ1 H1 _ _ Q I1 rr q1
noncomputable def Fz(K:PySem.W.Frag)(n:Nat)(t:TGs):TG:=fun v σ H Q=>∃ a xs,v=.ref a /\ SqT K H a xs /\ xs.length=n /\ t xs σ H Q
theorem EX{es:List Expr}{k:Nat}{t:TGs}{n:Nat}(hc:X.calm=true)(h:PGs X es t)
  (hn:(assignEach es X.env).length=n:=by rfl) (hst:(assignEach es X.env).findIdx? (·.1)=none:=by rfl):PG X (.Tuple es k pos) (Fz X.K n t):=by
 intro pins s σ H v u Q I r hw;obtain⟨a,xs,e1,hq,hl,hw⟩:=hw;subst e1;cases r;obtain⟨its,rv,ht,hz⟩:=I.tuple hq
 refine assign_Tuple_tuple (I.ok.hd hc) ht (by simp[hn,<- hl,rv.length]) hst fun h' hx=>?_
 have I1:Inv X pins σ H { s with heap:=h' }:=I.kept (t':=s.toks) fun b o e=>hx b o (Nat.ne_of_lt (Heap.lt_size e)) e
 exact h pins _ σ H xs _ Q I1 (by simpa using rv) hw
noncomputable def rA(te:TE)(g:TG):TS:=fun D σ H=>te σ H fun x H1=>g x σ H1 D.nx
theorem Er{i:Nat}{x:Str}{e:Expr}{te:TE}{pos':Pos}(hN:X.N.Nodup)(hi:X.N[i]?=some x)(hx:Loc X.env.scope x)(he:PE X e te)(hs:swapsWith e (some (.Name x pos')) pos.line X.env=pure false:=by rfl)(hf:X.fn x=true \/ X.env.scope.names.lookup x=some .local:=by first|exact .inl rfl|exact .inr rfl|assumption):
  PS X (.Assign [.Name x pos'] e pos) (rA te (iY i)):=by
 intro pins s σ H D I h;refine wpAny_Assign_Name (thn (he pins s σ H _ I h) fun v s1 ⟨y,H1,I1,r1,q1⟩=>?_) hs;exact pQ I1 hN hi hx r1 (fun s2 I2=>⟨_,H1,I2,q1⟩) hf
end
section
variable{X:Cx}{pos:Pos}
noncomputable def xb(c:TT)(tb:TS):TS:=fun D σ H=>∃ W:Nat->St->Hp->Prop,(∃ m,W m σ H) /\ ∀ m σ H,W m σ H ->
 c σ H fun b H1=>if b=true then ∃ N:St->Hp->Prop,(∀ σ' H',N σ' H'->∃ m',m'<m /\ W m' σ' H') /\ tb { D with nx:=N,ct:=N,bk:=D.nx } σ H1 else D.nx σ H1
theorem Aw{c:Expr}{body:List Stmt}{tc:TT}{tb:TS}(hp:PassesOwn (model X.prog X.w) X.A X.env X.xe)(hc:PT X c tc)(hb:PSs X body tb):PS X (.While c body [] pos) (xb tc tb):=by
 intro pins s σ H D I h;obtain⟨W,⟨m0,w0⟩,turn⟩:=h;refine wpAny_While (codeAny_whileLoop (fun n s'=>∃ σ' H',Inv X pins σ' H' s' /\ W n σ' H') ?_ m0 ⟨σ,H,I,w0⟩)
 rintro n s1 ⟨σ1,H1,I1,w1⟩
 refine wpAny_passesOwn hp (thn (hc pins s1 σ1 H1 _ I1 (turn n σ1 H1 w1)) fun b s2 ⟨H2,I2,q2⟩=>?_)
 cases b with
 | true=>
   obtain⟨N,hN,q2⟩:=q2;rw[if_pos rfl];refine wpAny_passesOwn hp (thn (hb pins s2 σ1 H2 _ I2 q2) fun f s3 q3=>?_)
   cases f with
   | next=>
     obtain⟨σ3,H3,I3,n3⟩:=q3;obtain⟨m',hm,w3⟩:=hN σ3 H3 n3
     exact⟨m',hm,σ3,H3,I3,w3⟩
   | cont=>
     obtain⟨σ3,H3,I3,n3⟩:=q3;obtain⟨m',hm,w3⟩:=hN σ3 H3 n3
     exact⟨m',hm,σ3,H3,I3,w3⟩
   |brk=>exact q3
   |ret v=>exact q3
 | false=>
   rw[if_neg Bool.false_ne_true];exact wpAny_execs_nil ⟨σ1,H2,I2,q2⟩
end
structure It where
 go:Nat->Hp->Prop
 yld:Nat->Hp->V->Hp->Prop
 stop:Nat->Hp->Prop
noncomputable def pV(X:Cx)(pins:List (Addr×Obj))(H:Hp)(b:Addr):Prop:=
 H b=none /\ b≠X.env.locals /\ b∉X.fs /\ (b∈X.ex \/ X.s₀.heap.objs.size<=b) /\ (∀ x c,X.env.cells.lookup x=some c->c≠b) /\ ∀ p∈X.pn++pins,p.1≠b
theorem Inv.Cw{X:Cx}{pins:List (Addr×Obj)}{σ:St}{H H':Hp}{s:Shared}{b:Addr}(I:Inv X pins σ H s)(hb:s.heap.objs.size<=b)(hn:H' b=none):pV X pins H' b:=by
 refine⟨hn,Nat.ne_of_gt (Nat.lt_of_lt_of_le I.lt hb),I.HI hb,.inr (Nat.le_trans I.sz hb),fun x c e z=>?_,fun p hp z=>?_⟩
 . obtain⟨v,q⟩:=I.cell x c e;exact absurd (Nat.lt_of_lt_of_le q.lt (by rw[z];exact hb)) (Nat.lt_irrefl _)
 . exact absurd (Nat.lt_of_lt_of_le (Heap.lt_size (I.pin p hp).1) (by rw[z];exact hb)) (Nat.lt_irrefl _)
structure Turn(P:Program)(w:World)(K:PySem.W.Frag)(tg:Expr)(J:It)(fp:List Addr)(it:Addr)(tn:Nat->Heap->Prop):Prop where
 mem:it∈fp
 obj:∀ i h,tn i h->∀ b∈fp,∃ o,h.get? b=some o /\ ∀ v,o.data≠.cell v
 keep:∀ i h h',tn i h->(∀ b∈fp,∀ o,h.get? b=some o->h'.get? b=some o)->tn i h'
 item:∀(X:Cx),X.prog=P->X.w=w->X.K=K->X.calm=true->∀(i:Nat) (pins:List (Addr×Obj)) (s:Shared) (σ:St) (H:Hp) (E:Value->Shared->Prop),Inv X pins σ H s->(∀ b∈fp,pV X pins H b)->tn i s.heap->J.go i H ->
  wpAny (model P w) X.A (pyNext (.ref it)) (fun r s1=>∃ u,r=some u /\
   wpAny (model P w) X.A (letOwnedTupleGo tg (.ref it) u) (fun _ s2=>∃ x H',Inv X pins σ H' s2 /\ RelV x u /\ J.yld i H x H' /\ tn (i+1) s2.heap /\ ∀ b∈fp,H' b=none) E s1) E s
 done:∀(X:Cx),X.prog=P->X.w=w->X.K=K->X.calm=true->∀(i:Nat) (pins:List (Addr×Obj)) (s:Shared) (σ:St) (H:Hp) (E:Value->Shared->Prop),Inv X pins σ H s->(∀ b∈fp,pV X pins H b)->tn i s.heap->J.stop i H ->
  wpAny (model P w) X.A (pyNext (.ref it)) (fun r s1=>r=none /\ Inv X pins σ H s1) E s
 self:∀(A:Around) (i:Nat) (s:Shared) (Q:Value->Shared->Prop) (E:Value->Shared->Prop),tn i s.heap->Q (.ref it) s->wpAny (model P w) A (pyIter (.ref it)) Q E s
abbrev TI:=St->Hp->(It->Hp->Prop)->Prop
noncomputable def PIE(X:Cx)(pins:List (Addr×Obj))(σ:St)(tg:Expr)(R:It->Hp->Prop)(itv:Value)(s2:Shared):Prop:=
 ∃(it:Addr) (fp:List Addr) (tn:Nat->Heap->Prop) (J:It) (H':Hp),itv=.ref it /\ Inv X pins σ H' s2 /\ Turn X.prog X.w X.K tg J fp it tn /\ tn 0 s2.heap /\ (∀ b∈fp,pV X pins H' b) /\ R J H'
noncomputable def PI(X:Cx)(tg iter:Expr)(wi:TI):Prop:=
 ∀(pins:List (Addr×Obj)) (s:Shared) (σ:St) (H:Hp) (R:It->Hp->Prop),Inv X pins σ H s->wi σ H R ->
   wpAny (model X.prog X.w) X.A (eval iter X.env) (fun v s1=>wpAny (model X.prog X.w) X.A (pyIter v) (PIE X pins σ tg R) X.xe s1) X.xe s
theorem zQ{M:Model}{A:Around}{E:Value->Shared->Prop}{s:Shared}{tg:Expr}{it:Addr}{u:Value}{o:Obj}{n:String}{vs:Array Value}{Q:Unit->Shared->Prop}(ho:s.heap.get? it=some o)(hc:o.cls=.type n)(hd:o.data=.fields vs)
  (hn:["enumerate","zip","dict_itemiterator","dict_reverseitemiterator","odict_iterator","itertools.zip_longest","itertools.pairwise"].contains n=false) (hQ:Q () s):wpAny M A (letOwnedTupleGo tg (.ref it) u) Q E s:=by
 unfold letOwnedTupleGo
 cases tg<;>first
  |exact wpAny_pure hQ
  | (cases u <;> first
      |exact wpAny_pure hQ
      | (refine wpAny_bind (wpAny_load ho ?_)
         rw[hc,hd];show wpAny M A (if(["enumerate","zip","dict_itemiterator","dict_reverseitemiterator","odict_iterator","itertools.zip_longest","itertools.pairwise"].contains n&&vs[0]?==some (rawInt _))=true then _ else _) Q E s;rw[if_neg (by intro h;rw[hn,Bool.false_and]at h;cases h)]
         exact wpAny_pure hQ))
noncomputable def Itl(K:PySem.W.Frag)(a:Addr):It:=
 ⟨fun i H=>∃ xs x,SqL K H a xs /\ xs[i]?=some x,fun i H x H'=>H'=H /\ ∀ xs,SqL K H a xs->xs[i]?=some x,fun i H=>∃ xs,SqL K H a xs /\ xs.length<=i⟩
noncomputable def Itt(K:PySem.W.Frag)(a:Addr):It:=
 ⟨fun i H=>∃ xs x,SqT K H a xs /\ xs[i]?=some x,fun i H x H'=>H'=H /\ ∀ xs,SqT K H a xs->xs[i]?=some x,fun i H=>∃ xs,SqT K H a xs /\ xs.length<=i⟩
noncomputable def Itr(lo:Int)(n:Nat):It:=⟨fun i _=>i<n,fun i H x H'=>H'=H /\ x=.int (lo+i),fun i _=>n<=i⟩
theorem zh{P:Program}{w:World}{K:PySem.W.Frag}{tg:Expr}(a it:Addr):Turn P w K tg (Itl K a) [it] it (fun i h=>h.IsListIter it a i) where
 mem:=by simp
 obj:=fun i h st b hb=>by
  have e:b=it:=by simpa using hb
  subst e;obtain⟨o,e,c,d⟩:=st
  exact⟨o,e,fun v z=>by rw[d]at z;cases z⟩
 keep:=fun i h h' st k=>st.at fun o e=>k it (by simp) o e
 item:=by
  intro X hP hw hK hc i pins s σ H E I hf st hg;subst hP hw hK;obtain⟨xs,x,hq,hx⟩:=hg;obtain⟨its,rv,p,hz⟩:=I.list hq;obtain⟨u,hu,ru⟩:=rv.get hx;obtain⟨f0,f1,f2,f3,f4,f5⟩:=hf it (by simp)
  refine wpAny_pyNext_list_item st p.isList (x:=u) (by simpa using hu) fun h' st' sb=>?_
  have I1:Inv X pins σ H { s with heap:=h' }:=I.turned (t':=s.toks) (fun b o hb e=>(sb.2 b hb).trans e) f0 f1 f3 f4 f5
  obtain⟨o,e,c,d⟩:=id st'
  exact⟨u,rfl,zQ (s:={ s with heap:=h' }) e c d (by decide) ⟨x,H,I1,ru,⟨rfl,fun ys hy=>by rw[I.wj hy hq];exact hx⟩,st',fun b hb=>(hf b hb).1⟩⟩
 done:=by
  intro X hP hw hK hc i pins s σ H E I hf st hg;subst hP hw hK;obtain⟨xs,hq,hx⟩:=hg;obtain⟨its,rv,p,hz⟩:=I.list hq;obtain⟨f0,f1,f2,f3,f4,f5⟩:=hf it (by simp);have hl:=rv.length
  exact wpAny_pyNext_list_end (I.ok.hd hc) st p.isList (by simp;omega) fun h' eb=>⟨rfl,I.turned (t':=s.toks) (fun b o hb e=>eb b o hb e) f0 f1 f3 f4 f5⟩
 self:=fun _ _ _ _ _ st h=>wpAny_pyIter_listiter st h
theorem wW{P:Program}{w:World}{K:PySem.W.Frag}{tg:Expr}(a it:Addr):Turn P w K tg (Itt K a) [it] it (fun i h=>h.IsTupleIter it a i) where
 mem:=by simp
 obj:=fun i h st b hb=>by
  have e:b=it:=by simpa using hb
  subst e;obtain⟨o,e,c,d⟩:=st
  exact⟨o,e,fun v z=>by rw[d]at z;cases z⟩
 keep:=fun i h h' st k=>st.at fun o e=>k it (by simp) o e
 item:=by
  intro X hP hw hK hc i pins s σ H E I hf st hg;subst hP hw hK;obtain⟨xs,x,hq,hx⟩:=hg;obtain⟨its,rv,p,hz⟩:=I.tuple hq;obtain⟨u,hu,ru⟩:=rv.get hx;obtain⟨f0,f1,f2,f3,f4,f5⟩:=hf it (by simp)
  refine wpAny_pyNext_tuple_item st (show s.heap.IsTuple a its.toArray from p) (x:=u) (by simpa using hu) fun h' st' sb=>?_
  have I1:Inv X pins σ H { s with heap:=h' }:=I.turned (t':=s.toks) (fun b o hb e=>(sb.2 b hb).trans e) f0 f1 f3 f4 f5
  obtain⟨o,e,c,d⟩:=id st'
  exact⟨u,rfl,zQ (s:={ s with heap:=h' }) e c d (by decide) ⟨x,H,I1,ru,⟨rfl,fun ys hy=>by rw[I.zk hy hq];exact hx⟩,st',fun b hb=>(hf b hb).1⟩⟩
 done:=by
  intro X hP hw hK hc i pins s σ H E I hf st hg;subst hP hw hK;obtain⟨xs,hq,hx⟩:=hg;obtain⟨its,rv,p,hz⟩:=I.tuple hq;obtain⟨f0,f1,f2,f3,f4,f5⟩:=hf it (by simp);have hl:=rv.length
  exact wpAny_pyNext_tuple_end (I.ok.hd hc) st (show s.heap.IsTuple a its.toArray from p) (by simp;omega) fun h' eb=>⟨rfl,I.turned (t':=s.toks) (fun b o hb e=>eb b o hb e) f0 f1 f3 f4 f5⟩
 self:=fun _ _ _ _ _ st h=>wpAny_pyIter_tupleiter st h
theorem xf{P:Program}{w:World}{K:PySem.W.Frag}{tg:Expr}(it:Addr)(lo:Int)(n:Nat):Turn P w K tg (Itr lo n) [it] it (fun i h=>IsRangeIter h it (lo+(i:Nat)*1) ((n:Int) - (i:Nat)) 1) where
 mem:=by simp
 obj:=fun i h st b hb=>by
  have e:b=it:=by simpa using hb
  subst e
  exact⟨_,st,fun v z=>by
   have z':Data.fields _=Data.cell v:=z
   cases z'⟩
 keep:=fun i h h' st k=>k it (by simp) _ st
 item:=by
  intro X hP hw hK hc i pins s σ H E I hf st hg;subst hP hw hK;obtain⟨f0,f1,f2,f3,f4,f5⟩:=hf it (by simp);have W:=Walks.range (prog:=X.prog) (w:=X.w) (I.ok.hd hc) it lo 1 n
  refine W.item i s _ _ hg st fun v h' tk hv st' kk=>?_
  obtain⟨t,rfl⟩:=hv
  have I1:Inv X pins σ H { s with heap:=h',toks:=tk }:=I.turned (fun b o hb e=>kk b o (by simpa using hb) e) f0 f1 f3 f4 f5
  refine⟨_,rfl,zQ (s:={ s with heap:=h',toks:=tk }) (n:="range_iterator") st' rfl rfl (by decide) ⟨.int (lo+i),H,I1,⟨t,?_⟩,⟨rfl,rfl⟩,st',fun b hb=>(hf b hb).1⟩⟩
  rw[Int.mul_one]
 done:=by
  intro X hP hw hK hc i pins s σ H E I hf st hg;subst hP hw hK;obtain⟨f0,f1,f2,f3,f4,f5⟩:=hf it (by simp)
  exact wpAny_pyNext_range_end (I.ok.hd hc) st (by have:n<=i:=hg;omega) fun h' eb=>⟨rfl,I.turned (t':=s.toks) (fun b o hb e=>eb b o hb e) f0 f1 f3 f4 f5⟩
 self:=fun _ _ _ _ _ st h=>wpAny_pyIter_rangeiter st h
section
variable{X:Cx}{tg:Expr}
noncomputable def wG(K:PySem.W.Frag)(tl:TE):TI:=fun σ H R=>tl σ H fun x H1=>∃ a,x=.ref a /\ (∃ xs,SqL K H1 a xs) /\ R (Itl K a) H1
noncomputable def DZ(K:PySem.W.Frag)(tl:TE):TI:=fun σ H R=>tl σ H fun x H1=>∃ a,x=.ref a /\ (∃ xs,SqT K H1 a xs) /\ R (Itt K a) H1
theorem BV{l:Expr}{tl:TE}(hl:PE X l tl):PI X tg l (wG X.K tl):=by
 intro pins s σ H R I h
 refine thn (hl pins s σ H _ I h) fun v s1 ⟨x,H1,I1,r1,q1⟩=>?_
 obtain⟨a,e,⟨xs,hq⟩,q⟩:=q1;subst e;cases r1;obtain⟨its,rv,p,hz⟩:=I1.list hq;refine wpAny_pyIter_list p.isList ?_
 refine⟨s1.heap.objs.size,[s1.heap.objs.size],_,_,H1,rfl,I1.kept (t':=s1.toks) fun b o e=>Heap.get?_push_of_some _ e,zh a _,⟨_,Heap.get?_push_size _ rfl,rfl,rfl⟩,fun b hb=>?_,q⟩
 have e:b=s1.heap.objs.size:=by simpa using hb
 subst e;exact I1.Cw (Nat.le_refl _) (I1.hok.fresh (Nat.le_refl _))
theorem EJ{l:Expr}{tl:TE}(hl:PE X l tl):PI X tg l (DZ X.K tl):=by
 intro pins s σ H R I h
 refine thn (hl pins s σ H _ I h) fun v s1 ⟨x,H1,I1,r1,q1⟩=>?_
 obtain⟨a,e,⟨xs,hq⟩,q⟩:=q1;subst e;cases r1;obtain⟨its,rv,p,hz⟩:=I1.tuple hq;refine wpAny_pyIter_tuple (show s1.heap.IsTuple a its.toArray from p) ?_
 refine⟨s1.heap.objs.size,[s1.heap.objs.size],_,_,H1,rfl,I1.kept (t':=s1.toks) fun b o e=>Heap.get?_push_of_some _ e,wW a _,⟨_,Heap.get?_push_size _ rfl,rfl,rfl⟩,fun b hb=>?_,q⟩
 have e:b=s1.heap.objs.size:=by simpa using hb
 subst e;exact I1.Cw (Nat.le_refl _) (I1.hok.fresh (Nat.le_refl _))
theorem zY{pins:List (Addr×Obj)}{σ:St}{H:Hp}{s:Shared}{R:It->Hp->Prop}{E:Value->Shared->Prop}{lo hi:Int}{t u v:Tok}{tk:Nat}(I:Inv X pins σ H s)(h1:-(2 ^ 62)<=lo)(h2:lo<2 ^ 62)(h3:-(2 ^ 62)<=hi)(h4:hi<2 ^ 62)
  (q:R (Itr lo (hi - lo).toNat) H):wpAny (model X.prog X.w) X.A (pyIter (.ref s.heap.objs.size)) (PIE X pins σ tg R) E { s with heap:=s.heap.push { cls:=.type "range",data:=.fields #[.int lo t,.int hi u,.int 1 v] },toks:=tk }:=by
 refine wpAny_pyIter_range (IsRange.new ..) (small_one h1 h2 h3 h4) ?_
 have I1:Inv X pins σ H { s with heap:=s.heap.push { cls:=.type "range",data:=.fields #[.int lo t,.int hi u,.int 1 v] },toks:=tk }:=I.kept fun b o e=>Heap.get?_push_of_some _ e
 refine⟨(s.heap.push { cls:=.type "range",data:=.fields #[.int lo t,.int hi u,.int 1 v] }).objs.size,[(s.heap.push { cls:=.type "range",data:=.fields #[.int lo t,.int hi u,.int 1 v] }).objs.size],_,_,H,rfl,
  I1.kept (t':=tk) fun b o e=>Heap.get?_push_of_some _ e,xf _ lo (hi - lo).toNat,?_,fun b hb=>?_,q⟩
 . have e1:lo+((0:Nat):Int)*1=lo:=by simp
   have e2:(((hi - lo).toNat:Nat):Int) - ((0:Nat):Int)=Builtin.Range.rangeSize lo hi 1:=by rw[rangeSize_one];split<;>omega
   show IsRangeIter _ _ (lo+((0:Nat):Int)*1) ((((hi - lo).toNat:Nat):Int) - ((0:Nat):Int)) 1;rw[e1,e2];exact Heap.get?_push_size _ rfl
 . have e:b=(s.heap.push { cls:=.type "range",data:=.fields #[.int lo t,.int hi u,.int 1 v] }).objs.size:=by simpa using hb
   subst e;exact I1.Cw (Nat.le_refl _) (I1.hok.fresh (Nat.le_refl _))
noncomputable def zO(ta:TA):TI:=fun σ H R=>ta σ H fun vs H1=>∃ j:Int,vs=[.int j] /\ -(2 ^ 62)<=j /\ j<2 ^ 62 /\ R (Itr 0 j.toNat) H1
theorem y8{a:Expr}{ta:TA}{p pos:Pos}(hg:Gl X "range")(hm:X.mg "range" = none)(ha:PA X [a] ta)(hs:starEach [a] X.env=[(false,eval a X.env)]:=by rfl):PI X tg (.Call (.Name "range" p) [a] [] pos) (zO ta):=by
 intro pins s σ H R I h;refine Call_ (si I hg hm boot_range (PyProof.Rows.callWith_type1 (thn (ha pos pins s σ H _ I h) fun us s1 ⟨vs,H1,I1,r1,q1⟩=>?_) hs rfl));obtain⟨j,e,q1,q2,q⟩:=q1;subst e
 cases r1 with
 | cons r rr=>
   cases rr;obtain⟨t,rfl⟩:=r;exact call_range_1 (zY I1 (by omega) (by omega) q1 q2 (by simpa using q))
noncomputable def zS(wi:TI)(g:TG)(tb:TS):TS:=fun D σ H=>wi σ H fun J H1=>∃ W:Nat->Nat->St->Hp->Prop,(∃ m,W 0 m σ H1) /\ ∀ i m σ H,W i m σ H ->
 (J.stop i H /\ D.nx σ H) \/ (J.go i H /\ ∃ N:St->Hp->Prop,(∀ σ' H',N σ' H'->∃ m',m'<m /\ W (i+1) m' σ' H') /\ ∀ x H',J.yld i H x H'->g x σ H' fun σ2 H2=>tb { D with nx:=N,ct:=N,bk:=D.nx } σ2 H2)
noncomputable def uQ(fp:List Addr)(h:Heap):List (Addr×Obj):=fp.filterMap fun b=>(h.get? b).map fun o=>(b,o)
theorem gb{fp:List Addr}{h:Heap}{b:Addr}{o:Obj}(hb:b∈fp)(e:h.get? b=some o):(b,o)∈uQ fp h:=List.mem_filterMap.mpr ⟨b,hb,by rw[e];rfl⟩
theorem yP{fp:List Addr}{h:Heap}{p:Addr×Obj}(hp:p∈uQ fp h):p.1∈fp /\ h.get? p.1=some p.2:=by
 obtain⟨b,hb,e⟩:=List.mem_filterMap.mp hp
 cases q:h.get? b with
 |none=>rw[q]at e;cases e
 | some o=>
   rw[q]at e
   have e':(b,o)=p:=Option.some.inj e
   subst e'
   exact⟨hb,q⟩
theorem Inv.pinned{pins:List (Addr×Obj)}{σ:St}{H:Hp}{s:Shared}{fp:List Addr}(I:Inv X pins σ H s)(hf:∀ b∈fp,pV X pins H b)(ho:∀ b∈fp,∃ o,s.heap.get? b=some o /\ ∀ v,o.data≠.cell v):Inv X (pins++uQ fp s.heap) σ H s:=
 I.yr fun p hp=>(List.mem_append.mp hp).elim (fun z=>I.pin p (List.mem_append_right _ z)) fun z=>by
  obtain⟨hb,e⟩:=yP z;obtain⟨f0,f1,f2,_⟩:=hf p.1 hb;obtain⟨o,e',d⟩:=ho p.1 hb;rw[e]at e';cases e'
  exact⟨e,f0,f1,f2,d⟩
theorem Inv.lC{pins pl:List (Addr×Obj)}{σ:St}{H:Hp}{s:Shared}(I:Inv X (pins++pl) σ H s):Inv X pins σ H s:=I.yr fun p hp=>I.pin p (List.mem_append_right _ (List.mem_append_left _ hp))
theorem DW{iter:Expr}{body:List Stmt}{wi:TI}{g:TG}{tb:TS}{pos:Pos}(hp:PassesOwn (model X.prog X.w) X.A X.env X.xe)(hc:X.calm=true)(hi:PI X tg iter wi)(hg:PG X tg g)(hb:PSs X body tb)
  (hs:∀ x,foldedSetIterable iter X.env x=pure x:=by intro _;rfl):PS X (.For tg iter body [] pos) (zS wi g tb):=by
 intro pins s σ H D I h;refine wpAny_For (thn (hi pins s σ H _ I h) fun v s1 h1=>thn h1 fun itv s2 h2=>?_) hs;obtain⟨it,fp,tn,J,H2,e,I2,T,st2,f2,W,⟨m0,w0⟩,turn⟩:=h2;subst e
 have stat:∀{H':Hp},(∀ b∈fp,H' b=none)->∀ b∈fp,pV X pins H' b:=fun hn b hb=>⟨hn b hb,(f2 b hb).2⟩
 refine codeAny_forLoop_any (fun n s'=>∃ i σ' H',Inv X pins σ' H' s' /\ tn i s'.heap /\ (∀ b∈fp,H' b=none) /\ W i n σ' H') ?_ m0 ⟨0,σ,H2,I2,st2,fun b hb=>(f2 b hb).1,w0⟩
 rintro n s3 ⟨i,σ3,H3,I3,st3,fr3,w3⟩
 rcases turn i n σ3 H3 w3 with⟨stop,qn⟩|⟨go,N,hN,step⟩
 . refine wpAny_passesOwn hp (thn (T.done X rfl rfl rfl hc i pins s3 σ3 H3 X.xe I3 (stat fr3) st3 stop) fun r s4 ⟨hr,I4⟩=>?_);subst hr;exact wpAny_execs_nil ⟨σ3,H3,I4,qn⟩
 . refine wpAny_passesOwn hp (thn (T.item X rfl rfl rfl hc i pins s3 σ3 H3 X.xe I3 (stat fr3) st3 go) fun r s4 ⟨u,hr,h4⟩=>?_);subst hr;refine wpAny_passesOwn hp (thn h4 fun _ s5 ⟨x,H5,I5,r5,y5,st5,fr5⟩=>?_)
   have I5':=I5.pinned (stat fr5) (T.obj _ _ st5)
   refine wpAny_passesOwn hp (thn (hg _ s5 σ3 H5 x u _ I5' r5 (step x H5 y5)) fun _ s6 ⟨σ6,H6,I6,q6⟩=>?_);refine wpAny_passesOwn hp (thn (hb _ s6 σ6 H6 _ I6 q6) fun f s7 q7=>?_)
   have again:∀{σ7:St} {H7:Hp},Inv X (pins++uQ fp s5.heap) σ7 H7 s7->N σ7 H7->∃ m,m<n /\ ∃ i σ' H',Inv X pins σ' H' s7 /\ tn i s7.heap /\ (∀ b∈fp,H' b=none) /\ W i m σ' H':=fun {σ7 H7} I7 n7=>by
    obtain⟨m',hm,w7⟩:=hN σ7 H7 n7
    refine⟨m',hm,i+1,σ7,H7,I7.lC,T.keep _ _ _ st5 fun b hb o e=>(I7.pin (b,o) (List.mem_append_right _ (List.mem_append_right _ (gb hb e)))).1,fun b hb=>?_,w7⟩
    obtain⟨o,e,d⟩:=T.obj _ _ st5 b hb
    exact(I7.pin (b,o) (List.mem_append_right _ (List.mem_append_right _ (gb hb e)))).2.1
   cases f with
   |next=>obtain⟨σ7,H7,I7,n7⟩:=q7;exact again I7 n7
   |cont=>obtain⟨σ7,H7,I7,n7⟩:=q7;exact again I7 n7
   |brk=>obtain⟨σ7,H7,I7,q7⟩:=q7;exact⟨σ7,H7,I7.lC,q7⟩
   |ret v=>obtain⟨x7,σ7,H7,I7,r7,q7⟩:=q7;exact⟨x7,σ7,H7,I7.lC,r7,q7⟩
end
theorem Bj{K:PySem.W.Frag}{a:Addr}{xs:List V}{g:TG}{tb:TS}{D:Ends}{σ:St}{H:Hp}(Pv:Nat->St->Hp->Prop)(h0:Pv 0 σ H)(hl:∀ i σ H,i<=xs.length->Pv i σ H->SqL K H a xs)
  (hs:∀ i x σ H,xs[i]?=some x->Pv i σ H->g x σ H fun σ2 H2=>tb { D with nx:=Pv (i+1),ct:=Pv (i+1),bk:=D.nx } σ2 H2) (hd:∀ σ H,Pv xs.length σ H->D.nx σ H):
  ∃ W:Nat->Nat->St->Hp->Prop,(∃ m,W 0 m σ H) /\ ∀ i m σ H,W i m σ H ->
    ((Itl K a).stop i H /\ D.nx σ H) \/ ((Itl K a).go i H /\ ∃ N:St->Hp->Prop,(∀ σ' H',N σ' H'->∃ m',m'<m /\ W (i+1) m' σ' H') /\ ∀ x H',(Itl K a).yld i H x H'->g x σ H' fun σ2 H2=>tb { D with nx:=N,ct:=N,bk:=D.nx } σ2 H2):=by
 refine⟨fun i m σ H=>m=xs.length - i /\ i<=xs.length /\ Pv i σ H,⟨xs.length,by simp,Nat.zero_le _,h0⟩,?_⟩
 rintro i m σ H ⟨rfl,hi,p⟩
 have q:=hl i σ H hi p
 by_cases hlt:i<xs.length
 . refine .inr ⟨⟨xs,xs[i],q,by simp[hlt]⟩,Pv (i+1),fun σ' H' p'=>⟨xs.length - (i+1),by omega,rfl,hlt,p'⟩,fun x H' y=>?_⟩;obtain⟨e,y⟩:=y;subst e;exact hs i x σ _ (y xs q) p
 . have e:i=xs.length:=by omega
   subst e;exact .inl ⟨⟨xs,q,Nat.le_refl _⟩,hd σ H p⟩
theorem zp{lo:Int}{n:Nat}{g:TG}{tb:TS}{D:Ends}{σ:St}{H:Hp}(Pv:Nat->St->Hp->Prop)(h0:Pv 0 σ H)
  (hs:∀ i σ H,i<n->Pv i σ H->g (.int (lo+i)) σ H fun σ2 H2=>tb { D with nx:=Pv (i+1),ct:=Pv (i+1),bk:=D.nx } σ2 H2) (hd:∀ σ H,Pv n σ H->D.nx σ H):
  ∃ W:Nat->Nat->St->Hp->Prop,(∃ m,W 0 m σ H) /\ ∀ i m σ H,W i m σ H ->
    ((Itr lo n).stop i H /\ D.nx σ H) \/ ((Itr lo n).go i H /\ ∃ N:St->Hp->Prop,(∀ σ' H',N σ' H'->∃ m',m'<m /\ W (i+1) m' σ' H') /\ ∀ x H',(Itr lo n).yld i H x H'->g x σ H' fun σ2 H2=>tb { D with nx:=N,ct:=N,bk:=D.nx } σ2 H2):=by
 refine⟨fun i m σ H=>m=n - i /\ i<=n /\ Pv i σ H,⟨n,by simp,Nat.zero_le _,h0⟩,?_⟩
 rintro i m σ H ⟨rfl,hi,p⟩
 by_cases hlt:i<n
 . refine .inr ⟨hlt,Pv (i+1),fun σ' H' p'=>⟨n - (i+1),by omega,rfl,hlt,p'⟩,fun x H' y=>?_⟩;obtain⟨e,y⟩:=y;subst e y;exact hs i σ _ hlt p
 . have e:i=n:=by omega
   subst e;exact .inl ⟨Nat.le_refl _,hd σ H p⟩
abbrev R2:=V->V->Hp->VK->Prop
noncomputable def OpR(X:Cx)(f:Value->Value->Sem Value)(r:R2):Prop:=
 ∀(pins:List (Addr×Obj)) (s:Shared) (σ:St) (H:Hp) (x y:V) (v u:Value) (Q:VK),Inv X pins σ H s->RelV x v->RelV y u->r x y H Q ->
   wpAny (model X.prog X.w) X.A (f v u) (EP X pins σ Q) X.xe s
noncomputable def UnR(X:Cx)(f:Value->Sem Value)(r:V->Hp->VK->Prop):Prop:=
 ∀(pins:List (Addr×Obj)) (s:Shared) (σ:St) (H:Hp) (x:V) (v:Value) (Q:VK),Inv X pins σ H s->RelV x v->r x H Q ->
   wpAny (model X.prog X.w) X.A (f v) (EP X pins σ Q) X.xe s
noncomputable def qu(X:Cx)(f:Value)(r:List V->Hp->VK->Prop):Prop:=
 ∀(pins:List (Addr×Obj)) (s:Shared) (σ:St) (H:Hp) (xs:List V) (us:List Value) (Q:VK),Inv X pins σ H s->Vals xs us->r xs H Q ->
   wpAny (model X.prog X.w) X.A (call f us) (EP X pins σ Q) X.xe s
noncomputable def G9(X:Cx)(r:V->Hp->(Bool->Hp->Prop)->Prop):Prop:=
 ∀(pins:List (Addr×Obj)) (s:Shared) (σ:St) (H:Hp) (x:V) (v:Value) (Q:Bool->Hp->Prop),Inv X pins σ H s->RelV x v->r x H Q ->
   wpAny (model X.prog X.w) X.A (truthy v) (TP X pins σ Q) X.xe s
noncomputable def tOp(r:R2)(ta tb:TE):TE:=fun σ H Q=>ta σ H fun x H1=>tb σ H1 fun y H2=>r x y H2 Q
noncomputable def tUn(r:V->Hp->VK->Prop)(ta:TE):TE:=fun σ H Q=>ta σ H fun x H1=>r x H1 Q
noncomputable def rI(C:Int->Int->Prop)(g:Int->Int->V):R2:=fun x y H Q=>∃ i j,x=.int i /\ y=.int j /\ C i j /\ Q (g i j) H
noncomputable def rI0(g:Int->Int->V):R2:=fun x y H Q=>∃ i j,x=.int i /\ y=.int j /\ Q (g i j) H
noncomputable def rU(g:Int->V):V->Hp->VK->Prop:=fun x H Q=>∃ i,x=.int i /\ Q (g i) H
section
variable{X:Cx}{a b c:Expr}{ta tb tc:TE}{pos:Pos}
theorem EC(ha:PE X a ta)(hb:PE X b tb){pins:List (Addr×Obj)}{s:Shared}{σ:St}{H:Hp}{R:V->V->Hp->Prop}(I:Inv X pins σ H s)
  (h:ta σ H fun x H1=>tb σ H1 fun y H2=>R x y H2) {Q:Value->Shared->Prop} {f:Value->Value->Sem Value}
  (hf:∀ v u s2 x y H2,Inv X pins σ H2 s2->RelV x v->RelV y u->R x y H2->wpAny (model X.prog X.w) X.A (f v u) Q X.xe s2):
  wpAny (model X.prog X.w) X.A (eval a X.env) (fun v s₁=>wpAny (model X.prog X.w) X.A (eval b X.env) (fun u s₂=>wpAny (model X.prog X.w) X.A (f v u) Q X.xe s₂) X.xe s₁) X.xe s:=by
 refine thn (ha pins s σ H _ I h) fun v s1 ⟨x,H1,I1,r1,q1⟩=>?_
 refine thn (hb pins s1 σ H1 _ I1 q1) fun u s2 ⟨y,H2,I2,r2,q2⟩=>?_
 exact hf v u s2 x y H2 I2 r1 r2 q2
theorem FP{op:Operator}{r:R2}(ho:OpR X (binaryOp op) r)(ha:PE X a ta)(hb:PE X b tb):PE X (.BinOp a op b pos) (tOp r ta tb):=by
 intro pins s σ H Q I h;exact wpAny_BinOp (EC ha hb I h fun v u s2 x y H2 I2 rx ry q=>ho pins s2 σ H2 x y v u Q I2 rx ry q)
theorem Gb{op:UnaryOp}{r:V->Hp->VK->Prop}(ho:UnR X (unaryOp op) r)(ha:PE X a ta):PE X (.UnaryOp op a pos) (tUn r ta):=by
 intro pins s σ H Q I h;exact UnaryOp_ (thn (ha pins s σ H _ I h) fun v s1 ⟨x,H1,I1,r1,q1⟩=>ho pins s1 σ H1 x v Q I1 r1 q1)
theorem opI{f:Value->Value->Sem Value}{C:Int->Int->Prop}{g:Int->Int->Int}
  (rule:∀(i j:Int) (t u:Tok) (s:Shared) (Q:Value->Shared->Prop) (E:Value->Shared->Prop),C i j->Q (.int (g i j) s.toks) { s with toks:=s.toks+1 }->wpAny (model X.prog X.w) X.A (f (.int i t) (.int j u)) Q E s):
  OpR X f (rI C fun i j=>.int (g i j)):=by
 intro pins s σ H x y v u Q I rx ry h;obtain⟨i,j,rfl,rfl,hc,q⟩:=h;obtain⟨t,rfl⟩:=rx;obtain⟨t',rfl⟩:=ry;exact rule i j t t' s _ _ hc ⟨.int (g i j),H,I.tok _,⟨_,rfl⟩,q⟩
theorem Gk{f:Value->Value->Sem Value}{g:Int->Int->Int}
  (rule:∀(i j:Int) (t u:Tok) (s:Shared) (Q:Value->Shared->Prop) (E:Value->Shared->Prop),Q (.int (g i j) s.toks) { s with toks:=s.toks+1 }->wpAny (model X.prog X.w) X.A (f (.int i t) (.int j u)) Q E s):
  OpR X f (rI0 fun i j=>.int (g i j)):=by
 intro pins s σ H x y v u Q I rx ry h;obtain⟨i,j,rfl,rfl,q⟩:=h;obtain⟨t,rfl⟩:=rx;obtain⟨t',rfl⟩:=ry;exact rule i j t t' s _ _ ⟨.int (g i j),H,I.tok _,⟨_,rfl⟩,q⟩
theorem CU{f:Value->Value->Sem Value}{g:Int->Int->Bool}
  (rule:∀(i j:Int) (t u:Tok) (s:Shared) (Q:Value->Shared->Prop) (E:Value->Shared->Prop),Q (.bool (g i j)) s->wpAny (model X.prog X.w) X.A (f (.int i t) (.int j u)) Q E s):
  OpR X f (rI0 fun i j=>.bl (g i j)):=by
 intro pins s σ H x y v u Q I rx ry h;obtain⟨i,j,rfl,rfl,q⟩:=h;obtain⟨t,rfl⟩:=rx;obtain⟨t',rfl⟩:=ry;exact rule i j t t' s _ _ ⟨.bl (g i j),H,I,rfl,q⟩
noncomputable def Eh(i j:Int):Prop:=0<j /\ j<1073741824
noncomputable def AO(i j:Int):Prop:=(-(2 ^ 64)<i /\ i<2 ^ 64) \/ (-(2 ^ 64)<j /\ j<2 ^ 64)
theorem AO.ok{i j:Int}(h:AO i j):IntMulOk i j:=by
 rcases h with⟨h1,h2⟩|⟨h1,h2⟩
 . exact .of_left (intBits_le_64 h1 h2)
 . exact .of_right (intBits_le_64 h1 h2)
theorem bz:OpR X (binaryOp .Add) (rI0 fun i j=>.int (i+j)):=Gk fun _ _ _ _ _ _ _ q=>add_int q
theorem kY:OpR X (binaryOp .Sub) (rI0 fun i j=>.int (i - j)):=Gk fun _ _ _ _ _ _ _ q=>sub_int q
theorem uu:OpR X (binaryOp .Mult) (rI AO fun i j=>.int (i*j)):=opI fun _ _ _ _ _ _ _ hc q=>mul_int q hc.ok
theorem o9:OpR X (binaryOp .FloorDiv) (rI Eh fun i j=>.int (i/j)):=opI fun i j _ _ _ _ _ hc q=>by
 have h1:(0:Int)<j:=hc.1
 have h2:j<1073741824:=hc.2
 exact floordiv_int (by omega) (by rw[Int.fdiv_eq_ediv_of_nonneg i (by omega)];exact q) (.inl (PyProof.noPylong_small (by omega)))
theorem jL:OpR X (binaryOp .Mod) (rI (fun _ j=>0<j) fun i j=>.int (i%j)):=opI fun i j _ _ _ _ _ hc q=>by
 have h1:(0:Int)<j:=hc
 exact mod_int' (by omega) (by rw[Int.fmod_eq_emod_of_nonneg i (by omega)];exact q)
theorem unI{f:Value->Sem Value}{g:Int->Int}
  (rule:∀(i:Int) (t:Tok) (s:Shared) (Q:Value->Shared->Prop) (E:Value->Shared->Prop),Q (.int (g i) s.toks) { s with toks:=s.toks+1 }->wpAny (model X.prog X.w) X.A (f (.int i t)) Q E s):
  UnR X f (rU fun i=>.int (g i)):=by
 intro pins s σ H x v Q I rx h;obtain⟨i,rfl,q⟩:=h;obtain⟨t,rfl⟩:=rx;exact rule i t s _ _ ⟨.int (g i),H,I.tok _,⟨_,rfl⟩,q⟩
theorem kl:UnR X (unaryOp .USub) (rU fun i=>.int (-i)):=unI fun _ _ _ _ _ q=>neg_int q
end
noncomputable def DK:V->V->Bool
 |.non,.non=>true|.non,.int _=>true|.int _,.non=>true|.non,.bl _=>true|.bl _,.non=>true|.non,.str _=>true|.str _,.non=>true
 |.int _,.int _=>true|.bl _,.bl _=>true|.str _,.str _=>true|.byt _,.byt _=>true
 |.int _,.str _=>true|.str _,.int _=>true|.bl _,.str _=>true|.str _,.bl _=>true
 |_,_=>false
noncomputable def rEq:R2:=fun x y H Q=>DK x y=true /\ Q (.bl (decide (x=y))) H
noncomputable def rNe:R2:=fun x y H Q=>DK x y=true /\ Q (.bl (!decide (x=y))) H
theorem yf{i j:Int}:decide (V.int i=V.int j)=(i==j):=by
 rw[Bool.eq_iff_iff];simp
theorem AB{i j:Bool}:decide (V.bl i=V.bl j)=(i==j):=by
 rw[Bool.eq_iff_iff];simp
theorem yb{i j:Str}:decide (V.str i=V.str j)=(i==j):=by
 rw[Bool.eq_iff_iff];simp
theorem yd{i j:Array UInt8}:decide (V.byt i=V.byt j)=(i.toList==j.toList):=by
 rw[Bool.eq_iff_iff];cases i;cases j;simp
section
variable{X:Cx}{a b c:Expr}{ta tb tc:TE}{pos:Pos}
theorem cR{pins:List (Addr×Obj)}{σ:St}{H:Hp}{s:Shared}{Q:VK}{k k':Bool}(I:Inv X pins σ H s)(q:Q (.bl k) H)(e:k=k'):EP X pins σ Q (.bool k') s:=by
 subst e
 exact⟨.bl k,H,I,rfl,q⟩
theorem br:OpR X (compareOp .Eq) rEq:=by
 intro pins s σ H x y v u Q I rx ry h;obtain⟨hs,q⟩:=h
 cases x with
 | non=>
   cases rx
   cases y with
   |non=>cases ry;exact PySem.EqNone.eq_none_none (cR I q (by simp))
   |bl j=>cases ry;exact PySem.EqNone.eq_none_bool (cR I q (by simp))
   |int j=>obtain⟨t',rfl⟩:=ry;exact PySem.EqNone.eq_none_int (cR I q (by simp))
   |str j=>obtain⟨t',rfl⟩:=ry;exact PySem.EqNone.eq_none_str (cR I q (by simp))
   |_=>exact absurd (show false=true from hs) Bool.false_ne_true
 | bl i=>
   cases rx
   cases y with
   |non=>cases ry;exact PySem.EqNone.eq_bool_none (cR I q (by simp))
   |bl j=>cases ry;exact eq_bool (cR I q AB)
   |str j=>obtain⟨t',rfl⟩:=ry;exact PySem.EqMixed.eq_bool_str (cR I q (by simp))
   |_=>exact absurd (show false=true from hs) Bool.false_ne_true
 | int i=>
   obtain⟨t,rfl⟩:=rx
   cases y with
   |non=>cases ry;exact PySem.EqNone.eq_int_none (cR I q (by simp))
   |int j=>obtain⟨t',rfl⟩:=ry;exact eq_int (cR I q yf)
   |str j=>obtain⟨t',rfl⟩:=ry;exact PySem.EqMixed.eq_int_str (cR I q (by simp))
   |_=>exact absurd (show false=true from hs) Bool.false_ne_true
 | str i=>
   obtain⟨t,rfl⟩:=rx
   cases y with
   |non=>cases ry;exact PySem.EqNone.eq_str_none (cR I q (by simp))
   |bl j=>cases ry;exact PySem.EqMixed.eq_str_bool (cR I q (by simp))
   |int j=>obtain⟨t',rfl⟩:=ry;exact PySem.EqMixed.eq_str_int (cR I q (by simp))
   |str j=>obtain⟨t',rfl⟩:=ry;exact eq_str (cR I q yb)
   |_=>exact absurd (show false=true from hs) Bool.false_ne_true
 | byt i=>
   obtain⟨t,rfl⟩:=rx
   cases y with
   |byt j=>obtain⟨t',rfl⟩:=ry;exact PySem.W.eq_bytes (cR I q yd)
   |_=>exact absurd (show false=true from hs) Bool.false_ne_true
 |_=>cases y<;>exact absurd (show false=true from hs) Bool.false_ne_true
theorem ue:OpR X (compareOp .NotEq) rNe:=by
 intro pins s σ H x y v u Q I rx ry h;obtain⟨hs,q⟩:=h
 cases x with
 | non=>
   cases rx
   cases y with
   |non=>cases ry;exact PySem.EqNone.ne_none_none (cR I q (by simp))
   |bl j=>cases ry;exact PySem.EqNone.ne_none_bool (cR I q (by simp))
   |int j=>obtain⟨t',rfl⟩:=ry;exact PySem.EqNone.ne_none_int (cR I q (by simp))
   |str j=>obtain⟨t',rfl⟩:=ry;exact PySem.EqNone.ne_none_str (cR I q (by simp))
   |_=>exact absurd (show false=true from hs) Bool.false_ne_true
 | bl i=>
   cases rx
   cases y with
   |non=>cases ry;exact PySem.EqNone.ne_bool_none (cR I q (by simp))
   |bl j=>cases ry;exact ne_bool (cR I q (congrArg not AB))
   |str j=>obtain⟨t',rfl⟩:=ry;exact PySem.EqMixed.ne_bool_str (cR I q (by simp))
   |_=>exact absurd (show false=true from hs) Bool.false_ne_true
 | int i=>
   obtain⟨t,rfl⟩:=rx
   cases y with
   |non=>cases ry;exact PySem.EqNone.ne_int_none (cR I q (by simp))
   |int j=>obtain⟨t',rfl⟩:=ry;exact ne_int (cR I q (congrArg not yf))
   |str j=>obtain⟨t',rfl⟩:=ry;exact PySem.EqMixed.ne_int_str (cR I q (by simp))
   |_=>exact absurd (show false=true from hs) Bool.false_ne_true
 | str i=>
   obtain⟨t,rfl⟩:=rx
   cases y with
   |non=>cases ry;exact PySem.EqNone.ne_str_none (cR I q (by simp))
   |bl j=>cases ry;exact PySem.EqMixed.ne_str_bool (cR I q (by simp))
   |int j=>obtain⟨t',rfl⟩:=ry;exact PySem.EqMixed.ne_str_int (cR I q (by simp))
   |str j=>obtain⟨t',rfl⟩:=ry;exact ne_str (cR I q (congrArg not yb))
   |_=>exact absurd (show false=true from hs) Bool.false_ne_true
 | byt i=>
   obtain⟨t,rfl⟩:=rx
   cases y with
   |byt j=>obtain⟨t',rfl⟩:=ry;exact PySem.W.ne_bytes (cR I q (congrArg not yd))
   |_=>exact absurd (show false=true from hs) Bool.false_ne_true
 |_=>cases y<;>exact absurd (show false=true from hs) Bool.false_ne_true
theorem gv:OpR X (compareOp .Lt) (rI0 fun i j=>.bl (decide (i<j))):=CU fun _ _ _ _ _ _ _ q=>lt_int q
theorem eE:OpR X (compareOp .LtE) (rI0 fun i j=>.bl (decide (i<=j))):=CU fun _ _ _ _ _ _ _ q=>le_int q
theorem Dw:OpR X (compareOp .Gt) (rI0 fun i j=>.bl (decide (j<i))):=CU fun _ _ _ _ _ _ _ q=>gt_int q
theorem vT:OpR X (compareOp .GtE) (rI0 fun i j=>.bl (decide (j<=i))):=CU fun _ _ _ _ _ _ _ q=>ge_int q
theorem p8:OpR X (compareOp .Is) (fun x y H Q=>y=.non /\ Q (.bl (decide (x=.non))) H):=by
 intro pins s σ H x y v u Q I rx ry h;obtain⟨rfl,q⟩:=h;cases ry;refine is_none_gen (cR I q ?_)
 cases x<;>first
  |(cases rx;rfl)
  |(obtain⟨t,rfl⟩:=rx;rfl)
theorem yc:OpR X (compareOp .IsNot) (fun x y H Q=>y=.non /\ Q (.bl (!decide (x=.non))) H):=by
 intro pins s σ H x y v u Q I rx ry h;obtain⟨rfl,q⟩:=h;cases ry;refine isnot_none_gen (cR I q ?_)
 cases x<;>first
  |(cases rx;rfl)
  |(obtain⟨t,rfl⟩:=rx;rfl)
theorem ic(b:Expr){op:CmpOp}(h:op≠.In:=by decide)(h2:op≠.NotIn:=by decide):behindInMarks op b=false:=by
 have e1:(op==CmpOp.In)=false:=by cases op<;>first|rfl|exact absurd rfl h
 have e2:(op==CmpOp.NotIn)=false:=by cases op<;>first|rfl|exact absurd rfl h2
 cases b<;>simp[behindInMarks,e1,e2]
theorem CK{op:CmpOp}{r:R2}(ho:OpR X (compareOp op) r)(ha:PE X a ta)(hb:PE X b tb)(hm:behindInMarks op b=false):PE X (.Compare a [op] [b] pos) (tOp r ta tb):=by
 intro pins s σ H Q I h;exact wpAny_Compare1 (EC ha hb I h fun v u s2 x y H2 I2 rx ry q=>ho pins s2 σ H2 x y v u Q I2 rx ry q) hm
noncomputable def tN(t:TE):TT:=fun σ H Q=>t σ H fun x H'=>∃ k,x=.bl k /\ Q k H'
theorem CT{op:CmpOp}{r:R2}(ho:OpR X (compareOp op) r)(ha:PE X a ta)(hb:PE X b tb)(hm:behindInMarks op b=false):PT X (.Compare a [op] [b] pos) (tN (tOp r ta tb)):=by
 intro pins s σ H Q I h
 refine wpAny_isTrue_Compare1 (thn (ha pins s σ H _ I h) fun v s1 ⟨x,H1,I1,r1,q1⟩=>thn (hb pins s1 σ H1 _ I1 q1) fun u s2 ⟨y,H2,I2,r2,q2⟩=>
  thn (ho pins s2 σ H2 x y v u _ I2 r1 r2 q2) fun c s3 ⟨z,H3,I3,r3,k,e,q3⟩=>?_) hm
 subst e;cases r3;exact wpAny_truthy_bool ⟨H3,I3,q3⟩
noncomputable def rq(r r':R2)(ta tb tc:TE):TE:=fun σ H Q=>ta σ H fun x H1=>tb σ H1 fun y H2=>r x y H2 fun z H3=>∃ k,z=.bl k /\
 (if k=true then tc σ H3 fun w' H4=>r' y w' H4 Q else Q (.bl false) H3)
theorem By{op op':CmpOp}{r r':R2}(ho:OpR X (compareOp op) r)(ho':OpR X (compareOp op') r')(ha:PE X a ta)(hb:PE X b tb)(hc:PE X c tc)
  (hm:lastMarks [op,op'] [b,c]=false:=by with_unfolding_all rfl):PE X (.Compare a [op,op'] [b,c] pos) (rq r r' ta tb tc):=by
 intro pins s σ H Q I h
 refine Compare_chain (thn (ha pins s σ H _ I h) fun v s1 ⟨x,H1,I1,r1,q1⟩=>chain_link (thn (hb pins s1 σ H1 _ I1 q1) fun u s2 ⟨y,H2,I2,r2,q2⟩=>
  thn (ho pins s2 σ H2 x y v u _ I2 r1 r2 q2) fun d s3 ⟨z,H3,I3,r3,k,e,q3⟩=>?_)) hm
 subst e;cases r3;refine wpAny_truthy_bool ?_
 cases k with
 |false=>exact ite_ff ⟨.bl false,H3,I3,rfl,q3⟩
 |true=>exact ite_tt (chain_last (thn (hc pins s3 σ H3 _ I3 q3) fun w' s4 ⟨z',H4,I4,r4,q4⟩=>ho' pins s4 σ H4 y z' u w' Q I4 r2 r4 q4))
theorem Bn{op op':CmpOp}{r r':R2}(ho:OpR X (compareOp op) r)(ho':OpR X (compareOp op') r')(ha:PE X a ta)(hb:PE X b tb)(hc:PE X c tc)
  (hm:lastMarks [op,op'] [b,c]=false:=by with_unfolding_all rfl):PT X (.Compare a [op,op'] [b,c] pos) (tN (rq r r' ta tb tc)):=by
 intro pins s σ H Q I h
 refine isTrue_chain (thn (ha pins s σ H _ I h) fun v s1 ⟨x,H1,I1,r1,q1⟩=>test_link (thn (hb pins s1 σ H1 _ I1 q1) fun u s2 ⟨y,H2,I2,r2,q2⟩=>
  thn (ho pins s2 σ H2 x y v u _ I2 r1 r2 q2) fun d s3 ⟨z,H3,I3,r3,k,e,q3⟩=>?_)) hm
 subst e;cases r3;refine wpAny_truthy_bool ?_
 cases k with
 | false=>
   obtain⟨k',e',q'⟩:=q3
   cases e'
   exact ite_ff ⟨H3,I3,q'⟩
 | true=>
   refine ite_tt (test_last (thn (hc pins s3 σ H3 _ I3 q3) fun w' s4 ⟨z',H4,I4,r4,q4⟩=>thn (ho' pins s4 σ H4 y z' u w' _ I4 r2 r4 q4) fun d' s5 ⟨z2,H5,I5,r5,k2,e2,q5⟩=>?_));subst e2;cases r5;exact wpAny_truthy_bool ⟨H5,I5,q5⟩
noncomputable def sZ(K:PySem.W.Frag)(x:V)(H:Hp)(k:Bool):Prop:=
 match x with
 |.non=>k=false
 |.bl b=>k=b
 |.int i=>k=(i != 0)
 |.str y=>y.length<=sizeLine /\ k=((y.length:Int) != 0)
 |.byt y=>y.size<=sizeLine /\ k=((y.size:Int) != 0)
 |.ref p=>(∃ xs,SqL K H p xs /\ k=!xs.isEmpty) \/ (∃ xs,SqT K H p xs /\ k=!xs.isEmpty) \/ ∃ kvs,H p=some (.dK kvs) /\ k=!kvs.isEmpty
 |_=>False
theorem xq{κ:Type}{kvs:List (κ×V)}{vs:List (κ×Value)}(r:KV kvs vs):(!vs.isEmpty)=!kvs.isEmpty:=by
 cases r<;>rfl
theorem rD{xs:List V}{its:List Value}(r:Vals xs its):(!its.toArray.isEmpty)=!xs.isEmpty:=by
 cases r<;>simp
theorem uE:(sizeLine:Nat)<2 ^ 63:=by rw[sizeLine_eq];decide
theorem A9:G9 X (fun x H Q=>∃ k,sZ X.K x H k /\ Q k H):=by
 intro pins s σ H x v Q I rx h;obtain⟨k,e,q⟩:=h;have hl:=uE
 have hs:sizeLine=16777216:=sizeLine_eq
 cases x with
 | non=>
   cases rx
   have e':k=false:=e
   subst e';exact truthy_none ⟨H,I,q⟩
 | bl b=>
   cases rx
   have e':k=b:=e
   subst e';exact wpAny_truthy_bool ⟨H,I,q⟩
 | int i=>
   obtain⟨t,rfl⟩:=rx
   have e':k=(i != 0):=e
   subst e';exact PySem.P.truthy_int ⟨H,I,q⟩
 | str y=>
   obtain⟨t,rfl⟩:=rx
   obtain⟨hy,e'⟩:y.length<=sizeLine /\ k=((y.length:Int) != 0):=e
   subst e';exact PySem.P.truthy_str (by omega) ⟨H,I.tok _,q⟩
 | byt y=>
   obtain⟨t,rfl⟩:=rx
   obtain⟨hy,e'⟩:y.size<=sizeLine /\ k=((y.size:Int) != 0):=e
   subst e';exact PySem.W.truthy_bytes (by omega) ⟨H,I.tok _,q⟩
 | ref p=>
   cases rx
   have e':(∃ xs,SqL X.K H p xs /\ k=!xs.isEmpty) \/ (∃ xs,SqT X.K H p xs /\ k=!xs.isEmpty) \/ ∃ kvs,H p=some (.dK kvs) /\ k=!kvs.isEmpty:=e
   rcases e' with⟨xs,hx,e'⟩|⟨xs,hx,e'⟩|⟨kvs,hx,e'⟩
   . subst e';obtain⟨its,r,pl,hz⟩:=I.list hx;have hlen:=r.length;exact wpAny_truthy_list pl.isList (by simp only[List.size_toArray];omega) ⟨H,I.tok _,by rw[rD r];exact q⟩
   . subst e';obtain⟨its,r,pl,hz⟩:=I.tuple hx;have hlen:=r.length;exact truthy_tuple pl (by simp only[List.size_toArray];omega) ⟨H,I.tok _,by rw[rD r];exact q⟩
   . subst e'
     obtain⟨hz,hS,vs,r,m⟩:kvs.length<=sizeLine /\ (p==sysModules)=false /\ ∃ vs,KV kvs vs /\ s.heap.DictOf (eV X.prog X.w) p vs:=I.hok p _ hx
     have hlen:kvs.length=vs.length:=Paired.length r
     exact wpAny_truthy_dict hS m (by omega) ⟨H,I.tok _,by rw[xq r];exact q⟩
 |_=>exact(show False from e).elim
theorem zV(ha:PE X a ta)(he:∀ whole,isTrue a X.env whole=(do let v <- whole;standAt a.pos;holding [v] (truthy v))):
  PT X a (fun σ H Q=>ta σ H fun x H'=>∃ k,sZ X.K x H' k /\ Q k H'):=by
 intro pins s σ H Q I h;exact isTrue_plain (thn (ha pins s σ H _ I h) fun v s1 ⟨x,H1,I1,r1,q1⟩=>A9 pins s1 σ H1 x v Q I1 r1 q1) (he _)
theorem vals1{x:V}{us:List Value}(r:Vals [x] us):∃ u,us=[u] /\ RelV x u:=by
 cases r with
 |cons r1 r2=>cases r2;exact⟨_,rfl,r1⟩
theorem lq:qu X (.type "int") (fun xs H Q=>(∃ i,xs=[.int i] /\ Q (.int i) H) \/ ∃ k,xs=[.bl k] /\ Q (.int (if k then 1 else 0)) H):=by
 intro pins s σ H xs us Q I r h
 rcases h with⟨i,rfl,q⟩|⟨k,rfl,q⟩
 . obtain⟨u,rfl,t,rfl⟩:=vals1 r;exact call_int_int ⟨.int i,H,I,⟨_,rfl⟩,q⟩
 . obtain⟨u,rfl,r1⟩:=vals1 r;cases r1;exact call_int_bool ⟨.int (if k then 1 else 0),H,I.tok _,⟨_,rfl⟩,q⟩
end
structure xh(h:Heap)(x dx C:Addr)(mA:Str->Option Value):Prop where
 obj:h.get? x=some (PySem.W.instObj C dx)
 ns:h.Ns1 dx mA
 ne:dx≠x
theorem zr{h:Heap}{dx:Addr}{mA:Str->Option Value}(n:h.Ns1 dx mA):∃ od,h.get? dx=some od /\ ∀ name,PySem.W.lookIn name od=some (mA name):=by
 obtain⟨o,es,ep,ho,hd,hk,_,hm⟩:=n
 refine⟨o,ho,fun name=>?_⟩
 have e:=hm name;unfold nsFind findBy at e;rw[<- Array.find?_toList]at e;unfold PySem.W.lookIn;rw[hd];dsimp only;split
 . rename_i y q;rw[q]at e;exact congrArg some e
 . rename_i q;rw[q]at e
   have a:es.toList.any (·.refKey)=false:=by
    rw[List.any_eq_false];intro y hy;obtain⟨z,t,hkey⟩:=hk y (Array.mem_toList_iff.mp hy);simp[DictEntry.refKey,hkey]
   have a':¬ es.toList.any (·.refKey)=true:=by rw[a];exact Bool.false_ne_true
   rw[if_neg a'];exact congrArg some e
theorem xh.look{h:Heap}{x dx C:Addr}{mA:Str->Option Value}(I:xh h x dx C mA):∃ od,PySem.W.InstAt h x (PySem.W.instObj C dx) C (some od) /\ ∀ name,PySem.W.lookIn name od=some (mA name):=
 let ⟨od,ho,hl⟩:=zr I.ns
 ⟨od,⟨I.obj,rfl,rfl,ho⟩,hl⟩
section
variable{prog:Program}{w:World}{A:Around}{E:Value->Shared->Prop}{s:Shared}{K:PySem.W.Frag}{x dx C f:Addr}{mA:Str->Option Value}{name:Str}{v:Value}
theorem get_map{expr:Bool}{Q:Value->Shared->Prop}(X:K.In s.heap)(I:xh s.heap x dx C mA)(hg:PySem.W.plainGet K C name=true)(hh:PySem.W.hasDictIn K C=true)
  (ha:PySem.W.findIn K (.ref C) name=some none) (hv:mA name=some v) (hv':PySem.W.handedIn v=true) (h:Q v { s with toks:=s.toks+1 }):
  wpAny (model prog w) A (getAttr (.ref x) name expr) Q E s:=by
 obtain⟨od,J,hl⟩:=I.look;exact PySem.W.get_value X J (PySem.W.plainGet_of hg).1 (PySem.W.findObj_own hh ha rfl (by rw[hl,hv])) hv' h
theorem Bs{pl:Sem Bool}{Q:Value×List Value->Shared->Prop}(X:K.In s.heap)(I:xh s.heap x dx C mA)(hg:PySem.W.plainGet K C name=true)
  (hf:PySem.W.findIn K (.ref C) name=some (some (.ref f))) (ht:PySem.W.isFn K (.ref f)=true) (hv:mA name=none) (h:Q (.ref f,[.ref x]) s):
  wpAny (model prog w) A (getMethod (.ref x) name pl) Q E s:=by
 obtain⟨od,J,hl⟩:=I.look;exact PySem.W.method_fn X J (PySem.W.plainGet_of hg).1 (PySem.W.plainGet_of hg).2 hf (beq_iff_eq.mp ht) (by show(PySem.W.lookIn name od).map (·.isSome)=some false;rw[hl,hv];rfl) h
theorem Cu{ns:List Str}{Q:Unit->Shared->Prop}(X:K.In s.heap)(I:xh s.heap x dx C mA)
  (hs:PySem.W.findIn K (.ref C) "__setattr__" = some (some (.builtin "object.__setattr__"))) (hp:PySem.W.plainOver K C=true) (ht:PySem.W.takerIn K C name=some none) (hh:PySem.W.hasDictIn K C=true)
  (hw:PySem.Within mA ns) (hsz:ns.length<=sizeLine)
  (h:∀ h',xh h' x dx C (fun y=>if y=name then some v else mA y)->Heap.SameBut dx s.heap h'->Q () { s with heap:=h',toks:=s.toks+2 }):
  wpAny (model prog w) A (setAttr (.ref x) name v) Q E s:=by
 obtain⟨od,J,hl⟩:=I.look;refine PySem.W.set_plain X J hs (PySem.W.osa_open (s:={ s with toks:=s.toks+1 }) (r:=none) X J hp ht fun b=>?_);obtain⟨cd,hc,hd'⟩:=PySem.W.any_some hh
 have hx:s.heap.get? x=some ⟨.ref C,some dx,.plain,#[]⟩:=I.obj
 refine wpAny_bind (wpAny_pure (wpAny_bind (wpAny_bind (wpAny_loadPart hx (wpAny_bind (PySem.W.Looks.here (s:={ s with toks:=s.toks+1 }) (PySem.W.looks_clsIn X hc) ?_))))));rw[hd'];refine wpAny_pure (a:=some dx) (wpAny_bind (wpAny_pure (wpAny_bind ?_)))
 refine wpAny_nsSet1 (s:={ s with toks:=s.toks+1 }) I.ns fun h' hn2 hs2=>?_
 obtain⟨oD,esD,epD,hoD,hdD,hcD⟩:=hn2.count (PySem.Within.cons name v hw);refine wpAny_bind (wpAny_lookBehind hoD (by rw[hdD];exact pastItsLine_dict (Nat.le_trans hcD (by rw[List.length_cons];omega))) ?_);exact wpAny_pure (h _ ⟨(hs2.2 _ (Ne.symm I.ne)).trans I.obj,hn2,I.ne⟩ hs2)
theorem AA{R:Result->Shared->Prop}{vs:List Value}{kw:List (Str×Value)}(X:K.In s.heap)(hm:PySem.W.makesIn K C=true)
  (hi:PySem.W.findIn K (.ref C) "__init__" = some (some (.ref f))) (hf:PySem.W.typeIn K (.ref f)=some (.type "function"))
  (h:codeAny (model prog w) (A.under (.builtin "type.__call__" ⟨.ref C ::vs,kw⟩)) (.call (.ref f) ⟨.ref (s.heap.objs.size+1) ::vs,kw⟩) (PySem.W.InitBack (s.heap.objs.size+1) R)
    { s with heap:=(s.heap.push PySem.W.emptyDict).push (PySem.W.instObj C s.heap.objs.size) }):
  codeAny (model prog w) A (.call (.ref C) ⟨vs,kw⟩) R s:=by
 obtain⟨hh,g,d,t,os⟩:=s;exact PySem.W.make_core (PySem.W.makes_of X hm) (PySem.W.looks_findIn X hi) (fun self=>PySem.W.bind_fn X self hf) (.inl rfl) h
end
noncomputable def jB(f:Str)(v:V):List (Str×V)->List (Str×V)
 |[]=>[(f,v)]
 |(g,x) ::r=>if g=f then(g,v) ::r else(g,x) ::jB f v r
theorem qt(f g:Str)(v:V):∀ fs:List (Str×V),(jB f v fs).lookup g=if g=f then some v else fs.lookup g
 | []=>by
   show List.lookup g [(f,v)]=_
   by_cases h:g=f
   . have hb:(g==f)=true:=beq_iff_eq.mpr h
     simp only[List.lookup,hb,if_pos h]
   . have hb:(g==f)=false:=beq_eq_false_iff_ne.mpr h
     simp only[List.lookup,hb,if_neg h]
 | (k,x) ::r=>by
   have ih:=qt f g v r;rw[show jB f v ((k,x) ::r)=(if k=f then(k,v) ::r else(k,x) ::jB f v r) from rfl]
   by_cases hk:k=f
   . rw[if_pos hk]
     by_cases h:g=k
     . have hb:(g==k)=true:=beq_iff_eq.mpr h
       simp only[List.lookup,hb,if_pos (h.trans hk)]
     . have hb:(g==k)=false:=beq_eq_false_iff_ne.mpr h
       simp only[List.lookup,hb,if_neg (fun e:g=f=>h (e.trans hk.symm))]
   . rw[if_neg hk]
     by_cases h:g=k
     . have hb:(g==k)=true:=beq_iff_eq.mpr h
       simp only[List.lookup,hb,if_neg (fun e:g=f=>hk (h.symm.trans e))]
     . have hb:(g==k)=false:=beq_eq_false_iff_ne.mpr h
       simp only[List.lookup,hb];exact ih
theorem qk(f:Str)(v:V):∀ fs:List (Str×V),f∈(jB f v fs).map (·.1) /\ ∀ g,g∈fs.map (·.1)->g∈(jB f v fs).map (·.1)
 |[]=>⟨by simp[jB],fun g h=>by simp at h⟩
 | (k,x) ::r=>by
   obtain⟨i1,i2⟩:=qk f v r;rw[show jB f v ((k,x) ::r)=(if k=f then(k,v) ::r else(k,x) ::jB f v r) from rfl]
   by_cases hk:k=f
   . rw[if_pos hk];subst hk
     exact⟨by simp,fun g h=>by simpa using h⟩
   . rw[if_neg hk]
     refine⟨?_,fun g h=>?_⟩
     . rw[List.map_cons];exact List.mem_cons_of_mem _ i1
     . rw[List.map_cons]at h ⊢
       rcases List.mem_cons.mp h with e|e
       . exact List.mem_cons.mpr (.inl e)
       . exact List.mem_cons_of_mem _ (i2 g e)
theorem qD(f:Str)(v:V):∀ fs:List (Str×V),(jB f v fs).length<=fs.length+1
 |[]=>by simp[jB]
 | (k,x) ::r=>by
   have ih:=qD f v r;rw[show jB f v ((k,x) ::r)=(if k=f then(k,v) ::r else(k,x) ::jB f v r) from rfl]
   by_cases hk:k=f
   . rw[if_pos hk,List.length_cons,List.length_cons];omega
   . rw[if_neg hk,List.length_cons,List.length_cons];omega
theorem bO.some_of{v:V}{o:Option Value}(r:bO (some v) o):∃ u,o=some u /\ RelV v u:=by
 cases o with
 |none=>exact(show False from r).elim
 |some u=>exact⟨u,rfl,r⟩
theorem bO.none_of{o:Option Value}(r:bO none o):o=none:=by
 cases o with
 |none=>rfl
 |some u=>exact(show False from r).elim
theorem zw{v:V}{u:Value}(r:RelV v u):PySem.W.handedIn u=true:=by
 cases v with
 |non=>cases(show u=Value.none from r);rfl
 |bl b=>cases(show u=Value.bool b from r);rfl
 |int i=>obtain⟨t,e⟩:=(show ∃ t,u=Value.int i t from r);cases e;rfl
 |str x=>obtain⟨t,e⟩:=(show ∃ t,u=Value.str x t from r);cases e;rfl
 |byt b=>obtain⟨t,e⟩:=(show ∃ t,u=Value.bytes b t from r);cases e;rfl
 |flt b=>obtain⟨t,e⟩:=(show ∃ t,u=Value.float b t from r);cases e;rfl
 |ref a=>cases(show u=Value.ref a from r);rfl
 |ty n=>cases(show u=Value.type n from r);rfl
section
variable{P:Program}{w:World}{H H':Hp}{h h':Heap}{a C dx:Addr}{fs fs':List (Str×V)}
theorem uX(hok:HOk P w H h)(e:H a=some (.ins C dx fs)):∃ mA,xh h a dx C mA /\ (∀ f,bO (fs.lookup f) (mA f)) /\ PySem.Within mA (fs.map (·.1)) /\ fs.length<=1000 /\ H dx=some (.own a):=by
 obtain⟨d,z,ne,ob,mA,n,r,q⟩:=(show gn P w H h a (.ins C dx fs) from hok a _ e)
 exact⟨mA,⟨ob,n,ne⟩,r,q,z,d⟩
end
structure Cls(K:PySem.W.Frag)(C:Addr):Prop where
 pg:PySem.W.plainGet K C Str.empty=true
 hd:PySem.W.hasDictIn K C=true
 po:PySem.W.plainOver K C=true
 sa:PySem.W.findIn K (.ref C) "__setattr__" = some (some (.builtin "object.__setattr__"))
theorem Cls.get{K:PySem.W.Frag}{C:Addr}(c:Cls K C)(f:Str):PySem.W.plainGet K C f=true:=c.pg
noncomputable def kZ(K:PySem.W.Frag)(C:Addr)(f:Str):Prop:=PySem.W.findIn K (.ref C) f=some none
theorem kZ.Gr{K:PySem.W.Frag}{C:Addr}{f:Str}(n:kZ K C f):PySem.W.takerIn K C f=some none:=by
 unfold PySem.W.takerIn;rw[show PySem.W.findIn K (.ref C) f=some none from n];rfl
structure Meth(K:PySem.W.Frag)(C:Addr)(m:Str)(f:Addr):Prop where
 at_:PySem.W.findIn K (.ref C) m=some (some (.ref f))
 fn:PySem.W.isFn K (.ref f)=true
 kp:PySem.W.keepIn K (.ref f)=true
section
variable{X:Cx}{pins:List (Addr×Obj)}{σ:St}{H:Hp}{s:Shared}{a C dx:Addr}{fs:List (Str×V)}{f:Str}{v:V}{A:Around}{E:Value->Shared->Prop}
theorem xC{b:Bool}{Q:Value->Shared->Prop}(I:Inv X pins σ H s)(e:H a=some (.ins C dx fs))(c:Cls X.K C)(n:kZ X.K C f)(l:fs.lookup f=some v)
  (h:∀ u s',Inv X pins σ H s'->RelV v u->Q u s'):wpAny (model X.prog X.w) A (getAttr (.ref a) f b) Q E s:=by
 obtain⟨mA,O,r,_,_,_⟩:=uX I.hok e;obtain⟨u,hu,ru⟩:=bO.some_of (v:=v) (o:=mA f) (by rw[<- l];exact r f);exact get_map I.kIn O (c.get f) c.hd n hu (zw ru) (h u _ (I.tok _) ru)
theorem su{m:Str}{g:Addr}{pl:Sem Bool}{Q:Value×List Value->Shared->Prop}(I:Inv X pins σ H s)(e:H a=some (.ins C dx fs))(c:Cls X.K C)(k:Meth X.K C m g)(l:fs.lookup m=none)
  (h:Q (.ref g,[.ref a]) s):wpAny (model X.prog X.w) A (getMethod (.ref a) m pl) Q E s:=by
 obtain⟨mA,O,r,_,_,_⟩:=uX I.hok e
 have hn:mA m=none:=bO.none_of (by rw[<- l];exact r m)
 exact Bs I.kIn O (c.get m) k.at_ k.fn hn h
theorem xM{y:V}{u:Value}{Q:Unit->Shared->Prop}(I:Inv X pins σ H s)(e:H a=some (.ins C dx fs))(c:Cls X.K C)(n:kZ X.K C f)(hl:fs.length<1000)(ry:RelV y u)
  (h:∀ s',Inv X pins σ (upd H a (.ins C dx (jB f y fs))) s'->Q () s'):wpAny (model X.prog X.w) A (setAttr (.ref a) f u) Q E s:=by
 obtain⟨mA,O,r,wi,_,ho⟩:=uX I.hok e
 have hz:(fs.map (·.1)).length<=sizeLine:=by rw[List.length_map,sizeLine_eq];omega
 refine Cu I.kIn O c.sa c.po n.Gr c.hd wi hz fun h' O' sb=>h _ ?_
 have hd:∃ o,h'.get? dx=some o:=let ⟨o,_,_,e',_⟩:=O'.ns;⟨o,e'⟩
 refine I.write (x:=a) (e:=dx) (by rw[e];exact True.intro) (.inr ho) (fun b q hb z=>(sb.2 b hb).trans z) hd ?_
 refine⟨by rw[bD O.ne];exact ho,?_,O.ne,O'.obj,_,O'.ns,fun g=>?_,fun g hg=>?_⟩
 . have:=qD f y fs;omega
 . show bO ((jB f y fs).lookup g) (if g=f then some u else mA g);rw[qt]
   by_cases q:g=f
   . rw[if_pos q,if_pos q];exact ry
   . rw[if_neg q,if_neg q];exact r g
 . by_cases q:g=f
   . rw[q];exact(qk f y fs).1
   . refine(qk f y fs).2 g (wi g fun z=>hg ?_)
     show(if g=f then some u else mA g)=none
     rw[if_neg q];exact z
theorem Inv.made(I:Inv X pins σ H s):Inv X pins σ (upd (upd H s.heap.objs.size (.own (s.heap.objs.size+1))) (s.heap.objs.size+1) (.ins C s.heap.objs.size []))
  { s with heap:=(s.heap.push PySem.W.emptyDict).push (PySem.W.instObj C s.heap.objs.size) }:=by
 have e1:(s.heap.push PySem.W.emptyDict).get? s.heap.objs.size=some PySem.W.emptyDict:=Heap.get?_push_size s.heap rfl
 have e2:((s.heap.push PySem.W.emptyDict).push (PySem.W.instObj C s.heap.objs.size)).get? (s.heap.objs.size+1)=some (PySem.W.instObj C s.heap.objs.size):=by
  have:=Heap.get?_push_size (s.heap.push PySem.W.emptyDict) (o:=PySem.W.instObj C s.heap.objs.size) rfl
  rwa [Heap.size_push]at this
 have e3:(s.heap.push PySem.W.emptyDict).Ns s.heap.objs.size (fun _=>none):=⟨PySem.W.emptyDict,#[],_,e1,rfl,(fun e he=>absurd he (by simp)),fun _=>rfl⟩
 have I1:=I.laid (a:=s.heap.objs.size) (o:=.own (s.heap.objs.size+1)) (h':=s.heap.push PySem.W.emptyDict) (t':=s.toks) (fun b u q=>Heap.get?_push_of_some _ q) (Nat.le_refl _) ⟨_,e1⟩;refine I1.laid (a:=s.heap.objs.size+1) (o:=.ins C s.heap.objs.size []) (t':=s.toks) (fun b u q=>Heap.get?_push_of_some _ q) (Nat.le_of_eq (Heap.size_push _ _)) ?_
 have ne:s.heap.objs.size≠s.heap.objs.size+1:=Nat.ne_of_lt (Nat.lt_succ_self _)
 refine⟨by rw[bD ne,bF],Nat.zero_le _,ne,e2,fun _=>none,(Heap.Ns1.of_empty e3).at fun o q=>Heap.get?_push_of_some _ q,fun _=>True.intro,fun y hy=>absurd rfl hy⟩
theorem Cm{prog:Program}{w:World}{env:Env}{e:Expr}{f:Str}{pos:Pos}{s:Shared}{Q:Value->Shared->Prop}(hb:attributeBase e f env (eval e env)=eval e env)
  (h:wpAny (model prog w) A (eval e env) (fun o s₁=>wpAny (model prog w) A (getAttr o f true) Q E s₁) E s):wpAny (model prog w) A (eval (.Attribute e f pos) env) Q E s:=
 Attribute_any_ h (by rw[arm_eval_Attribute,hb])
end
noncomputable def Ep(K:PySem.W.Frag)(ta:TE)(f:Str):TE:=fun σ H Q=>ta σ H fun x H1=>∃ a C dx fs v,x=.ref a /\ H1 a=some (.ins C dx fs) /\ Cls K C /\ kZ K C f /\ fs.lookup f=some v /\ Q v H1
noncomputable def EZ(K:PySem.W.Frag)(ta tv:TE)(f:Str):TS:=fun D σ H=>tv σ H fun y H1=>ta σ H1 fun x H2=>∃ a C dx fs,x=.ref a /\ H2 a=some (.ins C dx fs) /\ Cls K C /\ kZ K C f /\ fs.length<1000 /\
 D.nx σ (upd H2 a (.ins C dx (jB f y fs)))
section
variable{X:Cx}{o e value:Expr}{f:Str}{pos pos' tpos:Pos}{ta tv:TE}
theorem Fs(he:PE X e ta)(hb:attributeBase e f X.env (eval e X.env)=eval e X.env):PE X (.Attribute e f pos) (Ep X.K ta f):=by
 intro pins s σ H Q I h;refine Cm hb (thn (he pins s σ H _ I h) fun u s1 ⟨x,H1,I1,rx,a,C,dx,fs,v,ex,ea,c,n,l,q⟩=>?_);subst ex
 obtain rfl:u=Value.ref a:=rx
 exact xC I1 ea c n l fun u' s2 I2 ru=>⟨v,H1,I2,ru,q⟩
theorem DQ(ha:PE X o ta)(hv:PE X value tv)(hs:swapsWith value (some (.Attribute o f pos')) pos.line X.env=pure false):PS X (.Assign [.Attribute o f pos'] value pos) (EZ X.K ta tv f):=by
 intro pins s σ H D I h;refine plainObj_wpAny_Assign_Attribute (thn (hv pins s σ H _ I h) fun u s1 ⟨y,H1,I1,ry,q⟩=>thn (ha pins s1 σ H1 _ I1 q) fun ov s2 ⟨x,H2,I2,rx,a,C,dx,fs,ex,ea,c,n,l,q2⟩=>?_) hs;subst ex
 obtain rfl:ov=Value.ref a:=rx
 exact xM I2 ea c n l ry fun s3 I3=>⟨σ,_,I3,q2⟩
end
structure gT(k:Nat)(A:Around):Prop where
 hd:A.handled=none
 dp:A.depth+3*k+5<recursionLimit
 un:A.units+16*k+200<cLine
theorem gT.mono{j k:Nat}{A:Around}(r:gT k A)(h:j<=k):gT j A:=⟨r.hd,by have:=r.dp;omega,by have:=r.un;omega⟩
theorem gT.deeper{k:Nat}{A:Around}(r:gT (k+1) A)(env:Env):gT k (A.deeper env):=
 ⟨r.hd,by have:=r.dp;show A.depth+1+3*k+5<_;omega,by have:=r.un;show A.units+3+16*k+200<_;omega⟩
theorem xB{A:Around}{C:Addr}{us:List Value}{kw:List (Str×Value)}:(A.under (.builtin "type.__call__" ⟨.ref C ::us,kw⟩)).depth=A.depth+1:=by
 first|rfl|simp[Around.under,Code.weight,Code.isCreation,Code.isGuard,Code.isCaller,Code.frames,Code.isFrame,guardIds]
theorem xp{A:Around}{C:Addr}{us:List Value}{kw:List (Str×Value)}:(A.under (.builtin "type.__call__" ⟨.ref C ::us,kw⟩)).units=A.units+1:=by
 first|rfl|simp[Around.under,Code.cUnits,Code.frames,Code.isFrame]
theorem gT.make{k:Nat}{A:Around}(r:gT (k+1) A)(C:Addr)(us:List Value)(kw:List (Str×Value)):gT k (A.under (.builtin "type.__call__" ⟨.ref C ::us,kw⟩)):=
 ⟨r.hd,by have:=r.dp;rw[xB];omega,by have:=r.un;rw[xp];omega⟩
theorem gT.depth{k:Nat}{A:Around}(r:gT k A):A.depth<recursionLimit:=by have:=r.dp;omega
theorem gT.units{k:Nat}{A:Around}(r:gT k A):A.units+64<cLine:=by have:=r.un;omega
noncomputable def lz:TA:=fun _ H Q=>Q [] H
noncomputable def jT(ta:TE)(tr:TA):TA:=fun σ H Q=>ta σ H fun x H1=>tr σ H1 fun xs H2=>Q (x ::xs) H2
section
variable{X:Cx}{e:Expr}{es:List Expr}{te:TE}{t:TA}{pos:Pos}
theorem Ej:PA X [] lz:=fun _ _ _ _ H Q I h=>Calls.spliced_nil ⟨[],H,I,.nil,h⟩
theorem CJ(ha:PE X e te)(hr:PA X es t)(hs:starEach (e ::es) X.env=(false,eval e X.env) ::starEach es X.env:=by rfl):PA X (e ::es) (jT te t):=by
 intro pos pins s σ H Q I h;rw[hs];show wpAny _ _ (spliced ((false,eval e X.env) ::backTo pos (starEach es X.env))) _ _ s;refine Calls.spliced_cons (thn (ha pins s σ H _ I h) fun u s1 ⟨x,H1,I1,r1,q1⟩=>?_)
 exact thn (hr pos pins s1 σ H1 _ I1 q1) fun us s2 ⟨xs,H2,I2,r2,q2⟩=>⟨x ::xs,H2,I2,.cons r1 r2,q2⟩
noncomputable def E4(t:TA):TE:=fun σ H Q=>t σ H fun xs H1=>xs.length<=sizeLine /\ ∀ p,H1 p=none->Q (.ref p) (upd H1 p (.tup xs))
noncomputable def D5(t:TA):TE:=fun σ H Q=>t σ H fun xs H1=>xs.length<=sizeLine /\ ∀ p,H1 p=none->Q (.ref p) (upd H1 p (.lst xs))
theorem Fg{x1}(h:PA X es t):PE X (.Tuple es x1 pos) (E4 t):=by
 intro pins s σ H Q I hq;refine wpAny_Tuple_spliced (thn (h pos pins s σ H _ I hq) fun us s1 ⟨xs,H1,I1,r,z,q⟩=>⟨by rw[<- r.length];exact z,?_⟩)
 have hf:H1 s1.heap.objs.size=none:=I1.hok.fresh (Nat.le_refl _)
 refine⟨.ref s1.heap.objs.size,upd H1 s1.heap.objs.size (.tup xs),I1.laid (t':=s1.toks) (fun b u e=>Heap.get?_push_of_some _ e) (Nat.le_refl _) ?_,rfl,q _ hf⟩
 exact⟨z,us,r,⟨_,Heap.get?_push_size _ rfl,rfl,_,rfl⟩⟩
theorem Fj(h:PA X es t):PE X (.List es pos) (D5 t):=by
 intro pins s σ H Q I hq;refine wpAny_List_spliced (thn (h pos pins s σ H _ I hq) fun us s1 ⟨xs,H1,I1,r,z,q⟩=>⟨by rw[<- r.length];exact z,?_⟩)
 have hf:H1 s1.heap.objs.size=none:=I1.hok.fresh (Nat.le_refl _)
 refine⟨.ref s1.heap.objs.size,upd H1 s1.heap.objs.size (.lst xs),I1.laid (t':=s1.toks) (fun b u e=>Heap.get?_push_of_some _ e) (Nat.le_refl _) ?_,rfl,q _ hf⟩
 exact⟨z,us,0,r,Heap.get?_push_size _ rfl⟩
end
abbrev Sp:=List V->Hp->VK->XK->Prop
abbrev CXT:=List Env->Hp->Shared->XK->Value->Shared->Prop
structure xH(P:Program)(w:World)(K:PySem.W.Frag)(mg:Str->Option Value)(base:Heap)(A:Around)(outer:List Env)(s:Shared)(H:Hp):Prop where
 frames:A.frames=some outer
 mod:Mod K mg base
 bs:∀ b o,base.get? b=some o->s.heap.get? b=some o /\ H b=none
 bsz:base.objs.size<=s.heap.objs.size
 sX:s.heap.FunFrames base outer
 frf:∀ b∈frs outer,H b=none
 hok:HOk P w H s.heap
 bare:AllBare s.gens
noncomputable def CE(outer:List Env)(P:Program)(w:World)(H:Hp)(s:Shared)(Q:VK)(u:Value)(s':Shared):Prop:=
 ∃ v H',s'.os=s.os /\ AllBare s'.gens /\ Un (frs outer) [] H H' s.heap s'.heap /\ HOk P w H' s'.heap /\ RelV v u /\ Q v H'
noncomputable def CR(CX:CXT)(outer:List Env)(P:Program)(w:World)(H:Hp)(s:Shared)(Q:VK)(E:XK)(r:Result)(s':Shared):Prop:=
 match r with
 |.ok (.ret u)=>CE outer P w H s Q u s'
 |.ok _=>False
 |.error e=>CX outer H s E e s'
structure cA(P:Program)(w:World)(K:PySem.W.Frag)(mg:Str->Option Value)(base:Heap)(CX:CXT)(k:Nat)(f:Addr)(fd:FuncData)(ps:List Str)(sp:Sp):Prop where
 len:∀ vs H Q E,sp vs H Q E->vs.length=ps.length
 run:∀(A:Around) (outer:List Env) (s:Shared) (H:Hp) (args:Args) (us:List Value) (vs:List V) (Q:VK) (E:XK),gT k A->xH P w K mg base A outer s H->BindsTo s fd args (ps.zip us)->Vals vs us->sp vs H Q E ->
  codeAny (model P w) A (.call (.ref f) args) (CR CX outer P w H s Q E) s
theorem cA.mono{P:Program}{w:World}{K:PySem.W.Frag}{mg:Str->Option Value}{base:Heap}{CX:CXT}{j k:Nat}{f:Addr}{fd:FuncData}{ps:List Str}{sp:Sp}(F:cA P w K mg base CX j f fd ps sp)(h:j<=k):
  cA P w K mg base CX k f fd ps sp:=⟨F.len,fun A outer s H args us vs Q E hr=>F.run A outer s H args us vs Q E (hr.mono h)⟩
theorem cA.imp{P:Program}{w:World}{K:PySem.W.Frag}{mg:Str->Option Value}{base:Heap}{CX:CXT}{k:Nat}{f:Addr}{fd:FuncData}{ps:List Str}{sp sp':Sp}(F:cA P w K mg base CX k f fd ps sp)
  (h:∀ vs H Q E,sp' vs H Q E->sp vs H Q E):cA P w K mg base CX k f fd ps sp':=
 ⟨fun vs H Q E q=>F.len vs H Q E (h _ _ _ _ q),fun A outer s H args us vs Q E hr he hb hv hs=>F.run A outer s H args us vs Q E hr he hb hv (h _ _ _ _ hs)⟩
theorem xH.make{P:Program}{w:World}{K:PySem.W.Frag}{mg:Str->Option Value}{base:Heap}{A:Around}{outer:List Env}{s:Shared}{H:Hp}(e:xH P w K mg base A outer s H)(C:Addr)(us:List Value)(kw:List (Str×Value)):
  xH P w K mg base (A.under (.builtin "type.__call__" ⟨.ref C ::us,kw⟩)) outer s H:=⟨by first|exact e.frames|(simpa [Around.under,Code.envs,Code.isFrame,pushEnvs]using e.frames),e.mod,e.bs,e.bsz,e.sX,e.frf,e.hok,e.bare⟩
section
variable{X:Cx}{pins:List (Addr×Obj)}{σ:St}{H:Hp}{s s':Shared}
theorem Inv.Gn(I:Inv X pins σ H s):xH X.prog X.w X.K X.mg X.base X.A X.stack s H:=
 ⟨I.ok.frames,I.ok.mod,I.bs,Nat.le_trans I.ok.bsz I.sz,I.stack,I.vc,I.hok,I.bare⟩
theorem Inv.after{Q:VK}{u:Value}(I:Inv X pins σ H s)(h:CE X.stack X.prog X.w H s Q u s'):EP X pins σ Q u s':=by
 obtain⟨v,H',os,bare,un,hok,r,q⟩:=h;obtain⟨hh,g,d,t,os'⟩:=s'
 obtain rfl:os'=s.os:=os
 exact⟨v,H',I.call (h':=hh) (g':=g) (d':=d) (t':=t) (ch:=[]) un hok bare (fun b z=>absurd z (by simp)),r,q⟩
end
noncomputable def Bd(C:Addr)(sp:Sp)(dvs:List V)(E:XK)(t:TA):TE:=fun σ H Q=>t σ H fun vs H1=>∀ x dx,H1 x=none->H1 dx=none->dx≠x ->
 sp (.ref x ::(vs++dvs)) (upd (upd H1 dx (.own x)) x (.ins C dx [])) (fun v H2=>v=.non /\ Q (.ref x) H2) E
noncomputable def Binds(K:PySem.W.Frag)(fd:FuncData)(ps:List Str)(ds:List Value):Prop:=
 ∀(s:Shared) (us:List Value),K.In s.heap->(us++ds).length=ps.length->BindsTo s fd ⟨us,[]⟩ (ps.zip (us++ds))
theorem Binds.all{K:PySem.W.Frag}{fd:FuncData}{ps:List Str}(h:∀ us:List Value,us.length=ps.length->bindArgs fd ⟨us,[]⟩=pure (ps.zip us)):Binds K fd ps []:=fun s us _ hl=>by
 rw[List.append_nil]at hl ⊢
 exact .of_eq (h us hl)
noncomputable def Passes(CX:CXT)(X:Cx)(E:XK):Prop:=∀(pins:List (Addr×Obj)) (σ:St) (H:Hp) (s:Shared) (e:Value) (s':Shared),Inv X pins σ H s->CX X.stack H s E e s'->X.xe e s'
section
variable{X:Cx}{CX:CXT}{k:Nat}{f C:Addr}{fd:FuncData}{ps:List Str}{sp:Sp}{dvs:List V}{ds:List Value}{E:XK}{x m:Str}{p pos apos:Pos}{e o:Expr}{es:List Expr}{ta:TE}{t:TA}
structure Mk(K:PySem.W.Frag)(C f:Addr):Prop where
 makes:PySem.W.makesIn K C=true
 init:PySem.W.findIn K (.ref C) "__init__" = some (some (.ref f))
 fn:PySem.W.isFn K (.ref f)=true
 kp:PySem.W.keepIn K (.ref C)=true
theorem zB{pins:List (Addr×Obj)}{σ:St}{H:Hp}{s:Shared}{Q:VK}{us:List Value}{vs:List V}(M:Mk X.K C f)(F:cA X.prog X.w X.K X.mg X.base CX k f fd ps sp)(hr:gT (k+1) X.A)(hb:Binds X.K fd ps ds)(hd:Vals dvs ds)
  (hx:Passes CX X E) (I:Inv X pins σ H s) (r:Vals vs us)
  (h:∀ x dx,H x=none->H dx=none->dx≠x->sp (.ref x ::(vs++dvs)) (upd (upd H dx (.own x)) x (.ins C dx [])) (fun v H2=>v=.non /\ Q (.ref x) H2) E):
  wpAny (model X.prog X.w) X.A (call (.ref C) us) (EP X pins σ Q) X.xe s:=by
 have hq:=h (s.heap.objs.size+1) s.heap.objs.size (I.hok.fresh (Nat.le_succ _)) (I.hok.fresh (Nat.le_refl _)) (Nat.ne_of_lt (Nat.lt_succ_self _));have I2:=Inv.made (C:=C) I
 have r2:Vals (V.ref (s.heap.objs.size+1) ::(vs++dvs)) (Value.ref (s.heap.objs.size+1) ::(us++ds)):=.cons rfl (r.append hd)
 have hl:(Value.ref (s.heap.objs.size+1) ::us++ds).length=ps.length:=by
  have e:=r2.length;rw[F.len _ _ _ _ hq]at e;exact e.symm
 refine wpAny_call (AA (f:=f) I.kIn M.makes M.init (beq_iff_eq.mp M.fn) (codeAny_mono (F.run _ X.stack _ _ ⟨Value.ref (s.heap.objs.size+1) ::us,[]⟩ (Value.ref (s.heap.objs.size+1) ::(us++ds)) _ _ E (hr.make C us [])
  (I2.Gn.make C us []) (hb _ (Value.ref (s.heap.objs.size+1) ::us) I2.kIn hl) r2 hq) fun r s' hq'=>?_))
 cases r with
 |error e=>exact hx pins σ _ _ e s' I2 hq'
 | ok fl=>
   cases fl with
   | ret u=>
     obtain⟨v,H',I3,rv,ev,q3⟩:=I2.after hq';subst ev
     exact⟨rv,⟨V.ref (s.heap.objs.size+1),H',I3,rfl,q3⟩⟩
   |next=>exact False.elim hq'
   |brk=>exact False.elim hq'
   |cont=>exact False.elim hq'
theorem zA(M:Mk X.K C f)(F:cA X.prog X.w X.K X.mg X.base CX k f fd ps sp)(hr:gT (k+1) X.A)(hg:Gl X x)(hm:X.mg x=some (.ref C))(hb:Binds X.K fd ps ds)(hd:Vals dvs ds)(hx:Passes CX X E)
  (hdb:(x==("__debug__":Str))=false:=by decide):PE X (.Call (.Name x p) [] [] pos) (Bd C sp dvs E lz):=by
 intro pins s σ H Q I h;refine wpAny_Call_Name_kw (rb I hg hm ?_ hdb);exact PySem.W.callWith_K0 I.kIn M.kp (zB (us:=[]) M F hr hb hd hx I .nil h)
end
structure aY(N P:List Str)(sc:Scope):Prop where
 kind:sc.kind=.function
 co:sc.isCoroutine=false
 gen:sc.isGenerator=false
 nd:N.Nodup
 pre:N.take P.length=P
 par:∀ x∈P,sc.names.lookup x=some .local \/ sc.names.lookup x=some .cell
 nofree:∀ y∈sc.names,y.2≠.free
theorem tH{kindOf:Str->Option NameKind}{x:Str}:∀{binds:List (Str×Value)} {m:Str->Option Value},(∀ v,(x,v)∉binds)->bindL kindOf binds m x=m x
 |[],_,_=>rfl
 | (n,v) ::r,m,h=>by
   unfold bindL;rw[tH fun w hw=>h w (List.mem_cons_of_mem _ hw)];split
   . have:x≠n:=by rintro rfl;exact h v List.mem_cons_self
     simp[this]
   . rfl
theorem tF{kindOf:Str->Option NameKind}{x:Str}:∀{binds:List (Str×Value)} {m:Str->Option Value},(∀ v,(x,v)∉binds)->bindC kindOf binds m x=m x
 |[],_,_=>rfl
 | (n,v) ::r,m,h=>by
   unfold bindC;rw[tF fun w hw=>h w (List.mem_cons_of_mem _ hw)];split
   . rfl
   . have:x≠n:=by rintro rfl;exact h v List.mem_cons_self
     simp[this]
theorem tK{kindOf:Str->Option NameKind}{x:Str}{v:Value}:∀{P:List Str} {vs:List Value} {i:Nat} {m:Str->Option Value},P.Nodup->P[i]?=some x->vs[i]?=some v->kindOf x=some .local ->
  bindL kindOf (P.zip vs) m x=some v
 |[],_,_,_,_,h,_,_=>by simp at h
 |_ ::_,[],_,_,_,_,h,_=>by simp at h
 | p ::P,w ::vs,0,m,nd,h1,h2,hk=>by
   simp at h1 h2;subst h1;subst h2;show bindL kindOf ((p,w) ::P.zip vs) m p=_;unfold bindL;rw[tH fun v hv=>(List.nodup_cons.mp nd).1 (List.of_mem_zip hv).1,if_pos hk];simp
 | p ::P,w ::vs,i+1,m,nd,h1,h2,hk=>by
   show bindL kindOf ((p,w) ::P.zip vs) m x=_;unfold bindL;exact tK (i:=i) (List.nodup_cons.mp nd).2 (by simpa using h1) (by simpa using h2) hk
theorem ud{kindOf:Str->Option NameKind}{x:Str}{v:Value}:∀{P:List Str} {vs:List Value} {i:Nat} {m:Str->Option Value},P.Nodup->P[i]?=some x->vs[i]?=some v->kindOf x≠some .local ->
  bindC kindOf (P.zip vs) m x=some v
 |[],_,_,_,_,h,_,_=>by simp at h
 |_ ::_,[],_,_,_,_,h,_=>by simp at h
 | p ::P,w ::vs,0,m,nd,h1,h2,hk=>by
   simp at h1 h2;subst h1;subst h2;show bindC kindOf ((p,w) ::P.zip vs) m p=_;unfold bindC;rw[tF fun v hv=>(List.nodup_cons.mp nd).1 (List.of_mem_zip hv).1,if_neg hk];simp
 | p ::P,w ::vs,i+1,m,nd,h1,h2,hk=>by
   show bindC kindOf ((p,w) ::P.zip vs) m x=_;unfold bindC;exact ud (i:=i) (List.nodup_cons.mp nd).2 (by simpa using h1) (by simpa using h2) hk
noncomputable def start(N:List Str)(vs:List V):St:=vs.map some++List.replicate (N.length - vs.length) none
noncomputable def qq(CX:CXT)(P:Program)(w:World)(K:PySem.W.Frag)(mg:Str->Option Value)(base:Heap)(N:List Str)(qual:Str)(scope:Scope)(f:Addr)(cd:Value)(A:Around)(outer:List Env)(s:Shared)(H:Hp)(E:XK):Cx where
 prog:=P
 w:=w
 K:=K
 mg:=mg
 base:=base
 A:=A.deeper (envOfC qual scope s.heap.objs.size f cd)
 N:=N
 s₀:=s
 H₀:=H
 env:=envOfC qual scope s.heap.objs.size f cd
 outer:=outer
 stack:=envOfC qual scope s.heap.objs.size f cd ::outer
 ex:=[]
 calm:=true
 fn:=fun _=>true
 pn:=[]
 xe:=fun e s'=>wpAny (model P w) (A.deeper (envOfC qual scope s.heap.objs.size f cd)) (leaving (envOfC qual scope s.heap.objs.size f cd) e) (fun _ s''=>CX outer H s E e s'') (fun e' s''=>CX outer H s E e' s'') s'
theorem vg{sc:Scope}{n:Nat}{x:Str}(h:sc.names.lookup x=some .cell):∃ c,(cellsFrom n sc.names []).lookup x=some c:=by
 have q:=PySem.W.cellsFrom_some sc.names n [] (.inl h);exact Option.isSome_iff_exists.mp q
theorem yR{CX:CXT}{P:Program}{w:World}{K:PySem.W.Frag}{mg:Str->Option Value}{base:Heap}{N ps:List Str}{qual:Str}{scope:Scope}{f:Addr}{cd:Value}{A:Around}{outer:List Env}{s s1:Shared}{H:Hp}{E:XK}{us:List Value}{vs:List V}
  (S:aY N ps scope) (hd:A.handled=none) (e0:xH P w K mg base A outer s H) (hl:vs.length=ps.length) (r:Vals vs us)
  (x:InCallC s s.heap.objs.size (bindL (envOfC qual scope s.heap.objs.size f cd).kindOf (ps.zip us) fun _=>none) (cellsFrom (s.heap.objs.size+1) scope.names []) (bindC (envOfC qual scope s.heap.objs.size f cd).kindOf (ps.zip us) fun _=>none) s1):
  Inv (qq CX P w K mg base N qual scope f cd A outer s H E) [] (start N vs) H s1:=by
 have hpl:ps.length<=N.length:=by have:=congrArg List.length S.pre;rw[List.length_take]at this;omega
 obtain⟨h1,tk,rfl,hk⟩:=x.done
 have noA:∀ b:Addr,b∉(qq CX P w K mg base N qual scope f cd A outer s H E).ex:=fun b z=>absurd (show b∈([]:List Addr) from z) (by simp)
 refine⟨⟨e0.mod,S.kind,rfl,rfl,Nat.le_refl _,fun y z c h1 h2=>?_,fun y hy=>?_,fun y c _ h=>?_,fun _=>hd,Around.frames_deeper e0.frames,.inr ⟨rfl,rfl⟩,fun b z=>absurd z (noA b),e0.bs,e0.bsz,fun b _ _=>noA b,fun b z=>absurd z (noA b),e0.sX,e0.frf⟩,
  rfl,e0.bare,Un.kept hk,⟨_,x.toInCall.ns,fun i y v h1 h2 h3=>?_⟩,fun y c h=>⟨_,x.cell y c h⟩,e0.hok.fresh (Nat.le_refl _),fun y c h=>?_,fun p hp=>absurd (show p∈([]:List (Addr×Obj)) from hp) (by simp),e0.hok.kept hk,?_⟩
 . exact name_of_addr x.apart (PySem.mem_of_lookup h1) (PySem.mem_of_lookup h2)
 . have hy:scope.names.lookup y=some .cell \/ scope.names.lookup y=some .free:=hy
   rcases hy with hy|hy
   . exact vg hy
   . exact absurd rfl (S.nofree _ (PySem.mem_of_lookup hy))
 . exact Nat.le_of_lt (x.above y c (PySem.mem_of_lookup h))
 . have hi:i < vs.length:=by
    unfold start at h2
    by_cases hi:i<vs.length
    . exact hi
    . rw[List.getElem?_append_right (by simpa using hi)]at h2;rw[List.getElem?_replicate]at h2
      split at h2<;>cases h2
   have ha:vs[i]?=some v:=by
    unfold start at h2;rw[List.getElem?_append_left (by simpa using hi),List.getElem?_map]at h2
    cases e:vs[i]? with
    |none=>rw[e]at h2;cases h2
    |some a=>rw[e]at h2;cases h2;rfl
   obtain⟨u,hu,rv⟩:=r.get ha
   have hp:ps[i]?=some y:=by
    rw[<- S.pre,List.getElem?_take_of_lt (by omega)];exact h1
   have ndP:ps.Nodup:=by rw[<- S.pre];exact S.nd.sublist (List.take_sublist _ _)
   refine⟨u,rv,?_⟩
   rcases S.par y (List.mem_of_getElem? hp)with k|k
   . exact .inl ⟨k,tK ndP hp hu k⟩
   . obtain⟨c,e⟩:=vg (n:=s.heap.objs.size+1) k;refine .inr ⟨.inl k,c,e,?_⟩;have q:=x.cell y c e;rw[ud ndP hp hu (by show scope.names.lookup y≠_;rw[k];decide)]at q;exact q
 . exact e0.hok.fresh (Nat.le_of_lt (x.above y c (PySem.mem_of_lookup h)))
 . unfold start;show _=N.length;rw[List.length_append,List.length_map,List.length_replicate];omega
theorem Gm{CX:CXT}{P:Program}{w:World}{K:PySem.W.Frag}{mg:Str->Option Value}{base:Heap}{k:Nat}{f:Addr}{name qual:Str}{params:Arguments}{body:List Stmt}{scope:Scope}{dV kV doc pm cdv ct oc:Value}{an od:Option Addr}
  {osl:Array (Option Value)} {N ps:List Str} {sp:Sp} (lk:K.lookup f=some ⟨oc,od,.func (PySem.W.fnOf name qual params body scope dV kV doc pm an cdv ct),osl⟩) (hcd:PySem.W.codeIn K cdv qual=true) (S:aY N ps scope)
  (len:∀ vs H Q E,sp vs H Q E->vs.length=ps.length)
  (hbody:∀(A:Around) (outer:List Env) (s:Shared) (H:Hp) (vs:List V) (Q:VK) (E:XK),gT k (A.deeper (envOfC qual scope s.heap.objs.size f cdv))->sp vs H Q E ->
    ∃ t,PSs (qq CX P w K mg base N qual scope f cdv A outer s H E) body t /\ t { nx:=fun _ H'=>Q .non H',rt:=Q } (start N vs) H):
  cA P w K mg base CX (k+1) f (PySem.W.fnOf name qual params body scope dV kV doc pm an cdv ct) ps sp:=by
 refine⟨len,fun A outer s H args us vs Q E hr e0 hb r hsp=>?_⟩
 have hl:=len _ _ _ _ hsp
 have KX:K.In s.heap:=e0.mod.kin.keeps fun b o e=>(e0.bs b o e).1
 have lim:s.heap.NoLimit:=e0.mod.nolimit.keeps fun b o e=>(e0.bs b o e).1
 have hkind:∀ y∈ps.zip us,scope.names.lookup y.1=some .local \/ (scope.names.lookup y.1=some .cell /\ ((cellsFrom (s.heap.objs.size+1) scope.names []).lookup y.1).isSome=true):=fun ⟨n,v⟩ hy=>by
  rcases S.par n (List.of_mem_zip hy).1 with q|q
  . exact .inl q
  . exact .inr ⟨q,PySem.W.cellsFrom_some _ _ _ (.inl q)⟩
 refine codeAny_call_function hr.depth (KX _ _ lk) rfl S.co S.gen rfl (PySem.W.codeRec_of KX hcd) (hb _ _ _ _ ?_)
 refine wpAny_newFunctionEnv_cells S.kind hkind fun env he s1 x=>?_
 subst he
 refine⟨lim.keeps x.toInCall.keep,codeAny_func ?_⟩
 obtain⟨t,ht,hq⟩:=hbody A outer s H vs Q E (hr.deeper _) hsp
 have I:Inv (qq CX P w K mg base N qual scope f cdv A outer s H E) [] (start N vs) H s1:=yR S hr.hd e0 hl r x
 refine wpAny_mono (ht [] s1 (start N vs) H _ I hq) (fun fl s' hs=>?_) fun e s' hs=>hs
 have fin:∀{σ':St} {H':Hp} {v:V} {u:Value},Inv (qq CX P w K mg base N qual scope f cdv A outer s H E) [] σ' H' s'->RelV v u->Q v H'->CE outer P w H s Q u s':=
  fun {σ' H' v u} J rv q=>⟨v,H',J.os,J.bare,J.base,J.hok,rv,q⟩
 cases fl with
 | ret u=>
   obtain⟨v,σ',H',J,rv,q⟩:=hs;exact fin J rv q
 | next=>
   obtain⟨σ',H',J,q⟩:=hs;exact fin (v:=V.non) (u:=Value.none) J rfl q
 | brk=>
   obtain⟨_,_,_,q⟩:=hs;exact False.elim q
 | cont=>
   obtain⟨_,_,_,q⟩:=hs;exact False.elim q
section
variable{X:Cx}{x:Str}{p pos:Pos}{e:Expr}{es:List Expr}{t:TA}{id T:String}{r:List V->Hp->VK->Prop}
noncomputable def tCB(r:List V->Hp->VK->Prop)(t:TA):TE:=fun σ H Q=>t σ H fun vs H1=>r vs H1 Q
theorem zZ(hc:qu X (.builtin id) r)(hg:Gl X x)(hm:X.mg x=none)(hv:bootBuiltins x=some (.builtin id))(ha:PA X (e ::es) t)(hn:x ≠ "__name__":=by decide)(hdb:(x==("__debug__":Str))=false:=by decide)
  (he:starEach (e ::es) X.env=(false,eval e X.env) ::starEach es X.env:=by rfl) (hpl:(backTo pos (starEach es X.env)).any (·.1)=false:=by rfl):PE X (.Call (.Name x p) (e ::es) [] pos) (tCB r t):=by
 intro pins s σ H Q I h;refine wpAny_Call_Name_kw (si I hg hm hv ?_ hn hdb);exact PyProof.Rows.callWith_builtin1 (thn (ha pos pins s σ H _ I h) fun us s1 ⟨vs,H1,I1,r1,q1⟩=>hc pins s1 σ H1 vs us Q I1 r1 q1) he hpl
theorem zf(hc:qu X (.type T) r)(hg:Gl X x)(hm:X.mg x=none)(hv:bootBuiltins x=some (.type T))(ha:PA X (e ::es) t)(hn:x ≠ "__name__":=by decide)(hdb:(x==("__debug__":Str))=false:=by decide)
  (he:starEach (e ::es) X.env=(false,eval e X.env) ::starEach es X.env:=by rfl) (hpl:(backTo pos (starEach es X.env)).any (·.1)=false:=by rfl):PE X (.Call (.Name x p) (e ::es) [] pos) (tCB r t):=by
 intro pins s σ H Q I h;refine wpAny_Call_Name_kw (si I hg hm hv ?_ hn hdb);exact PyProof.Rows.callWith_type1 (thn (ha pos pins s σ H _ I h) fun us s1 ⟨vs,H1,I1,r1,q1⟩=>hc pins s1 σ H1 vs us Q I1 r1 q1) he hpl
end
end L2
namespace HT
open PySem PyProof.Rows
section
open PySem.SeqAt
open PySem.AutoSeq1 (wpAny_loadPart')
open PySem.MeetsSeq PySem.MeetsSeq2 PySem.MeetsSeq3
end
section
variable{prog:Program}{w:World}{A:Around}{E:Value->Shared->Prop}{s:Shared}
noncomputable def sIx(n d:Nat):Option Int->Nat
 |none=>d
 |some v=>if v<0 then(v+(n:Int)).toNat else min v.toNat n
end
end HT
namespace L2
open PySem PySem.Spec PyProof.Rows
abbrev TO:=St->Hp->(Option Int->Hp->Prop)->Prop
noncomputable def PO(X:Cx)(e:Option Expr)(t:TO):Prop:=
 ∀(pins:List (Addr×Obj)) (s:Shared) (σ:St) (H:Hp) (Q:Option Int->Hp->Prop),Inv X pins σ H s->t σ H Q ->
   wpAny (model X.prog X.w) X.A (evalPart e X.env) (fun u s'=>∃ o H',Inv X pins σ H' s' /\ IsPart u o /\ Q o H') X.xe s
noncomputable def uH:TO:=fun _ H Q=>Q none H
noncomputable def Aj(t:TE):TO:=fun σ H Q=>t σ H fun x H1=>∃ i,x=.int i /\ Q (some i) H1
section
variable{X:Cx}{e:Expr}{te:TE}{lo hi:Option Expr}{tl th:TO}{pos p2:Pos}
theorem BZ:PO X none uH:=by
 intro pins s σ H Q I h;rw[evalPart_none];exact wpAny_pure ⟨none,H,I,.none,h⟩
theorem CF(h:PE X e te):PO X (some e) (Aj te):=by
 intro pins s σ H Q I hw;rw[evalPart_some]
 refine thn (h pins s σ H _ I hw) fun u s1 ⟨x,H1,I1,r1,q1⟩=>?_
 obtain⟨i,rfl,q⟩:=q1;obtain⟨t,rfl⟩:=r1
 exact⟨some i,H1,I1,.int i t,q⟩
noncomputable def SlR(X:Cx)(r:V->Option Int->Option Int->Hp->VK->Prop):Prop:=
 ∀(pins:List (Addr×Obj)) (s:Shared) (σ:St) (H:Hp) (x:V) (v vl vu:Value) (lo hi:Option Int) (sl:Addr) (Q:VK),Inv X pins σ H s->RelV x v->s.heap.IsSliceOf sl vl vu .none->IsPart vl lo->IsPart vu hi->r x lo hi H Q ->
   ∃ T id,typeLookup (.type T) "__getitem__" = pure (some (.builtin id)) /\ s.TypeIs v T /\ wpAny (model X.prog X.w) X.A (getItem v (.ref sl)) (EP X pins σ Q) X.xe s
noncomputable def tSl(r:V->Option Int->Option Int->Hp->VK->Prop)(te:TE)(tl th:TO):TE:=fun σ H Q=>te σ H fun x H1=>tl σ H1 fun l H2=>th σ H2 fun u H3=>r x l u H3 Q
theorem Az{r:V->Option Int->Option Int->Hp->VK->Prop}(hr:SlR X r)(he:PE X e te)(hl:PO X lo tl)(hu:PO X hi th):PE X (.Subscript e (.Slice lo hi none p2) pos) (tSl r te tl th):=by
 intro pins s σ H Q I h;refine Subscript_ (thn (he pins s σ H _ I h) fun v s1 ⟨x,H1,I1,r1,q1⟩=>?_);refine wpAny_Slice (thn (hl pins s1 σ H1 _ I1 q1) fun vl s2 ⟨l,H2,I2,pl,q2⟩=>thn (hu pins s2 σ H2 _ I2 q2) fun vu s3 ⟨u,H3,I3,pu,q3⟩=>?_);rw[evalPart_none];refine wpAny_pure ?_
 have I4:Inv X pins σ H3 { s3 with heap:=s3.heap.push { cls:=.type "slice",data:=.fields #[vl,vu,.none] } }:=I3.kept (t':=s3.toks) fun b ob q=>Heap.get?_push_of_some _ q
 obtain⟨T,id,hT,ht,hg⟩:=hr pins { s3 with heap:=s3.heap.push { cls:=.type "slice",data:=.fields #[vl,vu,.none] } } σ H3 x v vl vu l u s3.heap.objs.size Q I4 r1 (Heap.IsSliceOf.new ..) pl pu q3;show wpAny (model X.prog X.w) X.A (subscriptTail e (.Slice lo hi none p2) v (.ref s3.heap.objs.size)) (EP X pins σ Q) X.xe { s3 with heap:=s3.heap.push { cls:=.type "slice",data:=.fields #[vl,vu,.none] } };exact tail_any (ops:=[.ref s3.heap.objs.size,v]) ht hT hg (by with_unfolding_all rfl)
noncomputable def yI(xs:List V)(lo hi:Option Int):List V:=(xs.drop (HT.sIx xs.length 0 lo)).take (HT.sIx xs.length xs.length hi - HT.sIx xs.length 0 lo)
theorem vK(xs:List V)(lo hi:Option Int):(yI xs lo hi).length<=xs.length:=by
 unfold yI;rw[List.length_take,List.length_drop];omega
end
noncomputable def ixN(n:Nat)(i:Int):Option Nat:=if 0<=i then(if i<n then some i.toNat else none)else if -(n:Int)<=i then some (i+n).toNat else none
noncomputable def atI{α:Type}(xs:List α)(i:Int):Option α:=(ixN xs.length i).bind fun j=>xs[j]?
theorem CC{n:Nat}{i:Int}{j:Nat}(h:ixN n i=some j):seqIndex? i n=some j /\ j<n /\ -(n:Int)<=i /\ i<n:=by
 unfold ixN at h
 by_cases h0:0<=i
 . rw[if_pos h0]at h
   by_cases h1:i<n
   . rw[if_pos h1]at h
     have e:i.toNat=j:=Option.some.inj h
     exact⟨by rw[seqIndex_of h0 h1,e],by omega,by omega,h1⟩
   . rw[if_neg h1]at h;cases h
 . rw[if_neg h0]at h
   by_cases h1:-(n:Int)<=i
   . rw[if_pos h1]at h
     have e:(i+n).toNat=j:=Option.some.inj h
     exact⟨by rw[seqIndex_neg (by omega) h1,e],by omega,h1,by omega⟩
   . rw[if_neg h1]at h;cases h
theorem yk{α:Type}{xs:List α}{i:Int}{v:α}(h:atI xs i=some v):∃ j,seqIndex? i xs.length=some j /\ xs[j]?=some v /\ j<xs.length /\ -(xs.length:Int)<=i /\ i<xs.length:=by
 unfold atI at h
 cases e:ixN xs.length i with
 |none=>rw[e]at h;cases h
 | some j=>
   rw[e]at h;obtain⟨h1,h2,h3,h4⟩:=CC e
   exact⟨j,h1,h,h2,h3,h4⟩
noncomputable def uk(b:Expr):Prop:=∀ o i,subscripted b false o i=operate [o,i] (getItem o i)
noncomputable def IxR(X:Cx)(r:R2):Prop:=
 ∀(value slice:Expr) (pins:List (Addr×Obj)) (s:Shared) (σ:St) (H:Hp) (x y:V) (v u:Value) (Q:VK),Inv X pins σ H s->RelV x v->RelV y u->r x y H Q ->
   subscripted slice false v u=operate [v,u] (getItem v u)->wpAny (model X.prog X.w) X.A (subscriptTail value slice v u) (EP X pins σ Q) X.xe s
noncomputable def MtR(X:Cx)(id:String)(r:V->List V->Hp->VK->Prop):Prop:=
 ∀(pins:List (Addr×Obj)) (s:Shared) (σ:St) (H:Hp) (x:V) (xs:List V) (v:Value) (us:List Value) (Q:VK),Inv X pins σ H s->RelV x v->Vals xs us->r x xs H Q ->
   wpAny (model X.prog X.w) X.A (call (.builtin id) (v ::us)) (EP X pins σ Q) X.xe s
section
variable{X:Cx}{a b:Expr}{ta tb:TE}{pos:Pos}
theorem Gd{r:R2}(hr:IxR X r)(ha:PE X a ta)(hb:PE X b tb)(hs:uk b):PE X (.Subscript a b pos) (tOp r ta tb):=by
 intro pins s σ H Q I h;exact Subscript_ (EC ha hb I h fun v u s2 x y H2 I2 rx ry q=>hr a b pins s2 σ H2 x y v u Q I2 rx ry q (hs _ _))
noncomputable def CQ(K:PySem.W.Frag):R2:=fun x y H Q=>∃ p xs i v,x=.ref p /\ y=.int i /\ SqL K H p xs /\ atI xs i=some v /\ Q v H
noncomputable def F9(K:PySem.W.Frag):R2:=fun x y H Q=>∃ p xs i v,x=.ref p /\ y=.int i /\ SqT K H p xs /\ atI xs i=some v /\ Q v H
theorem bw:IxR X (CQ X.K):=by
 intro value slice pins s σ H x y v u Q I rx ry h hs;obtain⟨p,xs,i,z,rfl,rfl,hq,he,q⟩:=h;cases rx;obtain⟨t,rfl⟩:=ry;obtain⟨its,r,pl,hz⟩:=I.list hq;obtain⟨j,h1,h2,h3,h4,h5⟩:=yk he;obtain⟨w,ew,rw'⟩:=r.get h2;have hl:=r.length;have hn:=uE
 have fin:EP X pins σ Q w s:=⟨z,H,I,rw',q⟩
 by_cases h0:0<=i
 . have hj:i.toNat = j:=by
    rw[seqIndex_of h0 h5]at h1;exact Option.some.inj h1
   exact item_listR pl.isList h0 (by omega) (by rw[hj];simpa using ew) fin hs
 . have hj:(i + (its.toArray.size:Int)).toNat = j:=by
    rw[seqIndex_neg (by omega) h4]at h1;rw[List.size_toArray,<- hl];exact Option.some.inj h1
   exact subscriptTail_builtinR (x:=w) pl.isList.typeIs slot_list_getitem.lookup
    (wpAny_getItem_list_neg (Q:=fun r s'=>r=w /\ EP X pins σ Q r s') pl.isList (by omega) (by rw[List.size_toArray]<;>omega) (by omega) (by rw[hj];simpa using ew) ⟨rfl,fin⟩) hs
theorem fM:IxR X (F9 X.K):=by
 intro value slice pins s σ H x y v u Q I rx ry h hs;obtain⟨p,xs,i,z,rfl,rfl,hq,he,q⟩:=h;cases rx;obtain⟨t,rfl⟩:=ry;obtain⟨its,r,pl,hz⟩:=I.tuple hq;obtain⟨j,h1,h2,h3,h4,h5⟩:=yk he;obtain⟨w,ew,rw'⟩:=r.get h2;have hl:=r.length;have hn:=uE
 have fin:EP X pins σ Q w s:=⟨z,H,I,rw',q⟩
 exact subscriptTail_builtinR (x:=w) pl.typeIs slot_tuple_getitem.lookup
  (getItem_tuple (j:=j) (Q:=fun r s'=>r=w /\ EP X pins σ Q r s') pl (by omega) (by omega) (by rw[List.size_toArray,<- hl];exact h1) (by simpa using ew) ⟨rfl,fin⟩) hs
theorem Inv.lst{pins:List (Addr×Obj)}{σ:St}{H:Hp}{s:Shared}{p:Addr}{xs:List V}(I:Inv X pins σ H s)(h:H p=some (.lst xs)):
  ∃(its:List Value) (n:Nat),Vals xs its /\ s.heap.get? p=some { cls:=.type "list",data:=.seq its.toArray n } /\ xs.length<=sizeLine:=by
 obtain⟨z,its,n,r,e⟩:=I.hok p _ h
 exact⟨its,n,r,e,z⟩
theorem uK(lo hi:Option Int)(n:Nat):(sliceBounds lo hi none n).1=((HT.sIx n 0 lo:Nat):Int) /\ (sliceBounds lo hi none n).2.1=((HT.sIx n n hi:Nat):Int) /\ (sliceBounds lo hi none n).2.2=1:=by
 refine⟨?_,?_,rfl⟩
 . cases lo with
   |none=>simp[sliceBounds,HT.sIx]
   | some i=>
     simp only[sliceBounds,HT.sIx,Option.getD_none,show(1:Int)>0 by decide,if_true]
     by_cases h:i<0
     . simp only[h,if_true]<;>omega
     . simp only[h,if_false]<;>omega
 . cases hi with
   |none=>simp[sliceBounds,HT.sIx]
   | some i=>
     simp only[sliceBounds,HT.sIx,Option.getD_none,show(1:Int)>0 by decide,if_true]
     by_cases h:i<0
     . simp only[h,if_true]<;>omega
     . simp only[h,if_false]<;>omega
theorem sV(its:List Value)(lo hi:Option Int):slicePick its.toArray lo hi none=((its.drop (HT.sIx its.length 0 lo)).take (HT.sIx its.length its.length hi - HT.sIx its.length 0 lo)).toArray:=by
 obtain⟨h1,h2,h3⟩:=uK lo hi its.toArray.size;unfold slicePick;rw[h1,h2,h3]
 simp only[sliceRange_one,pick_run,List.size_toArray]<;>rfl
noncomputable def F6(K:PySem.W.Frag):V->Option Int->Option Int->Hp->VK->Prop:=fun x lo hi H Q=>∃ a xs,x=.ref a /\ SqL K H a xs /\ ∀ p,H p=none->Q (.ref p) (upd H p (.lst (yI xs lo hi)))
theorem B1:SlR X (F6 X.K):=by
 intro pins s σ H x v vl vu lo hi sl Q I rx hs pl pu h;obtain⟨a,xs,rfl,hx,q⟩:=h;cases rx;obtain⟨its,r,ht,hz⟩:=I.list hx;have hlen:=r.length
 refine⟨"list",_,slot_list_getitem.lookup,ht.isList.typeIs,?_⟩
 refine wpAny_getItem_list_slice ht.isList hs pl pu .none (by simp) ?_ (by rw[List.size_toArray]<;>omega);rw[sV,<- hlen]
 refine⟨.ref s.heap.objs.size,_,I.laid (t':=s.toks) (o:=.lst (yI xs lo hi)) (fun b ob q=>Heap.get?_push_of_some _ q) (Nat.le_refl _) ?_,rfl,q _ (I.hok.fresh (Nat.le_refl _))⟩
 exact⟨Nat.le_trans (vK xs lo hi) hz,_,0,(r.drop (HT.sIx xs.length 0 lo)).take (HT.sIx xs.length xs.length hi - HT.sIx xs.length 0 lo),Heap.get?_push_size _ rfl⟩
noncomputable def oq:V->Bool
 |.non=>true
 |.bl _=>true
 |.int _=>true
 |.str _=>true
 |_=>false
noncomputable def eqV:V->V->Bool
 |.non,.non=>true
 |.bl a,.bl b=>a==b
 |.bl a,.int b=>(if a then 1 else 0)==b
 |.int a,.bl b=>a==(if b then 1 else 0)
 |.int a,.int b=>a==b
 |.str a,.str b=>a==b
 |_,_=>false
theorem DY{A:Around}{s:Shared}{y x:V}{u v:Value}(ry:RelV y u)(rx:RelV x v)(fy:oq y=true)(fx:oq x=true):SeqAt.EqAt A s u v (eqV y x):=by
 cases y with
 | non=>
   cases ry
   cases x with
   |non=>cases rx;exact SeqAt.EqAt.same _
   |bl b=>cases rx;exact SeqAt.EqAt.none_bool b
   |int b=>obtain⟨t,rfl⟩:=rx;exact SeqAt.EqAt.none_int b t
   |str b=>obtain⟨t,rfl⟩:=rx;exact SeqAt.EqAt.none_str b t
   |_=>exact absurd (show false=true from fx) Bool.false_ne_true
 | bl a=>
   cases ry
   cases x with
   |non=>cases rx;exact SeqAt.EqAt.bool_none a
   |bl b=>cases rx;exact SeqAt.EqAt.bool_bool a b
   |int b=>obtain⟨t,rfl⟩:=rx;exact SeqAt.EqAt.bool_int a b t
   |str b=>obtain⟨t,rfl⟩:=rx;exact SeqAt.EqAt.bool_str a b t
   |_=>exact absurd (show false=true from fx) Bool.false_ne_true
 | int a=>
   obtain⟨t',rfl⟩:=ry
   cases x with
   |non=>cases rx;exact SeqAt.EqAt.int_none a t'
   |bl b=>cases rx;exact SeqAt.EqAt.int_bool a t' b
   |int b=>obtain⟨t,rfl⟩:=rx;exact SeqAt.EqAt.int_int a t' b t
   |str b=>obtain⟨t,rfl⟩:=rx;exact SeqAt.EqAt.int_str a t' b t
   |_=>exact absurd (show false=true from fx) Bool.false_ne_true
 | str a=>
   obtain⟨t',rfl⟩:=ry
   cases x with
   |non=>cases rx;exact SeqAt.EqAt.str_none a t'
   |bl b=>cases rx;exact SeqAt.EqAt.str_bool a t' b
   |int b=>obtain⟨t,rfl⟩:=rx;exact SeqAt.EqAt.str_int a t' b t
   |str b=>obtain⟨t,rfl⟩:=rx;exact SeqAt.EqAt.str_str a t' b t
   |_=>exact absurd (show false=true from fx) Bool.false_ne_true
 |_=>exact absurd (show false=true from fy) Bool.false_ne_true
noncomputable def eqU(x:V)(u:Value):Bool:=match u with
 |.none=>eqV .non x
 |.bool b=>eqV (.bl b) x
 |.int i _=>eqV (.int i) x
 |.str z _=>eqV (.str z) x
 |_=>false
theorem Ax{x y:V}{u:Value}(r:RelV y u)(f:oq y=true):eqU x u=eqV y x:=by
 cases y with
 |non=>cases r;rfl
 |bl b=>cases r;rfl
 |int i=>obtain⟨t,rfl⟩:=r;rfl
 |str z=>obtain⟨t,rfl⟩:=r;rfl
 |_=>exact absurd (show false=true from f) Bool.false_ne_true
theorem pR{x:V}:∀{xs:List V} {us:List Value},Vals xs us->xs.all oq=true->us.any (eqU x)=xs.any fun y=>eqV y x
 |_,_,.nil,_=>rfl
 | y ::xs,u ::us,.cons r t,f=>by
   rw[List.all_cons,Bool.and_eq_true]at f;rw[List.any_cons,List.any_cons,Ax r f.1,pR t f.2]
theorem nr{A:Around}{s:Shared}{x:V}{v:Value}(rx:RelV x v)(fx:oq x=true):∀{xs:List V} {us:List Value},Vals xs us->xs.all oq=true->∀ u∈us,SeqAt.EqAt A s u v (eqU x u)
 |_,_,.nil,_=>fun u hu=>by cases hu
 | y ::xs,u ::us,.cons r t,f=>fun u' hu=>by
   rw[List.all_cons,Bool.and_eq_true]at f
   rcases List.mem_cons.mp hu with rfl|hu
   . rw[Ax r f.1];exact DY r rx f.1 fx
   . exact nr rx fx t f.2 u' hu
noncomputable def inV(x:V)(xs:List V):Bool:=xs.any fun y=>eqV y x
noncomputable def rIn(K:PySem.W.Frag)(neg:Bool):R2:=fun x y H Q=>∃ p xs,y=.ref p /\ (SqL K H p xs \/ SqT K H p xs) /\ oq x=true /\ xs.all oq=true /\ Q (.bl (if neg then !inV x xs else inV x xs)) H
theorem yL:OpR X (compareOp .In) (rIn X.K false):=by
 intro pins s σ H x y v u Q I rx ry h;obtain⟨p,xs,rfl,hq,fx,fs,q⟩:=h;cases ry
 rcases hq with hq|hq
 . obtain⟨its,r,pl,hz⟩:=I.list hq;refine SeqAt.in_listAt (eqU x) pl.isList (fun w hw=>nr rx fx r fs w (by simpa using hw)) ⟨.bl _,H,I,rfl,?_⟩;rw[show its.toArray.any (eqU x)=its.any (eqU x) by simp,pR r fs];exact q
 . obtain⟨its,r,pl,hz⟩:=I.tuple hq;refine SeqAt.in_tupleAt (eqU x) pl (fun w hw=>nr rx fx r fs w (by simpa using hw)) ⟨.bl _,H,I,rfl,?_⟩;rw[show its.toArray.any (eqU x)=its.any (eqU x) by simp,pR r fs];exact q
theorem uB:OpR X (compareOp .NotIn) (rIn X.K true):=by
 intro pins s σ H x y v u Q I rx ry h;obtain⟨p,xs,rfl,hq,fx,fs,q⟩:=h;cases ry
 rcases hq with hq|hq
 . obtain⟨its,r,pl,hz⟩:=I.list hq;refine SeqAt.notIn_listAt (eqU x) pl.isList (fun w hw=>nr rx fx r fs w (by simpa using hw)) ⟨.bl _,H,I,rfl,?_⟩;rw[show its.toArray.any (eqU x)=its.any (eqU x) by simp,pR r fs];exact q
 . obtain⟨its,r,pl,hz⟩:=I.tuple hq;refine SeqAt.notIn_tupleAt (eqU x) pl (fun w hw=>nr rx fx r fs w (by simpa using hw)) ⟨.bl _,H,I,rfl,?_⟩;rw[show its.toArray.any (eqU x)=its.any (eqU x) by simp,pR r fs];exact q
theorem uM:qu X (.builtin "len") (fun xs H Q=>∃ p ys,xs=[.ref p] /\ (SqL X.K H p ys \/ SqT X.K H p ys) /\ Q (.int ys.length) H):=by
 intro pins s σ H xs us Q I r h;obtain⟨p,ys,rfl,hq,q⟩:=h;obtain⟨u,rfl,rx⟩:=vals1 r;cases rx;have hn:=uE
 rcases hq with hq|hq
 . obtain⟨its,r',pl,hz⟩:=I.list hq;have hlen:=r'.length;exact Calls.call_len_list pl.isList (by simp only[List.size_toArray]<;>omega) ⟨.int ys.length,H,I.tok _,⟨s.toks+1,by rw[List.size_toArray,hlen]⟩,q⟩
 . obtain⟨its,r',pl,hz⟩:=I.tuple hq;have hlen:=r'.length;exact len_tuple pl (by simp only[List.size_toArray]<;>omega) ⟨.int ys.length,H,I.tok _,⟨s.toks+1,by rw[List.size_toArray,hlen]⟩,q⟩
noncomputable def tyV(K:PySem.W.Frag)(T:String)(x:V)(H:Hp):Prop:=match x with
 |.str _=>T = "str"
 |.int _=>T = "int"
 | .ref p=>(T = "list" /\ ∃ xs,SqL K H p xs) \/ (T = "tuple" /\ ∃ o,K.lookup p = some o /\ o.cls = .type "tuple" /\ o.dict = none) \/
    (T = "dict" /\ ((∃ kvs,H p=some (.dK kvs)) \/ ∃ kvs,H p=some (.dT kvs))) \/ (T = "set" /\ ∃ S n,H p=some (.set S n))
 |_=>False
theorem AR{pins:List (Addr×Obj)}{σ:St}{H:Hp}{s:Shared}{T:String}{x:V}{v:Value}(I:Inv X pins σ H s)(r:RelV x v)(ty:tyV X.K T x H):
  s.TypeIs v T /\ ∀ a,v=.ref a->∃ ob,s.heap.get? a=some ob /\ ob.dict=none:=by
 cases x with
 | str z=>
   obtain⟨t,rfl⟩:=r
   cases(show T = "str" from ty)
   exact⟨typeIs_str s z t,fun _ e=>nomatch e⟩
 | int i=>
   obtain⟨t,rfl⟩:=r
   cases(show T = "int" from ty)
   exact⟨typeIs_int s i t,fun _ e=>nomatch e⟩
 | ref p=>
   cases r
   rcases ty with⟨rfl,xs,hq⟩|⟨rfl,o,hk,hc,hd⟩|⟨rfl,hk⟩|⟨rfl,S,n,hk⟩
   . obtain⟨its,_,pl,_⟩:=I.list hq
     refine⟨pl.isList.typeIs,fun a e=>?_⟩
     cases e;obtain⟨o,n,e,c,hd,_⟩:=pl
     exact⟨o,e,hd⟩
   . refine⟨⟨o,I.kIn p o hk,hc⟩,fun a e=>?_⟩
     cases e
     exact⟨o,I.kIn _ o hk,hd⟩
   . have z:∃ o,s.heap.get? p = some o /\ o.ExactDict:=by
      rcases hk with⟨kvs,hk⟩|⟨kvs,hk⟩
      . obtain⟨_,_,_,_,o,_,_,e,ex,_⟩:=I.hok p _ hk
        exact⟨o,e,ex⟩
      . obtain⟨_,_,_,_,o,_,_,e,ex,_⟩:=I.hok p _ hk
        exact⟨o,e,ex⟩
     obtain⟨o,e,ex⟩:=z
     refine⟨⟨o,e,ex.1⟩,fun a e2=>?_⟩
     cases e2
     exact⟨o,e,ex.2.1⟩
   . obtain⟨o,_,_,_,e,ex,_⟩:=I.hok p _ hk
     refine⟨⟨o,e,ex.1⟩,fun a e2=>?_⟩
     cases e2
     exact⟨o,e,ex.2.1⟩
 |_=>exact False.elim ty
noncomputable def EY(K:PySem.W.Frag)(T:String)(r:V->List V->Hp->VK->Prop)(to:TE):TE:=fun σ H Q=>to σ H fun x H1=>tyV K T x H1 /\ r x [] H1 Q
noncomputable def tBM(K:PySem.W.Frag)(T:String)(r:V->List V->Hp->VK->Prop)(to:TE)(t:TA):TE:=fun σ H Q=>to σ H fun x H1=>tyV K T x H1 /\ t σ H1 fun xs H2=>r x xs H2 Q
variable{o e:Expr}{es:List Expr}{to:TE}{t:TA}{name:Str}{apos cpos:Pos}{T id:String}{r:V->List V->Hp->VK->Prop}
theorem EG(pa:PlainAttrs T)(slot:Slot T name id)(hty:typeOf (.builtin id)=pure (.type "method_descriptor"))(hm:MtR X id r)(ho:PE X o to)
  (hbase:attributeBase o name X.env (eval o X.env)=eval o X.env:=by rfl) (hline:(apos.endLine==cpos.line)=true:=by rfl):PE X (.Call (.Attribute o name apos) [] [] cpos) (EY X.K T r to):=by
 intro pins s σ H Q I h;refine wpAny_Call_method0_late hbase hline (thn (ho pins s σ H _ I h) fun v s1 ⟨x,H1,I1,r1,ty,q1⟩=>?_);obtain⟨h1,h2⟩:=AR I1 r1 ty
 exact⟨T,id,pa,slot,hty,h1,h2,Calls.callWith_builtin rfl (PySem.evalArgs_none (hm pins s1 σ H1 x [] v [] Q I1 r1 .nil q1))⟩
theorem FY(pa:PlainAttrs T)(slot:Slot T name id)(hty:typeOf (.builtin id)=pure (.type "method_descriptor"))(hm:MtR X id r)(ho:PE X o to)(ha:PA X (e ::es) t)
  (hbase:attributeBase o name X.env (eval o X.env)=eval o X.env:=by rfl)
  (hfew:((backTo cpos (starEach (e ::es) X.env)).all (fun x=>!x.1)&&(backToKw cpos (keywordEach [] X.env)).all (fun x=>x.1.isSome)
    && decide ((e ::es).length+([]:List Keyword).length+(if([]:List Keyword).isEmpty then 0 else 1)<30))=true:=by rfl)
  (hline:(apos.endLine==cpos.line)=true:=by rfl) (hs:starEach (e ::es) X.env=(false,eval e X.env) ::starEach es X.env:=by rfl) (hplain:(backTo cpos (starEach es X.env)).any (·.1)=false:=by rfl):
  PE X (.Call (.Attribute o name apos) (e ::es) [] cpos) (tBM X.K T r to t):=by
 intro pins s σ H Q I h;refine wpAny_Call_method_late hbase hfew hline rfl (thn (ho pins s σ H _ I h) fun v s1 ⟨x,H1,I1,r1,ty,q1⟩=>?_);obtain⟨h1,h2⟩:=AR I1 r1 ty
 refine⟨T,id,pa,slot,hty,h1,h2,?_⟩
 have hA:=ha cpos pins s1 σ H1 _ I1 q1
 rw[hs]at hA ⊢
 refine Calls.callWith_builtin (by show(false||(backTo cpos (starEach es X.env)).any (·.1))=false;rw[hplain]<;>rfl) (Calls.evalArgs_plain ?_)
 exact thn hA fun us s2 ⟨vs,H2,I2,r2,q2⟩=>hm pins s2 σ H2 x vs v us Q I2 r1 r2 q2
end
noncomputable def MtM(X:Cx)(id:String)(r:V->List V->Hp->VK->Prop):Prop:=
 ∀(pins:List (Addr×Obj)) (s:Shared) (σ:St) (H:Hp) (x:V) (xs:List V) (v:Value) (us:List Value) (Q:VK),Inv X pins σ H s->RelV x v->Vals xs us->r x xs H Q ->
   wpAny (model X.prog X.w) X.A (call (.builtin id) (v ::us)) (EP X pins σ Q) X.xe s
theorem Vals.one:∀{x:V} {us:List Value},Vals [x] us->∃ u,us=[u] /\ RelV x u
 |_,_,.cons r .nil=>⟨_,rfl,r⟩
theorem Vals.two:∀{x y:V} {us:List Value},Vals [x,y] us->∃ u v,us=[u,v] /\ RelV x u /\ RelV y v
 |_,_,_,.cons r (.cons q .nil)=>⟨_,_,rfl,r,q⟩
theorem Vals.zero:∀{us:List Value},Vals [] us->us=[]
 |_,.nil=>rfl
theorem Vals.dropLast{xs:List V}{us:List Value}(h:Vals xs us):Vals xs.dropLast us.dropLast:=by
 induction h with
 |nil=>exact .nil
 | cons r t ih=>
   cases t with
   |nil=>exact .nil
   |cons q t'=>exact .cons r ih
theorem Vals.eraseIdx:∀{xs:List V} {us:List Value} (i:Nat),Vals xs us->Vals (xs.eraseIdx i) (us.eraseIdx i)
 |_,_,_,.nil=>.nil
 |_,_,0,.cons _ t=>t
 |_,_,i+1,.cons r t=>.cons r (Vals.eraseIdx i t)
theorem xl{α:Type}(l:List α):l.eraseIdx (l.length - 1)=l.dropLast:=by
 induction l with
 |nil=>rfl
 | cons a r ih=>
   cases r with
   |nil=>rfl
   | cons b r=>
     have e:(a ::b ::r).length - 1=((b ::r).length - 1)+1:=by
      have h1:(a ::b ::r).length=r.length+2:=rfl
      have h2:(b ::r).length=r.length+1:=rfl
      omega
     rw[e,List.eraseIdx_cons_succ,ih]
     all_goals rfl
section
variable{X:Cx}{pins:List (Addr×Obj)}{σ:St}{H:Hp}{s:Shared}{l b:Addr}{xs ys zs:List V}
theorem Inv.E6{its its':List Value}{n:Nat}{f:Array Value->Array Value}{t':Nat}(I:Inv X pins σ H s)(hH:H l=some (.lst xs))
  (e:s.heap.get? l=some { cls:=.type "list",data:=.seq its.toArray n }) (hf:f its.toArray=its'.toArray) (hv:Vals ys its') (hz:ys.length<=sizeLine):
  Inv X pins σ (upd H l (.lst ys)) { s with heap:=s.heap.update l (Obj.mapSeq f),toks:=t' }:=by
 have q:=PySem.IsL.update e f;rw[hf]at q;refine I.write (x:=l) (e:=l) (by rw[hH];exact trivial) (.inl rfl) (fun b' u hb hu=>(Heap.get?_update_other s.heap (Obj.mapSeq f) (Ne.symm hb)).trans hu) ⟨_,q⟩ ?_
 exact⟨hz,its',_,hv,q⟩
theorem Inv.D0{its:List Value}{t':Nat}(I:Inv X pins σ H s)(hv:Vals ys its)(hz:ys.length<=sizeLine):
  Inv X pins σ (upd H s.heap.objs.size (.lst ys)) { s with heap:=s.heap.push { cls:=.type "list",data:=.seq its.toArray },toks:=t' }:=
 I.laid (fun _ _ q=>Heap.get?_push_of_some _ q) (Nat.le_refl _) ⟨hz,its,0,hv,Heap.get?_push_size _ rfl⟩
theorem Inv.fresh(I:Inv X pins σ H s):H s.heap.objs.size=none:=I.hok.fresh (Nat.le_refl _)
theorem Inv.Fe(I:Inv X pins σ H s)(hH:H l=some (.lst xs)):xs.length<=sizeLine /\ ∃(its:List Value) (n:Nat),Vals xs its /\ xs.length=its.length /\ s.heap.get? l=some { cls:=.type "list",data:=.seq its.toArray n }:=by
 obtain⟨z,its,n,r,e⟩:=I.hok l _ hH
 exact⟨z,its,n,r,r.length,e⟩
theorem zI{n:Nat}(h:n<=sizeLine):Builtin.List.listTooLong n=false:=by
 unfold Builtin.List.listTooLong;exact decide_eq_false (by omega)
end
section
variable{X:Cx}
noncomputable def uT:V->List V->Hp->VK->Prop:=fun x vs H Q=>∃ l xs y,x=.ref l /\ vs=[y] /\ H l=some (.lst xs) /\ xs.length<sizeLine /\ Q .non (upd H l (.lst (xs++[y])))
theorem lM:MtM X "list.append" uT:=by
 intro pins s σ H x vs v us Q I rx rv h;obtain⟨l,xs,y,rfl,rfl,hH,hz,q⟩:=h;cases rx;obtain⟨u,rfl,ru⟩:=rv.one;obtain⟨z,its,n,r,hl,e⟩:=I.Fe hH;refine call_meets F.slot_list_append ⟨_,e,rfl⟩ F.entry_list_append (F.args_list_append_2 _ _) (PySem.list_append l its.toArray n u (by rw[List.size_toArray];omega)) ⟨e,?_⟩
 refine⟨.non,_,I.E6 (its':=its++[u]) hH e (by simp) (r.append (.cons ru .nil)) ?_,rfl,q⟩
 rw[List.length_append,List.length_singleton];omega
noncomputable def Gh:V->List V->Hp->VK->Prop:=fun x vs H Q=>∃ l xs y,x=.ref l /\ vs=[] /\ H l=some (.lst xs) /\ xs[xs.length - 1]?=some y /\ Q y (upd H l (.lst xs.dropLast))
theorem xv:MtM X "list.pop" Gh:=by
 intro pins s σ H x vs v us Q I rx rv h;obtain⟨l,xs,y,rfl,rfl,hH,hy,q⟩:=h;cases rx;have hus:=rv.zero;subst hus;obtain⟨z,its,n,r,hl,e⟩:=I.Fe hH;obtain⟨u,hu,ru⟩:=r.get hy
 have hy':its.toArray[its.toArray.size - 1]?=some u:=by
  show its.toArray[its.length - 1]?=some u;rw[<- Array.getElem?_toList,<- hl];exact hu
 refine call_meets F.slot_list_pop ⟨_,e,rfl⟩ F.entry_list_pop (F.args_list_pop_1 _) (MeetsSeq.list_pop_last l its.toArray n u hy' (by rw[List.size_toArray];omega)) ⟨e,?_⟩
 refine⟨y,_,I.E6 (its':=its.dropLast) hH e ?_ r.dropLast ?_,ru,q⟩
 . show its.toArray.eraseIdxIfInBounds (its.toArray.size - 1)=its.dropLast.toArray;rw[List.size_toArray,List.eraseIdxIfInBounds_toArray,xl]
 . rw[List.length_dropLast];omega
end
section
variable{prog:Program}{w:World}{A:Around}{E:Value->Shared->Prop}{s:Shared}
set_option maxRecDepth 100000 in
end
end L2
namespace Att
open PySem PySem.W PySem.Calls PyProof.Rows
theorem qU{P:Params}{h:Heap}:∀(ns:List Int) (vs:List Value),WellAll P h vs (ns.map WData.int)->IntsAre vs ns:=by
 intro ns
 induction ns with
 | nil=>
   intro vs w;rw[List.map_nil]at w;cases w;exact .nil
 | cons n ns ih=>
   intro vs w;rw[List.map_cons]at w
   cases w with
   | cons a b=>
     cases a;exact .cons _ _ (ih _ b)
theorem zq{l:OpenLaw}{n:Nat}(hn:l.most=some n){P:Params}{h:Heap}{args:List WData}{vals:List Value}
  (hpre:l.row.toRowW.claim.pre args=true) (hwl:WellAll P h vals args):
  ∃ a vs ns,vals=[Value.ref a] /\ args=[WData.list (ns.map WData.int)] /\ h.get? a=some { cls:=.type "list",data:=.seq vs.toArray } /\ IntsAre vs ns /\ ns.length<=n:=by
 have hsh:WShape.hasAll [] args [.list .int]=true:=(pre_splitW hpre).1
 have hc:l.pre.holds [] { args:=args }=true:=(pre_splitW hpre).2
 obtain⟨d,r,rfl,h1,h2⟩:=hasAllW_cons hsh
 obtain rfl:=hasAllW_nil h2
 obtain⟨xs,rfl,h3⟩:=hasW_list h1;obtain⟨ns,rfl⟩:=items_int h3
 have hlen:ns.length<=n:=by
  unfold OpenLaw.pre at hc
  have h4:(WTm.not (.lt (.lit (.int (n:Int))) (.len (.arg 0)))).holds [] { args:=[.list (ns.map .int)] }=true:=by
   have h4:=(holds_andW hc).1;rw[hn]at h4;exact h4
  have h5:=condW_of h4 (w_not (w_lt w_lit (w_len_list (w_arg rfl))));rw[List.length_map]at h5
  refine Nat.le_of_not_lt fun q=>?_
  have q':(n:Int)<((ns.length:Nat):Int):=by omega
  first
   |(rw[decide_eq_true q']at h5;exact absurd h5 (by decide))
   |(simp at h5;omega)
 cases hwl with
 | cons w1 w2=>
   cases w2
   cases w1 with
   |list ho hall=>exact⟨_,_,ns,rfl,rfl,ho,qU ns _ hall,hlen⟩
theorem yX(l:OpenLaw)(args:List WData):l.row.toRowW.claim.post args (.bool true) args=true:=
 postW_of (r:=l.row.toRowW) (X:=(true==true))
  (show WShape.has [] (.bool true) .bool=true by first|rfl|decide|simp[WShape.has,WShape.arms,WShape.armsAll])
  (show(WTm.eq .res (.lit (.bool true))).value [] { args:=args,res:=some (.bool true),after:=args }=some (.bool (true==true)) from w_eq_bool (w_res rfl) w_lit) rfl
theorem ve{l:OpenLaw}{n:Nat}{q:Program}{loose:List Str}{XP:(Str->Option Value)->Heap->Prop}{YP:World->Heap->Prop}{d:DefRec}
  (hn:l.most=some n) (hdf:d.params.defaults=[])
  (call:∀(w:World) (s₀ s₁:Shared) (mg mb:Str->Option Value) (fa:Addr) (o:Obj) (pm cd doc:Value) (a:Addr) (vs:List Value) (ns:List Int),
    Ground q loose [] XP w s₀ mg mb s₁.heap->YP w s₁.heap ->
    s₁.heap.get? fa=some o->o.data=.func (docDef d.name d.params d.body d.scope pm cd doc)->s₁.heap.CodeRec cd d.name->mg d.name=some (.ref fa) ->
    s₁.heap.get? a=some { cls:=.type "list",data:=.seq vs.toArray }->IntsAre vs ns->ns.length<=n->s₁.gens=#[] ->
    codeAny (model l.prog w) callerA (.call (.ref fa) ⟨[.ref a],[]⟩) (fun r s'=>r=.ok (.ret (.bool true)) /\ OldK s₁.heap s'.heap /\ s'.os=s₁.os /\ AllBare s'.gens) s₁):
  WalkO q loose XP YP l.row.toRowW d [] (fun f vs=>PySem.call f vs):=by
 intro w s₀ s₁ mg mb G Y fa o pm cd doc dV kV ho hd hcd hD hmg hg args vals as hpre hlay hrd hwl hlo
 obtain rfl:dV=.none:=Dflts.none hD hdf
 obtain rfl:kV=.none:=Dflts.noKw hD
 obtain⟨a,vs,ns,rfl,rfl,hobj,hints,hlen⟩:=zq hn hpre hwl;refine enter_call (codeAny_mono (call w s₀ s₁ mg mb fa o pm cd doc a vs ns G Y ho (fd_plain hd) hcd hmg hobj hints hlen hg) fun r s' hq=>?_);obtain⟨rfl,h2,h3,h4⟩:=hq
 exact⟨.inl ⟨.bool true,.bool true,[],rfl,fun _=>rfl,.bool true,yX l _,fun _=>⟨List.Pairwise.nil,fun _ hm=>(nomatch hm)⟩⟩,h2,h3,h4⟩
end Att
namespace L2
open PySem PySem.Spec PyProof.Rows
theorem tw:∀{vs:List Value} {ns:List Int},IntsAre vs ns->Vals (ns.map V.int) vs
 |_,_,.nil=>.nil
 |_,_,.cons n t h=>.cons ⟨t,rfl⟩ (tw h)
noncomputable def Et(H:Hp):Prop:=∀ b,H b=none \/ ∃ o xs,H b=some (.frz o (.lst xs))
theorem Ar{P:Program}{w:World}{K:PySem.W.Frag}{mg mb:Str->Option Value}{CX:CXT}{k:Nat}{fa a:Addr}{fd:FuncData}{x:Str}{sp:Sp}{s₁:Shared}{vs:List Value}{ns:List Int}
  (KX:K.In s₁.heap) (hns:s₁.heap.Ns mainGlobals mg) (hb:s₁.heap.Ns builtinsNs mb) (hbb:∀ x:Str,x ≠ "__name__" -> mb x=bootBuiltins x) (hlim:s₁.heap.NoLimit) (hg:s₁.gens=#[])
  (ha:s₁.heap.get? a=some { cls:=.type "list",data:=.seq vs.toArray }) (hi:IntsAre vs ns) (hl:ns.length<=sizeLine) (hr:gT k callerA)
  (F:∀ base:Heap,K.In base->base.Ns mainGlobals mg->cA P w K mg base CX k fa fd [x] sp) (hbind:∀(s:Shared) (u:Value),BindsTo s fd ⟨[u],[]⟩ [(x,u)])
  (hsp:∀ H:Hp,Et H->SqL K H a (ns.map V.int)->sp [.ref a] H (fun v _=>v=.bl true) fun _ _ _=>False)
  (hCX:∀ H e s',CX [] H s₁ (fun _ _ _=>False) e s'->False):
  codeAny (model P w) callerA (.call (.ref fa) ⟨[.ref a],[]⟩) (fun r s'=>r=.ok (.ret (.bool true)) /\ OldK s₁.heap s'.heap /\ s'.os=s₁.os /\ AllBare s'.gens) s₁:=by
 have rv:=tw hi;have lenV:=hi.length
 have core:∀ H:Hp,Et H->SqL K H a (ns.map V.int)->HOk P w H s₁.heap->(∀ b,H b≠none->b=a)->(H a≠none->K.lookup a=none) ->
   codeAny (model P w) callerA (.call (.ref fa) ⟨[.ref a],[]⟩) (fun r s'=>r=.ok (.ret (.bool true)) /\ OldK s₁.heap s'.heap /\ s'.os=s₁.os /\ AllBare s'.gens) s₁:=by
  intro H hO hS hok hA hK
  have base_of:∀{b:Addr} {o:Obj},s₁.heap.get? b=some o->H b=none->(uN s₁.heap H).get? b=some o:=fun e n=>AJ e n
  have noA:∀{b:Addr} {o:Obj} {es:Array DictEntry} {ep:Nat},s₁.heap.get? b=some o->o.data=.dict es ep->H b=none:=fun {b o es ep} e d=>by
   cases q:H b with
   |none=>rfl
   | some u=>
     have e':b=a:=hA b (by rw[q];simp)
     subst e';rw[ha]at e;cases e
     have d':Data.seq vs.toArray _=Data.dict es ep:=d
     cases d'
  have nsK:∀{b:Addr} {m:Str->Option Value},s₁.heap.Ns b m->(uN s₁.heap H).Ns b m:=fun {b m} ⟨o,es,ep,e,d,r⟩=>⟨o,es,ep,base_of e (noA e d),d,r⟩
  have hKb:K.In (uN s₁.heap H):=fun b o e=>base_of (KX b o e) (by
   cases q:H b with
   |none=>rfl
   | some u=>
     have e':b=a:=hA b (by rw[q];simp)
     subst e'
     rw[hK (by rw[q];simp)]at e;cases e)
  have hM:Mod K mg (uN s₁.heap H):=⟨hKb,nsK hns,⟨mb,nsK hb,hbb⟩,let ⟨mc,h1,h2⟩:=hlim;⟨mc,nsK h1,h2⟩⟩
  have e0:xH P w K mg (uN s₁.heap H) callerA [] s₁ H:=⟨rfl,hM,fun b o e=>BP e,Nat.le_of_eq (y0 _ _),trivial,fun b hb=>absurd (show b∈([]:List Addr) from hb) (by simp),hok,.of_eq hg⟩
  refine codeAny_mono ((F _ hKb (nsK hns)).run callerA [] s₁ H ⟨[.ref a],[]⟩ [.ref a] [.ref a] _ _ hr e0 (hbind s₁ (.ref a)) (.cons rfl .nil) (hsp H hO hS)) fun r s' h=>?_
  cases r with
  |error e=>exact(hCX H e s' h).elim
  | ok fl=>
    cases fl with
    |next=>exact False.elim h
    |brk=>exact False.elim h
    |cont=>exact False.elim h
    | ret u=>
      obtain⟨v,H',os,bare,un,hok',r',q⟩:=h
      have q':v=.bl true:=q
      subst q'
      obtain rfl:u=Value.bool true:=r'
      refine⟨rfl,OldK.of_keep fun b o e=>?_,os,bare⟩
      cases q:H b with
      |none=>exact un.keep b o e q (by intro z;exact absurd (show b∈([]:List Addr) from z) (by simp)) (by simp)
      | some u=>
        rcases hO b with z|⟨ob,xs,z⟩
        . rw[q]at z;cases z
        . have z2:=un.frzs b ob _ z;obtain⟨e1,_⟩:=hok b _ z;obtain⟨e2,_⟩:=hok' b _ z2;rw[e]at e1;cases e1;exact e2
 cases hk:K.lookup a with
 | some o=>
   have e:=KX a o hk;rw[ha]at e;cases e
   refine core (fun _=>none) (fun _=>.inl rfl) (.inr ⟨_,vs.toArray,_,hk,rfl,rfl,rfl,by rw[List.size_toArray,lenV];exact hl,by simpa using rv⟩) (fun b u z=>by have z':(none:Option HO)=some u:=z;cases z') (fun b z=>absurd rfl z) fun z=>absurd rfl z
 | none=>
   refine core (fun b=>if b=a then some (.frz { cls:=.type "list",data:=.seq vs.toArray } (.lst (ns.map V.int)))else none) (fun b=>?_) (.inl (.inr ⟨{ cls:=.type "list",data:=.seq vs.toArray },if_pos rfl⟩)) (fun b u z=>?_) (fun b z=>?_) fun _=>hk
   . by_cases hb:b=a
     . exact .inr ⟨_,_,if_pos hb⟩
     . exact .inl (if_neg hb)
   . by_cases hb:b=a
     . have z':=(if_pos hb).symm.trans z
       cases z'
       subst hb
       exact⟨ha,by rw[List.length_map];exact hl,vs,_,rv,ha⟩
     . have z':=(if_neg hb).symm.trans z
       cases z'
   . by_cases hb:b=a
     . exact hb
     . exact absurd (if_neg hb) z
abbrev KOf{K:PySem.W.Frag}{h:Heap}(_:K.In h):PySem.W.Frag:=K
theorem Cy{l:PySem.W.OpenLaw}{n k:Nat}{q:Program}{loose:List Str}{XP:(Str->Option Value)->Heap->Prop}{YP:World->Heap->Prop}{d:DefRec}{K:Params->PySem.W.Frag}{CX:World->CXT}{sp:World->Sp}{x:Str}
  (hn:l.most=some n) (hn2:n<=sizeLine) (hdf:d.params.defaults=[]) (hr:gT k callerA)
  (hY:∀(w:World) (h:Heap),YP w h->(K w.params).In h)
  (F:∀(w:World) (mg:Str->Option Value) (fa:Addr) (h:Heap),(K w.params).In h->h.Ns mainGlobals mg->mg d.name=some (.ref fa) ->
    ∃ fd:FuncData,(∀(s:Shared) (u:Value),BindsTo s fd ⟨[u],[]⟩ [(x,u)]) /\
      ∀ base:Heap,(K w.params).In base->base.Ns mainGlobals mg->cA l.prog w (K w.params) mg base (CX w) k fa fd [x] (sp w))
  (hsp:∀(w:World) (H:Hp) (a:Addr) (ns:List Int),ns.length<=n->Et H->SqL (K w.params) H a (ns.map V.int)->sp w [.ref a] H (fun v _=>v=.bl true) fun _ _ _=>False)
  (hCX:∀(w:World) (H:Hp) (s:Shared) (e:Value) (s':Shared),CX w [] H s (fun _ _ _=>False) e s'->False):
  PySem.W.WalkO q loose XP YP l.row.toRowW d [] (fun f vs=>PySem.call f vs):=by
 refine Att.ve hn hdf fun w s₀ s₁ mg mb fa o pm cd doc a vs ns G Y ho hd hcd hmg hobj hints hlen hg=>?_
 have KX:=hY w _ Y;obtain⟨fd,hb,hF⟩:=F w mg fa _ KX G.T.g hmg
 exact Ar KX G.T.g G.T.b G.T.builtins G.T.nolimit hg hobj hints (Nat.le_trans hlen hn2) hr hF hb (fun H hO hS=>hsp w H a ns hlen hO hS) fun H e s'=>hCX w H s₁ e s'
def inClass(s:Stmt)(j:Nat):Stmt:=match s with
 |.ClassDef _ _ _ body _ _ _ _ _ _ _=>body.getD j (.Pass ⟨0,0,0,0⟩)
 |_=>.Pass ⟨0,0,0,0⟩
noncomputable def eJ(s:Stmt):Arguments:=match s with
 |.FunctionDef _ a _ _ _ _ _ _ _ _=>a
 |_=>{ posonlyargs:=[],args:=[],vararg:=none,kwonlyargs:=[],kw_defaults:=[],kwarg:=none,defaults:=[] }
noncomputable def dF(s:Stmt):List Stmt:=match s with
 |.FunctionDef _ _ b _ _ _ _ _ _ _=>b
 |_=>[]
noncomputable def aK(s:Stmt):Scope:=match s with
 |.FunctionDef _ _ _ _ _ _ sc _ _ _=>sc
 |_=>{ kind:=.function,names:=[],isGenerator:=false,isCoroutine:=false }
structure Fun(K:PySem.W.Frag)(x qual:Str)(st:Stmt)(f:Addr)(fd:FuncData):Prop where
 ex:∃(oc:Value) (od:Option Addr) (kV doc pm:Value) (an:Option Addr) (cdv ct:Value) (osl:Array (Option Value)),
  fd=PySem.W.fnOf x qual (eJ st) (dF st) (aK st) .none kV doc pm an cdv ct /\ K.lookup f=some ⟨oc,od,.func fd,osl⟩ /\ PySem.W.codeIn K cdv qual=true
 kp:PySem.W.keepIn K (.ref f)=true
section
variable{P:Program}{w:World}{K:PySem.W.Frag}{mg:Str->Option Value}{base:Heap}
theorem Fun.binds{x qual:Str}{st:Stmt}{f:Addr}{fd:FuncData}{ps:List Str}(F:Fun K x qual st f fd)
  (h:∀(kV doc pm:Value) (an:Option Addr) (cdv ct:Value) (us:List Value),us.length=ps.length->bindArgs (PySem.W.fnOf x qual (eJ st) (dF st) (aK st) .none kV doc pm an cdv ct) ⟨us,[]⟩=pure (ps.zip us)):Binds K fd ps []:=by
 obtain⟨oc,od,kV,doc,pm,an,cdv,ct,osl,rfl,lk,hcd⟩:=F.ex;exact .all (h kV doc pm an cdv ct)
theorem j4{x qual:Str}{st:Stmt}{f:Addr}{oc:Value}{od an:Option Addr}{osl:Array (Option Value)}{kV doc pm cdv ct:Value}(l:K.lookup f=some ⟨oc,od,.func (PySem.W.fnOf x qual (eJ st) (dF st) (aK st) .none kV doc pm an cdv ct),osl⟩)
  (c:PySem.W.codeIn K cdv qual=true) (k:PySem.W.keepIn K (.ref f)=true):Fun K x qual st f (PySem.W.fnOf x qual (eJ st) (dF st) (aK st) .none kV doc pm an cdv ct):=⟨⟨oc,od,kV,doc,pm,an,cdv,ct,osl,rfl,l,c⟩,k⟩
end
theorem AN{A:Around}{k:Nat}(hr:gT k A):A.units+1<cLine:=Nat.lt_of_le_of_lt (Nat.add_le_add_left (by decide:1<=64) _) hr.units
section
variable{X:Cx}
theorem pv(i:Nat){x:Str}{pos:Pos}(hN:X.N[i]?=some x:=by rfl)(hv:Vis X.env.scope x:=by first|exact Or.inl rfl|exact Or.inr (Or.inl rfl)|exact Or.inr (Or.inr rfl))(hd:(x==("__debug__":Str))=false:=by decide)
  (hcd:(x==("__classdict__":Str))=false:=by decide):PE X (.Name x pos) (qP i):=ED hN hv hd hcd
end
theorem wy{A B:Prop}(h:B):if false=true then A else B:=by
 rw[if_neg Bool.false_ne_true];exact h
theorem vY{A B:Prop}(h:A):if true=true then A else B:=by
 rw[if_pos rfl];exact h
noncomputable def aM(H H':Hp):Prop:=∀ b o,H b=some o->H' b=some o
theorem aM.refl(H:Hp):aM H H:=fun _ _ h=>h
theorem aM.trans{H H1 H2:Hp}(a:aM H H1)(b:aM H1 H2):aM H H2:=fun c o h=>b c o (a c o h)
theorem aM.free{H H':Hp}(e:aM H H'){l:Addr}(h:H' l=Option.none):H l=Option.none:=by
 cases q:H l with
 |none=>rfl
 | some o=>
   rw[e l o q]at h;cases h
theorem aM.seq{K:PySem.W.Frag}{H H':Hp}{a:Addr}{xs:List V}(e:aM H H')(h:SqL K H a xs):SqL K H' a xs:=by
 rcases h with(h|⟨o,h⟩)|h
 . exact .inl (.inl (e _ _ h))
 . exact .inl (.inr ⟨o,e _ _ h⟩)
 . exact .inr h
section
variable{κ:Type}[DecidableEq κ]
noncomputable def kr(kvs:List (κ×V))(k:κ):Option V:=(kvs.find? fun kv=>decide (kv.1=k)).map (·.2)
noncomputable def putK(kvs:List (κ×V))(k:κ)(v:V):List (κ×V):=
 if(kvs.any fun kv=>decide (kv.1=k))=true then kvs.map (fun kv=>if kv.1=k then(kv.1,v)else kv)else kvs++[(k,v)]
theorem sE{p:κ×V}{r:List (κ×V)}{k:κ}(e:p.1=k):kr (p ::r) k=some p.2:=by simp[kr,List.find?_cons,e]
theorem pw{p:κ×V}{r:List (κ×V)}{k:κ}(e:¬ p.1=k):kr (p ::r) k=kr r k:=by simp[kr,List.find?_cons,e]
theorem vL(k:κ):∀ kvs:List (κ×V),(kvs.any fun kv=>decide (kv.1=k))=(kr kvs k).isSome
 |[]=>rfl
 | p ::r=>by
   rw[List.any_cons]
   by_cases e:p.1=k
   . simp only[sE e,decide_eq_true e,Bool.true_or,Option.isSome_some]
   . rw[pw e,decide_eq_false e,Bool.false_or];exact vL k r
theorem wF(kvs:List (κ×V))(k:κ)(v:V):(putK kvs k v).length<=kvs.length+1:=by
 unfold putK;split
 . rw[List.length_map];omega
 . rw[List.length_append,List.length_cons,List.length_nil];omega
theorem Bq{kvs:List (κ×V)}{k:κ}(v:V)(h:kr kvs k=none):putK kvs k v=kvs++[(k,v)]:=by
 unfold putK;rw[vL,h];exact if_neg (by decide)
theorem bO.getD{o:Option V}{u:Option Value}{d:V}{d':Value}(r:bO o u)(rd:RelV d d'):RelV (o.getD d) (u.getD d'):=by
 cases o with
 | none=>cases u with
   |none=>exact rd
   |some _=>exact(show False from r).elim
 | some _=>cases u with
   |none=>exact(show False from r).elim
   |some _=>exact r
theorem KV.val{kvs:List (κ×V)}{vs:List (κ×Value)}(r:KV kvs vs)(k:κ):bO (kr kvs k) (valueAt vs k):=by
 unfold KV at r
 induction r with
 |nil=>exact True.intro
 | @cons p q ps qs h t ih=>
   obtain⟨h1,h2⟩:=h
   by_cases e:p.1=k
   . have e':q.1=k:=h1.symm.trans e
     have b:valueAt (q ::qs) k=some q.2:=by simp[valueAt,List.find?_cons,e']
     rw[sE e,b];exact h2
   . have e':¬ q.1=k:=fun z=>e (h1.trans z)
     have b:valueAt (q ::qs) k=valueAt qs k:=by simp[valueAt,List.find?_cons,e']
     rw[pw e,b];exact ih
theorem KV.any{kvs:List (κ×V)}{vs:List (κ×Value)}(r:KV kvs vs)(k:κ):(kvs.any fun kv=>decide (kv.1=k))=vs.any fun kv=>decide (kv.1=k):=by
 unfold KV at r
 induction r with
 |nil=>rfl
 |cons h t ih=>rw[List.any_cons,List.any_cons,ih,h.1]
theorem KV.HL{kvs:List (κ×V)}{vs:List (κ×Value)}(r:KV kvs vs)(k:κ){y:V}{u:Value}(ry:RelV y u):
  KV (kvs.map fun kv=>if kv.1=k then(kv.1,y)else kv) (vs.map fun kv=>if kv.1=k then(kv.1,u)else kv):=by
 unfold KV at r ⊢
 induction r with
 |nil=>exact .nil
 | @cons p q ps qs h t ih=>
   rw[List.map_cons,List.map_cons];refine .cons ?_ ih;obtain⟨h1,h2⟩:=h
   by_cases e:p.1=k
   . rw[if_pos e,if_pos (h1.symm.trans e)];exact⟨h1,ry⟩
   . rw[if_neg e,if_neg (fun z=>e (h1.trans z))];exact⟨h1,h2⟩
theorem KV.put{kvs:List (κ×V)}{vs:List (κ×Value)}(r:KV kvs vs)(k:κ){y:V}{u:Value}(ry:RelV y u):KV (putK kvs k y) (stored vs k u):=by
 unfold putK stored;rw[r.any k]
 by_cases e:(vs.any fun kv=>decide (kv.1=k))=true
 . rw[if_pos e,if_pos e];exact r.HL k ry
 . rw[if_neg e,if_neg e];exact Paired.snoc r ⟨rfl,ry⟩
end
theorem ye{P:Program}{w:World}{k:Key}{u:Value}(r:RelV (kV k) u):(eV P w).is k u=true:=by
 cases k with
 |inl i=>obtain⟨t,e⟩:=(show ∃ t,u=Value.int i t from r);subst e;exact wI P w i t
 |inr x=>obtain⟨t,e⟩:=(show ∃ t,u=Value.str x t from r);subst e;exact v7 P w x t
theorem ub{P:Program}{w:World}:∀{ks:List Key} {us:List Value},Vals (ks.map kV) us->ItemsAre (eV P w) ks us
 |[],_,r=>by rw[List.map_nil]at r;cases r;exact .nil
 | k ::ks,_,r=>by
   rw[List.map_cons]at r
   cases r with
   |cons h t=>exact .cons (ye h) (ub t)
abbrev KT(H:Hp):List (List Key×V)->List (List Key×Addr×Value)->Prop:=Paired fun p q=>p.1=q.1 /\ H q.2.1=some (.tup (p.1.map kV)) /\ RelV p.2 q.2.2
theorem KT.val{H:Hp}{kvs:List (List Key×V)}{xs:List (List Key×Addr×Value)}(r:KT H kvs xs)(k:List Key):bO (kr kvs k) ((atKey xs k).map (·.2)):=by
 induction r with
 |nil=>exact True.intro
 | @cons p q ps qs h t ih=>
   obtain⟨h1,_,h2⟩:=h
   by_cases e:p.1=k
   . have e':q.1=k:=h1.symm.trans e
     have b:atKey (q ::qs) k=some q.2:=by simp[atKey,List.find?_cons,e']
     rw[sE e,b];exact h2
   . have e':¬ q.1=k:=fun z=>e (h1.trans z)
     have b:atKey (q ::qs) k=atKey qs k:=by simp[atKey,List.find?_cons,e']
     rw[pw e,b];exact ih
theorem KT.keeps{H H':Hp}{kvs:List (List Key×V)}{xs:List (List Key×Addr×Value)}(r:KT H kvs xs)(ht:∀ b ys,H b=some (.tup ys)->H' b=some (.tup ys)):KT H' kvs xs:=
 Paired.Ec r fun _ _ z=>⟨z.1,ht _ _ z.2.1,z.2.2⟩
section
variable{P:Program}{w:World}{H:Hp}{h:Heap}{a:Addr}
theorem De{u:HO}(ok:HOk P w H h)(e:Rd H a u):gn P w H h a u:=e.ok ok
theorem vo{kvs:List (Key×V)}(ok:HOk P w H h)(e:Rd H a (.dK kvs)):kvs.length<=sizeLine /\ (a==sysModules)=false /\ ∃ vs,KV kvs vs /\ h.DictOf (eV P w) a vs:=
 show gn P w H h a (.dK kvs) from De ok e
theorem F4{kvs:List (Key×V)}(ok:HOk P w H h)(e:H a=some (.dK kvs)):kvs.length<=sizeLine /\ (a==sysModules)=false /\ ∃ vs,KV kvs vs /\ h.DictOf (eV P w) a vs:=vo ok (.inl e)
theorem wV{ks:List Key}(ok:HOk P w H h)(e:H a=some (.tup (ks.map kV))):(tupleKind (eV P w)).is h ks a:=by
 obtain⟨_,its,r,o,h1,h2,n,h3⟩:=(show gn P w H h a (.tup (ks.map kV)) from ok a _ e)
 exact⟨o,its.toArray,n,h1,h2,h3,by simpa using ub r⟩
theorem x6{kvs:List (List Key×V)}(ok:HOk P w H h)(e:Rd H a (.dT kvs)):kvs.length<=sizeLine /\ (a==sysModules)=false /\
  ∃ xs,KT H kvs xs /\ h.DictOfH (tupleKind (eV P w)) a xs:=by
 obtain⟨z,y,xs,r,o,es,ep,h1,h2,h3,h4,h5⟩:=(show gn P w H h a (.dT kvs) from De ok e)
 refine⟨z,y,xs,r,o,es,ep,h1,h2,h3,h4,fun x hx=>?_,h5⟩
 have all:∀{l:List (List Key×V)} {m:List (List Key×Addr×Value)},KT H l m->∀ x∈m,(tupleKind (eV P w)).is h x.1 x.2.1:=by
  intro l m q
  induction q with
  |nil=>intro x hx;exact nomatch hx
  | @cons p q ps qs hq t ih=>
    intro x hx
    rcases List.mem_cons.mp hx with e|hx
    . subst e;exact wV ok (by rw[<- hq.1];exact hq.2.1)
    . exact ih x hx
 exact all r x hx
end
noncomputable def u0(H:Hp)(a:Addr)(y:V)(r:Option V):Prop:=
 (∃ kvs k,Rd H a (.dK kvs) /\ y=kV k /\ r=kr kvs k) \/ ∃ kvs k b,Rd H a (.dT kvs) /\ y=.ref b /\ H b=some (.tup (k.map kV)) /\ r=kr kvs k
theorem u0.k{H:Hp}{a:Addr}{kvs:List (Key×V)}{k:Key}(e:H a=some (.dK kvs)):u0 H a (kV k) (kr kvs k):=.inl ⟨kvs,k,.inl e,rfl,rfl⟩
section
variable{X:Cx}{pins:List (Addr×Obj)}{σ:St}{H:Hp}{s:Shared}{a:Addr}{y v:V}{u r:Value}{o:Option V}{A:Around}{E:Value->Shared->Prop}
theorem Inv.big(I:Inv X pins σ H s):sysModules<s.heap.objs.size:=by
 have h:mainGlobals<s.heap.objs.size:=(I.mod.glob.keeps I.bk).lt
 exact Nat.lt_trans (by decide) h
theorem yQ{Q:Value->Shared->Prop}(hu:A.units+1<cLine)(I:Inv X pins σ H s)(g:u0 H a y (some v))(ry:RelV y u)(h:∀ w' s',Inv X pins σ H s'->RelV v w'->Q w' s'):
  wpAny (model X.prog X.w) A (getItem (.ref a) u) Q E s:=by
 rcases g with⟨kvs,k,e,ey,l⟩|⟨kvs,k,b,e,ey,eb,l⟩
 . subst ey;obtain⟨z,hd,vs,rel,dd⟩:=vo I.hok e;obtain⟨w',hw,rw'⟩:=bO.some_of (v:=v) (o:=valueAt vs k) (by rw[l];exact rel.val k);exact wpAny_getItem_of (ye ry) dd.mapOf hw (h w' _ (I.tok _) rw')
 . subst ey
   cases(show u=Value.ref b from ry)
   obtain⟨z,hd,xs,rel,dd⟩:=x6 I.hok e;obtain⟨w',hw,rw'⟩:=bO.some_of (v:=v) (o:=(atKey xs k).map (·.2)) (by rw[l];exact rel.val k);obtain⟨p,hp,hp2⟩:=Option.map_eq_some_iff.mp hw;refine wpAny_getItem_heap (tupleKind_room_in1 hu) (wV I.hok eb) dd hp ?_;rw[hp2];exact h w' _ (I.tok _) rw'
theorem B7{h':Heap}{t':Nat}{ob:HO}(I:Inv X pins σ H s)(mu:Mut (H a))(hs:Heap.SameBut a s.heap h')(he:∃ q,h'.get? a=some q)(new:gn X.prog X.w (upd H a ob) h' a ob):
  Inv X pins σ (upd H a ob) { s with heap:=h',toks:=t' }:=
 I.write (x:=a) (e:=a) mu (.inl rfl) (fun b q hb z=>(hs.2 b hb).trans z) he new
theorem ES{P:Program}{w:World}{H':Hp}{h':Heap}{kvs:List (Key×V)}{vs:List (Key×Value)}(z:kvs.length<=sizeLine)(hd:(a==sysModules)=false)(rel:KV kvs vs)(dd:h'.DictOf (eV P w) a vs):
  gn P w H' h' a (.dK kvs):=⟨z,hd,vs,rel,dd⟩
end
noncomputable def D2(i:Expr):Prop:=∀ ov iv,subscripted i false ov iv=operate [ov,iv] (getItem ov iv)
theorem Ci{prog:Program}{w:World}{A:Around}{E:Value->Shared->Prop}{s:Shared}{env:Env}{value slice:Expr}{pos:Pos}{T id:String}{Q:Value->Shared->Prop}
  (hl:typeLookup (.type T) "__getitem__" = pure (some (.builtin id))) (hs:D2 slice)
  (h:wpAny (model prog w) A (eval value env) (fun o s₁=>wpAny (model prog w) A (eval slice env) (fun i s₂=>s₂.TypeIs o T /\ wpAny (model prog w) A (getItem o i) Q E s₂) E s₁) E s):
  wpAny (model prog w) A (eval (.Subscript value slice pos) env) Q E s:=by
 refine Subscript_ (wpAny_mono h (fun o s₁ h₁=>wpAny_mono h₁ (fun i s₂ h₂=>?_) fun _ _ x=>x) fun _ _ x=>x);obtain⟨hT,h₂⟩:=h₂;unfold subscriptTail;refine wpAny_bind ?_;rw[getitemInPython_of_ne hT.not_modules];refine wpAny_bind (wpAny_specialOf hT hl ?_)
 have fin:wpAny (model prog w) A (subscripted slice false o i) (fun r s₃=>wpAny (model prog w) A (letTemporaryGo value o r >>= fun _=>pure r) Q E s₃) E s₂:=by
  rw[hs o i];exact wpAny_operating (wpAny_mono h₂ (fun r s₃ h₃=>wpAny_bind (wpAny_letTemporaryGo (wpAny_pure h₃))) fun _ _ x=>x)
 first
  |exact wpAny_pure (wpAny_bind fin)
  |exact wpAny_bind (wpAny_pure (wpAny_bind fin))
  |exact wpAny_bind fin
theorem wm{X:Cx}{pins:List (Addr×Obj)}{σ:St}{H:Hp}{s:Shared}{a:Addr}{y:V}{o:Option V}(I:Inv X pins σ H s)(g:u0 H a y o):s.TypeIs (.ref a) "dict":=by
 rcases g with⟨kvs,k,e,_,_⟩|⟨kvs,k,b,e,_,_,_⟩
 . obtain⟨_,_,vs,_,dd⟩:=vo I.hok e;exact dd.typeIs
 . obtain⟨_,_,xs,_,dd⟩:=x6 I.hok e;exact dd.typeIs
noncomputable def wt(td ty:TE):TE:=fun σ H Q=>td σ H fun x H1=>ty σ H1 fun y H2=>∃ a v,x=.ref a /\ u0 H2 a y (some v) /\ Q v H2
section
variable{X:Cx}{o i e value:Expr}{pos pos' tpos:Pos}{td ty tv:TE}
theorem Cq(hu:X.A.units+1<cLine)(ho:PE X o td)(hi:PE X i ty)(hs:D2 i):PE X (.Subscript o i pos) (wt td ty):=by
 intro pins s σ H Q I h;refine Ci PySem.F.slot_dict_getitem.lookup hs (thn (ho pins s σ H _ I h) fun u s1 ⟨x,H1,I1,rx,q1⟩=>thn (hi pins s1 σ H1 _ I1 q1) fun iv s2 ⟨y,H2,I2,ry,a,v,ex,g,q2⟩=>?_);subst ex
 obtain rfl:u=Value.ref a:=rx
 exact⟨wm I2 g,yQ hu I2 g ry fun w' s3 I3 rw'=>⟨v,H2,I3,rw',q2⟩⟩
end
theorem Bf{P:Program}{w:World}{H:Hp}(h:Heap)(hb:sysModules<h.objs.size):gn P w H (h.push { cls:=.type "dict",data:=.dict #[] }) h.objs.size (.dK []):=
 ⟨Nat.zero_le _,beq_eq_false_iff_ne.mpr (Ne.symm (Nat.ne_of_lt hb)),[],.nil,Heap.DictOf.new h⟩
noncomputable def pY:List (TE×TE)->St->Hp->(List (V×V)->Hp->Prop)->Prop
 |[],_,H,Q=>Q [] H
 |(tk,tv) ::r,σ,H,Q=>tk σ H fun x H1=>tv σ H1 fun y H2=>pY r σ H2 fun ps H3=>Q ((x,y) ::ps) H3
abbrev VV:List (V×V)->List (Value×Value)->Prop:=Paired fun p q=>RelV p.1 q.1 /\ RelV p.2 q.2
noncomputable def PPs(X:Cx)(pos:Pos)(keys:List (Option Expr))(values:List Expr)(trs:List (TE×TE)):Prop:=
 ∀(pins:List (Addr×Obj)) (s:Shared) (σ:St) (H:Hp) (Q:List (V×V)->Hp->Prop),Inv X pins σ H s->pY trs σ H Q ->
   wpAny (model X.prog X.w) X.A (evalPairs (pairTrees keys values X.env pos)) (fun vs s'=>∃ ps H',Inv X pins σ H' s' /\ VV ps vs /\ Q ps H') X.xe s
theorem CB{X:Cx}{pos:Pos}:PPs X pos [] [] []:=fun pins s σ H Q I h=>pairTrees_nil_walk ⟨[],H,I,.nil,h⟩
theorem A0{X:Cx}{pos:Pos}{k v:Expr}{ks:List (Option Expr)}{vs:List Expr}{tk tv:TE}{trs:List (TE×TE)}(hk:PE X k tk)(hv:PE X v tv)(hr:PPs X pos ks vs trs):
  PPs X pos (some k ::ks) (v ::vs) ((tk,tv) ::trs):=fun pins s σ H Q I h=>
 pairTrees_cons_walk (thn (hk pins s σ H _ I h) fun u s1 ⟨x,H1,I1,rx,q1⟩=>thn (hv pins s1 σ H1 _ I1 q1) fun w2 s2 ⟨y,H2,I2,ry,q2⟩=>
  thn (hr pins s2 σ H2 _ I2 q2) fun ws s3 ⟨ps,H3,I3,rel,q3⟩=>⟨(x,y) ::ps,H3,I3,.cons ⟨rx,ry⟩ rel,q3⟩)
noncomputable def m6(kvs more:List (Key×V)):List (Key×V):=more.foldl (fun acc kv=>putK acc kv.1 kv.2) kvs
theorem KV.merge:∀{more:List (Key×V)} {rs:List (Key×Value)} {kvs:List (Key×V)} {vs:List (Key×Value)},KV more rs->KV kvs vs->KV (m6 kvs more) (merged vs rs):=by
 intro more rs kvs vs r;unfold KV at r
 induction r generalizing kvs vs with
 |nil=>intro q;exact q
 | @cons p q ps qs h t ih=>
   intro r0
   have e:KV (putK kvs p.1 p.2) (stored vs q.1 q.2):=by
    have:=r0.put p.1 h.2;rw[<- h.1];exact this
   exact ih e
theorem om:∀(more kvs:List (Key×V)),(m6 kvs more).length<=kvs.length+more.length
 |[],kvs=>by show kvs.length<=kvs.length+0;omega
 | p ::r,kvs=>by
   have h1:=om r (putK kvs p.1 p.2);have h2:=wF kvs p.1 p.2
   show(m6 (putK kvs p.1 p.2) r).length<=_
   rw[List.length_cons];omega
theorem se{P:Program}{w:World}:∀{kvs:List (Key×V)} {ws:List (Value×Value)},VV (kvs.map fun kv=>(kV kv.1,kv.2)) ws->∃ rs,Carries (eV P w) ws rs /\ KV kvs rs
 |[],_,r=>by rw[List.map_nil]at r;cases r;exact⟨[],True.intro,.nil⟩
 | p ::kvs,_,r=>by
   rw[List.map_cons]at r
   cases r with
   | @cons a b as bs h t=>
     obtain⟨rs,c,q⟩:=se (P:=P) (w:=w) t;obtain⟨b1,b2⟩:=b
     exact⟨(p.1,b2) ::rs,⟨ye h.1,rfl,c⟩,.cons ⟨rfl,h.2⟩ q⟩
noncomputable def vk(trs:List (TE×TE)):TE:=fun σ H Q=>∀ p,H p=none->pY trs σ (upd H p (.dK [])) fun ps H2=>H2 p=some (.dK []) /\ ∃ kvs:List (Key×V),ps=kvs.map (fun kv=>(kV kv.1,kv.2)) /\ kvs.length<=15 /\ Q (.ref p) (upd H2 p (.dK (m6 [] kvs)))
theorem CA{X:Cx}{pos:Pos}{keys:List (Option Expr)}{values:List Expr}{trs:List (TE×TE)}(h:PPs X pos keys values trs)(hall:keys.all (·.isSome)=true)(hl:keys.length=values.length)(h0:keys≠[])
  (h15:keys.length<=15):PE X (.Dict keys values pos) (vk trs):=by
 intro pins s σ H Q I q;have hn:=I.hok.fresh (Nat.le_refl s.heap.objs.size);have I1:=I.laid (a:=s.heap.objs.size) (o:=.dK []) (h':=s.heap.push { cls:=.type "dict",data:=.dict #[] }) (t':=s.toks) (fun _ _ q=>Heap.get?_push_of_some _ q) (Nat.le_refl _) (Bf s.heap I.big);refine wpAny_Dict_walk (knd:=eV X.prog X.w) hall hl h0 h15 (thn (h pins _ σ _ _ I1 (q _ hn)) fun ws s2 ⟨ps,H2,I2,rel,e,kvs,ep,lk,q2⟩=>?_);subst ep;obtain⟨rs,c,rk⟩:=se (P:=X.prog) (w:=X.w) rel;obtain⟨z,hd,vs0,r0,dd⟩:=F4 I2.hok e;cases r0
 refine⟨rs,c,dd,fun h' dd' hs=>⟨.ref s.heap.objs.size,_,?_,rfl,q2⟩⟩
 have hz:(m6 [] kvs).length<=sizeLine:=by
  have h1:=om kvs [];rw[List.length_nil]at h1;rw[sizeLine_eq];omega
 have he:∃ q,h'.get? s.heap.objs.size=some q:=let ⟨q,_,_,hq,_⟩:=dd';⟨q,hq⟩
 exact B7 I2 (by rw[e];exact True.intro) hs he (ES hz hd (rk.merge .nil) dd')
structure M2(X:Cx)(o:Expr)(m:Str)(apos:Pos)(e f:Expr)(cpos:Pos):Prop where
 base:attributeBase o m X.env (eval o X.env)=eval o X.env
 few:((backTo cpos (starEach [e,f] X.env)).all (fun x=>!x.1)&&(backToKw cpos (keywordEach [] X.env)).all (fun x=>x.1.isSome)
  && decide (([e,f]:List Expr).length+([]:List Keyword).length+(if([]:List Keyword).isEmpty then 0 else 1)<30))=true
 line:(apos.endLine==cpos.line)=true
 trees:backTo cpos (starEach [e,f] X.env)=[(false,eval e X.env),(false,eval f X.env)]
noncomputable def IsD(H:Hp)(a:Addr):Prop:=(∃ kvs,Rd H a (.dK kvs)) \/ ∃ kvs,Rd H a (.dT kvs)
theorem E1{X:Cx}{pins:List (Addr×Obj)}{σ:St}{H:Hp}{s:Shared}{a:Addr}(I:Inv X pins σ H s)(d:IsD H a):
  s.TypeIs (.ref a) "dict" /\ (∀ b,Value.ref a=.ref b->∃ ob,s.heap.get? b=some ob /\ ob.dict=none) /\ (a==sysModules)=false:=by
 rcases d with⟨kvs,e⟩|⟨kvs,e⟩
 . obtain⟨_,hd,vs,_,dd⟩:=vo I.hok e
   refine⟨dd.typeIs,fun b q=>?_,hd⟩
   cases q;obtain⟨ob,_,_,h1,h2,_⟩:=dd
   exact⟨ob,h1,h2.2.1⟩
 . obtain⟨_,hd,xs,_,dd⟩:=x6 I.hok e
   refine⟨dd.typeIs,fun b q=>?_,hd⟩
   cases q;obtain⟨ob,_,_,h1,h2,_⟩:=dd
   exact⟨ob,h1,h2.2.1⟩
section
variable{X:Cx}{pins:List (Addr×Obj)}{σ:St}{H:Hp}{s:Shared}{a:Addr}{y d:V}{u r:Value}{o:Option V}{A:Around}{E:Value->Shared->Prop}
theorem Fb{Q:Value->Shared->Prop}(hu:A.units+1<cLine)(I:Inv X pins σ H s)(g:u0 H a y o)(ry:RelV y u)(rd:RelV d r)(h:∀ w' s',Inv X pins σ H s'->RelV (o.getD d) w'->Q w' s'):
  wpAny (model X.prog X.w) A (call (.builtin "dict.get") [.ref a,u,r]) Q E s:=by
 rcases g with⟨kvs,k,e,ey,l⟩|⟨kvs,k,b,e,ey,eb,l⟩
 . subst ey;obtain⟨z,hd,vs,rel,dd⟩:=vo I.hok e;refine call_meetsIn PySem.F.slot_dict_get dd.typeIs PySem.F.entry_dict_get (PySem.F.args_dict_get_3 _ _ _) (meets_dict_get_default (eV X.prog X.w) a (ye ry) hd r) ⟨_,dd.mapOf,h _ _ (I.tok _) ?_⟩;rw[l]
   exact(rel.val k).getD rd
 . subst ey
   cases(show u=Value.ref b from ry)
   obtain⟨z,hd,xs,rel,dd⟩:=x6 I.hok e;refine call_meetsIn PySem.F.slot_dict_get dd.typeIs PySem.F.entry_dict_get (PySem.F.args_dict_get_3 _ _ _) (meetsH_dict_get_default (tupleKind (eV X.prog X.w)) a b hd r) ⟨tupleKind_room_in1 hu,k,xs,wV I.hok eb,dd,h _ _ (I.tok _) ?_⟩;rw[l]
   exact(rel.val k).getD rd
end
noncomputable def xk(td ty tx:TE):TE:=fun σ H Q=>td σ H fun x H1=>∃ a,x=.ref a /\ IsD H1 a /\ ty σ H1 fun y H2=>tx σ H2 fun z H3=>∃ o,u0 H3 a y o /\ Q (o.getD z) H3
section
variable{X:Cx}{o e f:Expr}{apos cpos:Pos}{td ty tx:TE}
theorem AL(hu:X.A.units+1<cLine)(ho:PE X o td)(he:PE X e ty)(hf:PE X f tx)(m:M2 X o "get" apos e f cpos):PE X (.Call (.Attribute o "get" apos) [e,f] [] cpos) (xk td ty tx):=by
 intro pins s σ H Q I h;refine wpAny_Call_method m.base m.few m.line PySem.F.plainAttrs_dict PySem.F.slot_dict_get PySem.F.type_dict_get (thn (ho pins s σ H _ I h) fun u s1 ⟨x,H1,I1,rx,a,ex,d,q1⟩=>?_);subst ex
 obtain rfl:u=Value.ref a:=rx
 obtain⟨t1,t2,_⟩:=E1 I1 d
 refine⟨t1,t2,?_⟩
 rw[m.trees]
 refine Calls.callWith_builtin rfl (Calls.evalArgs_plain (Calls.spliced_cons (thn (he pins s1 σ H1 _ I1 q1) fun iv s2 ⟨y,H2,I2,ry,q2⟩=>
  Calls.spliced_cons (thn (hf pins s2 σ H2 _ I2 q2) fun fv s3 ⟨z,H3,I3,rz,ov,g,q3⟩=>Calls.spliced_nil ?_))))
 exact Fb hu I3 g ry rz fun w' s4 I4 rw'=>⟨_,H3,I4,rw',q3⟩
end
end L2
set_option maxHeartbeats 4000000
namespace L2.E
open PySem PySem.Spec PyProof.Rows
noncomputable def Ff(a C:Addr)(dx:Option Addr)(h:Heap):Prop:=∃ o vs,h.get? a=some o /\ o.cls=.ref C /\ o.dict=dx /\ o.data=.fields vs /\ vs.size=6
noncomputable def TbO(T:Addr)(h:Heap):Prop:=∃ o ts,h.get? T=some o /\ o.data=.fields ts /\ 3<ts.size
noncomputable abbrev vQ(a C:Addr)(dx:Option Addr):HO:=.ext (Ff a C dx)
noncomputable abbrev oTb(T:Addr):HO:=.ext (TbO T)
theorem E5(x:Ff a C dx h):gn P w H h a (vQ a C dx):=by
 refine⟨x,let ⟨o,_,e,_⟩:=x;⟨o,e⟩,fun h1 h2 p k=>?_⟩
 obtain⟨o,vs,e,r⟩:=p
 exact⟨o,vs,k o e,r⟩
theorem Dj(x:TbO T h):gn P w H h T (oTb T):=by
 refine⟨x,let ⟨o,_,e,_⟩:=x;⟨o,e⟩,fun h1 h2 p k=>?_⟩
 obtain⟨o,vs,e,r⟩:=p
 exact⟨o,vs,k o e,r⟩
theorem A1(h:H a=some o):upd H a o=H:=by
 funext b
 unfold upd;split
 . rename_i e;rw[e,h]
 . rfl
structure Fly(H:Hp)(h:Heap)(a C:Addr)(dx:Option Addr):Prop where
 exc:H a=some (vQ a C dx)
 tb:∃ o vs,h.get? a=some o /\ o.data=.fields vs /\ (vs[1]?=some Value.none \/ ∃ T,vs[1]?=some (.ref T) /\ H T=some (oTb T) /\ T≠a)
structure y4(H:Hp)(h:Heap)(a C:Addr)(dx:Option Addr):Prop where
 exc:H a=some (vQ a C dx)
 tb:∃ o vs T,h.get? a=some o /\ o.data=.fields vs /\ vs[1]?=some (.ref T) /\ H T=some (oTb T) /\ T≠a
theorem y4.fly(F:y4 H h a C dx):Fly H h a C dx:=
 let ⟨o,vs,T,e1,e2,e3,e4,e5⟩:=F.tb
 ⟨F.exc,o,vs,e1,e2,.inr ⟨T,e3,e4,e5⟩⟩
section
variable{X:Cx}{pins:List (Addr×Obj)}{σ:St}{H:Hp}{s:Shared}{a C:Addr}{dx:Option Addr}
theorem A2(I:Inv X pins σ H s)(k:Heap.SlotsOnly (frs X.stack) s.heap h₁):Un (frs X.stack) [] H H s.heap h₁ where
 keep:=fun b o e _ hb _=>(k.2.1 b hb).trans e
 slot:=fun b o e _ _ _=>k.2.2 b o e
 free:=fun _ _ _ n _=>n
 there:=fun b o e _=>let ⟨_,q⟩:=k.2.2 b o e;⟨_,q⟩
 tups:=fun _ _ q=>q
 frzs:=fun _ _ _ q=>q
 tbls:=fun _ ps q=>⟨#[],by rw[q];simp⟩
theorem zd(I:Inv X pins σ H s)(k:Heap.SlotsOnly (frs X.stack) s.heap h₁):HOk X.prog X.w H h₁:=fun b o e=>by
 have nf:∀ c u,H c=some u->c∉frs X.stack:=fun c u q z=>by rw[I.vc c z]at q;cases q
 refine(I.hok b o e).qS (fun c v hc q=>(k.2.1 c ?_).trans q) (fun _ q=>q) fun _ _ q=>q
 rcases hc with z|z
 . rw[z];exact nf b o e
 . exact nf c _ z
theorem B0(I:Inv X pins σ H s)(e:H a=some (vQ a C dx)):
  Inv X pins σ H { s with heap:=s.heap.update a (Obj.mapFields (·.setIfInBounds i v)) }:=by
 obtain⟨⟨o,vs,ho,hc,hd,hf,hz⟩,_,_⟩:=I.hok a _ e;have hs:=Heap.get?_update_self (Obj.mapFields (·.setIfInBounds i v)) ho (Obj.isFreed_of_fields (Obj.data_mapFields hf _))
 have q:=I.write (x:=a) (e:=a) (o:=vQ a C dx) (t':=s.toks) (h':=s.heap.update a (Obj.mapFields (·.setIfInBounds i v))) (by rw[e];trivial) (.inl rfl)
  (fun b u hb q=>(Heap.get?_update_other _ _ (Ne.symm hb)).trans q) ⟨_,hs⟩ (E5 ⟨_,_,hs,by rw[Obj.cls_mapFields];exact hc,by obtain⟨c,d,dt,sl⟩:=o;cases dt<;>exact hd,Obj.data_mapFields hf _,by simpa using hz⟩)
 rw[A1 e]at q;exact q
theorem AH(I:Inv X pins σ H s)(e:H T=some (oTb T)):
  Inv X pins σ H { s with heap:=s.heap.update T (Obj.mapFields (·.setIfInBounds i v)) }:=by
 obtain⟨⟨o,vs,ho,hf,hz⟩,_,_⟩:=I.hok T _ e;have hs:=Heap.get?_update_self (Obj.mapFields (·.setIfInBounds i v)) ho (Obj.isFreed_of_fields (Obj.data_mapFields hf _))
 have q:=I.write (x:=T) (e:=T) (o:=oTb T) (t':=s.toks) (h':=s.heap.update T (Obj.mapFields (·.setIfInBounds i v))) (by rw[e];trivial) (.inl rfl)
  (fun b u hb q=>(Heap.get?_update_other _ _ (Ne.symm hb)).trans q) ⟨_,hs⟩ (Dj ⟨_,_,hs,Obj.data_mapFields hf _,by simpa using hz⟩)
 rw[A1 e]at q;exact q
theorem vt{Q:Unit->Shared->Prop}{E:Value->Shared->Prop}(I:Inv X pins σ H s)(hst:X.stack=X.env ::X.outer)(hf:X.env.frame=some L)(e:H a=some (vQ a C dx))
  (h:∀ s' H',Inv X pins σ H' s'->aM H H'->y4 H' s'.heap a C dx->Q () s'):
  wpAny (model X.prog X.w) X.A (do let fr <- frameOf X.env;let pl <- entryPlaceOf L had;let b <- EntryCells.newEntry head fr .none (rawInt L) .none pl;setField (.ref a) 1 b) Q E s:=by
 have hfr:X.A.frames=some (X.env ::X.outer):=by rw[<- hst];exact I.ok.frames
 have hl:s.heap.FunFrames X.base (X.env ::X.outer):=by rw[<- hst];exact I.stack
 refine wpAny_bind (wpAny_frameOf_fun hfr hl hf fun h₁ k₁=>?_)
 have k₁':Heap.SlotsOnly (frs X.stack) s.heap h₁:=by rw[hst];exact k₁
 have I₁:=I.call (g':=s.gens) (t':=s.toks) (d':=s.drawn) (ch:=[]) (A2 I k₁') (zd I k₁') I.bare (fun b z=>absurd z (by simp));refine wpAny_bind (wpAny_entryPlaceOf fun pl hpl=>?_);unfold EntryCells.newEntry newFields;refine wpAny_bind (wpAny_newObj_type ?_ (hpl.sizeOk5 _ _ _ _ _))
 have big:3<([head,.ref L,.none,rawInt L,.none]++(if pl.isEmpty then List.replicate 6 Value.none else pl)).toArray.size:=by
  rw[List.size_toArray,List.length_append];show 3<5+_;omega
 have new:=Heap.get?_push_size h₁ (o:={ cls:=.type "traceback",dict:=none,data:=.fields ([head,.ref L,.none,rawInt L,.none]++(if pl.isEmpty then List.replicate 6 Value.none else pl)).toArray }) rfl
 have fr:H h₁.objs.size=none:=I₁.hok.fresh (Nat.le_refl _)
 have ne:h₁.objs.size≠a:=fun z=>by rw[z,e]at fr;cases fr
 have I₂:=I₁.laid (a:=h₁.objs.size) (o:=oTb h₁.objs.size) (t':=s.toks) (fun b u q=>Heap.get?_push_of_some _ q) (Nat.le_refl _) (Dj ⟨_,_,new,rfl,big⟩)
 have g:aM H (upd H h₁.objs.size (oTb h₁.objs.size)):=fun b u q=>by rw[bD (eG q fr)];exact q
 obtain⟨⟨o,vs,ho,hc,hd,hv,hz⟩,_,_⟩:=I₂.hok a _ (g _ _ e);refine wpAny_setField ho hv (by omega) ?_;refine h _ _ (B0 I₂ (g _ _ e)) g ⟨g _ _ e,_,_,h₁.objs.size,Heap.get?_update_self _ ho (Obj.isFreed_of_fields (Obj.data_mapFields hv _)),Obj.data_mapFields hv _,by simp[hz],bF,ne⟩
theorem BW{Q:Unit->Shared->Prop}{E:Value->Shared->Prop}(I:Inv X pins σ H s)(hst:X.stack=X.env ::X.outer /\ X.env.frame=some X.env.locals)(F:Fly H s.heap a C dx)
  (h:∀ s' H',Inv X pins σ H' s'->aM H H'->y4 H' s'.heap a C dx->Q () s'):wpAny (model X.prog X.w) X.A (noteFrame (.ref a) X.env) Q E s:=by
 obtain⟨o,vs,ho,hv,hw⟩:=F.tb;unfold noteFrame;simp only[hst.2]
 rcases hw with h1|⟨T,h1,hT,ne⟩
 . refine wpAny_bind (wpAny_field ho hv h1 ?_);rw[if_neg (by decide)];exact vt I hst.1 hst.2 F.exc h
 . obtain⟨⟨oT,ts,hoT,hdT,hz⟩,_,_⟩:=I.hok T _ hT;refine wpAny_bind (wpAny_field ho hv h1 ?_);rw[if_pos (show(Value.ref T != Value.none)=true from by simp)]
   have h3:ts[3]?=some ts[3]:=by simp[hz]
   refine wpAny_bind (wpAny_field hoT hdT h3 ?_)
   by_cases c:(ts[3]==rawInt X.env.locals)=true
   . rw[if_pos c];exact wpAny_pure (h s H I (aM.refl H) ⟨F.exc,o,vs,T,ho,hv,h1,hT,ne⟩)
   . rw[if_neg c];refine wpAny_bind (wpAny_setField hoT hdT hz ?_);exact vt (AH I hT) hst.1 hst.2 F.exc h
theorem zl{Q:Unit->Shared->Prop}{E:Value->Shared->Prop}(I:Inv X pins σ H s)(F:y4 H s.heap a C dx)
  (h:∀ s',Inv X pins σ H s'->y4 H s'.heap a C dx->Q () s'):wpAny (model X.prog X.w) X.A (setFlight (.ref a) x) Q E s:=by
 obtain⟨o,vs,T,ho,hv,h1,hT,ne⟩:=F.tb;unfold setFlight;obtain⟨⟨oT,ts,hoT,hdT,hz⟩,_,_⟩:=I.hok T _ hT;refine wpAny_bind (wpAny_field ho hv h1 ?_);rw[if_pos (show(Value.ref T != Value.none)=true from by simp)];refine wpAny_setField hoT hdT hz ?_;exact h _ (AH I hT) ⟨F.exc,o,vs,T,(Heap.get?_update_other _ _ ne).trans ho,hv,h1,hT,ne⟩
end
noncomputable def CXE(P:Program)(w:World):CXT:=fun outer H s E e s'=>∃ a C dx H',e=.ref a /\ s'.os=s.os /\ AllBare s'.gens /\ Un (frs outer) [] H H' s.heap s'.heap /\ HOk P w H' s'.heap /\ Fly H' s'.heap a C dx /\ E (.ref C) (some a) H'
abbrev XW:=Value->Option Addr->St->Hp->Prop
noncomputable def Thr(X:Cx)(W:XW):Prop:=∀(pins:List (Addr×Obj)) (σ:St) (H:Hp) (s:Shared) (a C:Addr) (dx:Option Addr),Inv X pins σ H s->Fly H s.heap a C dx->W (.ref C) (some a) σ H->X.xe (.ref a) s
section
variable{CX:CXT}{P:Program}{w:World}{K:PySem.W.Frag}{mg:Str->Option Value}{base:Heap}{N:List Str}{qual:Str}{scope:Scope}{f:Addr}{cd:Value}{A:Around}{outer:List Env}{s₀:Shared}{H₀:Hp}{E:XK}
theorem aX:Thr (qq (CXE P w) P w K mg base N qual scope f cd A outer s₀ H₀ E) (fun C a _ H=>∀ H',aM H H'->E C a H'):=by
 intro pins σ H s a C dx I F hw;show wpAny _ _ (leaving _ _) _ _ s;unfold leaving;refine wpAny_bind (BW I ⟨rfl,rfl⟩ F fun s1 H1 I1 g1 F1=>?_)
 refine zl I1 F1 fun s2 I2 F2=>?_
 exact⟨a,C,dx,H1,rfl,I2.os,I2.bare,I2.base,I2.hok,F2.fly,hw H1 g1⟩
theorem iE:PassesOwn (model P w) (qq (CXE P w) P w K mg base N qual scope f cd A outer s₀ H₀ E).A (qq (CXE P w) P w K mg base N qual scope f cd A outer s₀ H₀ E).env (qq (CXE P w) P w K mg base N qual scope f cd A outer s₀ H₀ E).xe:=by
 show PassesOwn (model P w) (A.deeper (envOfC qual scope s₀.heap.objs.size f cd)) (envOfC qual scope s₀.heap.objs.size f cd) (fun e s'=>wpAny (model P w) (A.deeper (envOfC qual scope s₀.heap.objs.size f cd)) (leaving (envOfC qual scope s₀.heap.objs.size f cd) e) (fun _ s''=>CXE P w outer H₀ s₀ E e s'') (fun e' s''=>CXE P w outer H₀ s₀ E e' s'') s')
 passes_own
end
section
variable{X:Cx}{k:Nat}{f:Addr}{fd:FuncData}{ps:List Str}{sp:Sp}{dvs:List V}{ds:List Value}{W:XW}{x m:Str}{p pos apos:Pos}{e o:Expr}{es:List Expr}{ta:TE}{t:TA}
noncomputable def nP(sp:Sp)(dvs:List V)(W:XW)(t:TA):TE:=fun σ H Q=>t σ H fun vs H1=>sp (vs++dvs) H1 Q fun C a H'=>W C a σ H'
theorem q8{pins:List (Addr×Obj)}(F:cA X.prog X.w X.K X.mg X.base (CXE X.prog X.w) k f fd ps sp)(hr:gT k X.A)(hb:Binds X.K fd ps ds)(hd:Vals dvs ds)(hx:Thr X W)
  (I:Inv X pins σ H s) (r:Vals vs us) (h:sp (vs++dvs) H Q fun C a H'=>W C a σ H'):wpAny (model X.prog X.w) X.A (call (.ref f) us) (EP X pins σ Q) X.xe s:=by
 have r2:Vals (vs++dvs) (us++ds):=r.append hd
 have hl:(us++ds).length=ps.length:=by rw[<- r2.length];exact F.len _ _ _ _ h
 refine wpAny_call (codeAny_mono (F.run X.A X.stack s H ⟨us,[]⟩ (us++ds) (vs++dvs) Q _ hr I.Gn (hb s us I.kIn hl) r2 h) fun r s' hq=>?_)
 cases r with
 | error e=>
   obtain⟨a,C,dx,H',rfl,ho,bare,un,hok,fl,hw⟩:=hq;exact hx pins σ H' s' a C dx (I.Dn ho un hok bare fun b z=>absurd z (by simp)) fl hw
 | ok fl=>
   cases fl with
   |ret u=>exact I.after hq
   |next=>exact False.elim hq
   |brk=>exact False.elim hq
   |cont=>exact False.elim hq
theorem z9(F:cA X.prog X.w X.K X.mg X.base (CXE X.prog X.w) k f fd ps sp)(hr:gT k X.A)(hg:Gl X x)(hm:X.mg x=some (.ref f))(hk:PySem.W.keepIn X.K (.ref f)=true)(hb:Binds X.K fd ps ds)(hd:Vals dvs ds)(hx:Thr X W)
  (ha:PA X (e ::es) t) (hdb:(x==("__debug__":Str))=false:=by decide) (he:starEach (e ::es) X.env=(false,eval e X.env) ::starEach es X.env:=by rfl) (hpl:(backTo pos (starEach es X.env)).any (·.1)=false:=by rfl):
  PE X (.Call (.Name x p) (e ::es) [] pos) (nP sp dvs W t):=by
 intro pins s σ H Q I h;refine wpAny_Call_Name_kw (rb I hg hm ?_ hdb);refine PySem.W.callWith_K (h₀:=X.base) I.ok.mod.kin hk (thn (ha pos pins s σ H _ I h) fun us s1 ⟨vs,H1,I1,r,q⟩=>⟨I1.kIn,?_⟩) he hpl;exact q8 F hr hb hd hx I1 r q
theorem yZ(F:cA X.prog X.w X.K X.mg X.base (CXE X.prog X.w) k f fd ps sp)(hr:gT k X.A)(hg:Gl X x)(hm:X.mg x=some (.ref f))(hk:PySem.W.keepIn X.K (.ref f)=true)(hb:Binds X.K fd ps ds)(hd:Vals dvs ds)(hx:Thr X W)
  (hdb:(x==("__debug__":Str))=false:=by decide):PE X (.Call (.Name x p) [] [] pos) (nP sp dvs W lz):=by
 intro pins s σ H Q I h;refine wpAny_Call_Name_kw (rb I hg hm ?_ hdb);exact PySem.W.callWith_K0 I.kIn hk (q8 (us:=[]) F hr hb hd hx I .nil h)
end
noncomputable abbrev hand(X:Cx)(a:Addr):Cx:={ X with A:=X.A.mark (some (.ref a)),calm:=false,xe:=fun _ _=>False }
noncomputable abbrev blk(X:Cx)(scope:Scope)(cl:List (Str×Addr))(N:List Str)(C:Addr)(s₀:Shared)(H₀:Hp)(ex:List Addr):Cx:=
 { prog:=X.prog,w:=X.w,K:=X.K,mg:=X.mg,base:=X.base,A:=X.A,N:=N,s₀:=s₀,H₀:=H₀,env:=compEnvC scope cl C X.env,outer:=X.stack,stack:=X.stack,ex:=ex,fn:=fun _=>false,calm:=X.calm,pn:=[],xe:=fun _ _=>False }
structure oO(X:Cx)(scope:Scope)(cl:List (Str×Addr))(M:List Str)(ι:List Nat)(x:Str):Prop where
 clos:closureFor scope X.env=pure cl
 kind:scope.kind=.function
 nocell:(scope.names.all fun p=>p.2 != .cell)=true
 locs:(scope.names.all fun p=>p.2 != .local||scope.names.lookup p.1==some .local)=true
 var:scope.names.lookup x=some .local
 names:M.map some=ι.map fun i=>X.N[i]?
 cells:M.map (fun y=>scope.names.lookup y)=M.map fun _=>some .free
 kinds:M.map X.env.kindOf=M.map fun _=>some .cell
 same:M.map (fun y=>cl.lookup y)=M.map fun y=>X.env.cells.lookup y
 sub:cl.map (fun p=>X.env.cells.lookup p.1)=cl.map fun p=>some p.2
 all:(scope.names.all fun p=>!(p.2 == .free)||(cl.lookup p.1).isSome)=true
 nd:(M++[x]).Nodup
theorem uP{α β:Type}{f g:α->β}{l:List α}(h:l.map f=l.map g){a:α}(ha:a∈l):f a=g a:=by
 induction l with
 |nil=>cases ha
 | cons b r ih=>
   rw[List.map_cons,List.map_cons]at h
   injection h with h1 h2
   rcases List.mem_cons.mp ha with z|z
   . rw[z];exact h1
   . exact ih h2 z
theorem ug{scope:Scope}(h:scope.names.lookup y=some .free):(relabel scope env).names.lookup y=some .cell \/ (relabel scope env).names.lookup y=some .free:=by
 unfold relabel;dsimp only;generalize scope.names=l at h
 induction l with
 |nil=>cases h
 | cons p r ih=>
   obtain⟨n,k⟩:=p;rw[List.lookup_cons]at h;rw[List.map_cons]
   by_cases e:(y==n)=true
   . rw[e]at h
     have hk:k=.free:=Option.some.inj h
     subst hk;dsimp only;split
     . rw[List.lookup_cons,e];exact .inl rfl
     . rw[List.lookup_cons,e];exact .inr rfl
   . have e':(y==n)=false:=by simpa using e
     rw[e']at h;dsimp only;split
     . rw[List.lookup_cons,e'];exact ih h
     . rw[List.lookup_cons,e'];exact ih h
theorem uo{scope:Scope}(hc:(scope.names.all fun p=>p.2 != .cell)=true)(h:(relabel scope env).names.lookup y=some .cell \/ (relabel scope env).names.lookup y=some .free):∃ p∈scope.names,p.1=y /\ p.2=.free:=by
 unfold relabel at h
 dsimp only at h
 generalize scope.names=l at h hc
 induction l with
 |nil=>rcases h with h|h<;>cases h
 | cons p r ih=>
   obtain⟨n,k⟩:=p;rw[List.all_cons,Bool.and_eq_true]at hc;rw[List.map_cons]at h
   by_cases e:(y==n)=true
   . refine⟨(n,k),List.mem_cons_self,(beq_iff_eq.mp e).symm,?_⟩
     dsimp only at h ⊢
     split at h
     . rename_i c;simp only[Bool.and_eq_true,beq_iff_eq]at c;exact c.1.1
     . rw[List.lookup_cons,e]at h
       have hk:(k != NameKind.cell)=true:=hc.1
       rcases h with h|h
       . have:k=.cell:=Option.some.inj h
         subst this;exact absurd hk (by decide)
       . exact Option.some.inj h
   . have e':(y==n)=false:=by simpa using e
     have h':(List.map (fun x=>match x with|(n,k)=>if(k==NameKind.free&&env.scope.kind==ScopeKind.function&&env.kindOf n==some NameKind.cell)=true then(n,NameKind.cell)else(n,k)) r).lookup y=some .cell \/
       (List.map (fun x=>match x with|(n,k)=>if(k==NameKind.free&&env.scope.kind==ScopeKind.function&&env.kindOf n==some NameKind.cell)=true then(n,NameKind.cell)else(n,k)) r).lookup y=some .free:=by
      dsimp only at h
      split at h
      . rw[List.lookup_cons,e']at h;exact h
      . rw[List.lookup_cons,e']at h;exact h
     obtain⟨q,hq,z⟩:=ih h' hc.2
     exact⟨q,List.mem_cons_of_mem _ hq,z⟩
noncomputable def pick(ι:List Nat)(σ:St):St:=ι.map fun i=>(σ[i]?).join
noncomputable def x4(wi:TI)(ι:List Nat)(te:TE):TE:=fun σ H Q=>wi σ H fun J H1=>∀ D,H1 D=none->∃ W:Nat->Nat->List V->Hp->Prop,(∃ m,W 0 m [] (upd H1 D (.lst []))) /\ ∀ i m ys H,W i m ys H ->
 H D=some (.lst ys) /\ ((J.stop i H /\ Q (.ref D) H) \/ (J.go i H /\ ∀ x H',J.yld i H x H'->te (pick ι σ++[some x]) H' fun y H2=>H2 D=some (.lst ys) /\ ys.length<sizeLine /\ ∃ m',m'<m /\ W (i+1) m' (ys++[y]) (upd H2 D (.lst (ys++[y])))))
section
variable{X:Cx}{scope:Scope}{cl:List (Str×Addr)}{M:List Str}{ι:List Nat}{x:Str}
theorem oO.sq(S:oO X scope cl M ι x)(h:cl.lookup y=some c):X.env.cells.lookup y=some c:=uP S.sub (PySem.mem_of_lookup h)
theorem AS{pins:List (Addr×Obj)}{s:Shared}{h₁:Heap}(S:oO X scope cl M ι x)(I:Inv X pins σ H s)(hex:∀ b∈ex,pV X pins H b /\ b<s.heap.objs.size)(hn:h₁.Ns s.heap.objs.size (fun _=>none))
  (hk:∀ b o,s.heap.get? b=some o->h₁.get? b=some o):Inv (blk X scope cl (M++[x]) s.heap.objs.size s H ex) [] (pick ι σ++[none]) H { s with heap:=h₁,toks:=t' }:=by
 have noM:∀ b:Addr,b∈ex->b≠s.heap.objs.size:=fun b hb=>Nat.ne_of_lt (hex b hb).2
 have fsx:∀ b∈ex,b∉frs X.stack:=fun b hb z=>by
  obtain⟨⟨_,f1,f2,_⟩,_⟩:=hex b hb
  rcases List.mem_cons.mp (I.wK b z)with e|e
  . exact f1 e
  . exact f2 e
 have base0:∀ b o,X.base.get? b=some o->b∉ex:=fun b o e z=>by
  obtain⟨⟨_,_,_,f3,_⟩,_⟩:=hex b z
  rcases f3 with f|f
  . exact I.ok.noex b o e f
  . exact absurd (Nat.lt_of_lt_of_le (Heap.lt_size e) (Nat.le_trans I.ok.bsz f)) (Nat.lt_irrefl _)
 refine⟨⟨I.ok.mod,S.kind,I.ok.glob,I.ok.blt,Nat.le_refl _,fun y z c h1 h2=>I.ok.inj y z c (S.sq h1) (S.sq h2),fun y hy=>?_,fun y c z=>absurd z Bool.false_ne_true,I.ok.hd,I.ok.frames,.inl rfl,
  fun b hb=>⟨noM b hb,fun y c h z=>(hex b hb).1.2.2.2.2.1 y c (S.sq h) z⟩,I.bs,Nat.le_trans I.ok.bsz I.sz,base0,fsx,I.stack,I.vc⟩,
  rfl,I.bare,Un.kept hk,⟨_,hn,fun i y v e1 e2 e3=>?_⟩,fun y c h=>?_,I.fresh,fun y c h=>?_,fun p hp=>absurd (show p∈([]:List (Addr×Obj)) from hp) (by simp),I.hok.kept hk,?_⟩
 . obtain⟨p,hp,rfl,hpf⟩:=uo S.nocell hy;have q:=List.all_eq_true.mp S.all p hp;rw[hpf]at q
   have q':(cl.lookup p.1).isSome=true:=by
    cases e:(cl.lookup p.1).isSome with
    |true=>rfl
    |false=>rw[e]at q;exact absurd q (by decide)
   exact Option.isSome_iff_exists.mp q'
 . have hiM:i < M.length:=by
    by_cases hlt:i<M.length
    . exact hlt
    . exfalso
      have hl:(pick ι σ).length=M.length:=by
       have q:=congrArg List.length S.names;rw[List.length_map,List.length_map]at q;unfold pick;rw[List.length_map,q]
      rw[List.getElem?_append_right (by omega),hl]at e2
      have:i - M.length=0 \/ 1<=i - M.length:=by omega
      rcases this with z|z
      . rw[z]at e2;cases e2
      . rw[List.getElem?_eq_none (by simpa using z)]at e2;cases e2
   have hl:ι.length=M.length:=by
    have q:=congrArg List.length S.names;rw[List.length_map,List.length_map]at q;exact q.symm
   rw[List.getElem?_append_left hiM]at e1
   have hyM:y∈M:=List.mem_of_getElem? e1
   have e2':((σ[ι[i]]?).join)=some v:=by
    rw[List.getElem?_append_left (by unfold pick;rw[List.length_map];omega)]at e2;unfold pick at e2;rw[List.getElem?_map,List.getElem?_eq_getElem (by omega)]at e2;exact Option.some.inj e2
   have e4:σ[ι[i]]?=some (some v):=by
    cases q:σ[ι[i]]? with
    |none=>rw[q]at e2';cases e2'
    |some w=>rw[q]at e2';exact congrArg some e2'
   have e5:X.N[ι[i]]?=some y:=by
    have q:=congrArg (fun l=>l[i]?) S.names;rw[List.getElem?_map,List.getElem?_map,e1,List.getElem?_eq_getElem (by omega)]at q
    exact(Option.some.inj q).symm
   have kc:X.env.kindOf y=some .cell:=uP S.kinds hyM
   obtain⟨m,hm,hl⟩:=I.loc;obtain⟨u,r,q⟩:=hl _ y v e5 e4 (.inr (.inl kc))
   refine⟨u,r,.inr ⟨?_,?_⟩⟩
   . exact ug (uP S.cells hyM)
   . rcases q with⟨k,_⟩|⟨_,c,e,o,ho,hd⟩
     . rw[kc]at k;cases k
     . exact⟨c,(uP S.same hyM).trans e,o,hk _ _ ho,hd⟩
 . obtain⟨v,o,ho,hd⟩:=I.cell y c (S.sq h)
   exact⟨v,o,hk _ _ ho,hd⟩
 . exact I.freeC y c (S.sq h)
 . have q:=congrArg List.length S.names;rw[List.length_map,List.length_map]at q
   show(pick ι σ++[none]).length=(M++[x]).length
   unfold pick;rw[List.length_append,List.length_append,List.length_map,q];rfl
theorem yi{pins:List (Addr×Obj)}{s s':Shared}(I:Inv X pins σ H s)(hC:C=s.heap.objs.size)(hex:∀ b∈ex,pV X pins H b)(J:Inv (blk X scope cl N C s H ex) [] σ' H' s')
  (hs:Heap.SameBut C s'.heap h'):Inv X pins σ H' { s' with heap:=h' }:=by
 subst hC
 have K:Inv X pins σ H' s':=I.Dn (ch:=ex) J.os J.base J.hok J.bare fun b hb=>by
  obtain⟨_,f1,_,f3,f4,f5⟩:=hex b hb
  exact⟨f3,f1,f4,f5⟩
 refine K.turned (t':=s'.toks) (it:=s.heap.objs.size) (fun b o hb e=>(hs.2 b hb).trans e) J.free (Nat.ne_of_gt I.lt) (.inr I.sz) (fun y c e z=>?_) (fun p hp z=>?_)
 . obtain⟨v,q⟩:=I.cell y c e;exact absurd (z ▸ q.lt) (Nat.lt_irrefl _)
 . exact absurd (z ▸ Heap.lt_size (I.pin p hp).1) (Nat.lt_irrefl _)
theorem yV(elt target iter:Expr)(scope:Scope)(pos:Pos)(it acc:Value)(env:Env):
  compTurn (.ListComp elt [⟨target,iter,[],0⟩] scope pos) 0 it acc env=(do
   standAt iter.pos
   match <- pyNext it with
   |none=>pure (.done .next)
   | some v=>do
     letOwnedTupleGo target it v
     assign target env v
     (do let x <- eval elt env;let _ <- call (.builtin "list.append") [acc,x];pure ())
     again (.compLoop (.ListComp elt [⟨target,iter,[],0⟩] scope pos) 0 it acc env)):=by rfl
theorem CL(S:oO X scope cl M ι x)(hc:X.calm=true)(hi:PI X (.Name x px) iter wi)(he:∀ C s₀ H₀ ex,PE (blk X scope cl (M++[x]) C s₀ H₀ ex) elt te)
  (hs:∀ v,foldedSetIterable iter X.env v=pure v:=by intro _;rfl):PE X (.ListComp elt [⟨.Name x px,iter,[],0⟩] scope pos) (x4 wi ι te):=by
 intro pins s σ H Q I h;rw[eval_ListComp];refine wpAny_comprehension_free (use:=none) rfl hs S.clos S.kind (fun y hy hl=>?_) (wpAny_mono (hi pins s σ H _ I h) (fun v s1 h1=>wpAny_mono h1 (fun itv s2 h2=>?_) fun _ _ z=>z) fun _ _ z=>z)
 . have q:=List.all_eq_true.mp S.locs y hy;rw[hl]at q
   simpa using q
 obtain⟨it,fp,tn,J,H2,rfl,I2,T,st2,f2,hW⟩:=h2;have I3:=I2.D0 (ys:=[]) (its:=[]) (t':=s2.toks) .nil (Nat.zero_le _);obtain⟨W,⟨m0,w0⟩,turn⟩:=hW s2.heap.objs.size I2.fresh
 have fpo:∀ b∈fp,b<s2.heap.objs.size:=fun b hb=>let ⟨_,e,_⟩:=T.obj _ _ st2 b hb;Heap.lt_size e
 have f3:∀ b∈fp,pV X pins (upd H2 s2.heap.objs.size (.lst [])) b:=fun b hb=>by
  obtain⟨q0,q⟩:=f2 b hb
  exact⟨by rw[bD (Nat.ne_of_lt (fpo b hb))];exact q0,q⟩
 show wpAny _ _ (newObj (.type "list") _ none) _ _ s2;refine wpAny_newObj_type (wpAny_newFunctionEnv (fun y hy=>?_) (by intro y hy;simp at hy) (fun h₁ hn₁ sb₁=>?_) S.kind)
 . have q:=List.all_eq_true.mp S.nocell y hy
   simpa using q
 have hsz:(s2.heap.push { cls:=.type "list",dict:=none,data:=.seq ([]:List Value).toArray }).objs.size=s2.heap.objs.size+1:=Heap.size_push ..
 have hk₁:∀ b o,(s2.heap.push { cls:=.type "list",dict:=none,data:=.seq ([]:List Value).toArray }).get? b=some o->h₁.get? b=some o:=fun b o e=>
  (sb₁.2 b (Nat.ne_of_lt (Heap.lt_size e))).trans (Heap.get?_push_of_some _ e)
 have J0:=AS (t':=s2.toks+([]:List (Str×Value)).length) S I3 (ex:=fp) (fun b hb=>⟨f3 b hb,Nat.lt_of_lt_of_le (fpo b hb) (by rw[hsz];exact Nat.le_succ _)⟩) hn₁ hk₁
 have old:∀ b∈fp,∀ o,s2.heap.get? b=some o->h₁.get? b=some o:=fun b _ o e=>hk₁ b o (Heap.get?_push_of_some _ e)
 have st₁:tn 0 h₁:=T.keep _ _ _ st2 old
 have loop:codeAny (model X.prog X.w) X.A (.compLoop (.ListComp elt [⟨.Name x px,iter,[],0⟩] scope pos) 0 (.ref it) (.ref s2.heap.objs.size) (compEnvC scope cl (s2.heap.objs.size+1) X.env))
   (compPost (model X.prog X.w) X.A X.xe none (EP X pins σ Q) (.ref s2.heap.objs.size) (s2.heap.objs.size+1)) { s2 with heap:=h₁,toks:=s2.toks+([]:List (Str×Value)).length }:=by
  rw[hsz]at J0
  refine codeAny_loop rfl (fun n s'=>∃ i H' ys v,Inv (blk X scope cl (M++[x]) (s2.heap.objs.size+1) { s2 with heap:=s2.heap.push { cls:=.type "list",data:=.seq ([]:List Value).toArray },toks:=s2.toks } (upd H2 s2.heap.objs.size (.lst [])) fp) [] (pick ι σ++[v]) H' s' /\ tn i s'.heap /\ (∀ b∈fp,H' b=none) /\ W i n ys H')
   (fun n s' hI=>?_) m0 ⟨0,_,[],none,J0,st₁,fun b hb=>(f3 b hb).1,w0⟩
  obtain⟨i,H',ys,v,J',st',fr',w'⟩:=hI;obtain⟨hD,alt⟩:=turn i n ys H' w'
  have fpY:∀{G:Hp},(∀ b∈fp,G b=none)->∀ b∈fp,pV (blk X scope cl (M++[x]) (s2.heap.objs.size+1) { s2 with heap:=s2.heap.push { cls:=.type "list",data:=.seq ([]:List Value).toArray },toks:=s2.toks } (upd H2 s2.heap.objs.size (.lst [])) fp) [] G b:=fun hG b hb=>
   ⟨hG b hb,(J'.ok.exf b hb).1,J'.ok.exfs b hb,.inl hb,(J'.ok.exf b hb).2,fun p hp=>absurd (show p∈([]:List (Addr×Obj)) from hp) (by simp)⟩
  show wpAny _ _ ((compTurn _ 0 (.ref it) (.ref s2.heap.objs.size) (compEnvC scope cl (s2.heap.objs.size+1) X.env)).onRaise _) _ _ s';refine wpAny_noted (wpAny_noRaise ?_);rw[yV];refine wpAny_bind (wpAny_standAt (wpAny_bind ?_))
  rcases alt with⟨stop,qn⟩|⟨go,step⟩
  . refine thn (T.done (blk X scope cl (M++[x]) (s2.heap.objs.size+1) _ _ fp) rfl rfl rfl hc i [] s' _ H' _ J' (fpY fr') st' stop) fun r s4 ⟨hr,J4⟩=>?_
    subst hr;refine wpAny_pure ?_;obtain⟨m,hm,_⟩:=id J4.loc
    refine⟨m,hm,fun h' sb=>⟨.ref s2.heap.objs.size,H',yi I3 hsz.symm f3 J4 sb,rfl,qn⟩⟩
  . refine thn (T.item (blk X scope cl (M++[x]) (s2.heap.objs.size+1) _ _ fp) rfl rfl rfl hc i [] s' _ H' _ J' (fpY fr') st' go) fun r s4 ⟨u,hr,h4⟩=>?_
    subst hr;refine wpAny_bind (thn h4 fun _ s5 ⟨z,H5,J5,r5,y5,st5,fr5⟩=>?_)
    have J5':=J5.pinned (fpY fr5) (T.obj _ _ st5)
    have hxN:(M++[x])[M.length]?=some x:=by simp
    refine wpAny_bind ?_;refine wpAny_assign_Name ?_;refine pQ (X:=blk X scope cl (M++[x]) (s2.heap.objs.size+1) _ _ fp) (i:=M.length) (v:=z) J5' S.nd hxN (.inl (lookup_relabel_local S.var)) r5 (fun s6 J6=>?_) (.inr (lookup_relabel_local S.var))
    have hlp:(pick ι σ).length=M.length:=by
     have q:=congrArg List.length S.names;rw[List.length_map,List.length_map]at q;unfold pick;rw[List.length_map,q]
    have hset:(pick ι σ++[v]).set M.length (some z)=pick ι σ++[some z]:=by
     rw[<- hlp,List.set_append_right _ _ (Nat.le_refl _),Nat.sub_self];rfl
    rw[hset]at J6;refine wpAny_bind (wpAny_bind (thn (he _ _ _ _ _ s6 _ H5 _ J6 (step z H5 y5)) fun yv s7 ⟨y,H7,J7,r7,hD7,hz7,m',hm',w7⟩=>?_));refine wpAny_bind (thn (lM (X:=blk X scope cl (M++[x]) (s2.heap.objs.size+1) _ _ fp) _ s7 _ H7 (.ref s2.heap.objs.size) [y] (.ref s2.heap.objs.size) [yv] (fun _ G=>G=upd H7 s2.heap.objs.size (.lst (ys++[y]))) J7 rfl (.cons r7 .nil) ⟨_,_,y,rfl,rfl,hD7,hz7,rfl⟩) fun _ s8 ⟨_,H8,J8,_,e8⟩=>?_);subst e8;refine wpAny_pure (wpAny_pure ⟨rfl,m',hm',i+1,_,_,some z,J8.lC,?_,fun b hb=>?_,w7⟩)
    . exact T.keep _ _ _ st5 fun b hb o e=>(J8.pin (b,o) (List.mem_append_right _ (List.mem_append_right _ (gb hb e)))).1
    . obtain⟨o,e,d⟩:=T.obj _ _ st5 b hb
      exact(J8.pin (b,o) (List.mem_append_right _ (List.mem_append_right _ (gb hb e)))).2.1
 rw[hsz]at *;exact codeAny_compStart_list loop (T.self X.A 0 _ _ _ st₁ loop)
end
section
variable{X:Cx}
noncomputable def IsV(K:PySem.W.Frag)(T:String)(x:V)(H:Hp)(b:Bool):Prop:=match x with
 |.int _=>(T = "int" /\ b=true) \/ (T = "bool" /\ b=false) \/ (T = "list" /\ b=false) \/ (T = "tuple" /\ b=false) \/ (T = "str" /\ b=false)
 |.bl _=>(T = "int" /\ b=true) \/ (T = "bool" /\ b=true) \/ (T = "list" /\ b=false) \/ (T = "tuple" /\ b=false) \/ (T = "str" /\ b=false)
 |.non=>(T = "int" /\ b=false) \/ (T = "bool" /\ b=false) \/ (T = "list" /\ b=false) \/ (T = "tuple" /\ b=false) \/ (T = "str" /\ b=false)
 |.str _=>(T = "int" /\ b=false) \/ (T = "bool" /\ b=false) \/ (T = "list" /\ b=false) \/ (T = "tuple" /\ b=false) \/ (T = "str" /\ b=true)
 | .ref p=>((∃ xs,SqL K H p xs) /\ ((T = "int" /\ b = false) \/ (T = "bool" /\ b = false) \/ (T = "list" /\ b = true) \/ (T = "tuple" /\ b = false) \/ (T = "str" /\ b = false))) \/
    ((∃ xs,SqT K H p xs) /\ ((T = "int" /\ b=false) \/ (T = "bool" /\ b=false) \/ (T = "list" /\ b=false) \/ (T = "tuple" /\ b=true) \/ (T = "str" /\ b=false)))
 |_=>False
theorem rJ:qu X (.builtin "isinstance") (fun xs H Q=>∃ x T b,xs=[x,.ty T] /\ IsV X.K T x H b /\ Q (.bl b) H):=by
 intro pins s σ H vs us Q I rv h;obtain⟨x,T,b,rfl,hv,q⟩:=h;obtain⟨u,v,rfl,ru,rT⟩:=rv.two;cases rT
 cases x with
 | int i=>
   obtain⟨t,rfl⟩:=ru
   rcases hv with⟨rfl,rfl⟩|⟨rfl,rfl⟩|⟨rfl,rfl⟩|⟨rfl,rfl⟩|⟨rfl,rfl⟩
   . exact IsiPair.int_int ⟨.bl _,H,I,rfl,q⟩
   . exact IsiPair.int_bool ⟨.bl _,H,I.tok _,rfl,q⟩
   . exact IsiPair.int_list ⟨.bl _,H,I.tok _,rfl,q⟩
   . exact IsiPair.int_tuple ⟨.bl _,H,I.tok _,rfl,q⟩
   . exact IsiPair.int_str ⟨.bl _,H,I.tok _,rfl,q⟩
 | bl i=>
   cases ru
   rcases hv with⟨rfl,rfl⟩|⟨rfl,rfl⟩|⟨rfl,rfl⟩|⟨rfl,rfl⟩|⟨rfl,rfl⟩
   . exact IsiPair.bool_int ⟨.bl _,H,I,rfl,q⟩
   . exact IsiPair.bool_bool ⟨.bl _,H,I,rfl,q⟩
   . exact IsiPair.bool_list ⟨.bl _,H,I.tok _,rfl,q⟩
   . exact IsiPair.bool_tuple ⟨.bl _,H,I.tok _,rfl,q⟩
   . exact IsiPair.bool_str ⟨.bl _,H,I.tok _,rfl,q⟩
 | non=>
   cases ru
   rcases hv with⟨rfl,rfl⟩|⟨rfl,rfl⟩|⟨rfl,rfl⟩|⟨rfl,rfl⟩|⟨rfl,rfl⟩
   . exact IsiPair.NoneType_int ⟨.bl _,H,I.tok _,rfl,q⟩
   . exact IsiPair.NoneType_bool ⟨.bl _,H,I.tok _,rfl,q⟩
   . exact IsiPair.NoneType_list ⟨.bl _,H,I.tok _,rfl,q⟩
   . exact IsiPair.NoneType_tuple ⟨.bl _,H,I.tok _,rfl,q⟩
   . exact IsiPair.NoneType_str ⟨.bl _,H,I.tok _,rfl,q⟩
 | str i=>
   obtain⟨t,rfl⟩:=ru
   rcases hv with⟨rfl,rfl⟩|⟨rfl,rfl⟩|⟨rfl,rfl⟩|⟨rfl,rfl⟩|⟨rfl,rfl⟩
   . exact IsiPair.str_int ⟨.bl _,H,I.tok _,rfl,q⟩
   . exact IsiPair.str_bool ⟨.bl _,H,I.tok _,rfl,q⟩
   . exact IsiPair.str_list ⟨.bl _,H,I.tok _,rfl,q⟩
   . exact IsiPair.str_tuple ⟨.bl _,H,I.tok _,rfl,q⟩
   . exact IsiPair.str_str ⟨.bl _,H,I,rfl,q⟩
 | ref p=>
   cases ru
   rcases hv with⟨⟨xs,hS⟩,hv⟩|⟨⟨xs,hS⟩,hv⟩
   . obtain⟨its,r,pl,hz⟩:=I.list hS;obtain⟨o,e,c,_⟩:=pl.isList
     rcases hv with⟨rfl,rfl⟩|⟨rfl,rfl⟩|⟨rfl,rfl⟩|⟨rfl,rfl⟩|⟨rfl,rfl⟩
     . exact IsiPair.list_int e c ⟨.bl _,H,I.tok _,rfl,q⟩
     . exact IsiPair.list_bool e c ⟨.bl _,H,I.tok _,rfl,q⟩
     . exact IsiPair.list_list e c ⟨.bl _,H,I,rfl,q⟩
     . exact IsiPair.list_tuple e c ⟨.bl _,H,I.tok _,rfl,q⟩
     . exact IsiPair.list_str e c ⟨.bl _,H,I.tok _,rfl,q⟩
   . obtain⟨its,r,pl,hz⟩:=I.tuple hS;obtain⟨o,e,c,_⟩:=pl
     rcases hv with⟨rfl,rfl⟩|⟨rfl,rfl⟩|⟨rfl,rfl⟩|⟨rfl,rfl⟩|⟨rfl,rfl⟩
     . exact IsiPair.tuple_int e c ⟨.bl _,H,I.tok _,rfl,q⟩
     . exact IsiPair.tuple_bool e c ⟨.bl _,H,I.tok _,rfl,q⟩
     . exact IsiPair.tuple_list e c ⟨.bl _,H,I.tok _,rfl,q⟩
     . exact IsiPair.tuple_tuple e c ⟨.bl _,H,I,rfl,q⟩
     . exact IsiPair.tuple_str e c ⟨.bl _,H,I.tok _,rfl,q⟩
 |_=>exact hv.elim
theorem boot_bool:bootBuiltins "bool" = some (.type "bool"):=by decide +kernel
theorem boot_isinstance:bootBuiltins "isinstance" = some (.builtin "isinstance"):=by decide +kernel
theorem boot_all:bootBuiltins "all" = some (.builtin "all"):=by decide +kernel
theorem boot_tuple:bootBuiltins "tuple" = some (.type "tuple"):=by decide +kernel
theorem boot_int:bootBuiltins "int" = some (.type "int"):=by decide +kernel
theorem boot_len:bootBuiltins "len" = some (.builtin "len"):=by decide +kernel
end
section
variable{P:Program}{w:World}{K:PySem.W.Frag}{mg:Str->Option Value}{base:Heap}
theorem okX{x qual:Str}{st:Stmt}{f:Addr}{fd:FuncData}{N ps:List Str}{k:Nat}{sp:Sp}(F:Fun K x qual st f fd)(S:aY N ps (aK st))(len:∀ vs H Q E,sp vs H Q E->vs.length=ps.length)
  (hbody:∀(cdv:Value) (A:Around) (outer:List Env) (s:Shared) (H:Hp) (vs:List V) (Q:VK) (E:XK),gT k (A.deeper (envOfC qual (aK st) s.heap.objs.size f cdv))->sp vs H Q E ->
    ∃ t,PSs (qq (CXE P w) P w K mg base N qual (aK st) f cdv A outer s H E) (dF st) t /\ t { nx:=fun _ H'=>Q .non H',rt:=Q } (start N vs) H):cA P w K mg base (CXE P w) (k+1) f fd ps sp:=by
 obtain⟨oc,od,kV,doc,pm,an,cdv,ct,osl,rfl,lk,hcd⟩:=F.ex
 exact Gm lk hcd S len fun A outer s H vs Q E hr hsp=>hbody cdv A outer s H vs Q E hr hsp
end
theorem SqL.new{K:PySem.W.Frag}{H:Hp}{p:Addr}{xs:List V}(h:H p=some (.lst xs)):SqL K H p xs:=.inl (.inl h)
theorem SqT.new{K:PySem.W.Frag}{H:Hp}{p:Addr}{xs:List V}(h:H p=some (.tup xs)):SqT K H p xs:=.inl (.inl h)
theorem CG{H:Hp}{p q:Addr}{o:HO}(h:H q=some o)(n:H p=none):q≠p:=fun z=>by rw[z,n]at h;cases h
theorem _root_.L2.aM.upd{H H':Hp}{p:Addr}{o:HO}(e:aM H H')(n:H p=none):aM H (upd H' p o):=fun b u h=>by
 rw[bD (CG h n)];exact e b u h
theorem _root_.L2.aM.new{H:Hp}{p:Addr}{o:HO}(n:H p=none):aM H (L2.upd H p o):=(aM.refl H).upd n
abbrev Goes(H:Hp)(E:XK)(C:Addr)(dx:Option Addr):Prop:=∀ H' a,aM H H'->H' a=some (vQ a C dx)->E (.ref C) (some a) H'
section
variable{X:Cx}
noncomputable def C2(K:PySem.W.Frag):R2:=fun x y H Q=>∃ l b xs zs,x=.ref l /\ y=.ref b /\ SqL K H l xs /\ SqL K H b zs /\ xs.length+zs.length<=sizeLine /\ ∀ p,H p=none->Q (.ref p) (upd H p (.lst (xs++zs)))
theorem kB:OpR X (binaryOp .Add) (C2 X.K):=by
 intro pins s σ H x y v u Q I rx ry h;obtain⟨l,b,xs,zs,rfl,rfl,hH,hB,hz,q⟩:=h;cases rx;cases ry;obtain⟨its,r,pl,_⟩:=I.list hH;obtain⟨its2,r2,pl2,_⟩:=I.list hB;obtain⟨⟨cls,dd,data,sl⟩,ho,hc,n,hd⟩:=pl.isList;obtain⟨⟨cls2,dd2,data2,sl2⟩,ho2,hc2,n2,hd2⟩:=pl2.isList;simp only at hc hd hc2 hd2;subst hc hd hc2 hd2
 have hsz:its.toArray.size+its2.toArray.size<=sizeLine:=by rw[List.size_toArray,List.size_toArray,<- r.length,<- r2.length];exact hz
 refine concat_meets ⟨_,ho,rfl⟩ ⟨_,ho2,rfl⟩ noFill_list_add seq_list_add PySem.F.slot_list_add PySem.F.entry_list_add (PySem.F.args_list_add_2 _ _) (list_addW l b its.toArray its2.toArray n n2 dd dd2 sl sl2 hsz) ⟨ho,ho2,?_⟩
 have ea:its.toArray++its2.toArray=(its++its2).toArray:=by simp
 rw[ea]
 exact⟨.ref _,_,I.D0 (t':=s.toks) (r.append r2) (by rw[List.length_append];exact hz),rfl,q _ I.fresh⟩
theorem za:qu X (.builtin "all") (fun xs H Q=>∃(p:Addr) (bs:List Bool),xs=[.ref p] /\ SqL X.K H p (bs.map V.bl) /\ X.A.handled=none /\ Q (.bl (bs.all id)) H):=by
 intro pins s σ H vs us Q I rv h;obtain⟨p,bs,rfl,hp,hh,q⟩:=h;obtain⟨u,rfl,ru⟩:=rv.one;cases ru;obtain⟨its,r,pl,_⟩:=I.list hp;have hl:=r.length
 have isl:s.heap.IsList p its.toArray:=pl.isList
 obtain⟨o,e,_⟩:=id isl;refine call_all_walk (wpAny_pyIter_list isl ?_)
 have ne:p≠s.heap.objs.size:=Nat.ne_of_lt (Heap.lt_size e)
 have tv:∀(i:Nat) (v:Value),its.toArray[i]?=some v->∃ b,bs[i]?=some b /\ v=Value.bool b:=fun i v hv=>by
  have hv':its[i]?=some v:=by simpa using hv
  have hi:i<its.length:=(List.getElem?_eq_some_iff.mp hv').1
  rw[<- hl,List.length_map]at hi
  have hx:(bs.map V.bl)[i]?=some (V.bl bs[i]):=by simp[hi]
  obtain⟨u,hu,ru⟩:=r.get hx;rw[hv']at hu;cases hu
  exact⟨bs[i],by simp[hi],ru⟩
 refine⟨s.heap.objs.size,_,_,_,_,_,(fun i=>(bs[i]?).getD false),rfl,Walks.list (A:=X.A.in1) hh s.heap.objs.size p ne its.toArray,⟨⟨_,Heap.get?_push_size _ rfl,rfl,rfl⟩,isl.at fun o e=>Heap.get?_push_of_some _ e⟩,fun i v s' Q' E' hP hQ=>?_,fun h' tk hk=>?_⟩
 . obtain⟨b,hb,rfl⟩:=tv i v hP
   have hQ':Q' ((bs[i]?).getD false) s':=hQ
   rw[hb]at hQ';exact wpAny_truthy_bool hQ'
 . have en:its.toArray.size=bs.length:=by rw[List.size_toArray,<- hl,List.length_map]
   have eb:(List.range its.toArray.size).all (fun i=>(bs[i]?).getD false)=bs.all id:=by
    rw[en];rw[Bool.eq_iff_iff,List.all_eq_true,List.all_eq_true];constructor
    . intro hA b hb;obtain⟨i,hi,rfl⟩:=List.mem_iff_getElem.mp hb;have:=hA i (by simpa using hi)
      simpa [hi]using this
    . intro hA i hi
      have hi':i<bs.length:=by simpa using hi
      have:=hA bs[i] (List.getElem_mem hi')
      simpa [hi']using this
   rw[eb]
   refine⟨.bl _,H,I.kept (h':=h') (t':=tk) fun b o e'=>hk b o ?_ (Heap.get?_push_of_some _ e'),rfl,q⟩
   have lt:=Heap.lt_size e';intro z
   have z':b=s.heap.objs.size:=by simpa using z
   exact absurd (z' ▸ lt) (Nat.lt_irrefl _)
end
noncomputable def isStar:Expr->Bool
 |.Starred ..=>true
 |_=>false
theorem yF{e:Expr}{es:List Expr}{env:Env}(h:isStar e=false):starEach (e ::es) env=(false,eval e env) ::starEach es env:=by
 cases e<;>first|rfl|cases h
theorem Ag{X:Cx}{e:Expr}{es:List Expr}{te:TE}{t:TA}(ha:PE X e te)(hr:PA X es t)(hs:isStar e=false:=by rfl):PA X (e ::es) (jT te t):=CJ ha hr (yF hs)
end L2.E
namespace L2.P
open PySem
noncomputable def ixP(n:Nat)(i:Int):Option Nat:=if 0<=i then(if i<n then some i.toNat else none)else if -(n:Int)<=i then some (i+n).toNat else none
noncomputable def atP{α:Type}(xs:List α)(i:Int):Option α:=(ixP xs.length i).bind fun j=>xs[j]?
noncomputable def Aa(n d:Nat):Option Int->Nat
 |none=>d
 |some v=>if v<0 then(v+(n:Int)).toNat else min v.toNat n
inductive PV where
 |non|bl (b:Bool)|int (i:Int)|str (s:Str)|lst (xs:List PV)|tup (xs:List PV)
inductive OV where
 | sh (x:PV)|ol (ts:List OV)|ob (c:String) (ks:List Str) (ts:List OV)
   |di (kvs:List (Int×PV))|dt (kvs:List (List Int×PV))
inductive Sl where
 | sh (x:PV)|ow (xs:List PV)|ex (c:String) (fs:List (Str×PV))
   |tr (io:Bool) (t:OV)|bo (t:OV)
abbrev aj:=List (Option Sl)
inductive RV where
 |sh (x:PV)|fr (xs:List PV)|al (xs:List PV)
noncomputable def RV.pv:RV->PV
 |.sh x=>x
 |.fr xs=>.lst xs
 |.al xs=>.lst xs
abbrev XF:=List (Str×PV)
inductive OE where
 |ok (r:RV)|exc (c:String) (fs:XF)|bad
inductive OT where
 |ok (b:Bool)|exc (c:String) (fs:XF)|bad
inductive OA where
 |ok (xs:List PV)|exc (c:String) (fs:XF)|bad
inductive OS where
 |nx (ρ:aj)|rt (ρ:aj) (r:RV)|bk (ρ:aj)|ct (ρ:aj)|exc (ρ:aj) (c:String) (fs:XF)|bad
noncomputable def OE.bind:OE->(RV->OE)->OE
 |.ok r,f=>f r
 |.exc c fs,_=>.exc c fs
 |.bad,_=>.bad
noncomputable def OE.fI:OE->(RV->OT)->OT
 |.ok r,f=>f r
 |.exc c fs,_=>.exc c fs
 |.bad,_=>.bad
noncomputable def OE.fh:OE->(RV->OA)->OA
 |.ok r,f=>f r
 |.exc c fs,_=>.exc c fs
 |.bad,_=>.bad
noncomputable def OE.cq(ρ:aj):OE->(RV->OS)->OS
 |.ok r,f=>f r
 |.exc c fs,_=>.exc ρ c fs
 |.bad,_=>.bad
noncomputable def OT.bind:OT->(Bool->OE)->OE
 |.ok r,f=>f r
 |.exc c fs,_=>.exc c fs
 |.bad,_=>.bad
noncomputable def OT.fI:OT->(Bool->OT)->OT
 |.ok r,f=>f r
 |.exc c fs,_=>.exc c fs
 |.bad,_=>.bad
noncomputable def OT.cq(ρ:aj):OT->(Bool->OS)->OS
 |.ok r,f=>f r
 |.exc c fs,_=>.exc ρ c fs
 |.bad,_=>.bad
noncomputable def OA.bind:OA->(List PV->OE)->OE
 |.ok r,f=>f r
 |.exc c fs,_=>.exc c fs
 |.bad,_=>.bad
noncomputable def OA.fh:OA->(List PV->OA)->OA
 |.ok r,f=>f r
 |.exc c fs,_=>.exc c fs
 |.bad,_=>.bad
noncomputable def OA.cq(ρ:aj):OA->(List PV->OS)->OS
 |.ok r,f=>f r
 |.exc c fs,_=>.exc ρ c fs
 |.bad,_=>.bad
noncomputable def ak(i:Nat):aj->OE:=fun ρ=>match ρ[i]? with
 |some (some (.sh x))=>.ok (.sh x)
 |some (some (.ow xs))=>.ok (.al xs)
 |_=>.bad
noncomputable def mC(x:PV):aj->OE:=fun _=>.ok (.sh x)
noncomputable def oE:Option RV->OE
 |some r=>.ok r
 |none=>.bad
noncomputable def mOp(g:PV->PV->Option RV)(ma mb:aj->OE):aj->OE:=fun ρ=>(ma ρ).bind fun a=>(mb ρ).bind fun b=>oE (g a.pv b.pv)
noncomputable def gI(C:Int->Int->Bool)(f:Int->Int->PV):PV->PV->Option RV
 |.int i,.int j=>if C i j then some (.sh (f i j))else none
 |_,_=>none
noncomputable def cu:=gI (fun _ _=>true) fun i j=>.int (i+j)
noncomputable def nk:=gI (fun _ _=>true) fun i j=>.int (i - j)
noncomputable def yO:=gI (fun i j=>(decide (-(2 ^ 64)<i)&&decide (i<2 ^ 64))||(decide (-(2 ^ 64)<j)&&decide (j<2 ^ 64))) fun i j=>.int (i*j)
noncomputable def sW:=gI (fun _ j=>decide (0<j)&&decide (j<1073741824)) fun i j=>.int (i/j)
noncomputable def oa:=gI (fun _ j=>decide (0<j)) fun i j=>.int (i%j)
noncomputable def gLt:=gI (fun _ _=>true) fun i j=>.bl (decide (i<j))
noncomputable def gLe:=gI (fun _ _=>true) fun i j=>.bl (decide (i<=j))
noncomputable def gGt:=gI (fun _ _=>true) fun i j=>.bl (decide (j<i))
noncomputable def gGe:=gI (fun _ _=>true) fun i j=>.bl (decide (j<=i))
noncomputable def eqS:PV->PV->Option Bool
 |.non,.non=>some true|.non,.int _=>some false|.int _,.non=>some false|.non,.bl _=>some false|.bl _,.non=>some false|.non,.str _=>some false|.str _,.non=>some false
 |.int a,.int b=>some (decide (a=b))|.bl a,.bl b=>some (decide (a=b))|.str a,.str b=>some (decide (a=b))
 |.int _,.str _=>some false|.str _,.int _=>some false|.bl _,.str _=>some false|.str _,.bl _=>some false
 |_,_=>none
noncomputable def gEq:PV->PV->Option RV:=fun x y=>(eqS x y).map fun b=>.sh (.bl b)
noncomputable def gNe:PV->PV->Option RV:=fun x y=>(eqS x y).map fun b=>.sh (.bl (!b))
noncomputable def jx:RV->Option PV
 |.sh x=>some x
 |.fr xs=>some (.lst xs)
 |.al _=>none
noncomputable def aB:aj->OA:=fun _=>.ok []
noncomputable def af(me:aj->OE)(mr:aj->OA):aj->OA:=fun ρ=>(me ρ).fh fun r=>match jx r with
 |some x=>(mr ρ).fh fun xs=>.ok (x ::xs)
 |none=>.bad
noncomputable def lim:Nat:=16777216
noncomputable def ba(ma:aj->OA):aj->OE:=fun ρ=>(ma ρ).bind fun xs=>if xs.length<=lim then .ok (.fr xs)else .bad
noncomputable def cB(ma:aj->OA):aj->OE:=fun ρ=>(ma ρ).bind fun xs=>if xs.length<=lim then .ok (.sh (.tup xs))else .bad
noncomputable def bU(f:List PV->OE)(ma:aj->OA):aj->OE:=fun ρ=>(ma ρ).bind f
noncomputable def mUn(g:PV->Option RV)(ma:aj->OE):aj->OE:=fun ρ=>(ma ρ).bind fun a=>oE (g a.pv)
noncomputable def lg:PV->Option RV
 |.int i=>some (.sh (.int (-i)))
 |_=>none
noncomputable def gF:PV->Option RV
 |.lst xs=>some (.sh (.int xs.length))
 |.tup xs=>some (.sh (.int xs.length))
 |_=>none
noncomputable def qH:PV->Option RV
 |.int i=>some (.sh (.int i))
 |.bl b=>some (.sh (.int (if b then 1 else 0)))
 |_=>none
noncomputable def bc:PV->PV->Option RV
 |.lst xs,.int i=>(atP xs i).map .sh
 |_,_=>none
noncomputable def fH:PV->PV->Option RV
 |.tup xs,.int i=>(atP xs i).map .sh
 |_,_=>none
noncomputable def pH:PV->PV->Option RV
 |.lst xs,.lst ys=>if xs.length+ys.length<=lim then some (.fr (xs++ys))else none
 |_,_=>none
noncomputable def pz:List PV->Option (List Bool)
 |[]=>some []
 |.bl i ::r=>(pz r).map (i ::·)
 |_ ::_=>none
noncomputable def CM:PV->Option RV
 |.lst xs=>(pz xs).map fun bs=>.sh (.bl (bs.all id))
 |_=>none
noncomputable def isP(T:String):PV->Option Bool
 |.int _=>if T = "int" then some true else if T = "bool" \/ T = "list" \/ T = "tuple" \/ T = "str" then some false else none
 |.bl _=>if T = "int" \/ T = "bool" then some true else if T = "list" \/ T = "tuple" \/ T = "str" then some false else none
 |.non=>if T = "int" \/ T = "bool" \/ T = "list" \/ T = "tuple" \/ T = "str" then some false else none
 |.str _=>if T = "str" then some true else if T = "int" \/ T = "bool" \/ T = "list" \/ T = "tuple" then some false else none
 |.lst _=>if T = "list" then some true else if T = "int" \/ T = "bool" \/ T = "tuple" \/ T = "str" then some false else none
 |.tup _=>if T = "tuple" then some true else if T = "int" \/ T = "bool" \/ T = "list" \/ T = "str" then some false else none
noncomputable def mIs(T:String)(ma:aj->OE):aj->OE:=mUn (fun x=>(isP T x).map fun b=>.sh (.bl b)) ma
noncomputable def jv:PV->Option Bool
 |.non=>some false
 |.bl b=>some b
 |.int i=>some (i != 0)
 |.lst xs=>some (!xs.isEmpty)
 |.tup xs=>some (!xs.isEmpty)
 |.str _=>none
noncomputable def oT:Option Bool->OT
 |some b=>.ok b
 |none=>.bad
noncomputable def dn(ma:aj->OE):aj->OT:=fun ρ=>(ma ρ).fI fun r=>oT (jv r.pv)
noncomputable def au(ma:aj->OE):aj->OT:=fun ρ=>(ma ρ).fI fun r=>match r.pv with
 |.bl b=>.ok b
 |_=>.bad
noncomputable def kE(m:aj->OT):aj->OT:=fun ρ=>(m ρ).fI fun b=>.ok (!b)
noncomputable def cQ(m n:aj->OT):aj->OT:=fun ρ=>(m ρ).fI fun b=>if b=true then n ρ else .ok false
noncomputable def lH(m n:aj->OT):aj->OT:=fun ρ=>(m ρ).fI fun b=>if b=true then .ok true else n ρ
noncomputable def oA(m n:aj->OE):aj->OE:=fun ρ=>(m ρ).bind fun r=>match r.pv with
 |.bl b=>if b=true then n ρ else .ok (.sh (.bl false))
 |_=>.bad
noncomputable def zJ(m:aj->OE):aj->OE:=fun ρ=>(m ρ).bind fun r=>match r.pv with
 |.bl b=>.ok (.sh (.bl (!b)))
 |_=>.bad
noncomputable def fi(c:aj->OT)(m n:aj->OE):aj->OE:=fun ρ=>(c ρ).bind fun b=>if b=true then m ρ else n ρ
noncomputable def bL(g g':PV->PV->Option RV)(ma mb mc:aj->OE):aj->OE:=fun ρ=>(ma ρ).bind fun a=>(mb ρ).bind fun b=>(oE (g a.pv b.pv)).bind fun r=>match r.pv with
 |.bl k=>if k=true then(mc ρ).bind fun c=>oE (g' b.pv c.pv)else .ok (.sh (.bl false))
 |_=>.bad
noncomputable def OS.andThen:OS->(aj->OS)->OS
 |.nx ρ,k=>k ρ
 |o,_=>o
noncomputable def OS.turn:OS->(aj->OS)->OS
 |.nx ρ,k=>k ρ
 |.ct ρ,k=>k ρ
 |.bk ρ,_=>.nx ρ
 |o,_=>o
noncomputable def aN(a b:aj->OS):aj->OS:=fun ρ=>(a ρ).andThen b
noncomputable def aO:aj->OS:=fun ρ=>.nx ρ
noncomputable def qc:RV->Option Sl
 |.sh x=>some (.sh x)
 |.fr xs=>some (.ow xs)
 |.al _=>none
noncomputable def aU(i:Nat)(me:aj->OE):aj->OS:=fun ρ=>(me ρ).cq ρ fun r=>match qc r with
 |some s=>.nx (ρ.set i (some s))
 |none=>.bad
noncomputable def bp(c:aj->OT)(m n:aj->OS):aj->OS:=fun ρ=>(c ρ).cq ρ fun b=>if b=true then m ρ else n ρ
noncomputable def aS(me:aj->OE):aj->OS:=fun ρ=>(me ρ).cq ρ fun r=>match r with
 |.al _=>.bad
 |r=>.rt ρ r
noncomputable def kx(i:Nat):aj->OS:=fun ρ=>match ρ[i]? with
 |some (some (.sh x))=>.rt ρ (.sh x)
 |some (some (.ow xs))=>.rt (ρ.set i none) (.fr xs)
 |_=>.bad
noncomputable def mB(i:Nat)(ρ:aj):aj:=match ρ[i]? with
 |some (some (.ow xs))=>ρ.set i (some (.sh (.lst xs)))
 |_=>ρ
noncomputable def pA(i:Nat)(me:aj->OE):aj->OS:=fun ρ=>match ρ[i]? with
 | some (some (.ow xs))=>(me ρ).cq ρ fun r=>match jx r with
   |some y=>if xs.length<lim then .nx (ρ.set i (some (.ow (xs++[y]))))else .bad
   |none=>.bad
 |_=>.bad
noncomputable def eM(i:Nat)(mb:aj->OS):List PV->aj->OS
 |[],ρ=>.nx ρ
 |x ::xs,ρ=>(mb (ρ.set i (some (.sh x)))).turn (eM i mb xs)
noncomputable def wb:RV->Option (List PV)
 |.sh (.lst xs)=>some xs
 |.fr xs=>some xs
 |_=>none
noncomputable def rC(i:Nat)(ml:aj->OE)(mb:aj->OS):aj->OS:=fun ρ=>(ml ρ).cq ρ fun r=>match wb r with
 |some xs=>eM i mb xs ρ
 |none=>.bad
noncomputable def gL(n:Nat):List PV:=(List.range n).map fun k:Nat=>PV.int (k:Int)
noncomputable def ka(i:Nat)(me:aj->OE)(mb:aj->OS):aj->OS:=fun ρ=>(me ρ).cq ρ fun r=>match r.pv with
 |.int j=>if -(2 ^ 62)<=j /\ j<2 ^ 62 then eM i mb (gL j.toNat) ρ else .bad
 |_=>.bad
noncomputable def cJ(mc:aj->OT)(mb:aj->OS):Nat->aj->OS
 |0,_=>.bad
 |n+1,ρ=>(mc ρ).cq ρ fun b=>if b=true then(mb ρ).turn (cJ mc mb n)else .nx ρ
noncomputable def qw:PV->Option Int
 |.int i=>some i
 |_=>none
noncomputable def vW(m:aj->OE):aj->OE:=fun ρ=>(m ρ).bind fun r=>match r.pv with
 |.int i=>.ok (.sh (.int i))
 |_=>.bad
noncomputable def A4(xs:List PV)(lo hi:Option Int):List PV:=(xs.drop (Aa xs.length 0 lo)).take (Aa xs.length xs.length hi - Aa xs.length 0 lo)
noncomputable def BL(x:PV)(lo hi:Option Int):Option RV:=match x with
 |.lst xs=>some (.fr (A4 xs lo hi))
 |_=>none
noncomputable def CY(ma ml mh:aj->OE):aj->OE:=fun ρ=>(ma ρ).bind fun a=>(ml ρ).bind fun l=>(mh ρ).bind fun h=>oE (BL a.pv (qw l.pv) (qw h.pv))
noncomputable def e6(ι:List Nat)(ρ:aj):aj:=ι.map fun i=>(ρ[i]?).join
noncomputable def fu(me:aj->OE)(ρ:aj):List PV->OA
 |[]=>.ok []
 | x ::xs=>(me (ρ++[some (.sh x)])).fh fun r=>match jx r with
   |some y=>(fu me ρ xs).fh fun ys=>.ok (y ::ys)
   |none=>.bad
noncomputable def noX:OA->OE
 |.ok xs=>if xs.length<=lim then .ok (.fr xs)else .bad
 |_=>.bad
noncomputable def w9(ml:aj->OE)(ι:List Nat)(me:aj->OE):aj->OE:=fun ρ=>(ml ρ).bind fun r=>match r.pv with
 |.lst xs=>noX (fu me (e6 ι ρ) xs)
 |_=>.bad
noncomputable def fin:OS->OE
 |.nx _=>.ok (.sh .non)
 |.rt _ (.al _)=>.bad
 |.rt _ r=>.ok r
 |.exc _ c fs=>.exc c fs
 |_=>.bad
noncomputable def ft(n:Nat)(xs:List PV):aj:=xs.map (fun x=>some (.sh x))++List.replicate (n - xs.length) none
noncomputable def fnP(np n:Nat)(m:aj->OS):List PV->OE:=fun xs=>if xs.length=np then fin (m (ft n xs))else .bad
noncomputable def fuel:Nat:=100000
noncomputable def jm(i:Nat)(m:aj->OS):aj->OS:=fun ρ=>m (mB i ρ)
noncomputable def cL:PV->Bool
 |.non=>true
 |_=>false
noncomputable def rB:PV->PV->Option RV
 |x,.non=>some (.sh (.bl (cL x)))
 |_,_=>none
noncomputable def vX:PV->PV->Option RV
 |x,.non=>some (.sh (.bl (!cL x)))
 |_,_=>none
@[simp] theorem sQ(i:Nat)(ρ:aj):ak i ρ=(match ρ[i]? with
  |some (some (.sh x))=>.ok (.sh x)
  |some (some (.ow xs))=>.ok (.al xs)
  |_=>.bad):=rfl
@[simp] theorem F8(g:PV->PV->Option RV)(ma mb:aj->OE)(ρ:aj):mOp g ma mb ρ=((ma ρ).bind fun a=>(mb ρ).bind fun b=>oE (g a.pv b.pv)):=rfl
@[simp] theorem GQ(me:aj->OE)(mr:aj->OA)(ρ:aj):af me mr ρ=((me ρ).fh fun r=>match jx r with
  |some x=>(mr ρ).fh fun xs=>.ok (x ::xs)
  |none=>.bad):=rfl
@[simp] theorem Hs(ma:aj->OA)(ρ:aj):ba ma ρ=((ma ρ).bind fun xs=>if xs.length<=lim then .ok (.fr xs)else .bad):=rfl
@[simp] theorem HH(ma:aj->OA)(ρ:aj):cB ma ρ=((ma ρ).bind fun xs=>if xs.length<=lim then .ok (.sh (.tup xs))else .bad):=rfl
@[simp] theorem GZ(f:List PV->OE)(ma:aj->OA)(ρ:aj):bU f ma ρ=((ma ρ).bind f):=rfl
@[simp] theorem zR(g:PV->Option RV)(ma:aj->OE)(ρ:aj):mUn g ma ρ=((ma ρ).bind fun a=>oE (g a.pv)):=rfl
@[simp] theorem AQ(ma:aj->OE)(ρ:aj):dn ma ρ=((ma ρ).fI fun r=>oT (jv r.pv)):=rfl
@[simp] theorem Cn(ma:aj->OE)(ρ:aj):au ma ρ=((ma ρ).fI fun r=>match r.pv with
  |.bl b=>.ok b
  |_=>.bad):=rfl
@[simp] theorem GJ(m:aj->OT)(ρ:aj):kE m ρ=((m ρ).fI fun b=>.ok (!b)):=rfl
@[simp] theorem BR(m n:aj->OT)(ρ:aj):cQ m n ρ=((m ρ).fI fun b=>if b=true then n ρ else .ok false):=rfl
@[simp] theorem HR(m n:aj->OT)(ρ:aj):lH m n ρ=((m ρ).fI fun b=>if b=true then .ok true else n ρ):=rfl
@[simp] theorem GB(m n:aj->OE)(ρ:aj):oA m n ρ=((m ρ).bind fun r=>match r.pv with
  |.bl b=>if b=true then n ρ else .ok (.sh (.bl false))
  |_=>.bad):=rfl
@[simp] theorem Gx(m:aj->OE)(ρ:aj):zJ m ρ=((m ρ).bind fun r=>match r.pv with
  |.bl b=>.ok (.sh (.bl (!b)))
  |_=>.bad):=rfl
@[simp] theorem Hc(c:aj->OT)(m n:aj->OE)(ρ:aj):fi c m n ρ=((c ρ).bind fun b=>if b=true then m ρ else n ρ):=rfl
@[simp] theorem FR(g g':PV->PV->Option RV)(ma mb mc:aj->OE)(ρ:aj):bL g g' ma mb mc ρ=((ma ρ).bind fun a=>(mb ρ).bind fun b=>(oE (g a.pv b.pv)).bind fun r=>match r.pv with
  |.bl k=>if k=true then(mc ρ).bind fun c=>oE (g' b.pv c.pv)else .ok (.sh (.bl false))
  |_=>.bad):=rfl
@[simp] theorem wZ(a b:aj->OS)(ρ:aj):aN a b ρ=((a ρ).andThen b):=rfl
@[simp] theorem GN(ρ:aj):aO  ρ=(.nx ρ):=rfl
@[simp] theorem HC(i:Nat)(me:aj->OE)(ρ:aj):aU i me ρ=((me ρ).cq ρ fun r=>match qc r with
  |some s=>.nx (ρ.set i (some s))
  |none=>.bad):=rfl
@[simp] theorem Es(c:aj->OT)(m n:aj->OS)(ρ:aj):bp c m n ρ=((c ρ).cq ρ fun b=>if b=true then m ρ else n ρ):=rfl
@[simp] theorem zE(me:aj->OE)(ρ:aj):aS me ρ=((me ρ).cq ρ fun r=>match r with
  |.al _=>.bad
  |r=>.rt ρ r):=rfl
@[simp] theorem FK(i:Nat)(ρ:aj):kx i ρ=(match ρ[i]? with
  |some (some (.sh x))=>.rt ρ (.sh x)
  |some (some (.ow xs))=>.rt (ρ.set i none) (.fr xs)
  |_=>.bad):=rfl
@[simp] theorem FI(i:Nat)(me:aj->OE)(ρ:aj):pA i me ρ=(match ρ[i]? with
  | some (some (.ow xs))=>(me ρ).cq ρ fun r=>match jx r with
    |some y=>if xs.length<lim then .nx (ρ.set i (some (.ow (xs++[y]))))else .bad
    |none=>.bad
  |_=>.bad):=rfl
@[simp] theorem GF(i:Nat)(ml:aj->OE)(mb:aj->OS)(ρ:aj):rC i ml mb ρ=((ml ρ).cq ρ fun r=>match wb r with
  |some xs=>eM i mb xs ρ
  |none=>.bad):=rfl
@[simp] theorem GY(i:Nat)(me:aj->OE)(mb:aj->OS)(ρ:aj):ka i me mb ρ=((me ρ).cq ρ fun r=>match r.pv with
  |.int j=>if -(2 ^ 62)<=j /\ j<2 ^ 62 then eM i mb (gL j.toNat) ρ else .bad
  |_=>.bad):=rfl
@[simp] theorem GI(m:aj->OE)(ρ:aj):vW m ρ=((m ρ).bind fun r=>match r.pv with
  |.int i=>.ok (.sh (.int i))
  |_=>.bad):=rfl
@[simp] theorem He(ma ml mh:aj->OE)(ρ:aj):CY ma ml mh ρ=((ma ρ).bind fun a=>(ml ρ).bind fun l=>(mh ρ).bind fun h=>oE (BL a.pv (qw l.pv) (qw h.pv))):=rfl
@[simp] theorem Be(ml:aj->OE)(ι:List Nat)(me:aj->OE)(ρ:aj):w9 ml ι me ρ=((ml ρ).bind fun r=>match r.pv with
  |.lst xs=>noX (fu me (e6 ι ρ) xs)
  |_=>.bad):=rfl
@[simp] theorem n0(i:Nat)(m:aj->OS)(ρ:aj):jm i m ρ=(m (mB i ρ)):=rfl
@[simp] theorem Gu(x:PV)(ρ:aj):mC x ρ=.ok (.sh x):=rfl
@[simp] theorem Hy(ρ:aj):aB ρ=.ok []:=rfl
@[simp] theorem lI(r:RV)(f:RV->OE):OE.bind (.ok r) f=f r:=rfl
@[simp] theorem DN(c:String)(fs:XF)(f:RV->OE):OE.bind (.exc c fs) f=.exc c fs:=rfl
@[simp] theorem E3{p:Prop}[Decidable p](x y:OE)(f:RV->OE):OE.bind (if p then x else y) f=if p then OE.bind x f else OE.bind y f:=by split<;>rfl
@[simp] theorem FA(r:RV)(f:RV->OT):OE.fI (.ok r) f=f r:=rfl
@[simp] theorem Dt(c:String)(fs:XF)(f:RV->OT):OE.fI (.exc c fs) f=.exc c fs:=rfl
@[simp] theorem Dk{p:Prop}[Decidable p](x y:OE)(f:RV->OT):OE.fI (if p then x else y) f=if p then OE.fI x f else OE.fI y f:=by split<;>rfl
@[simp] theorem Eu(r:RV)(f:RV->OA):OE.fh (.ok r) f=f r:=rfl
@[simp] theorem DB(c:String)(fs:XF)(f:RV->OA):OE.fh (.exc c fs) f=.exc c fs:=rfl
@[simp] theorem Dm{p:Prop}[Decidable p](x y:OE)(f:RV->OA):OE.fh (if p then x else y) f=if p then OE.fh x f else OE.fh y f:=by split<;>rfl
@[simp] theorem FH(r:Bool)(f:Bool->OE):OT.bind (.ok r) f=f r:=rfl
@[simp] theorem DT(c:String)(fs:XF)(f:Bool->OE):OT.bind (.exc c fs) f=.exc c fs:=rfl
@[simp] theorem Ee{p:Prop}[Decidable p](x y:OT)(f:Bool->OE):OT.bind (if p then x else y) f=if p then OT.bind x f else OT.bind y f:=by split<;>rfl
@[simp] theorem EL(r:Bool)(f:Bool->OT):OT.fI (.ok r) f=f r:=rfl
@[simp] theorem C4(c:String)(fs:XF)(f:Bool->OT):OT.fI (.exc c fs) f=.exc c fs:=rfl
@[simp] theorem DJ{p:Prop}[Decidable p](x y:OT)(f:Bool->OT):OT.fI (if p then x else y) f=if p then OT.fI x f else OT.fI y f:=by split<;>rfl
@[simp] theorem FE(r:List PV)(f:List PV->OE):OA.bind (.ok r) f=f r:=rfl
@[simp] theorem E2(c:String)(fs:XF)(f:List PV->OE):OA.bind (.exc c fs) f=.exc c fs:=rfl
@[simp] theorem EV{p:Prop}[Decidable p](x y:OA)(f:List PV->OE):OA.bind (if p then x else y) f=if p then OA.bind x f else OA.bind y f:=by split<;>rfl
@[simp] theorem ER(r:List PV)(f:List PV->OA):OA.fh (.ok r) f=f r:=rfl
@[simp] theorem Dz(c:String)(fs:XF)(f:List PV->OA):OA.fh (.exc c fs) f=.exc c fs:=rfl
@[simp] theorem Dd{p:Prop}[Decidable p](x y:OA)(f:List PV->OA):OA.fh (if p then x else y) f=if p then OA.fh x f else OA.fh y f:=by split<;>rfl
@[simp] theorem i0(ρ:aj)(r:RV)(f:RV->OS):OE.cq ρ (.ok r) f=f r:=rfl
@[simp] theorem Dq(ρ:aj)(c:String)(fs:XF)(f:RV->OS):OE.cq ρ (.exc c fs) f=.exc ρ c fs:=rfl
@[simp] theorem Dc{p:Prop}[Decidable p](ρ:aj)(x y:OE)(f:RV->OS):OE.cq ρ (if p then x else y) f=if p then OE.cq ρ x f else OE.cq ρ y f:=by split<;>rfl
@[simp] theorem mf(ρ:aj)(r:Bool)(f:Bool->OS):OT.cq ρ (.ok r) f=f r:=rfl
@[simp] theorem Di(ρ:aj)(c:String)(fs:XF)(f:Bool->OS):OT.cq ρ (.exc c fs) f=.exc ρ c fs:=rfl
@[simp] theorem C6{p:Prop}[Decidable p](ρ:aj)(x y:OT)(f:Bool->OS):OT.cq ρ (if p then x else y) f=if p then OT.cq ρ x f else OT.cq ρ y f:=by split<;>rfl
@[simp] theorem EM(ρ:aj)(r:List PV)(f:List PV->OS):OA.cq ρ (.ok r) f=f r:=rfl
@[simp] theorem DD(ρ:aj)(c:String)(fs:XF)(f:List PV->OS):OA.cq ρ (.exc c fs) f=.exc ρ c fs:=rfl
@[simp] theorem DC{p:Prop}[Decidable p](ρ:aj)(x y:OA)(f:List PV->OS):OA.cq ρ (if p then x else y) f=if p then OA.cq ρ x f else OA.cq ρ y f:=by split<;>rfl
@[simp] theorem rW(ρ:aj)(k:aj->OS):(OS.nx ρ).andThen k=k ρ:=rfl
@[simp] theorem yC(ρ:aj)(k:aj->OS):(OS.nx ρ).turn k=k ρ:=rfl
@[simp] theorem EU(ρ:aj)(k:aj->OS):(OS.bk ρ).andThen k=OS.bk ρ:=rfl
@[simp] theorem Gz(ρ:aj)(k:aj->OS):(OS.bk ρ).turn k=.nx ρ:=rfl
@[simp] theorem EH(ρ:aj)(k:aj->OS):(OS.ct ρ).andThen k=OS.ct ρ:=rfl
@[simp] theorem GA(ρ:aj)(k:aj->OS):(OS.ct ρ).turn k=k ρ:=rfl
@[simp] theorem rZ(ρ:aj)(r:RV)(k:aj->OS):(OS.rt ρ r).andThen k=OS.rt ρ r:=rfl
@[simp] theorem yu(ρ:aj)(r:RV)(k:aj->OS):(OS.rt ρ r).turn k=OS.rt ρ r:=rfl
@[simp] theorem DG(ρ:aj)(c:String)(fs:XF)(k:aj->OS):(OS.exc ρ c fs).andThen k=OS.exc ρ c fs:=rfl
@[simp] theorem Gv(ρ:aj)(c:String)(fs:XF)(k:aj->OS):(OS.exc ρ c fs).turn k=OS.exc ρ c fs:=rfl
@[simp] theorem Ds{p:Prop}[Decidable p](x y:OS)(k:aj->OS):OS.andThen (if p then x else y) k=if p then x.andThen k else y.andThen k:=by split<;>rfl
@[simp] theorem F7{p:Prop}[Decidable p](x y:OS)(k:aj->OS):OS.turn (if p then x else y) k=if p then x.turn k else y.turn k:=by split<;>rfl
@[simp] theorem Hi(ρ:aj):fin (.nx ρ)=.ok (.sh .non):=rfl
@[simp] theorem G7(ρ:aj)(x:PV):fin (.rt ρ (.sh x))=.ok (.sh x):=rfl
@[simp] theorem HP(ρ:aj)(x:List PV):fin (.rt ρ (.fr x))=.ok (.fr x):=rfl
@[simp] theorem G2(ρ:aj)(c:String)(fs:XF):fin (.exc ρ c fs)=.exc c fs:=rfl
@[simp] theorem GR{p:Prop}[Decidable p](x y:OS):fin (if p then x else y)=if p then fin x else fin y:=by split<;>rfl
@[simp] theorem Ir(x:PV):RV.pv (.sh x)=x:=rfl
@[simp] theorem DA(x:List PV):RV.pv (.fr x)=.lst x:=rfl
@[simp] theorem C7(x:List PV):RV.pv (.al x)=.lst x:=rfl
@[simp] theorem yw(r:RV):oE (some r)=.ok r:=rfl
@[simp] theorem GX(r:Bool):oT (some r)=.ok r:=rfl
@[simp] theorem FF(i:Nat)(mb:aj->OS)(ρ:aj):eM i mb [] ρ=.nx ρ:=rfl
@[simp] theorem eI(i:Nat)(mb:aj->OS)(x:PV)(xs:List PV)(ρ:aj):eM i mb (x ::xs) ρ=(mb (ρ.set i (some (.sh x)))).turn (eM i mb xs):=rfl
@[simp] theorem HF(i j:Int):cu (.int i) (.int j)=some (.sh (.int (i+j))):=rfl
@[simp] theorem Ha(i j:Int):nk (.int i) (.int j)=some (.sh (.int (i - j))):=rfl
@[simp] theorem Hn(i j:Int):yO (.int i) (.int j)=if((decide (-(2 ^ 64)<i)&&decide (i<2 ^ 64))||(decide (-(2 ^ 64)<j)&&decide (j<2 ^ 64)))=true then some (.sh (.int (i*j)))else none:=rfl
@[simp] theorem HD(i j:Int):sW (.int i) (.int j)=if(decide (0<j)&&decide (j<1073741824))=true then some (.sh (.int (i/j)))else none:=rfl
@[simp] theorem Hh(i j:Int):oa (.int i) (.int j)=if decide (0<j)=true then some (.sh (.int (i%j)))else none:=rfl
@[simp] theorem Ig(i j:Int):gLt (.int i) (.int j)=some (.sh (.bl (decide (i<j)))):=rfl
@[simp] theorem Ih(i j:Int):gLe (.int i) (.int j)=some (.sh (.bl (decide (i<=j)))):=rfl
@[simp] theorem HX(i j:Int):gGt (.int i) (.int j)=some (.sh (.bl (decide (j<i)))):=rfl
@[simp] theorem HU(i j:Int):gGe (.int i) (.int j)=some (.sh (.bl (decide (j<=i)))):=rfl
@[simp] theorem Ia(i j:Int):gEq (.int i) (.int j)=some (.sh (.bl (decide (i=j)))):=rfl
@[simp] theorem Im(i j:Int):gNe (.int i) (.int j)=some (.sh (.bl (!decide (i=j)))):=rfl
@[simp] theorem Ib(i j:Bool):gEq (.bl i) (.bl j)=some (.sh (.bl (decide (i=j)))):=rfl
@[simp] theorem HW(i j:Bool):gNe (.bl i) (.bl j)=some (.sh (.bl (!decide (i=j)))):=rfl
@[simp] theorem EO(xs:List PV):gF (.lst xs)=some (.sh (.int xs.length)):=rfl
@[simp] theorem Hk(xs:List PV):gF (.tup xs)=some (.sh (.int xs.length)):=rfl
@[simp] theorem Hl(xs:List PV)(i:Int):bc (.lst xs) (.int i)=(atP xs i).map .sh:=rfl
@[simp] theorem HB(xs:List PV)(i:Int):fH (.tup xs) (.int i)=(atP xs i).map .sh:=rfl
@[simp] theorem G8(xs ys:List PV):pH (.lst xs) (.lst ys)=if xs.length+ys.length<=lim then some (.fr (xs++ys))else none:=rfl
@[simp] theorem Hd{p:Prop}[Decidable p](x y:Option RV):oE (if p then x else y)=if p then oE x else oE y:=by split<;>rfl
@[simp] theorem HA(b:Bool):jv (.bl b)=some b:=rfl
@[simp] theorem HG(i:Int):jv (.int i)=some (i != 0):=rfl
@[simp] theorem Hu(xs:List PV):jv (.lst xs)=some (!xs.isEmpty):=rfl
@[simp] theorem Hq(xs:List PV):jv (.tup xs)=some (!xs.isEmpty):=rfl
@[simp] theorem HQ:jv .non=some false:=rfl
@[simp] theorem FG(i:Int):isP "int" (.int i)=some true:=rfl
@[simp] theorem El(i:Int):isP "bool" (.int i)=some false:=rfl
@[simp] theorem En(i:Bool):isP "bool" (.bl i)=some true:=rfl
@[simp] theorem DV(xs:List PV):isP "list" (.lst xs)=some true:=rfl
@[simp] theorem Hg(xs:List PV)(lo hi:Option Int):BL (.lst xs) lo hi=some (.fr (A4 xs lo hi)):=rfl
@[simp] theorem GS:qw .non=none:=rfl
@[simp] theorem GD(i:Int):qw (.int i)=some i:=rfl
@[simp] theorem HJ(i:Int):lg (.int i)=some (.sh (.int (-i))):=rfl
@[simp] theorem GO(i:Int):qH (.int i)=some (.sh (.int i)):=rfl
@[simp] theorem Gw(i:Bool):qH (.bl i)=some (.sh (.int (if i then 1 else 0))):=rfl
@[simp] theorem G4(x:PV):jx (.sh x)=some x:=rfl
@[simp] theorem GL(x:List PV):jx (.fr x)=some (.lst x):=rfl
@[simp] theorem G1(x:PV):qc (.sh x)=some (.sh x):=rfl
@[simp] theorem G0(x:List PV):qc (.fr x)=some (.ow x):=rfl
@[simp] theorem Gq(np n:Nat)(m:aj->OS)(xs:List PV):fnP np n m xs=if xs.length=np then fin (m (ft n xs))else .bad:=rfl
@[simp] theorem zT(n:Nat)(xs:List PV):ft n xs=xs.map (fun x=>some (.sh x))++List.replicate (n - xs.length) none:=rfl
@[simp] theorem FD(xs:List PV):wb (.sh (.lst xs))=some xs:=rfl
@[simp] theorem GW(xs:List PV):wb (.fr xs)=some xs:=rfl
@[simp] theorem Hr(x:PV):rB x .non=some (.sh (.bl (cL x))):=rfl
@[simp] theorem G3(x:PV):vX x .non=some (.sh (.bl (!cL x))):=rfl
@[simp] theorem Bu(xs:List PV):noX (.ok xs)=if xs.length<=lim then .ok (.fr xs)else .bad:=rfl
@[simp] theorem Ei(me:aj->OE)(ρ:aj):fu me ρ []=.ok []:=rfl
@[simp] theorem Ef(f:RV->OE):OE.bind .bad f=.bad:=rfl
@[simp] theorem DI(f:RV->OT):OE.fI .bad f=.bad:=rfl
@[simp] theorem Dy(f:RV->OA):OE.fh .bad f=.bad:=rfl
@[simp] theorem DL(f:Bool->OE):OT.bind .bad f=.bad:=rfl
@[simp] theorem C9(f:Bool->OT):OT.fI .bad f=.bad:=rfl
@[simp] theorem Eb(f:List PV->OE):OA.bind .bad f=.bad:=rfl
@[simp] theorem Dx(f:List PV->OA):OA.fh .bad f=.bad:=rfl
@[simp] theorem C8(ρ:aj)(f:RV->OS):OE.cq ρ .bad f=.bad:=rfl
@[simp] theorem Dr(ρ:aj)(f:Bool->OS):OT.cq ρ .bad f=.bad:=rfl
@[simp] theorem DF(ρ:aj)(f:List PV->OS):OA.cq ρ .bad f=.bad:=rfl
@[simp] theorem DE(k:aj->OS):OS.bad.andThen k=.bad:=rfl
@[simp] theorem FZ(k:aj->OS):OS.bad.turn k=.bad:=rfl
@[simp] theorem GG:fin .bad=.bad:=rfl
@[simp] theorem GP:oE none=.bad:=rfl
@[simp] theorem GK:oT none=.bad:=rfl
@[simp] theorem GU(x:List PV):jx (.al x)=none:=rfl
@[simp] theorem Gy(x:List PV):qc (.al x)=none:=rfl
@[simp] theorem Iu:(0<=lim)=True:=by simp[lim]
@[simp] theorem Ik:(1<=lim)=True:=by simp[lim]
@[simp] theorem Ij:(2<=lim)=True:=by simp[lim]
@[simp] theorem H0:(3<=lim)=True:=by simp[lim]
@[simp] theorem HZ:(4<=lim)=True:=by simp[lim]
@[simp] theorem Ie:(5<=lim)=True:=by simp[lim]
@[simp] theorem HV:(6<=lim)=True:=by simp[lim]
@[simp] theorem HY:(7<=lim)=True:=by simp[lim]
@[simp] theorem Iq:(8<=lim)=True:=by simp[lim]
@[simp] theorem Ic:(9<=lim)=True:=by simp[lim]
@[simp] theorem Hw:(10<=lim)=True:=by simp[lim]
@[simp] theorem Hv:(11<=lim)=True:=by simp[lim]
@[simp] theorem G5:(12<=lim)=True:=by simp[lim]
@[simp] theorem Hj:(13<=lim)=True:=by simp[lim]
@[simp] theorem Hz:(14<=lim)=True:=by simp[lim]
@[simp] theorem Ht:(15<=lim)=True:=by simp[lim]
@[simp] theorem HN:(16<=lim)=True:=by simp[lim]
theorem cf{n:Nat}(h:n<=1000000):n<=lim:=by unfold lim;omega
theorem nZ{α:Type}(xs:List α)(k:Nat):atP xs (k:Int)=xs[k]?:=by
 unfold atP ixP
 by_cases h:k<xs.length
 . simp[h]
 . simp[h]
@[simp] theorem Il{α:Type}(xs:List α):atP xs 0=xs[0]?:=nZ xs 0
@[simp] theorem Io{α:Type}(xs:List α):atP xs 1=xs[1]?:=nZ xs 1
@[simp] theorem GC{α:Type}(xs:List α)(n:Nat):atP xs (no_index (OfNat.ofNat n:Int))=xs[n]?:=nZ xs n
theorem E9{α:Type}(xs:List α)(i:Int)(h:0<=i):atP xs i=xs[i.toNat]?:=by
 have:=nZ xs i.toNat
 rwa [Int.toNat_of_nonneg h]at this
@[simp] theorem Ii(T:String)(ma:aj->OE)(ρ:aj):mIs T ma ρ=(ma ρ).bind fun a=>oE ((isP T a.pv).map fun b=>.sh (.bl b)):=rfl
@[simp] theorem vw(ns:List Bool):pz (ns.map .bl)=some ns:=by
  induction ns with
  |nil=>rfl
  |cons n ns ih=>show(pz (ns.map .bl)).map (n ::·)=_;rw[ih];rfl
@[simp] theorem D4(n:Nat):(gL n).length=n:=by simp[gL]
theorem zb{me:aj->OE}{ρ:aj}{α:Type}{g:α->PV}{f:α->PV}(l:List α)(h:∀ a∈l,me (ρ++[some (.sh (g a))])=.ok (.sh (f a))):fu me ρ (l.map g)=.ok (l.map f):=by
 induction l with
 |nil=>rfl
 | cons a l ih=>
   have h1:=h a (List.mem_cons_self)
   have h2:=ih fun b hb=>h b (List.mem_cons_of_mem _ hb)
   simp[fu,h1,h2]
end L2.P
namespace L2.P
open PySem PySem.Spec PyProof.Rows L2 L2.E
mutual
noncomputable def Rep(K:PySem.W.Frag)(S:Hp):PV->V->Prop
 |.non,v=>v=.non
 |.bl b,v=>v=.bl b
 |.int i,v=>v=.int i
 |.str s,v=>v=.str s
 |.lst xs,v=>∃ p vs,v=.ref p /\ SqL K S p vs /\ bZ K S xs vs
 |.tup xs,v=>∃ p vs,v=.ref p /\ SqT K S p vs /\ bZ K S xs vs
noncomputable def bZ(K:PySem.W.Frag)(S:Hp):List PV->List V->Prop
 |[],vs=>vs=[]
 |x ::xs,vs=>∃ v r,vs=v ::r /\ Rep K S x v /\ bZ K S xs r
end
theorem _root_.L2.aM.tup{K:PySem.W.Frag}(e:aM H H')(h:SqT K H a xs):SqT K H' a xs:=by
 rcases h with(h|⟨o,h⟩)|h
 . exact .inl (.inl (e _ _ h))
 . exact .inl (.inr ⟨o,e _ _ h⟩)
 . exact .inr h
section
variable{K:PySem.W.Frag}{S S':Hp}
mutual
theorem Rep.mono(s:aM S S'):∀{x:PV} {v:V},Rep K S x v->Rep K S' x v
 |.non,_,h=>by unfold Rep at h ⊢;exact h
 |.bl _,_,h=>by unfold Rep at h ⊢;exact h
 |.int _,_,h=>by unfold Rep at h ⊢;exact h
 |.str _,_,h=>by unfold Rep at h ⊢;exact h
 | .lst _,_,h=>by
   unfold Rep at h ⊢
   obtain⟨p,vs,e,q,r⟩:=h
   exact⟨p,vs,e,aM.seq s q,bZ.mono s r⟩
 | .tup _,_,h=>by
   unfold Rep at h ⊢
   obtain⟨p,vs,e,q,r⟩:=h
   exact⟨p,vs,e,aM.tup s q,bZ.mono s r⟩
theorem bZ.mono(s:aM S S'):∀{xs:List PV} {vs:List V},bZ K S xs vs->bZ K S' xs vs
 |[],_,h=>by unfold bZ at h ⊢;exact h
 | _ ::_,_,h=>by
   unfold bZ at h ⊢
   obtain⟨v,r,e,q,t⟩:=h
   exact⟨v,r,e,Rep.mono s q,bZ.mono s t⟩
end
theorem bZ.nil:bZ K S [] []:=by unfold bZ;rfl
theorem bZ.cons(h:Rep K S x v)(t:bZ K S xs vs):bZ K S (x ::xs) (v ::vs):=by unfold bZ;exact⟨v,vs,rfl,h,t⟩
theorem bZ.nil_inv(h:bZ K S [] vs):vs=[]:=by unfold bZ at h;exact h
theorem bZ.cons_inv(h:bZ K S (x ::xs) vs):∃ v r,vs=v ::r /\ Rep K S x v /\ bZ K S xs r:=by unfold bZ at h;exact h
theorem bZ.append(h:bZ K S xs vs)(t:bZ K S ys us):bZ K S (xs++ys) (vs++us):=by
 induction xs generalizing vs with
 |nil=>rw[h.nil_inv];exact t
 | cons x xs ih=>
   obtain⟨v,r,rfl,q,h'⟩:=h.cons_inv;exact .cons q (ih h')
theorem bZ.length{xs:List PV}{vs:List V}(h:bZ K S xs vs):vs.length=xs.length:=by
 induction xs generalizing vs with
 |nil=>rw[h.nil_inv];rfl
 | cons x xs ih=>
   obtain⟨v,r,rfl,q,h'⟩:=h.cons_inv;simp[ih h']
theorem bZ.get(h:bZ K S xs vs):∀{i:Nat} {x:PV},xs[i]?=some x->∃ v,vs[i]?=some v /\ Rep K S x v:=by
 induction xs generalizing vs with
 |nil=>intro i x e;simp at e
 | cons y xs ih=>
   obtain⟨v,r,rfl,q,h'⟩:=h.cons_inv;intro i x e
   cases i with
   |zero=>simp at e;subst e;exact⟨v,rfl,q⟩
   |succ i=>simp at e;obtain⟨u,e1,e2⟩:=ih h' e;exact⟨u,by simpa using e1,e2⟩
theorem bZ.FL{xs:List PV}{vs:List V}(h:bZ K S xs vs){i:Nat}{v:V}(e:vs[i]?=some v):∃ x,xs[i]?=some x /\ Rep K S x v:=by
 have hi:i<xs.length:=by rw[<- h.length];exact(List.getElem?_eq_some_iff.mp e).1
 obtain⟨u,e1,e2⟩:=h.get (i:=i) (x:=xs[i]) (by simp[hi]);rw[e]at e1;cases e1
 exact⟨_,by simp[hi],e2⟩
theorem bZ.take{xs:List PV}{vs:List V}(h:bZ K S xs vs):∀ n,bZ K S (xs.take n) (vs.take n):=by
 induction xs generalizing vs with
 |nil=>intro n;rw[h.nil_inv];simpa using bZ.nil
 | cons y xs ih=>
   obtain⟨v,r,rfl,q,h'⟩:=h.cons_inv;intro n
   cases n with
   |zero=>exact .nil
   |succ n=>exact .cons q (ih h' n)
theorem bZ.drop{xs:List PV}{vs:List V}(h:bZ K S xs vs):∀ n,bZ K S (xs.drop n) (vs.drop n):=by
 induction xs generalizing vs with
 |nil=>intro n;rw[h.nil_inv];simpa using bZ.nil
 | cons y xs ih=>
   obtain⟨v,r,rfl,q,h'⟩:=h.cons_inv;intro n
   cases n with
   |zero=>exact .cons q h'
   |succ n=>exact ih h' n
theorem bZ.ints{ns:List Int}:bZ K S (ns.map .int) (ns.map V.int):=by
 induction ns with
 |nil=>exact .nil
 |cons n ns ih=>exact .cons (by unfold Rep;rfl) ih
end
noncomputable def oi(K:PySem.W.Frag)(cls:String->Option Addr)(S H:Hp)(c:String)(fs:XF)(a C:Addr):Prop:=
 cls c=some C /\ ∃ dx,H a=some (vQ a C dx) /\ (fs=[] \/ ∃ d us,dx=some d /\ H d=some (.xd us) /\ fs.map (·.1)=us.map (·.1) /\ bZ K S (fs.map (·.2)) (us.map (·.2)))
noncomputable def isX:HO->Bool
 |.ext _=>true
 |.xd _=>true
 |_=>false
noncomputable def vz(K:PySem.W.Frag)(S:Hp)(kvs:List (Int×PV))(us:List (Key×V)):Prop:=Paired (fun (p:Int×PV) (q:Key×V)=>q.1=Sum.inl p.1 /\ Rep K S p.2 q.2) kvs us
noncomputable def vM(K:PySem.W.Frag)(S:Hp)(kvs:List (List Int×PV))(us:List (List Key×V)):Prop:=Paired (fun (p:List Int×PV) (q:List Key×V)=>q.1=p.1.map Sum.inl /\ Rep K S p.2 q.2) kvs us
theorem vz.mono{K:PySem.W.Frag}(s:aM S S'):∀{kvs:List (Int×PV)} {us:List (Key×V)},vz K S kvs us->vz K S' kvs us
 |_,_,.nil=>.nil
 |_,_,.cons h t=>.cons ⟨h.1,Rep.mono s h.2⟩ (vz.mono s t)
theorem vM.mono{K:PySem.W.Frag}(s:aM S S'):∀{kvs:List (List Int×PV)} {us:List (List Key×V)},vM K S kvs us->vM K S' kvs us
 |_,_,.nil=>.nil
 |_,_,.cons h t=>.cons ⟨h.1,Rep.mono s h.2⟩ (vM.mono s t)
mutual
noncomputable def bO(K:PySem.W.Frag)(cls:String->Option Addr)(S H:Hp):OV->V->List Addr->Prop
 |.sh x,v,fp=>fp=[] /\ Rep K S x v
 |.ol ts,v,fp=>∃ p vs f,v=.ref p /\ H p=some (.lst vs) /\ fp=p ::f /\ bN K cls S H ts vs f
 |.ob c ks ts,v,fp=>∃ p C dx us f,v=.ref p /\ cls c=some C /\ H p=some (.ins C dx us) /\ H dx=some (.own p) /\ us.map (·.1)=ks /\ fp=p ::dx ::f /\ bN K cls S H ts (us.map (·.2)) f
 |.di kvs,v,fp=>∃ p us,v=.ref p /\ H p=some (.dK us) /\ fp=[p] /\ vz K S kvs us
 |.dt kvs,v,fp=>∃ p us,v=.ref p /\ H p=some (.dT us) /\ fp=[p] /\ vM K S kvs us
noncomputable def bN(K:PySem.W.Frag)(cls:String->Option Addr)(S H:Hp):List OV->List V->List Addr->Prop
 |[],vs,fp=>vs=[] /\ fp=[]
 |t ::ts,vs,fp=>∃ v r f1 f2,vs=v ::r /\ fp=f1++f2 /\ bO K cls S H t v f1 /\ bN K cls S H ts r f2
end
noncomputable def qT(K:PySem.W.Frag)(cls:String->Option Addr)(Av G S H:Hp)(i:Nat):Sl->V->List Addr->Prop
 |.sh x,v,fp=>fp=[] /\ Rep K S x v
 |.ow xs,v,fp=>∃ p vs,v=.ref p /\ fp=[p] /\ G p=none /\ S p=none /\ H p=some (.lst vs) /\ bZ K S xs vs
 |.ex c fs,v,fp=>fp=[] /\ ∃ a C,v=.ref a /\ oi K cls S H c fs a C
 |.tr io t,v,fp=>bO K cls S H t v fp /\ fp.Nodup /\ (∀ a∈fp,G a=none /\ S a=none) /\ (io=true->Av i=some (.lst [v]))
 |.bo t,v,fp=>fp=[] /\ ∃ f,bO K cls S G t v f
noncomputable def Du(K:PySem.W.Frag)(cls:String->Option Addr)(G S H:Hp):Sl->V->Prop
 |.sh x,v=>Rep K S x v
 |.ow xs,v=>∃ p vs,v=.ref p /\ G p=none /\ S p=none /\ H p=some (.lst vs) /\ bZ K S xs vs
 |.ex c fs,v=>∃ a C,v=.ref a /\ oi K cls S H c fs a C
 |_,_=>True
noncomputable def lr(K:PySem.W.Frag)(B S H:Hp):RV->V->Prop
 |.sh x,v=>Rep K S x v
 |.fr xs,v=>∃ p vs,v=.ref p /\ B p=none /\ S p=none /\ H p=some (.lst vs) /\ bZ K S xs vs
 |.al xs,v=>∃ p vs,v=.ref p /\ SqL K H p vs /\ bZ K S xs vs
noncomputable def RdV(K:PySem.W.Frag)(S H:Hp):PV->V->Prop
 |.lst xs,v=>∃ p vs,v=.ref p /\ SqL K H p vs /\ bZ K S xs vs
 |x,v=>Rep K S x v
structure SRF(K:PySem.W.Frag)(cls:String->Option Addr)(Av G S₀:Hp)(ρ:aj)(σ:St)(S H:Hp)(F:Nat->List Addr):Prop where
 gh:aM G H
 s0:aM S₀ S
 sh:aM S H
 new:∀ b,S b≠none->S₀ b≠none \/ G b=none
 own:∀(i:Nat) (s:Sl),ρ[i]?=some (some s)->∃ v,σ[i]?=some (some v) /\ qT K cls Av G S H i s v (F i)
 apart:∀ i j a,a∈F i->a∈F j->i=j
 live:∀ i a,a∈F i->(∃ o,H a=some o /\ isX o=false) /\ G a=none /\ S a=none
 len:ρ.length=σ.length
noncomputable def SR(K:PySem.W.Frag)(cls:String->Option Addr)(Av G S₀:Hp)(ρ:aj)(σ:St)(S H:Hp):Prop:=∃ F,SRF K cls Av G S₀ ρ σ S H F
section
variable{K:PySem.W.Frag}{cls:String->Option Addr}{Av G S₀ S S' H H' B:Hp}{ρ:aj}{σ:St}{F:Nat->List Addr}
theorem SR.gh(I:SR K cls Av G S₀ ρ σ S H):aM G H:=let ⟨_,J⟩:=I;J.gh
theorem SR.s0(I:SR K cls Av G S₀ ρ σ S H):aM S₀ S:=let ⟨_,J⟩:=I;J.s0
theorem SR.sh(I:SR K cls Av G S₀ ρ σ S H):aM S H:=let ⟨_,J⟩:=I;J.sh
theorem SR.new(I:SR K cls Av G S₀ ρ σ S H):∀ b,S b≠none->S₀ b≠none \/ G b=none:=let ⟨_,J⟩:=I;J.new
theorem SR.len(I:SR K cls Av G S₀ ρ σ S H):ρ.length=σ.length:=let ⟨_,J⟩:=I;J.len
theorem qT.one(h:qT K cls Av G S H i s v fp):Du K cls G S H s v:=by
 cases s with
 |sh x=>exact h.2
 |ow xs=>obtain⟨p,vs,e,_,r⟩:=h;exact⟨p,vs,e,r⟩
 |ex c fs=>exact h.2
 |tr io t=>trivial
 |bo t=>trivial
theorem SR.good(I:SR K cls Av G S₀ ρ σ S H)(i:Nat)(s:Sl)(e:ρ[i]?=some (some s)):∃ v,σ[i]?=some (some v) /\ Du K cls G S H s v:=by
 obtain⟨F,J⟩:=I;obtain⟨v,e1,r⟩:=J.own i s e
 exact⟨v,e1,r.one⟩
theorem oi.mono(h:oi K cls S H c fs a C)(s:aM S S')(g:aM H H'):oi K cls S' H' c fs a C:=by
 obtain⟨h1,dx,h2,h3⟩:=h
 refine⟨h1,dx,g _ _ h2,?_⟩
 rcases h3 with h3|⟨d,us,e1,e2,e3,e4⟩
 . exact .inl h3
 . exact .inr ⟨d,us,e1,g _ _ e2,e3,e4.mono s⟩
theorem oi.Gs(h:oi K cls S H c fs a C)(s:aM S S')(g:∀ b o,isX o=true->H b=some o->H' b=some o):oi K cls S' H' c fs a C:=by
 obtain⟨h1,dx,h2,h3⟩:=h
 refine⟨h1,dx,g _ _ rfl h2,?_⟩
 rcases h3 with h3|⟨d,us,e1,e2,e3,e4⟩
 . exact .inl h3
 . exact .inr ⟨d,us,e1,g _ _ rfl e2,e3,e4.mono s⟩
mutual
theorem bO.mono(s:aM S S'):∀{t:OV} {v:V} {fp:List Addr},bO K cls S H t v fp->(∀ a∈fp,∀ o,H a=some o->H' a=some o)->bO K cls S' H' t v fp
 |.sh _,_,_,h,_=>by unfold bO at h ⊢;exact⟨h.1,Rep.mono s h.2⟩
 | .ol _,_,_,h,g=>by
   unfold bO at h ⊢
   obtain⟨p,vs,f,e,q,e2,r⟩:=h;subst e2
   exact⟨p,vs,f,e,g p (by simp) _ q,rfl,bN.mono s r fun a ha=>g a (by simp[ha])⟩
 | .ob _ _ _,_,_,h,g=>by
   unfold bO at h ⊢
   obtain⟨p,C,dx,us,f,e,c,q,q2,k,e2,r⟩:=h;subst e2
   exact⟨p,C,dx,us,f,e,c,g p (by simp) _ q,g dx (by simp) _ q2,k,rfl,bN.mono s r fun a ha=>g a (by simp[ha])⟩
 | .di _,_,_,h,g=>by
   unfold bO at h ⊢
   obtain⟨p,us,e,q,e2,r⟩:=h;subst e2
   exact⟨p,us,e,g p (by simp) _ q,rfl,r.mono s⟩
 | .dt _,_,_,h,g=>by
   unfold bO at h ⊢
   obtain⟨p,us,e,q,e2,r⟩:=h;subst e2
   exact⟨p,us,e,g p (by simp) _ q,rfl,r.mono s⟩
theorem bN.mono(s:aM S S'):∀{ts:List OV} {vs:List V} {fp:List Addr},bN K cls S H ts vs fp->(∀ a∈fp,∀ o,H a=some o->H' a=some o)->bN K cls S' H' ts vs fp
 |[],_,_,h,_=>by unfold bN at h ⊢;exact h
 | _ ::_,_,_,h,g=>by
   unfold bN at h ⊢
   obtain⟨v,r,f1,f2,e,e2,q,t⟩:=h;subst e2
   exact⟨v,r,f1,f2,e,rfl,bO.mono s q fun a ha=>g a (List.mem_append_left _ ha),bN.mono s t fun a ha=>g a (List.mem_append_right _ ha)⟩
end
mutual
theorem bO.live:∀{t:OV} {v:V} {fp:List Addr},bO K cls S H t v fp->∀ a∈fp,∃ o,H a=some o /\ isX o=false
 |.sh _,_,_,h,a,ha=>by unfold bO at h;rw[h.1]at ha;cases ha
 | .ol _,_,_,h,a,ha=>by
   unfold bO at h;obtain⟨p,vs,f,e,q,e2,r⟩:=h;subst e2
   rcases List.mem_cons.mp ha with z|z
   . subst z;exact⟨_,q,rfl⟩
   . exact bN.live r a z
 | .ob _ _ _,_,_,h,a,ha=>by
   unfold bO at h;obtain⟨p,C,dx,us,f,e,c,q,q2,k,e2,r⟩:=h;subst e2
   rcases List.mem_cons.mp ha with z|z
   . subst z;exact⟨_,q,rfl⟩
   . rcases List.mem_cons.mp z with z|z
     . subst z;exact⟨_,q2,rfl⟩
     . exact bN.live r a z
 | .di _,_,_,h,a,ha=>by
   unfold bO at h;obtain⟨p,us,e,q,e2,r⟩:=h;subst e2
   have z:a=p:=by simpa using ha
   subst z
   exact⟨_,q,rfl⟩
 | .dt _,_,_,h,a,ha=>by
   unfold bO at h;obtain⟨p,us,e,q,e2,r⟩:=h;subst e2
   have z:a=p:=by simpa using ha
   subst z
   exact⟨_,q,rfl⟩
theorem bN.live:∀{ts:List OV} {vs:List V} {fp:List Addr},bN K cls S H ts vs fp->∀ a∈fp,∃ o,H a=some o /\ isX o=false
 |[],_,_,h,a,ha=>by unfold bN at h;rw[h.2]at ha;cases ha
 | _ ::_,_,_,h,a,ha=>by
   unfold bN at h;obtain⟨v,r,f1,f2,e,e2,q,t⟩:=h;subst e2
   rcases List.mem_append.mp ha with z|z
   . exact bO.live q a z
   . exact bN.live t a z
end
theorem qT.mono(h:qT K cls Av G S H i sl v fp)(s:aM S S')(g:∀ a∈fp,∀ o,H a=some o->H' a=some o)(x:∀ b o,isX o=true->H b=some o->H' b=some o)(n:∀ a∈fp,S' a=none):qT K cls Av G S' H' i sl v fp:=by
 cases sl with
 |sh y=>exact⟨h.1,Rep.mono s h.2⟩
 | ow xs=>
   obtain⟨p,vs,e,e2,h1,h2,h3,h4⟩:=h;subst e2
   exact⟨p,vs,e,rfl,h1,n p (by simp),g p (by simp) _ h3,h4.mono s⟩
 |ex c fs=>obtain⟨e,a,C,e2,q⟩:=h;exact⟨e,a,C,e2,q.Gs s x⟩
 |tr io t=>exact⟨h.1.mono s g,h.2.1,fun a ha=>⟨(h.2.2.1 a ha).1,n a ha⟩,h.2.2.2⟩
 |bo t=>obtain⟨e,f,r⟩:=h;exact⟨e,f,r.mono s fun _ _ _ z=>z⟩
theorem RdV.mono(h:RdV K S H x v)(s:aM S S')(g:aM H H'):RdV K S' H' x v:=by
 cases x with
 |lst xs=>obtain⟨p,vs,e,q,r⟩:=h;exact⟨p,vs,e,aM.seq g q,r.mono s⟩
 |non=>exact Rep.mono s h
 |bl b=>exact Rep.mono s h
 |int i=>exact Rep.mono s h
 |str x=>exact Rep.mono s h
 |tup xs=>exact Rep.mono s h
theorem Rep.rd(h:Rep K S x v)(g:aM S H):RdV K S H x v:=by
 cases x with
 |lst xs=>unfold Rep at h;obtain⟨p,vs,e,q,r⟩:=h;exact⟨p,vs,e,aM.seq g q,r⟩
 |non=>exact h
 |bl b=>exact h
 |int i=>exact h
 |str x=>exact h
 |tup xs=>exact h
theorem lr.rd{r:RV}(h:lr K B S H r v)(g:aM S H):RdV K S H r.pv v:=by
 cases r with
 |sh x=>exact Rep.rd h g
 |fr xs=>obtain⟨p,vs,e,_,_,q,r⟩:=h;exact⟨p,vs,e,SqL.new q,r⟩
 |al xs=>exact h
theorem SRF.change(I:SRF K cls Av G S₀ ρ σ S H F)(gh:aM G H')(s:aM S S')(sh:aM S' H')(new:∀ b,S' b≠none->S₀ b≠none \/ G b=none)
  (g:∀ i a,a∈F i->∀ o,H a=some o->H' a=some o) (x:∀ b o,isX o=true->H b=some o->H' b=some o) (n:∀ i a,a∈F i->S' a=none):SRF K cls Av G S₀ ρ σ S' H' F where
 gh:=gh
 s0:=I.s0.trans s
 sh:=sh
 new:=new
 own:=fun i t e=>by
  obtain⟨v,e1,r⟩:=I.own i t e
  exact⟨v,e1,r.mono s (fun a ha=>g i a ha) x fun a ha=>n i a ha⟩
 apart:=I.apart
 live:=fun i a ha=>by
  obtain⟨⟨o,h1,h2⟩,h3,_⟩:=I.live i a ha
  exact⟨⟨o,g i a ha o h1,h2⟩,h3,n i a ha⟩
 len:=I.len
theorem SRF.same(I:SRF K cls Av G S₀ ρ σ S H F)(g:aM H H'):SRF K cls Av G S₀ ρ σ S H' F:=
 I.change (I.gh.trans g) (aM.refl _) (I.sh.trans g) I.new (fun _ _ _ o e=>g _ _ e) (fun _ _ _ e=>g _ _ e) fun i a ha=>(I.live i a ha).2.2
theorem SR.same(I:SR K cls Av G S₀ ρ σ S H)(g:aM H H'):SR K cls Av G S₀ ρ σ S H':=let ⟨F,J⟩:=I;⟨F,J.same g⟩
theorem set_inv{α:Type}{l:List (Option α)}{x:Option α}{s:α}(h:(l.set i x)[j]?=some (some s)):(j=i /\ x=some s /\ i<l.length) \/ (j≠i /\ l[j]?=some (some s)):=by
 by_cases e:j=i
 . subst e;rw[List.getElem?_set]at h;simp only[if_true]at h;split at h
   . rename_i hl;exact .inl ⟨rfl,Option.some.inj h,hl⟩
   . cases h
 . rw[List.getElem?_set_ne (Ne.symm e)]at h;exact .inr ⟨e,h⟩
theorem Eo{α:Type}{l:List (Option α)}{x:Option α}(h:i<l.length):(l.set i x)[i]?=some x:=by
 rw[List.getElem?_set];simp[h]
noncomputable def mU(F:Nat->List Addr)(i:Nat)(fp:List Addr):Nat->List Addr:=fun j=>if j=i then fp else F j
theorem iA:mU F i fp i=fp:=by unfold mU;rw[if_pos rfl]
theorem fc(h:j≠i):mU F i fp j=F j:=by unfold mU;rw[if_neg h]
theorem SRF.put(I:SRF K cls Av G S₀ ρ σ S H F)(h:∀ t,s=some t->∃ v,u=some v /\ qT K cls Av G S H i t v fp)
  (hl:∀ a∈fp,(∃ o,H a=some o /\ isX o=false) /\ G a=none /\ S a=none) (ap:∀ j a,j≠i->a∈fp->a∉F j):SRF K cls Av G S₀ (ρ.set i s) (σ.set i u) S H (mU F i fp) where
 gh:=I.gh
 s0:=I.s0
 sh:=I.sh
 new:=I.new
 own:=fun j t e=>by
  rcases set_inv e with⟨rfl,e1,hl⟩|⟨ne,e1⟩
  . obtain⟨v,e2,r⟩:=h t e1
    exact⟨v,by rw[Eo (by rw[<- I.len];exact hl),e2],by rw[iA];exact r⟩
  . rw[List.getElem?_set_ne (Ne.symm ne),fc ne];exact I.own j t e1
 apart:=fun j k a h1 h2=>by
  by_cases ej:j=i
  . by_cases ek:k=i
    . rw[ej,ek]
    . subst ej;rw[iA]at h1;rw[fc ek]at h2;exact absurd h2 (ap k a ek h1)
  . by_cases ek:k=i
    . subst ek;rw[iA]at h2;rw[fc ej]at h1;exact absurd h1 (ap j a ej h2)
    . rw[fc ej]at h1;rw[fc ek]at h2;exact I.apart j k a h1 h2
 live:=fun j a ha=>by
  by_cases ej:j=i
  . subst ej;rw[iA]at ha;exact hl a ha
  . rw[fc ej]at ha;exact I.live j a ha
 len:=by simp[I.len]
theorem SR.tW(I:SR K cls Av G S₀ ρ σ S H)(h:Rep K S x v):SR K cls Av G S₀ (ρ.set i (some (.sh x))) (σ.set i (some v)) S H:=by
 obtain⟨F,J⟩:=I
 exact⟨_,J.put (fp:=[]) (fun t e=>by cases e;exact⟨v,rfl,rfl,h⟩) (fun a ha=>nomatch ha) fun j a _ ha=>nomatch ha⟩
theorem SR.zD(I:SR K cls Av G S₀ ρ σ S H):SR K cls Av G S₀ (ρ.set i none) (σ.set i v) S H:=by
 obtain⟨F,J⟩:=I
 exact⟨_,J.put (fp:=[]) (fun t e=>nomatch e) (fun a ha=>nomatch ha) fun j a _ ha=>nomatch ha⟩
theorem j7{α:Type}{l:List α}{x:α}(h:l[i]?=some x):l.set i x=l:=by
 apply List.ext_getElem?;intro j
 by_cases e:i=j
 . subst e;rw[List.getElem?_set,if_pos rfl,if_pos (List.getElem?_eq_some_iff.mp h).1,h]
 . rw[List.getElem?_set_ne e]
theorem SR.drop(I:SR K cls Av G S₀ ρ σ S H):SR K cls Av G S₀ (ρ.set i none) σ S H:=by
 cases e:σ[i]? with
 |some v=>have:=I.zD (i:=i) (v:=v);rwa [j7 e]at this
 | none=>
   have h1:σ.length<=i:=List.getElem?_eq_none_iff.mp e
   rw[List.set_eq_of_length_le (by rw[I.len];exact h1)];exact I
theorem SR.mut(I:SR K cls Av G S₀ ρ σ S H)(hi:ρ[i]?=some (some (.ow xs)))(hv:σ[i]?=some (some (.ref p)))(hr:bZ K S ys us):SR K cls Av G S₀ (ρ.set i (some (.ow ys))) σ S (upd H p (.lst us)):=by
 obtain⟨F,J⟩:=I;obtain⟨v,e1,q,vs,e2,e3,hG,hS,hH,_⟩:=J.own i _ hi;rw[hv]at e1;cases e1;cases e2
 have J1:SRF K cls Av G S₀ (ρ.set i none) (σ.set i none) S H (mU F i []):=J.put (fun t e=>nomatch e) (fun a ha=>nomatch ha) fun j a _ ha=>nomatch ha
 have off:∀ j a,a∈mU F i [] j->a≠p:=fun j a ha z=>by
  by_cases ej:j=i
  . subst ej;rw[iA]at ha;cases ha
  . rw[fc ej]at ha;exact ej (J.apart j i a ha (by rw[e3,z];simp))
 have J2:=J1.change (H':=upd H p (.lst us)) (J.gh.upd hG) (aM.refl _) (J.sh.upd hS) J.new (fun j a ha o h=>by rw[bD (off j a ha)];exact h)
  (fun b o hx h=>by
    rw[bD]
    . exact h
    . intro z;rw[z,hH]at h;cases h;cases hx)
  fun j a ha=>(J1.live j a ha).2.2
 have J3:=J2.put (i:=i) (s:=some (.ow ys)) (u:=some (.ref p)) (fp:=[p]) (fun t e=>by cases e;exact⟨_,rfl,p,us,rfl,rfl,hG,hS,bF,hr⟩) (fun a ha=>by
  have z:a=p:=by simpa using ha
  subst z
  exact⟨⟨_,bF,rfl⟩,hG,hS⟩) fun j a hj ha hz=>by
   have z:a=p:=by simpa using ha
   exact off j a hz z
 rw[List.set_set,List.set_set,j7 hv]at J3
 exact⟨_,J3⟩
theorem SR.Gi(I:SR K cls Av G S₀ ρ σ S H)(hi:ρ[i]?=some (some (.ow xs))):∃ S',aM S S' /\ SR K cls Av G S₀ (ρ.set i (some (.sh (.lst xs)))) σ S' H:=by
 obtain⟨F,J⟩:=I;obtain⟨v,hv,p,vs,e2,e3,hG,hS,hH,hr⟩:=J.own i _ hi;subst e2
 have J1:SRF K cls Av G S₀ (ρ.set i none) (σ.set i none) S H (mU F i []):=J.put (fun t e=>nomatch e) (fun a ha=>nomatch ha) fun j a _ ha=>nomatch ha
 have off:∀ j a,a∈mU F i [] j->a≠p:=fun j a ha z=>by
  by_cases ej:j=i
  . subst ej;rw[iA]at ha;cases ha
  . rw[fc ej]at ha;exact ej (J.apart j i a ha (by rw[e3,z];simp))
 have J2:=J1.change (S':=upd S p (.lst vs)) (H':=H) J.gh (aM.new hS) (fun b u h=>by
   by_cases e:b=p
   . subst e;rw[bF]at h;cases h;exact hH
   . rw[bD e]at h;exact J.sh b u h) (fun b h=>by
   by_cases e:b=p
   . subst e;exact .inr hG
   . rw[bD e]at h;exact J.new b h) (fun _ _ _ _ h=>h) (fun _ _ _ h=>h) fun j a ha=>by
     rw[bD (off j a ha)];exact(J1.live j a ha).2.2
 have J3:=J2.put (i:=i) (s:=some (.sh (.lst xs))) (u:=some (.ref p)) (fp:=[]) (fun t e=>by
  cases e
  refine⟨_,rfl,rfl,?_⟩
  unfold Rep
  exact⟨p,vs,rfl,SqL.new bF,hr.mono (aM.new hS)⟩) (fun a ha=>nomatch ha) fun j a _ ha=>nomatch ha
 rw[List.set_set,List.set_set,j7 hv]at J3
 exact⟨_,aM.new hS,_,J3⟩
end
structure bx(S H S' H':Hp):Prop where
 s:aM S S'
 g:aM H H'
 sh:aM S' H'
 new:∀ b,S' b≠none->S b≠none \/ H b=none
theorem bx.refl(h:aM S H):bx S H S H:=⟨aM.refl _,aM.refl _,h,fun _ z=>.inl z⟩
theorem bx.trans(a:bx S H S1 H1)(b:bx S1 H1 S2 H2):bx S H S2 H2:=
 ⟨a.s.trans b.s,a.g.trans b.g,b.sh,fun x h=>by
   rcases b.new x h with z|z
   . exact a.new x z
   . exact .inr (a.g.free z)⟩
theorem SRF.grow{K:PySem.W.Frag}{cls:String->Option Addr}{F:Nat->List Addr}(I:SRF K cls Av G S₀ ρ σ S H F)(w:bx S H S' H'):SRF K cls Av G S₀ ρ σ S' H' F:=
 I.change (I.gh.trans w.g) w.s w.sh (fun b h=>by
  rcases w.new b h with z|z
  . exact I.new b z
  . exact .inr (I.gh.free z)) (fun i a _ o h=>w.g _ _ h) (fun b o _ h=>w.g _ _ h) fun i a ha=>by
    obtain⟨⟨o,h1,_⟩,_,h3⟩:=I.live i a ha
    cases q:S' a with
    |none=>rfl
    | some o=>
      rcases w.new a (by rw[q];simp)with z|z
      . exact absurd h3 z
      . rw[h1]at z;cases z
theorem SR.grow{K:PySem.W.Frag}{cls:String->Option Addr}(I:SR K cls Av G S₀ ρ σ S H)(w:bx S H S' H'):SR K cls Av G S₀ ρ σ S' H':=let ⟨F,J⟩:=I;⟨F,J.grow w⟩
theorem SR.Gf{K:PySem.W.Frag}{cls:String->Option Addr}{ρ:aj}{σ:St}(I:SR K cls Av G S₀ ρ σ S H)(w:bx S H S' H')(h:lr K H S' H' (.fr xs) v):SR K cls Av G S₀ (ρ.set i (some (.ow xs))) (σ.set i (some v)) S' H':=by
 obtain⟨F,J⟩:=I;obtain⟨p,vs,rfl,hB,hS,hH,hr⟩:=h;have hG:=J.gh.free hB
 refine⟨_,(J.grow w).put (fp:=[p]) (fun t e=>by cases e;exact⟨_,rfl,p,vs,rfl,rfl,hG,hS,hH,hr⟩) (fun a ha=>?_) fun j a _ ha hz=>?_⟩
 . have z:a=p:=by simpa using ha
   subst z
   exact⟨⟨_,hH,rfl⟩,hG,hS⟩
 . have z:a=p:=by simpa using ha
   subst z;obtain⟨⟨o,h1,_⟩,_⟩:=J.live j a hz;rw[hB]at h1;cases h1
theorem bx.heap(h:aM S H)(hp:H p=none):bx S H S (upd H p o):=⟨aM.refl _,aM.new hp,h.trans (aM.new hp),fun _ z=>.inl z⟩
theorem bx.both(h:aM S H)(hp:H p=none):bx S H (upd S p o) (upd H p o):=by
 have hS:=h.free hp
 refine⟨aM.new hS,aM.new hp,fun b u z=>?_,fun b z=>?_⟩
 . by_cases e:b=p
   . subst e;rw[bF]at z ⊢;exact z
   . rw[bD e]at z ⊢;exact h b u z
 . by_cases e:b=p
   . subst e;exact .inr hp
   . rw[bD e]at z;exact .inl z
section
variable(K:PySem.W.Frag)(cls:String->Option Addr)(W:XW)
noncomputable def kz(σ:St)(S H:Hp)(Q:VK):OE->Prop
 |.ok r=>∀ v S' H',bx S H S' H'->lr K H S' H' r v->Q v H'
 |.exc c fs=>∀ a C S' H',bx S H S' H'->oi K cls S' H' c fs a C->W (.ref C) (some a) σ H'
 |.bad=>False
noncomputable def qC(σ:St)(S H:Hp)(Q:Bool->Hp->Prop):OT->Prop
 |.ok b=>∀ S' H',bx S H S' H'->Q b H'
 |.exc c fs=>∀ a C S' H',bx S H S' H'->oi K cls S' H' c fs a C->W (.ref C) (some a) σ H'
 |.bad=>False
noncomputable def rX(σ:St)(S H:Hp)(Q:List V->Hp->Prop):OA->Prop
 |.ok xs=>∀ vs S' H',bx S H S' H'->bZ K S' xs vs->Q vs H'
 |.exc c fs=>∀ a C S' H',bx S H S' H'->oi K cls S' H' c fs a C->W (.ref C) (some a) σ H'
 |.bad=>False
noncomputable def fS(Av G S₀:Hp)(S:Hp)(D:Ends):OS->Prop
 |.nx ρ=>∀ σ' S' H',SR K cls Av G S₀ ρ σ' S' H'->aM S S'->D.nx σ' H'
 |.bk ρ=>∀ σ' S' H',SR K cls Av G S₀ ρ σ' S' H'->aM S S'->D.bk σ' H'
 |.ct ρ=>∀ σ' S' H',SR K cls Av G S₀ ρ σ' S' H'->aM S S'->D.ct σ' H'
 |.rt ρ r=>∀ v σ' S' H',SR K cls Av G S₀ ρ σ' S' H'->aM S S'->lr K G S' H' r v->D.rt v H'
 |.exc ρ c fs=>∀ a C σ' S' H',SR K cls Av G S₀ ρ σ' S' H'->aM S S'->oi K cls S' H' c fs a C->W (.ref C) (some a) σ' H'
 |.bad=>False
noncomputable def JE(te:TE)(m:aj->OE):Prop:=∀ Av G S₀ ρ σ S H Q,SR K cls Av G S₀ ρ σ S H->kz K cls W σ S H Q (m ρ)->te σ H Q
noncomputable def JT(te:TT)(m:aj->OT):Prop:=∀ Av G S₀ ρ σ S H Q,SR K cls Av G S₀ ρ σ S H->qC K cls W σ S H Q (m ρ)->te σ H Q
noncomputable def JA(te:TA)(m:aj->OA):Prop:=∀ Av G S₀ ρ σ S H Q,SR K cls Av G S₀ ρ σ S H->rX K cls W σ S H Q (m ρ)->te σ H Q
noncomputable def JS(ts:TS)(m:aj->OS):Prop:=∀ Av G S₀ ρ σ S H D,SR K cls Av G S₀ ρ σ S H->fS K cls W Av G S₀ S D (m ρ)->ts D σ H
end
section
variable{K:PySem.W.Frag}{cls:String->Option Addr}{W:XW}{Av G S₀ S S' H H' B B':Hp}{ρ:aj}{σ:St}{Q:VK}
theorem lr.back(h:lr K B' S H r v)(g:aM B B'):lr K B S H r v:=by
 cases r with
 |sh x=>exact h
 |fr xs=>obtain⟨p,vs,e,h1,h2⟩:=h;exact⟨p,vs,e,g.free h1,h2⟩
 |al xs=>exact h
theorem kz.back(w:bx S H S1 H1)(h:kz K cls W σ S H Q o):kz K cls W σ S1 H1 Q o:=by
 cases o with
 |ok r=>exact fun v S' H' w' r=>h v S' H' (w.trans w') (r.back w.g)
 |exc c fs=>exact fun a C S' H' w' r=>h a C S' H' (w.trans w') r
 |bad=>exact h
theorem qC.back{Q:Bool->Hp->Prop}(w:bx S H S1 H1)(h:qC K cls W σ S H Q o):qC K cls W σ S1 H1 Q o:=by
 cases o with
 |ok r=>exact fun S' H' w'=>h S' H' (w.trans w')
 |exc c fs=>exact fun a C S' H' w' r=>h a C S' H' (w.trans w') r
 |bad=>exact h
theorem rX.back{Q:List V->Hp->Prop}(w:bx S H S1 H1)(h:rX K cls W σ S H Q o):rX K cls W σ S1 H1 Q o:=by
 cases o with
 |ok r=>exact fun v S' H' w' r=>h v S' H' (w.trans w') r
 |exc c fs=>exact fun a C S' H' w' r=>h a C S' H' (w.trans w') r
 |bad=>exact h
theorem fS.back(s:aM S S1)(h:fS K cls W Av G S₀ S D o):fS K cls W Av G S₀ S1 D o:=by
 cases o with
 |nx ρ=>exact fun σ' S' H' I s'=>h σ' S' H' I (s.trans s')
 |bk ρ=>exact fun σ' S' H' I s'=>h σ' S' H' I (s.trans s')
 |ct ρ=>exact fun σ' S' H' I s'=>h σ' S' H' I (s.trans s')
 |rt ρ r=>exact fun v σ' S' H' I s'=>h v σ' S' H' I (s.trans s')
 |exc ρ c fs=>exact fun a C σ' S' H' I s'=>h a C σ' S' H' I (s.trans s')
 |bad=>exact h
theorem JE.go{m:aj->OE}{f:RV->OE}(h:JE K cls W te m)(I:SR K cls Av G S₀ ρ σ S H)(p:kz K cls W σ S H Q ((m ρ).bind f))
  (k:∀ r v S1 H1,SR K cls Av G S₀ ρ σ S1 H1->bx S H S1 H1->lr K H S1 H1 r v->kz K cls W σ S1 H1 Q (f r)->Q' v H1):te σ H Q':=by
 refine h Av G S₀ ρ σ S H Q' I ?_
 cases e:m ρ with
 |ok r=>rw[e]at p;exact fun v S1 H1 w r1=>k r v S1 H1 (I.grow w) w r1 (p.back w)
 |exc c fs=>rw[e]at p;exact p
 |bad=>rw[e]at p;exact p
theorem JE.goT{m:aj->OE}{f:RV->OT}{Q:Bool->Hp->Prop}(h:JE K cls W te m)(I:SR K cls Av G S₀ ρ σ S H)(p:qC K cls W σ S H Q ((m ρ).fI f))
  (k:∀ r v S1 H1,SR K cls Av G S₀ ρ σ S1 H1->bx S H S1 H1->lr K H S1 H1 r v->qC K cls W σ S1 H1 Q (f r)->Q' v H1):te σ H Q':=by
 refine h Av G S₀ ρ σ S H Q' I ?_
 cases e:m ρ with
 |ok r=>rw[e]at p;exact fun v S1 H1 w r1=>k r v S1 H1 (I.grow w) w r1 (p.back w)
 |exc c fs=>rw[e]at p;exact p
 |bad=>rw[e]at p;exact p
theorem JE.goS{m:aj->OE}{f:RV->OS}(h:JE K cls W te m)(I:SR K cls Av G S₀ ρ σ S H)(p:fS K cls W Av G S₀ S D ((m ρ).cq ρ f))
  (k:∀ r v S1 H1,SR K cls Av G S₀ ρ σ S1 H1->bx S H S1 H1->lr K H S1 H1 r v->fS K cls W Av G S₀ S1 D (f r)->Q' v H1):te σ H Q':=by
 refine h Av G S₀ ρ σ S H Q' I ?_
 cases e:m ρ with
 |ok r=>rw[e]at p;exact fun v S1 H1 w r1=>k r v S1 H1 (I.grow w) w r1 (p.back w.s)
 |exc c fs=>rw[e]at p;exact fun a C S' H' w x=>p a C σ S' H' (I.grow w) w.s x
 |bad=>rw[e]at p;exact p
theorem JT.go{m:aj->OT}{f:Bool->OE}{Q':Bool->Hp->Prop}(h:JT K cls W te m)(I:SR K cls Av G S₀ ρ σ S H)(p:kz K cls W σ S H Q ((m ρ).bind f))
  (k:∀ b S1 H1,SR K cls Av G S₀ ρ σ S1 H1->bx S H S1 H1->kz K cls W σ S1 H1 Q (f b)->Q' b H1):te σ H Q':=by
 refine h Av G S₀ ρ σ S H Q' I ?_
 cases e:m ρ with
 |ok r=>rw[e]at p;exact fun S1 H1 w=>k r S1 H1 (I.grow w) w (p.back w)
 |exc c fs=>rw[e]at p;exact p
 |bad=>rw[e]at p;exact p
theorem JT.goT{m:aj->OT}{f:Bool->OT}{Q Q':Bool->Hp->Prop}(h:JT K cls W te m)(I:SR K cls Av G S₀ ρ σ S H)(p:qC K cls W σ S H Q ((m ρ).fI f))
  (k:∀ b S1 H1,SR K cls Av G S₀ ρ σ S1 H1->bx S H S1 H1->qC K cls W σ S1 H1 Q (f b)->Q' b H1):te σ H Q':=by
 refine h Av G S₀ ρ σ S H Q' I ?_
 cases e:m ρ with
 |ok r=>rw[e]at p;exact fun S1 H1 w=>k r S1 H1 (I.grow w) w (p.back w)
 |exc c fs=>rw[e]at p;exact p
 |bad=>rw[e]at p;exact p
theorem JT.goS{m:aj->OT}{f:Bool->OS}{Q':Bool->Hp->Prop}(h:JT K cls W te m)(I:SR K cls Av G S₀ ρ σ S H)(p:fS K cls W Av G S₀ S D ((m ρ).cq ρ f))
  (k:∀ b S1 H1,SR K cls Av G S₀ ρ σ S1 H1->bx S H S1 H1->fS K cls W Av G S₀ S1 D (f b)->Q' b H1):te σ H Q':=by
 refine h Av G S₀ ρ σ S H Q' I ?_
 cases e:m ρ with
 |ok r=>rw[e]at p;exact fun S1 H1 w=>k r S1 H1 (I.grow w) w (p.back w.s)
 |exc c fs=>rw[e]at p;exact fun a C S' H' w x=>p a C σ S' H' (I.grow w) w.s x
 |bad=>rw[e]at p;exact p
theorem JA.go{m:aj->OA}{f:List PV->OE}{Q':List V->Hp->Prop}(h:JA K cls W te m)(I:SR K cls Av G S₀ ρ σ S H)(p:kz K cls W σ S H Q ((m ρ).bind f))
  (k:∀ xs vs S1 H1,SR K cls Av G S₀ ρ σ S1 H1->bx S H S1 H1->bZ K S1 xs vs->kz K cls W σ S1 H1 Q (f xs)->Q' vs H1):te σ H Q':=by
 refine h Av G S₀ ρ σ S H Q' I ?_
 cases e:m ρ with
 |ok r=>rw[e]at p;exact fun v S1 H1 w r1=>k r v S1 H1 (I.grow w) w r1 (p.back w)
 |exc c fs=>rw[e]at p;exact p
 |bad=>rw[e]at p;exact p
theorem JA.goA{m:aj->OA}{f:List PV->OA}{Q Q':List V->Hp->Prop}(h:JA K cls W te m)(I:SR K cls Av G S₀ ρ σ S H)(p:rX K cls W σ S H Q ((m ρ).fh f))
  (k:∀ xs vs S1 H1,SR K cls Av G S₀ ρ σ S1 H1->bx S H S1 H1->bZ K S1 xs vs->rX K cls W σ S1 H1 Q (f xs)->Q' vs H1):te σ H Q':=by
 refine h Av G S₀ ρ σ S H Q' I ?_
 cases e:m ρ with
 |ok r=>rw[e]at p;exact fun v S1 H1 w r1=>k r v S1 H1 (I.grow w) w r1 (p.back w)
 |exc c fs=>rw[e]at p;exact p
 |bad=>rw[e]at p;exact p
theorem ah:JE K cls W (qP i) (ak i):=by
 intro Av G S₀ ρ σ S H Q I p;unfold ak at p;split at p
 . rename_i x e;obtain⟨v,e1,r⟩:=I.good i _ e
   exact⟨v,e1,p v S H (bx.refl I.sh) r⟩
 . rename_i xs e;obtain⟨v,e1,a,vs,e2,_,_,h3,h4⟩:=I.good i _ e
   exact⟨v,e1,p v S H (bx.refl I.sh) ⟨a,vs,e2,SqL.new h3,h4⟩⟩
 . exact p.elim
theorem u9(h:∀ S,Rep K S x v):JE K cls W (tC v) (mC x):=fun Av G S₀ ρ σ S H Q I p=>p v S H (bx.refl I.sh) (h S)
theorem ag:JE K cls W (tC (.int n)) (mC (.int n)):=u9 fun _=>by unfold Rep;rfl
theorem gH:JE K cls W (tC (.bl n)) (mC (.bl n)):=u9 fun _=>by unfold Rep;rfl
theorem dk:JE K cls W (tC .non) (mC .non):=u9 fun _=>by unfold Rep;rfl
theorem aL:JE K cls W (tC (.str n)) (mC (.str n)):=u9 fun _=>by unfold Rep;rfl
theorem mn{ns:List Int}(h:∀ S,SqT K S p (ns.map V.int)):JE K cls W (tC (.ref p)) (mC (.tup (ns.map .int))):=u9 fun S=>by unfold Rep;exact⟨p,_,rfl,h S,bZ.ints⟩
noncomputable def JR(K:PySem.W.Frag)(r:R2)(g:PV->PV->Option RV):Prop:=∀ S H x y v u rr Q,aM S H->RdV K S H x v->RdV K S H y u->g x y=some rr ->
 (∀ z S' H',bx S H S' H'->lr K H S' H' rr z->Q z H')->r v u H Q
theorem av{g:PV->PV->Option RV}{ma mb:aj->OE}(hr:JR K r g)(ha:JE K cls W ta ma)(hb:JE K cls W tb mb):JE K cls W (tOp r ta tb) (mOp g ma mb):=by
 intro Av G S₀ ρ σ S H Q I p
 refine ha.go I p fun a v S1 H1 I1 w1 r1 p1=>hb.go I1 p1 fun b u S2 H2 I2 w2 r2 p2=>?_
 cases e:g a.pv b.pv with
 |none=>rw[e]at p2;exact p2.elim
 | some rr=>
   rw[e]at p2;exact hr S2 H2 a.pv b.pv v u rr Q I2.sh ((r1.rd I1.sh).mono w2.s w2.g) (r2.rd I2.sh) e p2
theorem dI(h:RdV K S H (.int i) v):v=.int i:=by unfold RdV Rep at h;exact h
theorem lB(h:RdV K S H (.bl i) v):v=.bl i:=by unfold RdV Rep at h;exact h
theorem jF(h:RdV K S H (.str i) v):v=.str i:=by unfold RdV Rep at h;exact h
theorem iJ(h:RdV K S H .non v):v=.non:=by unfold RdV Rep at h;exact h
theorem iF(h:RdV K S H (.lst xs) v):∃ p vs,v=.ref p /\ SqL K H p vs /\ bZ K S xs vs:=h
theorem nR(h:RdV K S H (.tup xs) v):∃ p vs,v=.ref p /\ SqT K S p vs /\ bZ K S xs vs:=by unfold RdV Rep at h;exact h
theorem Bt{C:Int->Int->Prop}{c:Int->Int->Bool}{f:Int->Int->PV}{fv:Int->Int->V}(hc:∀ i j,c i j=true->C i j)(hf:∀ S i j,Rep K S (f i j) (fv i j)):JR K (rI C fv) (gI c f):=by
 intro S H x y v u rr Q I hx hy e k;unfold gI at e;split at e
 . rename_i i j;split at e
   . rename_i hcc;cases e
     exact⟨i,j,dI hx,dI hy,hc i j hcc,k _ S H (bx.refl I) (hf S i j)⟩
   . cases e
 . cases e
theorem qe{f:Int->Int->PV}{fv:Int->Int->V}(hf:∀ S i j,Rep K S (f i j) (fv i j)):JR K (rI0 fv) (gI (fun _ _=>true) f):=by
 intro S H x y v u rr Q I hx hy e k;unfold gI at e;split at e
 . rename_i i j;simp only[if_true]at e;cases e
   exact⟨i,j,dI hx,dI hy,k _ S H (bx.refl I) (hf S i j)⟩
 . cases e
theorem bA:JR K (rI0 fun i j=>.int (i+j)) cu:=qe fun _ _ _=>by unfold Rep;rfl
theorem lb:JR K (rI0 fun i j=>.int (i - j)) nk:=qe fun _ _ _=>by unfold Rep;rfl
theorem uq:JR K (rI AO fun i j=>.int (i*j)) yO:=Bt (fun i j h=>by simpa [AO,Bool.or_eq_true,Bool.and_eq_true,decide_eq_true_eq]using h) fun _ _ _=>by unfold Rep;rfl
theorem pe:JR K (rI Eh fun i j=>.int (i/j)) sW:=Bt (fun i j h=>by simpa [Eh,Bool.and_eq_true,decide_eq_true_eq]using h) fun _ _ _=>by unfold Rep;rfl
theorem jD:JR K (rI (fun _ j=>0<j) fun i j=>.int (i%j)) oa:=Bt (fun i j h=>by simpa using h) fun _ _ _=>by unfold Rep;rfl
theorem gq:JR K (rI0 fun i j=>.bl (decide (i<j))) gLt:=qe fun _ _ _=>by unfold Rep;rfl
theorem eC:JR K (rI0 fun i j=>.bl (decide (i<=j))) gLe:=qe fun _ _ _=>by unfold Rep;rfl
theorem Dv:JR K (rI0 fun i j=>.bl (decide (j<i))) gGt:=qe fun _ _ _=>by unfold Rep;rfl
theorem wu:JR K (rI0 fun i j=>.bl (decide (j<=i))) gGe:=qe fun _ _ _=>by unfold Rep;rfl
theorem Bm(hx:RdV K S H x v)(hy:RdV K S H y u)(e:eqS x y=some b):DK v u=true /\ decide (v=u)=b:=by
 unfold eqS at e;split at e
 all_goals first
  |(have h1:=iJ hx;subst h1;have h2:=iJ hy;subst h2;cases e;exact⟨rfl,by simp⟩)
  |(have h1:=iJ hx;subst h1;have h2:=dI hy;subst h2;cases e;exact⟨rfl,by simp⟩)
  |(have h1:=dI hx;subst h1;have h2:=iJ hy;subst h2;cases e;exact⟨rfl,by simp⟩)
  |(have h1:=iJ hx;subst h1;have h2:=lB hy;subst h2;cases e;exact⟨rfl,by simp⟩)
  |(have h1:=lB hx;subst h1;have h2:=iJ hy;subst h2;cases e;exact⟨rfl,by simp⟩)
  |(have h1:=iJ hx;subst h1;have h2:=jF hy;subst h2;cases e;exact⟨rfl,by simp⟩)
  |(have h1:=jF hx;subst h1;have h2:=iJ hy;subst h2;cases e;exact⟨rfl,by simp⟩)
  |(have h1:=dI hx;subst h1;have h2:=dI hy;subst h2;cases e;exact⟨rfl,by simp⟩)
  |(have h1:=lB hx;subst h1;have h2:=lB hy;subst h2;cases e;exact⟨rfl,by simp⟩)
  |(have h1:=jF hx;subst h1;have h2:=jF hy;subst h2;cases e;exact⟨rfl,by simp⟩)
  |(have h1:=dI hx;subst h1;have h2:=jF hy;subst h2;cases e;exact⟨rfl,by simp⟩)
  |(have h1:=jF hx;subst h1;have h2:=dI hy;subst h2;cases e;exact⟨rfl,by simp⟩)
  |(have h1:=lB hx;subst h1;have h2:=jF hy;subst h2;cases e;exact⟨rfl,by simp⟩)
  |(have h1:=jF hx;subst h1;have h2:=lB hy;subst h2;cases e;exact⟨rfl,by simp⟩)
  |cases e
theorem bq:JR K rEq gEq:=by
 intro S H x y v u rr Q I hx hy e k;obtain⟨b,e1,e2⟩:=Option.map_eq_some_iff.mp e;obtain⟨h1,h2⟩:=Bm hx hy e1
 refine⟨h1,k _ S H (bx.refl I) ?_⟩
 subst e2;show Rep K S _ _;unfold Rep;rw[h2]
theorem tY:JR K rNe gNe:=by
 intro S H x y v u rr Q I hx hy e k;obtain⟨b,e1,e2⟩:=Option.map_eq_some_iff.mp e;obtain⟨h1,h2⟩:=Bm hx hy e1
 refine⟨h1,k _ S H (bx.refl I) ?_⟩
 subst e2;show Rep K S _ _;unfold Rep;rw[h2]
end
section
variable{K:PySem.W.Frag}{cls:String->Option Addr}{W:XW}{Av G S₀ S S' H H' B B':Hp}{ρ:aj}{σ:St}{Q:VK}
theorem lr.share(h:lr K H S1 H1 r v)(w:bx S H S1 H1)(e:jx r=some x):∃ S2,bx S H S2 H1 /\ aM S1 S2 /\ Rep K S2 x v:=by
 cases r with
 |sh y=>cases e;exact⟨S1,w,aM.refl _,h⟩
 |al xs=>cases e
 | fr xs=>
   cases e;obtain⟨p,vs,rfl,hB,hS,hH,hr⟩:=h
   refine⟨upd S1 p (.lst vs),⟨w.s.trans (aM.new hS),w.g,fun b u z=>?_,fun b z=>?_⟩,aM.new hS,?_⟩
   . by_cases e:b=p
     . subst e;rw[bF]at z;cases z;exact hH
     . rw[bD e]at z;exact w.sh b u z
   . by_cases e:b=p
     . subst e;exact .inr hB
     . rw[bD e]at z;exact w.new b z
   . unfold Rep
     exact⟨p,vs,rfl,SqL.new bF,hr.mono (aM.new hS)⟩
theorem aw:JA K cls W lz aB:=fun Av G S₀ ρ σ S H Q I p=>p [] S H (bx.refl I.sh) .nil
theorem ae{me:aj->OE}{mr:aj->OA}(he:JE K cls W te me)(ht:JA K cls W t mr):JA K cls W (jT te t) (af me mr):=by
 intro Av G S₀ ρ σ S H Q I p;refine he Av G S₀ ρ σ S H _ I ?_;unfold af at p
 cases e:me ρ with
 |exc c fs=>rw[e]at p;exact p
 |bad=>rw[e]at p;exact p
 | ok r=>
   rw[e]at p;intro v S1 H1 w1 r1;simp only[OE.fh]at p
   cases es:jx r with
   |none=>rw[es]at p;exact p.elim
   | some x=>
     rw[es]at p;obtain⟨S2,w2,s2,rx⟩:=r1.share w1 es
     refine ht.goA (I.grow w2) (p.back w2) fun xs vs S3 H3 I3 w3 r3 p3=>?_
     exact p3 (v ::vs) S3 H3 (bx.refl I3.sh) (.cons (Rep.mono w3.s rx) r3)
theorem Bh:lim=sizeLine:=by decide
theorem aI{ma:aj->OA}(h:JA K cls W t ma):JE K cls W (D5 t) (ba ma):=by
 intro Av G S₀ ρ σ S H Q I p
 refine h.go I p fun xs vs S1 H1 I1 w1 r1 p1=>?_
 split at p1
 . rename_i hl
   refine⟨by rw[r1.length];exact hl,fun q hq=>p1 (.ref q) S1 _ (bx.heap I1.sh hq) ⟨q,vs,rfl,hq,I1.sh.free hq,bF,r1⟩⟩
 . exact p1.elim
theorem bt{ma:aj->OA}(h:JA K cls W t ma):JE K cls W (E4 t) (cB ma):=by
 intro Av G S₀ ρ σ S H Q I p
 refine h.go I p fun xs vs S1 H1 I1 w1 r1 p1=>?_
 split at p1
 . rename_i hl
   refine⟨by rw[r1.length];exact hl,fun q hq=>p1 (.ref q) _ _ (bx.both I1.sh hq) ?_⟩
   show Rep K _ _ _;unfold Rep
   exact⟨q,vs,rfl,SqT.new bF,r1.mono (bx.both (o:=.tup vs) I1.sh hq).s⟩
 . exact p1.elim
noncomputable def Gj(K:PySem.W.Frag)(cls:String->Option Addr)(S H:Hp)(Q:VK)(E:XK):OE->Prop
 |.ok r=>∀ v S' H',bx S H S' H'->lr K H S' H' r v->Q v H'
 |.exc c fs=>∀ a C S' H',bx S H S' H'->oi K cls S' H' c fs a C->E (.ref C) (some a) H'
 |.bad=>False
noncomputable def spP(K:PySem.W.Frag)(cls:String->Option Addr)(f:List PV->OE):Sp:=fun vs H Q E=>∃ S xs,aM S H /\ bZ K S xs vs /\ Gj K cls S H Q E (f xs)
theorem bj{ma:aj->OA}{f:List PV->OE}(h:JA K cls W t ma):JE K cls W (nP (spP K cls f) [] W t) (bU f ma):=by
 intro Av G S₀ ρ σ S H Q I p
 refine h.go I p fun xs vs S1 H1 I1 w1 r1 p1=>?_
 show spP K cls f (vs++[]) H1 Q _;rw[List.append_nil]
 refine⟨S1,xs,I1.sh,r1,?_⟩
 cases e:f xs with
 |ok r=>rw[e]at p1;exact p1
 |exc c fs=>rw[e]at p1;exact p1
 |bad=>rw[e]at p1;exact p1
noncomputable def JU(K:PySem.W.Frag)(r:List V->Hp->VK->Prop)(g:PV->Option RV):Prop:=∀ S H x v rr Q,aM S H->RdV K S H x v->g x=some rr ->
 (∀ z S' H',bx S H S' H'->lr K H S' H' rr z->Q z H')->r [v] H Q
theorem dE{r:List V->Hp->VK->Prop}{g:PV->Option RV}{ma:aj->OE}(hr:JU K r g)(ha:JE K cls W ta ma):JE K cls W (tCB r (jT ta lz)) (mUn g ma):=by
 intro Av G S₀ ρ σ S H Q I p
 refine ha.go I p fun a v S1 H1 I1 w1 r1 p1=>?_
 show r [v] H1 Q
 cases e:g a.pv with
 |none=>rw[e]at p1;exact p1.elim
 |some rr=>rw[e]at p1;exact hr S1 H1 a.pv v rr Q I1.sh (r1.rd I1.sh) e p1
theorem nv{r:V->Hp->VK->Prop}{g:PV->Option RV}{ma:aj->OE}(hr:JU K (fun vs H Q=>∃ v,vs=[v] /\ r v H Q) g)(ha:JE K cls W ta ma):JE K cls W (tUn r ta) (mUn g ma):=by
 intro Av G S₀ ρ σ S H Q I p
 refine ha.go I p fun a v S1 H1 I1 w1 r1 p1=>?_
 cases e:g a.pv with
 |none=>rw[e]at p1;exact p1.elim
 | some rr=>
   rw[e]at p1;obtain⟨u,e1,h⟩:=hr S1 H1 a.pv v rr Q I1.sh (r1.rd I1.sh) e p1;cases e1;exact h
theorem km:JU K (fun vs H Q=>∃ v,vs=[v] /\ rU (fun i=>.int (-i)) v H Q) lg:=by
 intro S H x v rr Q I hx e k
 cases x with
 |int i=>cases e;exact⟨v,rfl,i,dI hx,k _ S H (bx.refl I) (by show Rep K S _ _;unfold Rep;rfl)⟩
 |_=>cases e
theorem eN:JU K (fun xs H Q=>∃ p ys,xs=[.ref p] /\ (SqL K H p ys \/ SqT K H p ys) /\ Q (.int ys.length) H) gF:=by
 intro S H x v rr Q I hx e k
 cases x with
 | lst xs=>
   cases e;obtain⟨p,vs,rfl,hq,r⟩:=iF hx
   exact⟨p,vs,rfl,.inl hq,k _ S H (bx.refl I) (by show Rep K S _ _;unfold Rep;rw[r.length])⟩
 | tup xs=>
   cases e;obtain⟨p,vs,rfl,hq,r⟩:=nR hx
   exact⟨p,vs,rfl,.inr (aM.tup I hq),k _ S H (bx.refl I) (by show Rep K S _ _;unfold Rep;rw[r.length])⟩
 |_=>cases e
theorem pK:JU K (fun xs H Q=>(∃ i,xs=[.int i] /\ Q (.int i) H) \/ ∃ k,xs=[.bl k] /\ Q (.int (if k then 1 else 0)) H) qH:=by
 intro S H x v rr Q I hx e k
 cases x with
 |int i=>cases e;exact .inl ⟨i,by rw[dI hx],k _ S H (bx.refl I) (by show Rep K S _ _;unfold Rep;rfl)⟩
 |bl b=>cases e;exact .inr ⟨b,by rw[lB hx],k _ S H (bx.refl I) (by show Rep K S _ _;unfold Rep;rfl)⟩
 |_=>cases e
theorem EN{α:Type}(xs:List α)(i:Int):atP xs i=L2.atI xs i:=rfl
theorem bZ.atI(h:bZ K S xs vs)(e:atP xs i=some x):∃ v,L2.atI vs i=some v /\ Rep K S x v:=by
 rw[EN]at e
 unfold L2.atI at e ⊢
 rw[h.length]
 cases q:ixN xs.length i with
 |none=>rw[q]at e;cases e
 |some j=>rw[q]at e;exact h.get e
theorem cb:JR K (CQ K) bc:=by
 intro S H x y v u rr Q I hx hy e k;unfold bc at e;split at e
 . rename_i xs i;obtain⟨z,e1,e2⟩:=Option.map_eq_some_iff.mp e;obtain⟨p,vs,rfl,hq,r⟩:=iF hx;obtain⟨w,e3,rw'⟩:=r.atI e1;subst e2
   exact⟨p,vs,i,w,rfl,dI hy,hq,e3,k _ S H (bx.refl I) rw'⟩
 . cases e
theorem fN:JR K (F9 K) fH:=by
 intro S H x y v u rr Q I hx hy e k;unfold fH at e;split at e
 . rename_i xs i;obtain⟨z,e1,e2⟩:=Option.map_eq_some_iff.mp e;obtain⟨p,vs,rfl,hq,r⟩:=nR hx;obtain⟨w,e3,rw'⟩:=r.atI e1;subst e2
   exact⟨p,vs,i,w,rfl,dI hy,aM.tup I hq,e3,k _ S H (bx.refl I) rw'⟩
 . cases e
end
section
variable{K:PySem.W.Frag}{cls:String->Option Addr}{W:XW}{Av G S₀ S S' H H' B B':Hp}{ρ:aj}{σ:St}{Q:VK}
theorem m3:JR K (C2 K) pH:=by
 intro S H x y v u rr Q I hx hy e k;unfold pH at e;split at e
 . rename_i xs ys;split at e
   . rename_i hl;cases e;obtain⟨p,vs,rfl,hq,r⟩:=iF hx;obtain⟨p2,vs2,rfl,hq2,r2⟩:=iF hy
     exact⟨p,p2,vs,vs2,rfl,rfl,hq,hq2,by rw[r.length,r2.length];exact hl,fun l hn=>k _ S _ (bx.heap I hn) ⟨l,_,rfl,hn,I.free hn,bF,r.append r2⟩⟩
   . cases e
 . cases e
theorem wM{xs:List PV}{vs:List V}{bs:List Bool}(h:pz xs=some bs)(r:bZ K S xs vs):vs=bs.map V.bl:=by
 induction xs generalizing bs vs with
 |nil=>cases h;exact r.nil_inv
 | cons x xs ih=>
   cases x with
   | bl i=>
     obtain⟨ms,e1,e2⟩:=Option.map_eq_some_iff.mp h;subst e2;obtain⟨v,t,rfl,h1,h2⟩:=r.cons_inv;unfold Rep at h1;rw[ih e1 h2,h1];rfl
   |_=>cases h
theorem D3{A:Around}(hh:A.handled=none):JU K (fun xs H Q=>∃(p:Addr) (bs:List Bool),xs=[.ref p] /\ SqL K H p (bs.map V.bl) /\ A.handled=none /\ Q (.bl (bs.all id)) H) CM:=by
 intro S H x v rr Q I hx e k
 cases x with
 | lst xs=>
   obtain⟨bs,e1,e2⟩:=Option.map_eq_some_iff.mp e;obtain⟨p,vs,rfl,hq,r⟩:=iF hx;rw[wM e1 r]at hq;subst e2
   exact⟨p,bs,rfl,hq,hh,k _ S H (bx.refl I) (by show Rep K S _ _;unfold Rep;rfl)⟩
 |_=>cases e
theorem EW{T:String}{x:PV}{v:V}{b:Bool}(s:aM S H)(hx:RdV K S H x v)(e:isP T x=some b):IsV K T v H b:=by
 cases x with
 | int i=>
   have:=dI hx;subst this;simp only[isP]at e;split at e
   . cases e;exact .inl ⟨by assumption,rfl⟩
   . split at e
     . rename_i h;cases e;rcases h with h|h|h|h
       . exact .inr (.inl ⟨h,rfl⟩)
       . exact .inr (.inr (.inl ⟨h,rfl⟩))
       . exact .inr (.inr (.inr (.inl ⟨h,rfl⟩)))
       . exact .inr (.inr (.inr (.inr ⟨h,rfl⟩)))
     . cases e
 | bl i=>
   have:=lB hx;subst this;simp only[isP]at e;split at e
   . rename_i h;cases e;rcases h with h|h
     . exact .inl ⟨h,rfl⟩
     . exact .inr (.inl ⟨h,rfl⟩)
   . split at e
     . rename_i h;cases e;rcases h with h|h|h
       . exact .inr (.inr (.inl ⟨h,rfl⟩))
       . exact .inr (.inr (.inr (.inl ⟨h,rfl⟩)))
       . exact .inr (.inr (.inr (.inr ⟨h,rfl⟩)))
     . cases e
 | non=>
   have:=iJ hx;subst this;simp only[isP]at e;split at e
   . rename_i h;cases e;rcases h with h|h|h|h|h
     . exact .inl ⟨h,rfl⟩
     . exact .inr (.inl ⟨h,rfl⟩)
     . exact .inr (.inr (.inl ⟨h,rfl⟩))
     . exact .inr (.inr (.inr (.inl ⟨h,rfl⟩)))
     . exact .inr (.inr (.inr (.inr ⟨h,rfl⟩)))
   . cases e
 | str i=>
   have:=jF hx;subst this;simp only[isP]at e;split at e
   . cases e;exact .inr (.inr (.inr (.inr ⟨by assumption,rfl⟩)))
   . split at e
     . rename_i h;cases e;rcases h with h|h|h|h
       . exact .inl ⟨h,rfl⟩
       . exact .inr (.inl ⟨h,rfl⟩)
       . exact .inr (.inr (.inl ⟨h,rfl⟩))
       . exact .inr (.inr (.inr (.inl ⟨h,rfl⟩)))
     . cases e
 | lst xs=>
   obtain⟨p,vs,rfl,hq,r⟩:=iF hx;refine .inl ⟨⟨vs,hq⟩,?_⟩;simp only[isP]at e;split at e
   . cases e;exact .inr (.inr (.inl ⟨by assumption,rfl⟩))
   . split at e
     . rename_i h;cases e;rcases h with h|h|h|h
       . exact .inl ⟨h,rfl⟩
       . exact .inr (.inl ⟨h,rfl⟩)
       . exact .inr (.inr (.inr (.inl ⟨h,rfl⟩)))
       . exact .inr (.inr (.inr (.inr ⟨h,rfl⟩)))
     . cases e
 | tup xs=>
   obtain⟨p,vs,rfl,hq,r⟩:=nR hx;refine .inr ⟨⟨vs,aM.tup s hq⟩,?_⟩;simp only[isP]at e;split at e
   . cases e;exact .inr (.inr (.inr (.inl ⟨by assumption,rfl⟩)))
   . split at e
     . rename_i h;cases e;rcases h with h|h|h|h
       . exact .inl ⟨h,rfl⟩
       . exact .inr (.inl ⟨h,rfl⟩)
       . exact .inr (.inr (.inl ⟨h,rfl⟩))
       . exact .inr (.inr (.inr (.inr ⟨h,rfl⟩)))
     . cases e
theorem wO{T:String}{ta:TE}{ma:aj->OE}(ha:JE K cls W ta ma):
  JE K cls W (tCB (fun xs H Q=>∃ x T b,xs=[x,.ty T] /\ IsV K T x H b /\ Q (.bl b) H) (jT ta (jT (tC (.ty T)) lz))) (mIs T ma):=by
 intro Av G S₀ ρ σ S H Q I p
 refine ha.go I p fun a v S1 H1 I1 w1 r1 p1=>?_
 show ∃ x T' b,[v,V.ty T]=[x,V.ty T'] /\ _
 dsimp only at p1
 cases e:isP T a.pv with
 |none=>rw[e]at p1;exact p1.elim
 | some b=>
   rw[e]at p1
   exact⟨v,T,b,rfl,EW I1.sh (r1.rd I1.sh) e,p1 _ S1 H1 (bx.refl I1.sh) (by show Rep K S1 _ _;unfold Rep;rfl)⟩
end
section
variable{K:PySem.W.Frag}{cls:String->Option Addr}{W:XW}{Av G S₀ S S' H H' B B':Hp}{ρ:aj}{σ:St}{Q:VK}
theorem pI{xs:List PV}{vs:List V}(h:bZ K S xs vs):vs.isEmpty=xs.isEmpty:=by
 cases xs with
 |nil=>rw[h.nil_inv];rfl
 |cons x xs=>obtain⟨v,r,rfl,_⟩:=h.cons_inv;rfl
theorem ym(s:aM S H)(hx:RdV K S H x v)(e:jv x=some b):sZ K v H b:=by
 cases x with
 |non=>have:=iJ hx;subst this;cases e;rfl
 |bl c=>have:=lB hx;subst this;cases e;rfl
 |int i=>have:=dI hx;subst this;cases e;rfl
 |str z=>cases e
 | lst xs=>
   obtain⟨p,vs,rfl,hq,r⟩:=iF hx;cases e;exact .inl ⟨vs,hq,by rw[pI r]⟩
 | tup xs=>
   obtain⟨p,vs,rfl,hq,r⟩:=nR hx;cases e;exact .inr (.inl ⟨vs,aM.tup s hq,by rw[pI r]⟩)
theorem fG{ma:aj->OE}(ha:JE K cls W ta ma):JT K cls W (fun σ H Q=>ta σ H fun x H'=>∃ k,sZ K x H' k /\ Q k H') (dn ma):=by
 intro Av G S₀ ρ σ S H Q I p
 refine ha.goT I p fun r v S1 H1 I1 w1 r1 p1=>?_
 cases e:jv r.pv with
 |none=>rw[e]at p1;exact p1.elim
 |some b=>rw[e]at p1;exact⟨b,ym I1.sh (r1.rd I1.sh) e,p1 S1 H1 (bx.refl I1.sh)⟩
theorem uF{r:RV}(h:r.pv=.bl b)(r1:lr K H S1 H1 r v)(s:aM S1 H1):v=.bl b:=by
 have:=r1.rd s;rw[h]at this;exact lB this
theorem ay{ma:aj->OE}(ha:JE K cls W ta ma):JT K cls W (tN ta) (au ma):=by
 intro Av G S₀ ρ σ S H Q I p
 refine ha.goT I p fun r v S1 H1 I1 w1 r1 p1=>?_
 cases e:r.pv with
 |bl b=>rw[e]at p1;exact⟨b,uF e r1 I1.sh,p1 S1 H1 (bx.refl I1.sh)⟩
 |_=>rw[e]at p1;exact p1.elim
theorem pS{ma:aj->OT}(ha:JT K cls W ta ma):JT K cls W (B5 ta) (kE ma):=by
 intro Av G S₀ ρ σ S H Q I p
 exact ha.goT I p fun b S1 H1 I1 w1 p1=>p1 S1 H1 (bx.refl I1.sh)
theorem fQ{ma mb:aj->OT}(ha:JT K cls W ta ma)(hb:JT K cls W tb mb):JT K cls W (AZ ta tb) (cQ ma mb):=by
 intro Av G S₀ ρ σ S H Q I p
 refine ha.goT I p fun b S1 H1 I1 w1 p1=>?_
 cases b with
 |true=>exact vY (hb Av G S₀ ρ σ S1 H1 Q I1 p1)
 |false=>exact wy (p1 S1 H1 (bx.refl I1.sh))
theorem mR{ma mb:aj->OT}(ha:JT K cls W ta ma)(hb:JT K cls W tb mb):JT K cls W (tOr ta tb) (lH ma mb):=by
 intro Av G S₀ ρ σ S H Q I p
 refine ha.goT I p fun b S1 H1 I1 w1 p1=>?_
 cases b with
 |false=>exact wy (hb Av G S₀ ρ σ S1 H1 Q I1 p1)
 |true=>exact vY (p1 S1 H1 (bx.refl I1.sh))
theorem oS:lr K B S H (.sh (.bl b)) (.bl b):=by show Rep K S _ _;unfold Rep;rfl
theorem xw{ma mb:aj->OE}(ha:JE K cls W ta ma)(hb:JE K cls W tb mb):JE K cls W (Ae ta tb) (oA ma mb):=by
 intro Av G S₀ ρ σ S H Q I p
 refine ha.go I p fun r v S1 H1 I1 w1 r1 p1=>?_
 cases e:r.pv with
 | bl b=>
   rw[e]at p1
   refine⟨b,uF e r1 I1.sh,?_⟩
   cases b with
   |true=>exact vY (hb Av G S₀ ρ σ S1 H1 Q I1 p1)
   |false=>exact wy (p1 _ S1 H1 (bx.refl I1.sh) oS)
 |_=>rw[e]at p1;exact p1.elim
theorem EB{ma:aj->OE}(ha:JE K cls W ta ma):JE K cls W (Am ta) (zJ ma):=by
 intro Av G S₀ ρ σ S H Q I p
 refine ha.go I p fun r v S1 H1 I1 w1 r1 p1=>?_
 cases e:r.pv with
 |bl b=>rw[e]at p1;exact⟨b,uF e r1 I1.sh,p1 _ S1 H1 (bx.refl I1.sh) oS⟩
 |_=>rw[e]at p1;exact p1.elim
theorem gk{mc:aj->OT}{ma mb:aj->OE}(hc:JT K cls W tc mc)(ha:JE K cls W ta ma)(hb:JE K cls W tb mb):JE K cls W (tIf tc ta tb) (fi mc ma mb):=by
 intro Av G S₀ ρ σ S H Q I p
 refine hc.go I p fun b S1 H1 I1 w1 p1=>?_
 cases b with
 |true=>exact vY (ha Av G S₀ ρ σ S1 H1 Q I1 p1)
 |false=>exact wy (hb Av G S₀ ρ σ S1 H1 Q I1 p1)
theorem dQ{g g':PV->PV->Option RV}{ma mb mc:aj->OE}(hr:JR K r g)(hr':JR K r' g')(ha:JE K cls W ta ma)(hb:JE K cls W tb mb)(hc:JE K cls W tc mc):
  JE K cls W (rq r r' ta tb tc) (bL g g' ma mb mc):=by
 intro Av G S₀ ρ σ S H Q I p
 refine ha.go I p fun a v S1 H1 I1 w1 r1 p1=>hb.go I1 p1 fun b u S2 H2 I2 w2 r2 p2=>?_
 cases e:g a.pv b.pv with
 |none=>rw[e]at p2;exact p2.elim
 | some rr=>
   rw[e]at p2
   refine hr S2 H2 a.pv b.pv v u rr _ I2.sh ((r1.rd I1.sh).mono w2.s w2.g) (r2.rd I2.sh) e fun z S3 H3 w3 r3=>?_
   have I3:=I2.grow w3;simp only[oE,OE.bind]at p2
   cases e3:rr.pv with
   | bl k=>
     rw[e3]at p2;have hz:=uF e3 r3 I3.sh
     refine⟨k,hz,?_⟩
     cases k with
     |false=>exact wy (p2 _ S3 H3 w3 oS)
     | true=>
       refine vY (hc.go I3 (p2.back w3) fun c y S4 H4 I4 w4 r4 p4=>?_)
       cases e4:g' b.pv c.pv with
       |none=>rw[e4]at p4;exact p4.elim
       |some r'=>rw[e4]at p4;exact hr' S4 H4 b.pv c.pv u y r' Q I4.sh (((r2.rd I2.sh).mono w3.s w3.g).mono w4.s w4.g) (r4.rd I4.sh) e4 p4
   |_=>rw[e3]at p2;exact p2.elim
theorem az{ma mb:aj->OS}(ha:JS K cls W ta ma)(hb:JS K cls W tb mb):JS K cls W (r9 ta tb) (aN ma mb):=by
 intro Av G S₀ ρ σ S H D I p;refine ha Av G S₀ ρ σ S H _ I ?_;unfold aN at p
 cases e:ma ρ with
 |nx ρ'=>rw[e]at p;exact fun σ' S' H' I' s'=>hb Av G S₀ ρ' σ' S' H' D I' (p.back s')
 |bk ρ'=>rw[e]at p;exact p
 |ct ρ'=>rw[e]at p;exact p
 |rt ρ' r=>rw[e]at p;exact p
 |exc ρ' c fs=>rw[e]at p;exact p
 |bad=>rw[e]at p;exact p
theorem aD:JS K cls W Bb aO:=fun Av G S₀ ρ σ S H D I p=>p σ S H I (aM.refl _)
theorem bf{me:aj->OE}(he:JE K cls W te me):JS K cls W (rA te (iY i)) (aU i me):=by
 intro Av G S₀ ρ σ S H D I p
 refine he.goS I p fun r v S1 H1 I1 w1 r1 p1=>?_
 show D.nx (σ.set i (some v)) H1
 cases r with
 |sh x=>exact p1 _ S1 H1 (I1.tW r1) (aM.refl _)
 |fr xs=>exact p1 _ S1 H1 (I.Gf w1 r1) (aM.refl _)
 |al xs=>exact p1.elim
theorem aR{mc:aj->OT}{ma mb:aj->OS}(hc:JT K cls W tc mc)(ha:JS K cls W ta ma)(hb:JS K cls W tb mb):JS K cls W (vS tc ta tb) (bp mc ma mb):=by
 intro Av G S₀ ρ σ S H D I p
 refine hc.goS I p fun b S1 H1 I1 w1 p1=>?_
 cases b with
 |true=>exact vY (ha Av G S₀ ρ σ S1 H1 D I1 p1)
 |false=>exact wy (hb Av G S₀ ρ σ S1 H1 D I1 p1)
theorem aC{me:aj->OE}(he:JE K cls W te me):JS K cls W (BH te) (aS me):=by
 intro Av G S₀ ρ σ S H D I p
 refine he.goS I p fun r v S1 H1 I1 w1 r1 p1=>?_
 cases r with
 |sh x=>exact p1 v σ S1 H1 I1 (aM.refl _) r1
 |fr xs=>exact p1 v σ S1 H1 I1 (aM.refl _) (r1.back I.gh)
 |al xs=>exact p1.elim
theorem lD:JS K cls W (BH (qP i)) (kx i):=by
 intro Av G S₀ ρ σ S H D I p;unfold kx at p;split at p
 . rename_i x e;obtain⟨v,e1,r⟩:=I.good i _ e
   exact⟨v,e1,p v σ S H I (aM.refl _) r⟩
 . rename_i xs e;obtain⟨v,e1,a,vs,e2,h1,h2,h3,h4⟩:=I.good i _ e
   exact⟨v,e1,p v σ S H I.drop (aM.refl _) ⟨a,vs,e2,h1,h2,h3,h4⟩⟩
 . exact p.elim
theorem nW{m:aj->OS}(h:JS K cls W ts m):JS K cls W ts (jm i m):=by
 intro Av G S₀ ρ σ S H D I p;unfold jm mB at p;split at p
 . rename_i xs e;obtain⟨S',s,J⟩:=I.Gi e;exact h Av G S₀ _ σ S' H D J (p.back s)
 . exact h Av G S₀ ρ σ S H D I p
theorem yJ{me:aj->OE}(he:JE K cls W te me):JS K cls W (qK (tBM K "list" uT (qP i) (jT te lz))) (pA i me):=by
 intro Av G S₀ ρ σ S H D I p;unfold pA at p;split at p
 . rename_i xs e;obtain⟨v,e1,a,vs,rfl,h1,h2,h3,h4⟩:=I.good i _ e
   refine⟨_,e1,.inl ⟨rfl,_,SqL.new h3⟩,?_⟩
   refine he Av G S₀ ρ σ S H _ I ?_
   cases em:me ρ with
   |exc c fs=>rw[em]at p;exact fun a C S' H' w x=>p a C σ S' H' (I.grow w) w.s x
   |bad=>rw[em]at p;exact p
   | ok r=>
     rw[em]at p;intro u S1 H1 w1 r1;simp only[OE.cq]at p
     cases es:jx r with
     |none=>rw[es]at p;exact p.elim
     | some y=>
       rw[es]at p
       dsimp only at p
       split at p
       . rename_i hl;obtain⟨S2,w2,s2,rx⟩:=r1.share w1 es;have I2:=I.grow w2
         refine⟨a,vs,u,rfl,rfl,w2.g _ _ h3,by rw[h4.length];exact hl,?_⟩
         exact p σ S2 _ (I2.mut e e1 ((h4.mono w2.s).append (.cons rx .nil))) w2.s
       . exact p.elim
 . exact p.elim
theorem tO{mb:aj->OS}{D:Ends}{N:St->Hp->Prop}(hb:JS K cls W tb mb)(I:SR K cls Av G S₀ ρ σ S H)(hx:Rep K S x v)
  (p:fS K cls W Av G S₀ S D (eM i mb (x ::xs) ρ)) (hN:∀ ρ' σ' S' H',SR K cls Av G S₀ ρ' σ' S' H'->aM S S'->fS K cls W Av G S₀ S' D (eM i mb xs ρ')->N σ' H'):
  iY i v σ H fun σ2 H2=>tb { D with nx:=N,ct:=N,bk:=D.nx } σ2 H2:=by
 refine hb Av G S₀ _ _ S H _ (I.tW hx) ?_;rw[eI]at p
 cases e:mb (ρ.set i (some (.sh x)))with
 |nx ρ'=>rw[e]at p;exact fun σ' S' H' I' s'=>hN ρ' σ' S' H' I' s' (p.back s')
 |ct ρ'=>rw[e]at p;exact fun σ' S' H' I' s'=>hN ρ' σ' S' H' I' s' (p.back s')
 |bk ρ'=>rw[e]at p;exact p
 |rt ρ' r=>rw[e]at p;exact p
 |exc ρ' c fs=>rw[e]at p;exact p
 |bad=>rw[e]at p;exact p
theorem BQ{ml:aj->OE}{mb:aj->OS}(hl:JE K cls W tl ml)(hb:JS K cls W tb mb):JS K cls W (zS (wG K tl) (iY i) tb) (rC i ml mb):=by
 intro Av G S₀ ρ σ S H D I p;refine hl Av G S₀ ρ σ S H _ I ?_;unfold rC at p
 cases em:ml ρ with
 |exc c fs=>rw[em]at p;exact fun a C S' H' w x=>p a C σ S' H' (I.grow w) w.s x
 |bad=>rw[em]at p;exact p
 | ok r=>
   rw[em]at p;intro v S1 H1 w1 r1;simp only[OE.cq]at p
   cases ei:wb r with
   |none=>rw[ei]at p;exact p.elim
   | some xs=>
     rw[ei]at p
     have es:jx r=some (.lst xs):=by
      cases r with
      |sh y=>cases y<;>cases ei<;>rfl
      |fr ys=>cases ei;rfl
      |al ys=>cases ei
     obtain⟨S2,w2,s2,rx⟩:=r1.share w1 es;have I2:=I.grow w2;unfold Rep at rx;obtain⟨a,vs,rfl,hq,hr⟩:=rx
     refine⟨a,rfl,⟨vs,aM.seq I2.sh hq⟩,?_⟩
     refine Bj (xs:=vs) (fun k σ' H'=>∃ ρ' S',SR K cls Av G S₀ ρ' σ' S' H' /\ aM S2 S' /\ fS K cls W Av G S₀ S' D (eM i mb (xs.drop k) ρ'))
      ⟨ρ,S2,I2,aM.refl _,p.back w2.s⟩ ?_ ?_ ?_
     . rintro k σ' H' _ ⟨ρ',S',I',s',_⟩
       exact aM.seq (s'.trans I'.sh) hq
     . rintro k x σ' H' hx ⟨ρ',S',I',s',p'⟩
       obtain⟨y,hy,ry⟩:=hr.FL hx
       have hd:xs.drop k=y ::xs.drop (k+1):=by
        have hk:k<xs.length:=(List.getElem?_eq_some_iff.mp hy).1
        rw[List.drop_eq_getElem_cons hk]
        congr 1
        have:=List.getElem?_eq_getElem hk;rw[hy]at this
        exact(Option.some.inj this).symm
       rw[hd]at p'
       exact tO hb I' (Rep.mono s' ry) p' fun ρ2 σ2 S3 H3 I3 s3 p3=>⟨ρ2,S3,I3,s'.trans s3,p3⟩
     . rintro σ' H' ⟨ρ',S',I',s',p'⟩
       rw[List.drop_of_length_le (by rw[hr.length];exact Nat.le_refl _)]at p';exact p' σ' S' H' I' (aM.refl _)
theorem wo(h:k<n):(gL n).drop k=.int (k:Int) ::(gL n).drop (k+1):=by
 have hk:k<(gL n).length:=by unfold gL;simpa using h
 rw[List.drop_eq_getElem_cons hk]
 congr 1
 simp[gL]
theorem pq{me:aj->OE}{mb:aj->OS}(he:JE K cls W te me)(hb:JS K cls W tb mb):JS K cls W (zS (zO (jT te lz)) (iY i) tb) (ka i me mb):=by
 intro Av G S₀ ρ σ S H D I p
 refine he.goS I p fun r v S1 H1 I1 w1 r1 p1=>?_
 cases e:r.pv with
 | int j=>
   rw[e]at p1
   have hv:v=.int j:=by have:=r1.rd I1.sh;rw[e]at this;exact dI this
   subst hv
   dsimp only at p1
   split at p1
   . rename_i hj
     refine⟨j,rfl,hj.1,hj.2,?_⟩
     refine zp (n:=j.toNat) (fun k σ' H'=>∃ ρ' S',SR K cls Av G S₀ ρ' σ' S' H' /\ aM S1 S' /\ fS K cls W Av G S₀ S' D (eM i mb ((gL j.toNat).drop k) ρ'))
      ⟨ρ,S1,I1,aM.refl _,p1⟩ ?_ ?_
     . rintro k σ' H' hk ⟨ρ',S',I',s',p'⟩
       rw[wo hk]at p'
       refine tO hb I' ?_ p' fun ρ2 σ2 S3 H3 I3 s3 p3=>⟨ρ2,S3,I3,s'.trans s3,p3⟩
       unfold Rep;rw[Int.zero_add]
     . rintro σ' H' ⟨ρ',S',I',s',p'⟩
       rw[List.drop_of_length_le (by unfold gL;simp)]at p';exact p' σ' S' H' I' (aM.refl _)
   . exact p1.elim
 |_=>rw[e]at p1;exact p1.elim
theorem pO{mc:aj->OT}{mb:aj->OS}(hc:JT K cls W tc mc)(hb:JS K cls W tb mb):JS K cls W (xb tc tb) (cJ mc mb n):=by
 intro Av G S₀ ρ σ S H D I p
 refine⟨fun m σ' H'=>∃ ρ' S',SR K cls Av G S₀ ρ' σ' S' H' /\ aM S S' /\ fS K cls W Av G S₀ S' D (cJ mc mb m ρ'),⟨n,ρ,S,I,aM.refl _,p⟩,?_⟩
 rintro m σ1 H1 ⟨ρ1,S1,I1,s1,p1⟩
 cases m with
 |zero=>exact p1.elim
 | succ m=>
   unfold cJ at p1
   refine hc.goS I1 p1 fun b S2 H2 I2 w2 p2=>?_
   cases b with
   |false=>exact wy (p2 σ1 S2 H2 I2 (aM.refl _))
   | true=>
     refine vY ⟨fun σ' H'=>∃ ρ' S',SR K cls Av G S₀ ρ' σ' S' H' /\ aM S S' /\ fS K cls W Av G S₀ S' D (cJ mc mb m ρ'),fun σ' H' h=>⟨m,Nat.lt_succ_self m,h⟩,?_⟩;refine hb Av G S₀ ρ1 σ1 S2 H2 _ I2 ?_;simp only[if_true]at p2
     cases e:mb ρ1 with
     |nx ρ'=>rw[e]at p2;exact fun σ' S' H' I' s'=>⟨ρ',S',I',(s1.trans w2.s).trans s',p2.back s'⟩
     |ct ρ'=>rw[e]at p2;exact fun σ' S' H' I' s'=>⟨ρ',S',I',(s1.trans w2.s).trans s',p2.back s'⟩
     |bk ρ'=>rw[e]at p2;exact p2
     |rt r=>rw[e]at p2;exact p2
     |exc ρ' c fs=>rw[e]at p2;exact p2
     |bad=>rw[e]at p2;exact p2
end
section
variable{K:PySem.W.Frag}{cls:String->Option Addr}{W:XW}{Av G S₀ S S' H H' B B':Hp}{ρ:aj}{σ:St}{Q:VK}
noncomputable def Ab:V->Option Int
 |.int i=>some i
 |_=>none
noncomputable def JO(K:PySem.W.Frag)(cls:String->Option Addr)(W:XW)(to:TO)(m:aj->OE):Prop:=∀ Av G S₀ ρ σ S H (Q:Option Int->Hp->Prop),SR K cls Av G S₀ ρ σ S H ->
 kz K cls W σ S H (fun v H'=>Q (Ab v) H') (m ρ)->to σ H Q
theorem BX:JO K cls W uH (mC .non):=fun Av G S₀ ρ σ S H Q I p=>p .non S H (bx.refl I.sh) (by show Rep K S _ _;unfold Rep;rfl)
theorem Ca{m:aj->OE}(h:JE K cls W te m):JO K cls W (Aj te) (vW m):=by
 intro Av G S₀ ρ σ S H Q I p
 refine h.go I p fun r v S1 H1 I1 w1 r1 p1=>?_
 cases e:r.pv with
 | int i=>
   rw[e]at p1
   have hv:v=.int i:=by have:=r1.rd I1.sh;rw[e]at this;exact dI this
   exact⟨i,hv,p1 (.int i) S1 H1 (bx.refl I1.sh) (by show Rep K S1 _ _;unfold Rep;rfl)⟩
 |_=>rw[e]at p1;exact p1.elim
theorem JO.go{m:aj->OE}{f:RV->OE}{Q':Option Int->Hp->Prop}(h:JO K cls W to m)(I:SR K cls Av G S₀ ρ σ S H)(p:kz K cls W σ S H Q ((m ρ).bind f))
  (k:∀ r v S1 H1,SR K cls Av G S₀ ρ σ S1 H1->bx S H S1 H1->lr K H S1 H1 r v->kz K cls W σ S1 H1 Q (f r)->Q' (Ab v) H1):to σ H Q':=by
 refine h Av G S₀ ρ σ S H Q' I ?_
 cases e:m ρ with
 |ok r=>rw[e]at p;exact fun v S1 H1 w r1=>k r v S1 H1 (I.grow w) w r1 (p.back w)
 |exc c fs=>rw[e]at p;exact p
 |bad=>rw[e]at p;exact p
theorem part_of(h:RdV K S H x v):Ab v=qw x:=by
 cases x with
 |int i=>rw[dI h];rfl
 |non=>rw[iJ h];rfl
 |bl b=>rw[lB h];rfl
 |str b=>rw[jF h];rfl
 |lst xs=>obtain⟨p,vs,rfl,_⟩:=iF h;rfl
 |tup xs=>obtain⟨p,vs,rfl,_⟩:=nR h;rfl
theorem bZ.cut(h:bZ K S xs vs)(lo hi:Option Int):bZ K S (A4 xs lo hi) (yI vs lo hi):=by
 have es:∀ n d o,Aa n d o=HT.sIx n d o:=fun n d o=>by cases o<;>rfl
 unfold A4 yI;simp only[es];rw[h.length]
 exact(h.drop _).take _
theorem EA{ma ml mh:aj->OE}(ha:JE K cls W te ma)(hl:JO K cls W tl ml)(hh:JO K cls W th mh):JE K cls W (tSl (F6 K) te tl th) (CY ma ml mh):=by
 intro Av G S₀ ρ σ S H Q I p
 refine ha.go I p fun a v S1 H1 I1 w1 r1 p1=>hl.go I1 p1 fun l u S2 H2 I2 w2 r2 p2=>hh.go I2 p2 fun h z S3 H3 I3 w3 r3 p3=>?_
 rw[part_of (r2.rd I2.sh),part_of (r3.rd I3.sh)];have ra:=((r1.rd I1.sh).mono w2.s w2.g).mono w3.s w3.g
 cases e:a.pv with
 | lst xs=>
   rw[e]at p3 ra;obtain⟨q,vs,rfl,hq,hr⟩:=iF ra
   exact⟨q,vs,rfl,hq,fun b hb=>p3 _ S3 _ (bx.heap I3.sh hb) ⟨b,_,rfl,hb,I3.sh.free hb,bF,hr.cut _ _⟩⟩
 |_=>rw[e]at p3;exact p3.elim
theorem join_some{α:Type}{o:Option (Option α)}{s:α}(h:o.join=some s):o=some (some s):=by
 cases o with
 |none=>cases h
 | some x=>cases x with
   |none=>cases h
   |some y=>rw[show y=s from Option.some.inj h]
theorem Cg{α:Type}{l:List (Option α)}{ι:List Nat}{j:Nat}{s:α}(h:(ι.map fun i=>(l[i]?).join)[j]?=some (some s)):∃ i,ι[j]?=some i /\ l[i]?=some (some s):=by
 rw[List.getElem?_map]at h
 cases e:ι[j]? with
 |none=>rw[e]at h;cases h
 |some i=>rw[e]at h;exact⟨i,rfl,join_some (Option.some.inj h)⟩
noncomputable def Dl(ι:List Nat)(Av:Hp):Hp:=fun j=>match ι[j]? with
 |some i=>Av i
 |none=>none
noncomputable def wA(ι:List Nat)(F:Nat->List Addr):Nat->List Addr:=fun j=>match ι[j]? with
 |some i=>F i
 |none=>[]
theorem qT.at(h:qT K cls Av G S H i s v fp)(e:Av' j=Av i):qT K cls Av' G S H j s v fp:=by
 cases s with
 |sh x=>exact h
 |ow xs=>exact h
 |ex c fs=>exact h
 |tr io t=>exact⟨h.1,h.2.1,h.2.2.1,fun z=>by rw[e];exact h.2.2.2 z⟩
 |bo t=>exact h
theorem SR.pick{ι:List Nat}{x:PV}{v:V}(I:SR K cls Av G S₀ ρ σ S H)(hι:ι.Nodup)(hx:Rep K S x v):SR K cls (Dl ι Av) G S₀ (e6 ι ρ++[some (.sh x)]) (L2.E.pick ι σ++[some v]) S H:=by
 obtain⟨F,J⟩:=I
 have hl:(e6 ι ρ).length=(L2.E.pick ι σ).length:=by unfold e6 L2.E.pick;simp
 have hp:(e6 ι ρ).length=ι.length:=by unfold e6;simp
 refine⟨wA ι F,J.gh,J.s0,J.sh,J.new,fun j s e=>?_,fun j k a h1 h2=>?_,fun j a h=>?_,by unfold e6 L2.E.pick;simp⟩
 . by_cases hj:j<(e6 ι ρ).length
   . rw[List.getElem?_append_left hj]at e;obtain⟨i,e1,e2⟩:=Cg e;obtain⟨u,e3,r⟩:=J.own i s e2
     refine⟨u,?_,?_⟩
     . rw[List.getElem?_append_left (by rw[<- hl];exact hj)];unfold L2.E.pick;rw[List.getElem?_map,e1];show some (σ[i]?).join=_;rw[e3];rfl
     . unfold wA;rw[e1];exact r.at (by unfold Dl;rw[e1])
   . have hj':(e6 ι ρ).length<=j:=Nat.le_of_not_lt hj
     rw[List.getElem?_append_right hj']at e
     have h0:j - (e6 ι ρ).length=0:=by
      by_cases h:j - (e6 ι ρ).length=0
      . exact h
      . rw[List.getElem?_eq_none (by simp;omega)]at e;cases e
     rw[h0]at e;cases e
     refine⟨v,?_,?_,hx⟩
     . rw[List.getElem?_append_right (by rw[<- hl];exact hj'),<- hl,h0];rfl
     . unfold wA;rw[List.getElem?_eq_none (by rw[<- hp];exact hj')]
 . unfold wA at h1 h2
   cases e1:ι[j]? with
   |none=>rw[e1]at h1;cases h1
   | some i=>
     cases e2:ι[k]? with
     |none=>rw[e2]at h2;cases h2
     | some i'=>
       rw[e1]at h1;rw[e2]at h2;have z:=J.apart i i' a h1 h2;subst z;obtain⟨ha,ea⟩:=List.getElem?_eq_some_iff.mp e1;obtain⟨hb,eb⟩:=List.getElem?_eq_some_iff.mp e2
       exact(List.getElem_inj hι).mp (ea.trans eb.symm)
 . unfold wA at h
   cases e1:ι[j]? with
   |none=>rw[e1]at h;cases h
   |some i=>rw[e1]at h;exact J.live i a h
theorem zN{me:aj->OE}(h:fu me ρ (x ::xs)=.ok ys):∃ r y zs,me (ρ++[some (.sh x)])=.ok r /\ jx r=some y /\ fu me ρ xs=.ok zs /\ ys=y ::zs:=by
 unfold fu at h
 cases e:me (ρ++[some (.sh x)])with
 | ok r=>
   rw[e]at h;simp only[OE.fh]at h
   cases e2:jx r with
   |none=>rw[e2]at h;cases h
   | some y=>
     rw[e2]at h
     dsimp only at h
     cases e3:fu me ρ xs with
     |ok zs=>rw[e3]at h;cases h;exact⟨r,y,zs,rfl,e2,rfl,rfl⟩
     |exc c fs=>rw[e3]at h;cases h
     |bad=>rw[e3]at h;cases h
 |exc c fs=>rw[e]at h;cases h
 |bad=>rw[e]at h;cases h
theorem tj{J:It}{ι:List Nat}{me:aj->OE}{xs ys:List PV}(hι:ι.Nodup)(he:JE K cls (fun _ _ _ _=>False) te me)(I:SR K cls Av G S₀ ρ σ S H)(hy:fu me (e6 ι ρ) xs=.ok ys)(hl:ys.length<=lim)
  (go:∀ k H' x,aM H H'->xs[k]?=some x->J.go k H' /\ ∀ v H2,J.yld k H' v H2->H2=H' /\ Rep K S x v) (stop:∀ H',aM H H'->J.stop xs.length H')
  (hQ:∀ D S' H',bx S H S' H'->H D=none->S' D=none->(∃ us,H' D=some (.lst us) /\ bZ K S' ys us)->Q (.ref D) H'):
  ∀ D,H D=none->∃ W:Nat->Nat->List V->Hp->Prop,(∃ m,W 0 m [] (upd H D (.lst []))) /\ ∀ i m us H',W i m us H' ->
    H' D=some (.lst us) /\ ((J.stop i H' /\ Q (.ref D) H') \/ (J.go i H' /\ ∀ x H2,J.yld i H' x H2->te (L2.E.pick ι σ++[some x]) H2 fun y H3=>H3 D=some (.lst us) /\ us.length<sizeLine /\ ∃ m',m'<m /\ W (i+1) m' (us++[y]) (upd H3 D (.lst (us++[y]))))):=by
 intro D nD
 refine⟨fun k m us H'=>m+k=xs.length /\ H' D=some (.lst us) /\ ∃ S' zs ws,aM S S' /\ aM H H' /\ aM S' H' /\ (∀ b,S' b≠none->S b≠none \/ (H b=none /\ b≠D)) /\ bZ K S' zs us /\ fu me (e6 ι ρ) (xs.drop k)=.ok ws /\ ys=zs++ws,
  ⟨xs.length,rfl,bF,S,[],ys,aM.refl _,aM.new nD,I.sh.trans (aM.new nD),fun b z=>.inl z,.nil,hy,rfl⟩,?_⟩
 rintro k m us H' ⟨hm,hD,S',zs,ws,s1,g1,sh1,n1,r1,e1,rfl⟩
 refine⟨hD,?_⟩
 have hSD:S' D=none:=by
  cases q:S' D with
  |none=>rfl
  | some o=>
    rcases n1 D (by rw[q];simp)with z|⟨_,z⟩
    . exact absurd (I.sh.free nD) z
    . exact absurd rfl z
 by_cases hk:k<xs.length
 . refine .inr ?_
   have hx:xs[k]?=some xs[k]:=by simp[hk]
   obtain⟨hgo,hyld⟩:=go k H' xs[k] g1 hx
   refine⟨hgo,fun v H2 hv=>?_⟩
   obtain⟨rfl,rv⟩:=hyld v H2 hv;rw[List.drop_eq_getElem_cons hk]at e1;obtain⟨r,y,zs',em,es,e2,rfl⟩:=zN e1
   have I1:SR K cls Av G S₀ ρ σ S' H2:=I.grow ⟨s1,g1,sh1,fun b z=>by
    rcases n1 b z with z|⟨z,_⟩
    . exact .inl z
    . exact .inr z⟩
   refine he _ G S₀ _ _ S' H2 _ (I1.pick hι (Rep.mono s1 rv)) ?_;rw[em];intro u S2 H3 w2 r2;obtain⟨S3,w3,s3,ru⟩:=r2.share w2 es
   have hl2:(zs++y ::zs').length<=lim:=hl
   have hSD3:S3 D=none:=by
    cases q:S3 D with
    |none=>rfl
    | some o=>
      rcases w3.new D (by rw[q];simp)with z|z
      . exact absurd hSD z
      . rw[hD]at z;cases z
   refine⟨w3.g _ _ hD,?_,m - 1,by omega,by omega,bF,S3,zs++[y],zs',s1.trans w3.s,(g1.trans w3.g).upd nD,w3.sh.upd hSD3,fun b z=>?_,(r1.mono w3.s).append (.cons ru .nil),e2,by simp⟩
   . rw[r1.length,<- Bh];rw[List.length_append,List.length_cons]at hl2;omega
   . rcases w3.new b z with z|z
     . exact n1 b z
     . refine .inr ⟨g1.free z,fun e=>?_⟩;rw[e,hD]at z;cases z
 . have hk':k=xs.length:=by omega
   subst hk';refine .inl ⟨stop H' g1,?_⟩;rw[List.drop_length]at e1;cases e1
   exact hQ D S' H' ⟨s1,g1,sh1,fun b z=>by
    rcases n1 b z with z|⟨z,_⟩
    . exact .inl z
    . exact .inr z⟩ nD hSD ⟨us,hD,by rw[List.append_nil];exact r1⟩
theorem A8{ml me:aj->OE}{ι:List Nat}(hι:ι.Nodup)(hl:JE K cls W tl ml)(he:JE K cls (fun _ _ _ _=>False) te me):JE K cls W (x4 (wG K tl) ι te) (w9 ml ι me):=by
 intro Av G S₀ ρ σ S H Q I p
 refine hl.go I p fun r v S1 H1 I1 w1 r1 p1=>?_
 have ra:=r1.rd I1.sh
 cases e:r.pv with
 | lst xs=>
   rw[e]at p1 ra;obtain⟨a,vs,rfl,hq,hr⟩:=iF ra
   refine⟨a,rfl,⟨vs,hq⟩,?_⟩
   dsimp only at p1
   cases em:fu me (e6 ι ρ) xs with
   |exc c fs=>rw[em]at p1;exact p1.elim
   |bad=>rw[em]at p1;exact p1.elim
   | ok ys=>
     rw[em]at p1;simp only[noX]at p1;split at p1
     . rename_i hlen
       refine tj hι he I1 em hlen (fun k H' x g hx=>?_) (fun H' g=>⟨vs,aM.seq g hq,by rw[hr.length];exact Nat.le_refl _⟩) fun D S' H' w nD sD ⟨us,hD,rr⟩=>p1 (.ref D) S' H' w ⟨D,us,rfl,nD,sD,hD,rr⟩
       obtain⟨u,hu,ru⟩:=hr.get hx
       refine⟨⟨vs,u,aM.seq g hq,hu⟩,?_⟩
       rintro v' H2 ⟨rfl,hv⟩
       have:=hv vs (aM.seq g hq);rw[hu]at this;cases this
       exact⟨rfl,ru⟩
     . exact p1.elim
 |_=>rw[e]at p1;exact p1.elim
theorem bZ.begin(h:bZ K S xs vs)(N:List Str)(i:Nat)(s:Sl)(e:(ft N.length xs)[i]?=some (some s)):∃ x v,s=.sh x /\ (L2.start N vs)[i]?=some (some v) /\ Rep K S x v:=by
 unfold ft at e
 by_cases hi:i<xs.length
 . rw[List.getElem?_append_left (by simpa using hi),List.getElem?_map]at e
   have hx:xs[i]?=some xs[i]:=by simp[hi]
   rw[hx]at e;cases e;obtain⟨v,hv,r⟩:=h.get hx
   refine⟨_,v,rfl,?_,r⟩
   unfold L2.start;rw[List.getElem?_append_left (by rw[List.length_map,h.length];exact hi),List.getElem?_map,hv];rfl
 . rw[List.getElem?_append_right (by simpa using hi)]at e;rw[List.getElem?_replicate]at e
   split at e<;>cases e
theorem Hb{P:Program}{w:World}{mg:Str->Option Value}{base:Heap}{x qual:Str}{st:Stmt}{f:Addr}{fd:FuncData}{N ps:List Str}{k:Nat}{m:aj->OS}(F:Fun K x qual st f fd)(Sc:aY N ps (aK st))
  (hbody:∀(cdv:Value) (A:Around) (outer:List Env) (s:Shared) (H:Hp) (E:XK),gT k (A.deeper (envOfC qual (aK st) s.heap.objs.size f cdv)) ->
    ∃ t,PSs (qq (CXE P w) P w K mg base N qual (aK st) f cdv A outer s H E) (dF st) t /\ JS K cls (fun C a _ H=>∀ H',aM H H'->E C a H') t m):cA P w K mg base (CXE P w) (k+1) f fd ps (spP K cls (fnP ps.length N.length m)):=by
 refine okX F Sc (fun vs H Q E h=>?_) fun cdv A outer s H vs Q E hr h=>?_
 . obtain⟨S,xs,_,r,q⟩:=h;unfold fnP at q;split at q
   . rw[r.length];assumption
   . exact q.elim
 . obtain⟨S,xs,sS,r,q⟩:=h;unfold fnP at q;split at q
   . rename_i hl;obtain⟨t,ht,J⟩:=hbody cdv A outer s H E hr
     refine⟨t,ht,?_⟩
     refine J (fun _=>none) H S (ft N.length xs) (start N vs) S H _ ⟨fun _=>[],aM.refl _,aM.refl _,sS,fun _ z=>.inl z,fun i s e=>?_,fun i j a h=>(nomatch h),fun i a h=>(nomatch h),?_⟩ ?_
     . obtain⟨x,v,rfl,e1,rx⟩:=r.begin N i s e
       exact⟨v,e1,rfl,rx⟩
     . unfold ft L2.start;simp[r.length]
     . cases e:m (ft N.length xs)with
       |nx ρ'=>rw[e]at q;exact fun σ' S' H' I' s'=>q .non S' H' ⟨I'.s0,I'.gh,I'.sh,I'.new⟩ (by show Rep K S' _ _;unfold Rep;rfl)
       |bk ρ'=>rw[e]at q;exact q.elim
       |ct ρ'=>rw[e]at q;exact q.elim
       |bad=>rw[e]at q;exact q.elim
       | rt ρ' r=>
         rw[e]at q
         cases r with
         |al ys=>exact q.elim
         |sh y=>exact fun v σ' S' H' b' s' rr=>q v S' H' ⟨b'.s0,b'.gh,b'.sh,b'.new⟩ rr
         |fr ys=>exact fun v σ' S' H' b' s' rr=>q v S' H' ⟨b'.s0,b'.gh,b'.sh,b'.new⟩ rr
       | exc ρ' c fs=>
         rw[e]at q
         exact fun a C σ' S' H' I' s' x H2 g2=>q a C S' H2 ⟨I'.s0,I'.gh.trans g2,I'.sh.trans g2,I'.new⟩ (x.mono (aM.refl _) g2)
   . exact q.elim
noncomputable def vd(K:PySem.W.Frag):Sp:=fun vs H Q _=>∃(a:Addr) (ns:List Int),vs=[.ref a] /\ SqL K H a (ns.map V.int) /\ ns.length<=63 /\ ∀ H',Q (.bl true) H'
theorem BJ{f:List PV->OE}(h:∀ ns:List Int,ns.length<=63->f [.lst (ns.map .int)]=.ok (.sh (.bl true)))(vs:List V)(H:Hp)(Q:VK)(E:XK)(q:vd K vs H Q E):spP K cls f vs H Q E:=by
 obtain⟨a,ns,rfl,hS,hl,q⟩:=q
 refine⟨H,[.lst (ns.map .int)],aM.refl _,.cons (by unfold Rep;exact⟨a,_,rfl,hS,bZ.ints⟩) .nil,?_⟩
 rw[h ns hl];intro v S' H' w r
 have:v=.bl true:=by have r':Rep K S' (.bl true) v:=r;unfold Rep at r';exact r'
 subst this;exact q H'
end
section
variable{K:PySem.W.Frag}{cls:String->Option Addr}{W:XW}{Av G S₀ S S' H H' B B':Hp}{ρ:aj}{σ:St}{Q:VK}
theorem tG{x:PV}{v:V}(h:RdV K S H x v):decide (v=.non)=cL x:=by
 cases x with
 |non=>rw[iJ h];rfl
 |bl b=>rw[lB h];rfl
 |int b=>rw[dI h];rfl
 |str b=>rw[jF h];rfl
 |lst xs=>obtain⟨p,vs,rfl,_⟩:=iF h;rfl
 |tup xs=>obtain⟨p,vs,rfl,_⟩:=nR h;rfl
theorem p7:JR K (fun x y H Q=>y=.non /\ Q (.bl (decide (x=.non))) H) rB:=by
 intro S H x y v u rr Q I hx hy e k;unfold rB at e;split at e
 . cases e
   exact⟨iJ hy,k _ S H (bx.refl I) (by rw[tG hx];exact oS)⟩
 . cases e
theorem x9:JR K (fun x y H Q=>y=.non /\ Q (.bl (!decide (x=.non))) H) vX:=by
 intro S H x y v u rr Q I hx hy e k;unfold vX at e;split at e
 . cases e
   exact⟨iJ hy,k _ S H (bx.refl I) (by rw[tG hx];exact oS)⟩
 . cases e
end
end L2.P
namespace L2
open PySem PySem.Spec PyProof.Rows
structure QE(X:Cx)(e:Expr)(t:TE):Prop where
 out:PE X e t
structure QA(X:Cx)(es:List Expr)(t:TA):Prop where
 out:PA X es t
structure QS(X:Cx)(st:Stmt)(t:TS):Prop where
 out:PS X st t
structure QSs(X:Cx)(st:List Stmt)(t:TS):Prop where
 out:PSs X st t
structure QT(X:Cx)(e:Expr)(t:TT):Prop where
 out:PT X e t
structure QW(X:Cx)(e:Expr)(t:TT):Prop where
 out:PW X e t
structure QI(X:Cx)(tg e:Expr)(t:TI):Prop where
 out:PI X tg e t
structure QG(X:Cx)(e:Expr)(t:TG):Prop where
 out:PG X e t
structure QO(X:Cx)(e:Option Expr)(t:TO):Prop where
 out:PO X e t
end L2
namespace L2
theorem qau(h:True:=by first|rfl|decide|exact .inl rfl|exact .inr rfl|exact .inr (.inl rfl)|exact .inr (.inr rfl)|assumption|(intro _;rfl)|with_unfolding_all rfl):True:=h
end L2
namespace L2.E
open PySem PySem.Spec PyProof.Rows L2
theorem gG:QE X (Expr.Constant (Const.bool b) j pos) (tC (V.bl b)):=⟨Gp ⟩
theorem ai:QE X (Expr.Constant (Const.int i) j pos) (tC (V.int i)):=⟨Fy ⟩
theorem aJ:QE X (Expr.Constant (Const.str x) j pos) (tC (V.str x)):=⟨Ea ⟩
theorem dm:QE X (Expr.Constant Const.none j pos) (tC V.non):=⟨Eg ⟩
theorem qv{X:Cx}(h1:Nat)(h4:autoParam (X.N[h1]?=some x) qau._auto_1)(h5:autoParam (Vis X.env.scope x) qau._auto_1)(h6:autoParam ((x==Str.ofString "__debug__")=false) qau._auto_1)(h7:autoParam ((x==Str.ofString "__classdict__")=false) qau._auto_1):QE X (Expr.Name x pos) (qP h1):=⟨pv h1 h4 h5 h6 h7⟩
theorem bb{X:Cx}(h5:Gl X x)(h6:X.mg x=some u)(h7:RelV v u)(h8:autoParam ((x==Str.ofString "__debug__")=false) qau._auto_1):QE X (Expr.Name x pos) (tC v):=⟨Cj h5 h6 h7 h8⟩
theorem uj{X:Cx}(h5:Gl X x)(h6:X.mg x=none)(h7:bootBuiltins x=some u)(h8:RelV v u)(h9:autoParam (x≠Str.ofString "__name__") qau._auto_1)(h10:autoParam ((x==Str.ofString "__debug__")=false) qau._auto_1):QE X (Expr.Name x pos) (tC v):=⟨B8 h5 h6 h7 h8 h9 h10⟩
theorem Ex(h4:QE X a ta):QE X (Expr.UnaryOp UnaryOp.Not a pos) (Am ta):=⟨D7 h4.out⟩
theorem nE{r:V->Hp->VK->Prop}(h6:UnR X (unaryOp op) r)(h7:QE X a ta):QE X (Expr.UnaryOp op a pos) (tUn r ta):=⟨Gb h6 h7.out⟩
theorem aT(h8:OpR X (binaryOp op) r)(h9:QE X a ta)(h10:QE X b tb):QE X (Expr.BinOp a op b pos) (tOp r ta tb):=⟨FP h8 h9.out h10.out⟩
theorem fb(h8:OpR X (compareOp op) r)(h9:QE X a ta)(h10:QE X b tb)(h11:behindInMarks op b=false):QE X (Expr.Compare a [op] [b] pos) (tOp r ta tb):=⟨CK h8 h9.out h10.out h11⟩
theorem vP(h12:OpR X (compareOp op) r)(h13:OpR X (compareOp op') r')(h14:QE X a ta)(h15:QE X b tb)(h16:QE X c tc)(h17:autoParam (lastMarks [op,op'] [b,c]=false) qau._auto_1):QE X (Expr.Compare a [op,op'] [b,c] pos) (rq r r' ta tb tc):=⟨By h12 h13 h14.out h15.out h16.out h17⟩
theorem xx(h5:QE X a t):QE X (Expr.BoolOp op [a] pos) t:=⟨Ak h5.out⟩
theorem xI{X:Cx}{a:Expr}{b:Expr}{ta:TE}{tb:TE}{pos:Pos}{rest:List Expr}(h7:QE X a ta)(h8:QE X (Expr.BoolOp BoolOp.And (b ::rest) pos) tb):QE X (Expr.BoolOp BoolOp.And (a ::b ::rest) pos) (Ae ta tb):=⟨Fq h7.out h8.out⟩
theorem cv(h8:QT X c tA)(h9:QE X a ta)(h10:QE X b tb):QE X (Expr.IfExp c a b pos) (tIf tA ta tb):=⟨Bp h8.out h9.out h10.out⟩
theorem aH(h4:QA X es t):QE X (Expr.List es pos) (D5 t):=⟨Fj h4.out⟩
theorem bu(h5:QA X es t):QE X (Expr.Tuple es x1 pos) (E4 t):=⟨Fg h5.out⟩
theorem zG{X:Cx}{e:Expr}{te:TE}{lo:Option Expr}{hi:Option Expr}{tl:TO}{th:TO}{pos:Pos}{p2:Pos}{r:V->Option Int->Option Int->Hp->VK->Prop}(h10:SlR X r)(h11:QE X e te)(h12:QO X lo tl)(h13:QO X hi th):QE X (Expr.Subscript e (Expr.Slice lo hi none p2) pos) (tSl r te tl th):=⟨Az h10 h11.out h12.out h13.out⟩
theorem FT(h7:IxR X r)(h8:QE X a ta)(h9:QE X b tb)(h10:uk b):QE X (Expr.Subscript a b pos) (tOp r ta tb):=⟨Gd h7 h8.out h9.out h10⟩
theorem yD{X:Cx}{cl:List (Str×Addr)}(h12:oO X scope cl M ι x)(h13:X.calm=true)(h14:QI X (Expr.Name x px) iter wi)(h15:∀(C:Addr) (s₀:Shared) (H₀:Hp) (ex:List Addr),QE (blk X scope cl (M++[x]) C s₀ H₀ ex) elt te)(h16:autoParam (∀(v:Value),foldedSetIterable iter X.env v=pure v) qau._auto_1):QE X (Expr.ListComp elt [Comprehension.mk (Expr.Name x px) iter [] 0] scope pos) (x4 wi ι te):=⟨CL h12 h13 h14.out (fun z0 z1 z2 z3=>(h15 z0 z1 z2 z3).out) h16⟩
theorem A5{X:Cx}{x:Str}(h15:cA X.prog X.w X.K X.mg X.base (CXE X.prog X.w) k f fd ps sp)(h16:gT k X.A)(h17:Gl X x)(h18:X.mg x=some (Value.ref f))(h19:PySem.W.keepIn X.K (Value.ref f)=true)(h20:Binds X.K fd ps ds)(h21:Vals dvs ds)(h22:Thr X W)(h23:QA X (e ::es) t)(h24:autoParam ((x==Str.ofString "__debug__")=false) qau._auto_1)(h25:autoParam (starEach (e ::es) X.env=(false,eval e X.env) ::starEach es X.env) qau._auto_1)(h26:autoParam ((List.any (backTo pos (starEach es X.env)) fun x=>x.fst)=false) qau._auto_1):QE X (Expr.Call (Expr.Name x p) (e ::es) [] pos) (nP sp dvs W t):=⟨z9 h15 h16 h17 h18 h19 h20 h21 h22 h23.out h24 h25 h26⟩
theorem nj{X:Cx}{x:Str}{p:Pos}{pos:Pos}{e:Expr}{es:List Expr}{t:TA}{id:String}{r:List V->Hp->VK->Prop}(h9:qu X (Value.builtin id) r)(h10:Gl X x)(h11:X.mg x=none)(h12:bootBuiltins x=some (Value.builtin id))(h13:QA X (e ::es) t)(h14:autoParam (x≠Str.ofString "__name__") qau._auto_1)(h15:autoParam ((x==Str.ofString "__debug__")=false) qau._auto_1)(h16:autoParam (starEach (e ::es) X.env=(false,eval e X.env) ::starEach es X.env) qau._auto_1)(h17:autoParam ((List.any (backTo pos (starEach es X.env)) fun x=>x.fst)=false) qau._auto_1):QE X (Expr.Call (Expr.Name x p) (e ::es) [] pos) (tCB r t):=⟨zZ h9 h10 h11 h12 h13.out h14 h15 h16 h17⟩
theorem lF{X:Cx}{x:Str}{r:List V->Hp->VK->Prop}(h9:qu X (Value.type T) r)(h10:Gl X x)(h11:X.mg x=none)(h12:bootBuiltins x=some (Value.type T))(h13:QA X (e ::es) t)(h14:autoParam (x≠Str.ofString "__name__") qau._auto_1)(h15:autoParam ((x==Str.ofString "__debug__")=false) qau._auto_1)(h16:autoParam (starEach (e ::es) X.env=(false,eval e X.env) ::starEach es X.env) qau._auto_1)(h17:autoParam ((List.any (backTo pos (starEach es X.env)) fun x=>x.fst)=false) qau._auto_1):QE X (Expr.Call (Expr.Name x p) (e ::es) [] pos) (tCB r t):=⟨zf h9 h10 h11 h12 h13.out h14 h15 h16 h17⟩
theorem Dh{X:Cx}{o:Expr}{e:Expr}{es:List Expr}{to:TE}{t:TA}{name:Str}{apos:Pos}{cpos:Pos}{T:String}{id:String}{r:V->List V->Hp->VK->Prop}(h12:PlainAttrs T)(h13:Slot T name id)(h14:typeOf (Value.builtin id)=pure (Value.type "method_descriptor"))(h15:MtR X id r)(h16:QE X o to)(h17:QA X (e ::es) t)(h18:autoParam (attributeBase o name X.env (eval o X.env)=eval o X.env) qau._auto_1)(h19:autoParam ((((List.all (backTo cpos (starEach (e ::es) X.env)) fun x=>!x.fst)&&List.all (backToKw cpos (keywordEach [] X.env)) fun x=>Option.isSome x.fst)&&Decidable.decide ((List.length (e ::es)+List.length ([]:List Keyword)+if List.isEmpty ([]:List Keyword)=true then 0 else 1)<30))=true) qau._auto_1)(h20:autoParam ((apos.endLine==cpos.line)=true) qau._auto_1)(h21:autoParam (starEach (e ::es) X.env=(false,eval e X.env) ::starEach es X.env) qau._auto_1)(h22:autoParam ((List.any (backTo cpos (starEach es X.env)) fun x=>x.fst)=false) qau._auto_1):QE X (Expr.Call (Expr.Attribute o name apos) (e ::es) [] cpos) (tBM X.K T r to t):=⟨FY h12 h13 h14 h15 h16.out h17.out h18 h19 h20 h21 h22⟩
theorem xt{X:Cx}{o:Expr}{to:TE}{name:Str}{apos:Pos}{cpos:Pos}{T:String}{id:String}{r:V->List V->Hp->VK->Prop}(h9:PlainAttrs T)(h10:Slot T name id)(h11:typeOf (Value.builtin id)=pure (Value.type "method_descriptor"))(h12:MtR X id r)(h13:QE X o to)(h14:autoParam (attributeBase o name X.env (eval o X.env)=eval o X.env) qau._auto_1)(h15:autoParam ((apos.endLine==cpos.line)=true) qau._auto_1):QE X (Expr.Call (Expr.Attribute o name apos) [] [] cpos) (EY X.K T r to):=⟨EG h9 h10 h11 h12 h13.out h14 h15⟩
theorem CV:QO X none uH:=⟨BZ ⟩
theorem B6(h3:QE X e te):QO X (some e) (Aj te):=⟨CF h3.out⟩
theorem aq:QA X [] lz:=⟨Ej ⟩
theorem aa(h5:QE X e te)(h6:QA X es t)(h7:autoParam (isStar e=false) qau._auto_1):QA X (e ::es) (jT te t):=⟨Ag h5.out h6.out h7⟩
theorem dN(h8:OpR X (compareOp op) r)(h9:QE X a ta)(h10:QE X b tb)(h11:behindInMarks op b=false):QT X (Expr.Compare a [op] [b] pos) (tN (tOp r ta tb)):=⟨CT h8 h9.out h10.out h11⟩
theorem eH(h12:OpR X (compareOp op) r)(h13:OpR X (compareOp op') r')(h14:QE X a ta)(h15:QE X b tb)(h16:QE X c tc)(h17:autoParam (lastMarks [op,op'] [b,c]=false) qau._auto_1):QT X (Expr.Compare a [op,op'] [b,c] pos) (tN (rq r r' ta tb tc)):=⟨Bn h12 h13 h14.out h15.out h16.out h17⟩
theorem oZ(h4:QT X a tA):QT X (Expr.UnaryOp UnaryOp.Not a pos) (B5 tA):=⟨D8 h4.out⟩
theorem df{X:Cx}(h3:QE X a ta)(h4:∀(whole:Sem Value),
 isTrue a X.env whole=do
  let v <- whole
  standAt (Expr.pos a)
  holding [v] (truthy v)):QT X a fun σ H Q=>ta σ H fun x H'=>∃ k,sZ X.K x H' k /\ Q k H':=⟨zV h3.out h4⟩
theorem fe(h3:QW X e t):QT X e t:=⟨PW.pt h3.out⟩
theorem e7(h4:QT X a tA):QW X (Expr.BoolOp BoolOp.And [a] pos) tA:=⟨CO h4.out⟩
theorem j9(h4:QT X a tA):QW X (Expr.BoolOp BoolOp.Or [a] pos) tA:=⟨EF h4.out⟩
theorem fA{X:Cx}{a:Expr}{b:Expr}{pos:Pos}{tA:TT}{tB':TT}{rest:List Expr}(h7:QT X a tA)(h8:QW X (Expr.BoolOp BoolOp.And (b ::rest) pos) tB'):QW X (Expr.BoolOp BoolOp.And (a ::b ::rest) pos) (AZ tA tB'):=⟨DP h7.out h8.out⟩
theorem mS{X:Cx}{a:Expr}{b:Expr}{pos:Pos}{tA:TT}{tB':TT}{rest:List Expr}(h7:QT X a tA)(h8:QW X (Expr.BoolOp BoolOp.Or (b ::rest) pos) tB'):QW X (Expr.BoolOp BoolOp.Or (a ::b ::rest) pos) (tOr tA tB'):=⟨F3 h7.out h8.out⟩
theorem lJ{X:Cx}(h6:Gl X (Str.ofString "range"))(h7:X.mg (Str.ofString "range")=none)(h8:QA X [a] ta)(h9:autoParam (starEach [a] X.env=[(false,eval a X.env)]) qau._auto_1):QI X tg (Expr.Call (Expr.Name (Str.ofString "range") p) [a] [] pos) (zO ta):=⟨y8 h6 h7 h8.out h9⟩
theorem u7{X:Cx}(h4:QE X l tl):QI X tg l (wG X.K tl):=⟨BV h4.out⟩
theorem Fm{X:Cx}(h4:QE X l tl):QI X tg l (DZ X.K tl):=⟨EJ h4.out⟩
theorem Fh{X:Cx}{pos:Pos}(h7:List.Nodup X.N)(h8:X.N[i]?=some x)(h9:Loc X.env.scope x)(h10:QE X e te)(h11:autoParam (swapsWith e (some (Expr.Name x pos')) pos.line X.env=pure false) qau._auto_1)(h12:autoParam (X.fn x=true \/ List.lookup x X.env.scope.names=some NameKind.local) qau._auto_1):QS X (Stmt.Assign [Expr.Name x pos'] e pos) (rA te (iY i)):=⟨Er h7 h8 h9 h10.out h11 h12⟩
theorem aQ(h8:QT X c tc)(h9:QSs X a t)(h10:QSs X b u):QS X (Stmt.If c a b pos) (vS tc t u):=⟨Gg h8.out h9.out h10.out⟩
theorem aA(h4:QE X e te):QS X (Stmt.Return (some e) pos) (BH te):=⟨Ew h4.out⟩
theorem qY{X:Cx}{pos:Pos}(h4:QE X e te)(h5:autoParam (swapsWith e none pos.line X.env=pure false) qau._auto_1):QS X (Stmt.Expr e pos) (qK te):=⟨Cz h4.out h5⟩
theorem pL{X:Cx}(h6:PassesOwn (model X.prog X.w) X.A X.env X.xe)(h7:QT X c tc)(h8:QSs X body tb):QS X (Stmt.While c body [] pos) (xb tc tb):=⟨Aw h6 h7.out h8.out⟩
theorem o1{X:Cx}(h8:PassesOwn (model X.prog X.w) X.A X.env X.xe)(h9:X.calm=true)(h10:QI X tg iter wi)(h11:QG X tg g)(h12:QSs X body tb)(h13:autoParam (∀(x:Value),foldedSetIterable iter X.env x=pure x) qau._auto_1):QS X (Stmt.For tg iter body [] pos) (zS wi g tb):=⟨DW h8 h9 h10.out h11.out h12.out h13⟩
theorem kI{X:Cx}(h4:List.Nodup X.N)(h5:X.N[i]?=some x)(h6:Loc X.env.scope x)(h7:autoParam (X.fn x=true \/ List.lookup x X.env.scope.names=some NameKind.local) qau._auto_1):QG X (Expr.Name x pos) (iY i):=⟨CW h4 h5 h6 h7⟩
theorem aF:QSs X [] Bb:=⟨BS ⟩
theorem ax{X:Cx}{st:Stmt}{t:TS}(h3:QS X st t):QSs X [st] t:=⟨CH h3.out⟩
theorem ao{X:Cx}{st:Stmt}{rest:List Stmt}{t:TS}{u:TS}(h5:QS X st t)(h6:QSs X rest u):QSs X (st ::rest) (r9 t u):=⟨Ay h5.out h6.out⟩
end L2.E
namespace L2.P
open PySem PySem.Spec PyProof.Rows L2 L2.E
theorem fV{K:PySem.W.Frag}{cls:String->Option Addr}{P:Program}{w:World}{mg:Str->Option Value}{base:Heap}{x qual:Str}{st:Stmt}{f:Addr}{fd:FuncData}{N ps:List Str}{k:Nat}{m:aj->OS}(F:Fun K x qual st f fd)(Sc:aY N ps (aK st))
  (hbody:∀(cdv:Value) (A:Around) (outer:List Env) (s:Shared) (H:Hp) (E:XK),gT k (A.deeper (envOfC qual (aK st) s.heap.objs.size f cdv)) ->
    ∃ t,QSs (qq (CXE P w) P w K mg base N qual (aK st) f cdv A outer s H E) (dF st) t /\ JS K cls (fun C a _ H=>∀ H',aM H H'->E C a H') t m):cA P w K mg base (CXE P w) (k+1) f fd ps (spP K cls (fnP ps.length N.length m)):=
 Hb F Sc fun cdv A outer s H E hr=>let ⟨t,h1,h2⟩:=hbody cdv A outer s H E hr;⟨t,h1.out,h2⟩
end L2.P
namespace L2.E
open PySem PySem.Spec PyProof.Rows L2
end L2.E
namespace L2.P
open PySem PySem.Spec PyProof.Rows L2 L2.E
end L2.P
namespace L2.E
open PySem PySem.Spec PyProof.Rows L2
section
variable{prog:Program}{w:World}{A:Around}{E:Value->Shared->Prop}{s:Shared}{K:PySem.W.Frag}{x C:Addr}{name:Str}{v:Value}
open PySem.W in
open PySem.W in
end
noncomputable def Ge(a C:Addr)(dx:Option Addr)(h:Heap):Prop:=∃ o t,h.get? a=some o /\ o.cls=.ref C /\ o.dict=dx /\ o.data=.fields #[.ref t,.none,.none,.none,.bool false,.none]
theorem Ge.exc{a C:Addr}{dx:Option Addr}{h:Heap}(x:Ge a C dx h):Ff a C dx h:=let ⟨o,t,e,c,d,f⟩:=x;⟨o,_,e,c,d,f,rfl⟩
section
variable{prog:Program}{w:World}{A:Around}{E:Value->Shared->Prop}{s:Shared}{K:PySem.W.Frag}{x C:Addr}{name:Str}{v:Value}{tk:Tok}
open PySem.W in
end
section
variable{prog:Program}{w:World}{A:Around}{E:Value->Shared->Prop}{hh:Heap}{g:Array GenState}{d:Drawn}{t:Nat}{os:OsState}{K:PySem.W.Frag}{x C:Addr}{name:Str}{v:Value}{tk:Tok}
open PySem.W in
end
section
variable{prog:Program}{w:World}{A:Around}{E:Value->Shared->Prop}{s:Shared}{K:PySem.W.Frag}{x C:Addr}{name:Str}{v:Value}
open PySem.W in
end
section
variable{prog:Program}{w:World}{A:Around}{E:Value->Shared->Prop}{h:Heap}{g:Array GenState}{d:Drawn}{t:Nat}{os:OsState}{K:PySem.W.Frag}
variable{nm q:Str}{C N:Addr}{bs bm bmB:List Value}{hdct:Bool}{sn:List Str}{sub:List Value}{ab:Bool}{col:Option Bool}{dd:Option Addr}{k0 k1 k2 k3 k5:Option Value}{B newId initId:String}
open PySem.W in
open PySem.W in
end
end L2.E
namespace L2.P
open PySem PySem.Spec PyProof.Rows L2 L2.E
end L2.P
namespace L2.P
open PySem
inductive Stp where
 |ix (k:Nat)|fd (f:Str)
noncomputable def nh:List Str->List OV->Str->Option OV
 |k ::ks,t ::ts,f=>if k=f then some t else nh ks ts f
 |_,_,_=>none
noncomputable def ti:List Str->List OV->Str->OV->List OV
 |k ::ks,t ::ts,f,u=>if k=f then u ::ts else t ::ti ks ts f u
 |_,ts,_,_=>ts
noncomputable def OV.at1:OV->Stp->Option OV
 |.ol ts,.ix k=>ts[k]?
 |.ob _ ks ts,.fd f=>nh ks ts f
 |_,_=>none
noncomputable def OV.Ah:OV->Stp->OV->OV
 |.ol ts,.ix k,u=>.ol (ts.set k u)
 |.ob c ks ts,.fd f,u=>.ob c ks (ti ks ts f u)
 |t,_,_=>t
noncomputable def OV.get:OV->List Stp->Option OV
 |t,[]=>some t
 |t,s ::π=>(t.at1 s).bind fun u=>u.get π
noncomputable def OV.put:OV->List Stp->OV->OV
 |_,[],u=>u
 | t,s ::π,u=>match t.at1 s with
   |some t'=>t.Ah s (t'.put π u)
   |none=>t
noncomputable def slT:Sl->Option OV
 |.tr _ t=>some t
 |.bo t=>some t
 |_=>none
noncomputable def gQ(i:Nat)(ρ:aj):Option OV:=match ρ[i]? with
 |some (some s)=>slT s
 |_=>none
abbrev MP:=aj->Option (List Stp)
noncomputable def bX:MP:=fun _=>some []
noncomputable def pIx(i:Nat)(mp:MP)(mk:aj->OE):MP:=fun ρ=>match gQ i ρ with
 | some t=>(match mp ρ with
   | some π=>(match t.get π with
     | some (.ol ts)=>(match mk ρ with
       | .ok r=>(match r.pv with
         |.int k=>(ixP ts.length k).map fun j=>π++[.ix j]
         |_=>none)
       |_=>none)
     |_=>none)
   |none=>none)
 |none=>none
noncomputable def subAt(i:Nat)(mp:MP)(ρ:aj):Option OV:=match gQ i ρ with
 | some t=>(match mp ρ with
   |some π=>t.get π
   |none=>none)
 |none=>none
noncomputable def pFd(i:Nat)(mp:MP)(f:Str)(ok:String->Bool):MP:=fun ρ=>match subAt i mp ρ with
 |some (.ob c ks ts)=>if(ok c&&(nh ks ts f).isSome)=true then(mp ρ).map fun π=>π++[.fd f]else none
 |_=>none
noncomputable def vx:List OV->Option (List PV)
 |[]=>some []
 |.sh x ::r=>(vx r).map (x ::·)
 |_ ::_=>none
@[simp] theorem uc(xs:List PV):vx (xs.map .sh)=some xs:=by
  induction xs with
  |nil=>rfl
  |cons x xs ih=>show(vx (xs.map .sh)).map (x ::·)=_;rw[ih];rfl
noncomputable def iM(i:Nat)(mp:MP):aj->OE:=fun ρ=>match subAt i mp ρ with
 |some (.sh x)=>.ok (.sh x)
 | some (.ol ts)=>(match vx ts with
   |some xs=>.ok (.al xs)
   |none=>.bad)
 |_=>.bad
noncomputable def eK(i:Nat)(mp:MP):aj->OT:=fun ρ=>match subAt i mp ρ with
 |some (.ol ts)=>.ok (!ts.isEmpty)
 |_=>.bad
inductive OD where
 |ok (t:OV)|exc (c:String) (fs:XF)|bad
inductive ODs where
 |ok (ts:List OV)|exc (c:String) (fs:XF)|bad
noncomputable def mD(me:aj->OE):aj->OD:=fun ρ=>match me ρ with
 |.ok (.sh x)=>.ok (.sh x)
 |.ok (.fr xs)=>.ok (.ol (xs.map .sh))
 |.ok (.al _)=>.bad
 |.exc c fs=>.exc c fs
 |.bad=>.bad
noncomputable def mDc(md:aj->OD)(mr:aj->ODs):aj->ODs:=fun ρ=>match md ρ with
 | .ok t=>(match mr ρ with
   |.ok ts=>.ok (t ::ts)
   |.exc c fs=>.exc c fs
   |.bad=>.bad)
 |.exc c fs=>.exc c fs
 |.bad=>.bad
noncomputable def pj(i:Nat)(md:aj->OD):aj->OS:=fun ρ=>match md ρ with
 |.ok t=>.nx (ρ.set i (some (.tr false t)))
 |.exc c fs=>.exc ρ c fs
 |.bad=>.bad
noncomputable def xa(i:Nat)(mp:MP)(ρ:aj)(k:OV->(OV->aj)->OS):OS:=match ρ[i]? with
 | some (some (.tr io t))=>(match mp ρ with
   | some π=>(match t.get π with
     |some u=>k u fun u'=>ρ.set i (some (.tr io (t.put π u')))
     |none=>.bad)
   |none=>.bad)
 |_=>.bad
noncomputable def j8(i:Nat)(mp:MP)(md:aj->OD):aj->OS:=fun ρ=>xa i mp ρ fun u put=>match u with
 | .ol ts=>(match md ρ with
   |.ok x=>if ts.length<lim then .nx (put (.ol (ts++[x])))else .bad
   |.exc c fs=>.exc ρ c fs
   |.bad=>.bad)
 |_=>.bad
noncomputable def AD(i:Nat)(mp:MP)(f:Str)(okc:String->Bool)(md:aj->OD):aj->OS:=fun ρ=>match md ρ with
 | .ok x=>xa i mp ρ fun u put=>(match u with
   |.ob c ks ts=>if(okc c&&decide (ks.length<1000))=true then(if ks.contains f=true then .nx (put (.ob c ks (ti ks ts f x)))else .nx (put (.ob c (ks++[f]) (ts++[x]))))else .bad
   |_=>.bad)
 |.exc c fs=>.exc ρ c fs
 |.bad=>.bad
inductive OX where
 |ok (ρ:aj) (s:Sl)|exc (ρ:aj) (c:String) (fs:XF)|bad
noncomputable def slO:OV->Sl
 |.sh x=>.sh x
 |t=>.tr false t
noncomputable def mQ(i:Nat)(mp:MP):aj->OX:=fun ρ=>match ρ[i]? with
 | some (some (.tr io t))=>(match mp ρ with
   | some π=>(match t.get π with
     | some (.ol ts)=>(match ts.getLast? with
       |some x=>.ok (ρ.set i (some (.tr io (t.put π (.ol ts.dropLast))))) (slO x)
       |none=>.bad)
     |_=>.bad)
   |none=>.bad)
 |_=>.bad
noncomputable def nio:Sl->Bool
 |.tr true _=>false
 |.bo _=>false
 |_=>true
noncomputable def kQ(i:Nat)(m:aj->OX):aj->OS:=fun ρ=>match m ρ with
 |.ok ρ' s=>if nio s then .nx (ρ'.set i (some s))else .bad
 |.exc ρ' c fs=>.exc ρ' c fs
 |.bad=>.bad
noncomputable def mZ(m:aj->OX):aj->OS:=fun ρ=>match m ρ with
 |.ok ρ' _=>.nx ρ'
 |.exc ρ' c fs=>.exc ρ' c fs
 |.bad=>.bad
noncomputable def BK(neg:Bool)(m:aj->OX)(a b:aj->OS):aj->OS:=fun ρ=>match m ρ with
 | .ok ρ' (.sh x)=>(match jv x with
   |some k=>if(k != neg)=true then a ρ' else b ρ'
   |none=>.bad)
 |.ok _ _=>.bad
 |.exc ρ' c fs=>.exc ρ' c fs
 |.bad=>.bad
mutual
noncomputable def pvO:OV->Option PV
 |.sh x=>some x
 |.ol ts=>(AX ts).map .lst
 |.ob _ _ _=>none
 |.di _=>none
 |.dt _=>none
noncomputable def AX:List OV->Option (List PV)
 |[]=>some []
 |t ::ts=>(pvO t).bind fun x=>(AX ts).map (x ::·)
end
noncomputable def xQ(i:Nat)(ρ:aj):aj:=match ρ[i]? with
 | some (some (.tr false t))=>(match pvO t with
   |some x=>ρ.set i (some (.sh x))
   |none=>ρ)
 |_=>ρ
noncomputable def rQ(i:Nat)(m:aj->OS):aj->OS:=fun ρ=>m (xQ i ρ)
inductive OI where
 |ok (x:PV) (outs:List (Option OV))|exc (c:String) (fs:XF) (outs:List (Option OV))|bad
inductive Arg where
 |e (me:aj->OE)|t (i:Nat) (mp:MP)|b (i:Nat) (mp:MP)
noncomputable def uf:Option Sl->Option OV
 |some (.tr true t)=>some t
 |_=>none
noncomputable def xc(np:Nat):OS->OI
 |.nx ρ=>.ok .non ((ρ.take np).map uf)
 |.rt ρ (.sh x)=>.ok x ((ρ.take np).map uf)
 |.exc ρ c fs=>.exc c fs ((ρ.take np).map uf)
 |_=>.bad
noncomputable def jM(n:Nat)(as:List Sl):aj:=as.map some++List.replicate (n - as.length) none
noncomputable def fnI(np n:Nat)(m:aj->OS)(as:List Sl):OI:=if as.length=np then xc np (m (jM n as))else .bad
noncomputable def ku(a:Arg)(ρ:aj):Option Sl:=match a with
 | .e me=>(match me ρ with
   |.ok r=>(jx r).map .sh
   |_=>none)
 | .t i mp=>(match ρ[i]? with
   |some (some (.tr _ t))=>((mp ρ).bind fun π=>t.get π).map (.tr true)
   |_=>none)
 |.b i mp=>(subAt i mp ρ).map .bo
noncomputable def gZ:List Arg->aj->Option (List Sl)
 |[],_=>some []
 |a ::as,ρ=>(ku a ρ).bind fun s=>(gZ as ρ).map (s ::·)
noncomputable def lj(ρ₀:aj):Arg->Option OV->aj->aj
 | .t i mp,some u,ρ=>(match ρ[i]? with
   | some (some (.tr io t))=>(match mp ρ₀ with
     |some π=>ρ.set i (some (.tr io (t.put π u)))
     |none=>ρ.set i none)
   |_=>ρ.set i none)
 |.t i _,none,ρ=>ρ.set i none
 |_,_,ρ=>ρ
noncomputable def fU(ρ₀:aj):List Arg->List (Option OV)->aj->aj
 |[],_,ρ=>ρ
 |a ::as,us,ρ=>fU ρ₀ as us.tail (lj ρ₀ a us.head?.join ρ)
noncomputable def jz(f:List Sl->OI)(as:List Arg):aj->OX:=fun ρ=>match gZ as ρ with
 | some ss=>(match f ss with
   |.ok x outs=>.ok (fU ρ as outs ρ) (.sh x)
   |.exc c fs outs=>.exc (fU ρ as outs ρ) c fs
   |.bad=>.bad)
 |none=>.bad
noncomputable def mz(f:List Sl->OI)(as:List Arg):aj->OE:=fun ρ=>match gZ as ρ with
 | some ss=>(match f ss with
   |.ok x _=>.ok (.sh x)
   |.exc c fs _=>.exc c fs
   |.bad=>.bad)
 |none=>.bad
noncomputable def recv(c:String)(m:Str):Option Sl->Bool
 |some (.tr true (.ob c' ks _))=>c'==c && !ks.contains m
 |some (.bo (.ob c' ks _))=>c'==c && !ks.contains m
 |_=>false
noncomputable def nO(c:String)(m:Str)(f:List Sl->OI)(as:List Arg):aj->OX:=fun ρ=>match as with
 |a ::_=>if recv c m (ku a ρ)=true then jz f as ρ else .bad
 |[]=>.bad
noncomputable def lW(c:String)(m:Str)(f:List Sl->OI)(as:List Arg):aj->OE:=fun ρ=>match as with
 |a ::_=>if recv c m (ku a ρ)=true then mz f as ρ else .bad
 |[]=>.bad
noncomputable def tL(c:String)(f:List Sl->OI):aj->OD:=fun _=>match f [.tr true (.ob c [] [])]with
 |.ok .non (some t ::_)=>.ok t
 |_=>.bad
noncomputable def lX(i j:Nat)(mb:aj->OS):List PV->aj->OS
 |[],ρ=>.nx ρ
 |.tup [x,y] ::xs,ρ=>(mb ((ρ.set i (some (.sh x))).set j (some (.sh y)))).turn (lX i j mb xs)
 |_ ::_,_=>.bad
noncomputable def qL(k:Nat):List PV->List PV
 |[]=>[]
 |x ::xs=>.tup [.int k,x] ::qL (k+1) xs
noncomputable def yl(i j:Nat)(ml:aj->OE)(mb:aj->OS):aj->OS:=fun ρ=>(ml ρ).cq ρ fun r=>match wb r with
 |some xs=>lX i j mb (qL 0 xs) ρ
 |none=>.bad
noncomputable def sN(ml:aj->OE)(ι:List Nat)(me:aj->OE):aj->OE:=fun ρ=>(ml ρ).bind fun r=>match r.pv with
 |.tup xs=>noX (fu me (e6 ι ρ) xs)
 |_=>.bad
noncomputable def gX(mc:aj->OT)(me:aj->OE)(ρ:aj):List PV->OA
 |[]=>.ok []
 | x ::xs=>(match mc (ρ++[some (.sh x)])with
   | .ok true=>(me (ρ++[some (.sh x)])).fh fun r=>(match jx r with
     |some y=>(gX mc me ρ xs).fh fun ys=>.ok (y ::ys)
     |none=>.bad)
   |.ok false=>gX mc me ρ xs
   |_=>.bad)
noncomputable def rp(ml:aj->OE)(ι:List Nat)(mc:aj->OT)(me:aj->OE):aj->OE:=fun ρ=>(ml ρ).bind fun r=>match r.pv with
 |.lst xs=>noX (gX mc me (e6 ι ρ) xs)
 |_=>.bad
noncomputable def Cd(ma ms:aj->OE):aj->OE:=fun ρ=>(ma ρ).bind fun a=>(ms ρ).bind fun k=>match a.pv,k.pv with
 |.lst xs,.int k=>if k=-1 then .ok (.fr xs.reverse)else .bad
 |_,_=>.bad
noncomputable def G6:PV->Option RV
 |.lst xs=>some (.sh (.tup xs))
 |.tup xs=>some (.sh (.tup xs))
 |_=>none
mutual
noncomputable def fj:PV->PV->Bool
 |.non,y=>(match y with|.non=>true|_=>false)
 |.bl a,y=>(match y with|.bl b=>a==b|.int j=>(if a then 1 else 0)==j|_=>false)
 |.int i,y=>(match y with|.bl b=>i==(if b then 1 else 0)|.int j=>i==j|_=>false)
 |.str x,y=>(match y with|.str z=>x==z|_=>false)
 |.lst xs,y=>(match y with|.lst ys=>AW xs ys|_=>false)
 |.tup xs,y=>(match y with|.tup ys=>AW xs ys|_=>false)
noncomputable def AW:List PV->List PV->Bool
 |[],ys=>(match ys with|[]=>true|_ ::_=>false)
 |x ::xs,ys=>(match ys with|y ::ys=>fj x y&&AW xs ys|[]=>false)
end
noncomputable def cM:PV->Bool
 |.lst _=>false
 |.tup _=>false
 |_=>true
noncomputable def gE:PV->PV->Option Bool
 |x,.tup ys=>if ys.all cM=true then some (ys.any fun y=>fj y x)else none
 |x,.lst ys=>if ys.all cM=true then some (ys.any fun y=>fj y x)else none
 |_,_=>none
noncomputable def gIn:PV->PV->Option RV:=fun x y=>(gE x y).map fun b=>.sh (.bl b)
noncomputable def uR:PV->PV->Option RV:=fun x y=>(gE x y).map fun b=>.sh (.bl (!b))
noncomputable def gu(kvs:List (Int×PV)):PV->Option RV
 |.int n=>some (.sh ((kvs.lookup n).getD .non))
 |_=>none
end L2.P
namespace L2
open PySem PySem.Spec PyProof.Rows
section
variable{X:Cx}{pins:List (Addr×Obj)}{σ:St}{H:Hp}{s:Shared}{h':Heap}
theorem Inv.zg{t':Nat}{its:List Addr}{a:Addr}{o:HO}(I:Inv X pins σ H s)(k:∀ b u,b∉its->s.heap.get? b=some u->h'.get? b=some u)(hf:∀ b∈its,pV X pins H b)
  (hp:s.heap.objs.size<=a) (new:gn X.prog X.w (upd H a o) h' a o):Inv X pins σ (upd H a o) { s with heap:=h',toks:=t' }:=by
 have hn:=I.hok.fresh hp
 have nit:∀ b u,H b=some u->b∉its:=fun b u e z=>by rw[(hf b z).1]at e;cases e
 refine I.step (g':=s.gens) (d':=s.drawn) (ch:=its) (fun b hb=>?_) (fun b u _ _ hc e _=>k b u hc e) (fun b u _ _ hc e _=>⟨u.slots,k b u hc e⟩)
  (fun b u _ q n=>by rw[bD (Nat.ne_of_lt (Nat.lt_of_lt_of_le (Heap.lt_size q) hp))];exact n)
  (fun b u hc e=>⟨u,k b u hc e⟩) (fun b xs q=>by rw[bD (eG q hn)];exact q) (fun b u xs q=>by rw[bD (eG q hn)];exact q) (fun b ps q=>⟨#[],by rw[bD (eG q hn),q];simp⟩) (fun m hm=>?_) (fun b u e=>?_) I.bare
 . obtain⟨_,f1,f2,f3,f4,f5⟩:=hf b hb
   exact⟨f3,f1,f4,f5⟩
 . obtain⟨ob,es,ep,ho,r⟩:=hm
   exact⟨ob,es,ep,k _ ob (fun z=>(hf _ z).2.1 rfl) ho,r⟩
 . by_cases hb:b=a
   . subst hb;rw[bF]at e;cases e;exact new
   . rw[bD hb]at e
     refine(I.hok b u e).qS (fun c v hc q=>k c v ?_ q) (fun c q=>by rw[bD (eG q hn)];exact q) fun c xs q=>by rw[bD (eG q hn)];exact q
     rcases hc with z|z
     . rw[z];exact nit b u e
     . exact nit c _ z
end
noncomputable def Ite(K:PySem.W.Frag)(a:Addr):It:=
 ⟨fun i H=>∃ xs x,SqL K H a xs /\ xs[i]?=some x,fun i H v H'=>∃ t x,(∀ xs,SqL K H a xs->xs[i]?=some x) /\ H t=none /\ v=.ref t /\ H'=upd H t (.tup [.int i,x]),fun i H=>∃ xs,SqL K H a xs /\ xs.length<=i⟩
theorem zv{P:Program}{w:World}{K:PySem.W.Frag}{elts:List Expr}{k:Nat}{pos:Pos}(a e it:Addr)(hei:e≠it):
  Turn P w K (.Tuple elts k pos) (Ite K a) [e,it] e (fun i h=>(∃ old,IsEnum h e it i old) /\ h.IsListIter it a i) where
 mem:=by simp
 obj:=fun i h st b hb=>by
  obtain⟨⟨old,h1⟩,o,h2,c,d⟩:=st
  rcases List.mem_cons.mp hb with z|z
  . subst z;exact⟨_,h1,fun v z=>by cases z⟩
  . have z':b=it:=by simpa using z
    subst z';exact⟨o,h2,fun v z=>by rw[d]at z;cases z⟩
 keep:=fun i h h' st k=>by
  obtain⟨⟨old,h1⟩,h2⟩:=st
  exact⟨⟨old,k e (by simp) _ h1⟩,h2.at fun o x=>k it (by simp) o x⟩
 item:=by
  intro X hP hw hK hc i pins s σ H E I hf st hg;subst hP hw hK;obtain⟨xs,x,hq,hx⟩:=hg;obtain⟨its,rv,p,hz⟩:=I.list hq;obtain⟨u,hu,ru⟩:=rv.get hx;obtain⟨⟨old,he⟩,hit⟩:=st
  refine wpAny_pyNext_enum_item he hit p.isList (x:=u) (by simpa using hu) hei fun h1 ho hit1 hT hsz hk=>⟨_,rfl,?_⟩
  refine wpAny_letOwnedTupleGo_enum ho fun h2 he2 hs2=>?_
  have hT2:h2.get? s.heap.objs.size=some { cls:=.type "tuple",data:=.seq #[.int i s.toks,u] }:=(hs2.2 _ (Nat.ne_of_gt (Heap.lt_size he))).trans hT
  have nH:H s.heap.objs.size=none:=I.hok.fresh (Nat.le_refl _)
  refine⟨.ref s.heap.objs.size,upd H s.heap.objs.size (.tup [.int i,x]),I.zg (its:=[e,it]) (t':=s.toks+1) (fun b o hb q=>?_) hf (Nat.le_refl _) ?_,rfl,⟨_,x,fun ys hy=>by rw[I.wj hy hq];exact hx,nH,rfl,rfl⟩,⟨⟨u,by simpa using he2⟩,?_⟩,fun b hb=>?_⟩
  . have nb:b≠e /\ b≠it:=by simpa using hb
    exact(hs2.2 b nb.1).trans (hk b o nb.1 nb.2 q)
  . exact⟨by show 2<=sizeLine;decide,[.int i s.toks,u],.cons ⟨_,rfl⟩ (.cons ru .nil),⟨_,hT2,rfl,_,rfl⟩⟩
  . exact hit1.at fun o y=>(hs2.2 it hei.symm).trans y
  . have:b < s.heap.objs.size:=by
     rcases List.mem_cons.mp hb with z|z
     . subst z;exact Heap.lt_size he
     . have z':b=it:=by simpa using z
       subst z';obtain⟨_,y,_⟩:=hit;exact Heap.lt_size y
    rw[bD (Nat.ne_of_lt this)]
    exact(hf b hb).1
 done:=by
  intro X hP hw hK hc i pins s σ H E I hf st hg;subst hP hw hK;obtain⟨xs,hq,hx⟩:=hg;obtain⟨its,rv,p,hz⟩:=I.list hq;obtain⟨⟨old,he⟩,hit⟩:=st;obtain⟨f0,f1,f2,f3,f4,f5⟩:=hf it (by simp);have hl:=rv.length
  exact wpAny_pyNext_enum_end (I.ok.hd hc) he hit p.isList (by simp;omega) fun h' eb=>⟨rfl,I.turned (t':=s.toks) (fun b o hb e=>eb b o hb e) f0 f1 f3 f4 f5⟩
 self:=fun _ _ _ _ _ st h=>by
  obtain⟨⟨old,he⟩,_⟩:=st;exact wpAny_pyIter_enum he h
section
variable{X:Cx}
noncomputable def AU(K:PySem.W.Frag)(ta:TA):TI:=fun σ H R=>ta σ H fun vs H1=>∃ a,vs=[.ref a] /\ (∃ xs,SqL K H1 a xs) /\ R (Ite K a) H1
theorem CP{elts:List Expr}{k:Nat}{tp:Pos}{a:Expr}{ta:TA}{p pos:Pos}(hg:Gl X "enumerate")(hm:X.mg "enumerate" = none)(ha:PA X [a] ta)(hs:starEach [a] X.env=[(false,eval a X.env)]:=by rfl):
  PI X (.Tuple elts k tp) (.Call (.Name "enumerate" p) [a] [] pos) (AU X.K ta):=by
 intro pins s σ H R I h;refine Call_ (si I hg hm (show bootBuiltins "enumerate" = some (.type "enumerate") by rfl) (PyProof.Rows.callWith_type1 (thn (ha pos pins s σ H _ I h) fun us s1 ⟨vs,H1,I1,r1,q1⟩=>?_) hs rfl));obtain⟨l,e,⟨xs,hq⟩,q⟩:=q1;subst e
 cases r1 with
 | cons r rr=>
   cases rr;cases r;obtain⟨its,rv,p,hz⟩:=I1.list hq
   refine call_enumerate_list p.isList fun h' he hit hsz hk=>?_
   refine wpAny_pyIter_enum he ?_
   have I2:Inv X pins σ H1 { s1 with heap:=h' }:=I1.kept (t':=s1.toks) hk
   refine⟨s1.heap.objs.size+1,[s1.heap.objs.size+1,s1.heap.objs.size],_,_,H1,rfl,I2,zv l _ _ (Nat.succ_ne_self _),⟨⟨.none,he⟩,hit⟩,fun b hb=>?_,q⟩
   have:s1.heap.objs.size<=b:=by
    rcases List.mem_cons.mp hb with z|z
    . subst z;exact Nat.le_succ _
    . have z':b=s1.heap.objs.size:=by simpa using z
      subst z';exact Nat.le_refl _
   exact I1.Cw this (I1.hok.fresh this)
end
theorem Bg{K:PySem.W.Frag}{a:Addr}{xs:List V}{g:TG}{tb:TS}{D:Ends}{σ:St}{H:Hp}(Pv:Nat->St->Hp->Prop)(h0:Pv 0 σ H)(hl:∀ i σ H,i<=xs.length->Pv i σ H->SqL K H a xs)
  (hs:∀ i x σ H t,xs[i]?=some x->Pv i σ H->H t=none->g (.ref t) σ (upd H t (.tup [.int i,x])) fun σ2 H2=>tb { D with nx:=Pv (i+1),ct:=Pv (i+1),bk:=D.nx } σ2 H2) (hd:∀ σ H,Pv xs.length σ H->D.nx σ H):
  ∃ W:Nat->Nat->St->Hp->Prop,(∃ m,W 0 m σ H) /\ ∀ i m σ H,W i m σ H ->
    ((Ite K a).stop i H /\ D.nx σ H) \/ ((Ite K a).go i H /\ ∃ N:St->Hp->Prop,(∀ σ' H',N σ' H'->∃ m',m'<m /\ W (i+1) m' σ' H') /\ ∀ x H',(Ite K a).yld i H x H'->g x σ H' fun σ2 H2=>tb { D with nx:=N,ct:=N,bk:=D.nx } σ2 H2):=by
 refine⟨fun i m σ H=>m=xs.length - i /\ i<=xs.length /\ Pv i σ H,⟨xs.length,by simp,Nat.zero_le _,h0⟩,?_⟩
 rintro i m σ H ⟨rfl,hi,p⟩
 have q:=hl i σ H hi p
 by_cases hlt:i<xs.length
 . refine .inr ⟨⟨xs,xs[i],q,by simp[hlt]⟩,Pv (i+1),fun σ' H' p'=>⟨xs.length - (i+1),by omega,rfl,hlt,p'⟩,fun x H' y=>?_⟩;obtain⟨t,z,y1,y3,e1,e2⟩:=y;subst e1 e2;exact hs i z σ _ t (y1 xs q) p y3
 . have e:i=xs.length:=by omega
   subst e;exact .inl ⟨⟨xs,q,Nat.le_refl _⟩,hd σ H p⟩
end L2
namespace L2.P
open PySem PySem.Spec PyProof.Rows L2 L2.E PySem.SeqAt
section
variable{K:PySem.W.Frag}{S H:Hp}
theorem RdV.rep{x:PV}{v:V}(h:RdV K S H x v)(s:aM S H):Rep K H x v:=by
 cases x with
 |lst xs=>obtain⟨p,vs,e,q,r⟩:=h;unfold Rep;exact⟨p,vs,e,q,r.mono s⟩
 |non=>exact Rep.mono s h
 |bl b=>exact Rep.mono s h
 |int i=>exact Rep.mono s h
 |str x=>exact Rep.mono s h
 |tup xs=>exact Rep.mono s h
end
section
variable{X:Cx}{K:PySem.W.Frag}{S H:Hp}
theorem rP{x:PV}{v:V}(h:Rep K H x v)(f:cM x=true):oq v=true:=by
 cases x with
 |lst xs=>cases f
 |tup xs=>cases f
 |non=>unfold Rep at h;subst h;rfl
 |bl b=>unfold Rep at h;subst h;rfl
 |int b=>unfold Rep at h;subst h;rfl
 |str b=>unfold Rep at h;subst h;rfl
theorem Ct{x y:PV}{v u:V}(h:Rep K H x v)(k:Rep K H y u)(f:cM x=true)(g:cM y=true):eqV u v=fj y x:=by
 cases x<;>first|(cases f;done)|skip
 all_goals(unfold Rep at h;subst h;cases y<;>first|(cases g;done)|(unfold Rep at k;subst k;simp[eqV,fj]))
theorem tT{xs:List PV}{vs:List V}(h:bZ K H xs vs)(f:xs.all cM=true):vs.all oq=true:=by
 induction xs generalizing vs with
 |nil=>rw[h.nil_inv];rfl
 | cons x xs ih=>
   obtain⟨v,r,rfl,h1,h2⟩:=h.cons_inv
   rw[List.all_cons,Bool.and_eq_true]at f ⊢
   exact⟨rP h1 f.1,ih h2 f.2⟩
theorem vH{x:PV}{v:V}{xs:List PV}{vs:List V}(hx:Rep K H x v)(g:cM x=true)(h:bZ K H xs vs)(f:xs.all cM=true):inV v vs=xs.any fun y=>fj y x:=by
 induction xs generalizing vs with
 |nil=>rw[h.nil_inv];rfl
 | cons y xs ih=>
   obtain⟨u,r,rfl,h1,h2⟩:=h.cons_inv;rw[List.all_cons,Bool.and_eq_true]at f;have:=ih h2 f.2
   unfold inV at this ⊢
   rw[List.any_cons,List.any_cons,this,Ct hx h1 g f.1]
theorem v9{x:PV}{xs:List PV}(g:cM x=false)(f:xs.all cM=true):(xs.any fun y=>fj y x)=false:=by
 induction xs with
 |nil=>rfl
 | cons y xs ih=>
   rw[List.all_cons,Bool.and_eq_true]at f;rw[List.any_cons,ih f.2,Bool.or_false];have f1:=f.1
   cases y<;>first|(cases f1;done)|(cases x<;>first|(cases g;done)|simp[fj])
theorem uY{α:Type}(l:List α):(l.any fun _=>false)=false:=by induction l<;>simp_all
theorem pM{A:Around}{s:Shared}{pins:List (Addr×Obj)}{σ:St}(I:Inv X pins σ H s)(hu:A.units<cLine){x:PV}{v:V}{a:Value}(hx:Rep X.K H x v)(ra:RelV v a)(g:cM x=false):
  ∀{xs:List PV} {vs:List V} {us:List Value},bZ X.K H xs vs->Vals vs us->xs.all cM=true->∀ u∈us,EqAt A s u a false:=by
 intro xs
 induction xs with
 |nil=>intro vs us h r _ u hu;rw[h.nil_inv]at r;cases r;cases hu
 | cons y xs ih=>
   intro vs us h r f u hm;obtain⟨w,t,rfl,h1,h2⟩:=h.cons_inv;rw[List.all_cons,Bool.and_eq_true]at f
   cases r with
   | cons r1 r2=>
     rcases List.mem_cons.mp hm with rfl|hm
     . cases x with
       |non=>cases g
       |bl b=>cases g
       |int b=>cases g
       |str b=>cases g
       | lst zs=>
         unfold Rep at hx;obtain⟨p,us',rfl,hq,_⟩:=hx;cases ra;obtain⟨its,_,pl,_⟩:=I.list hq
         cases y with
         |non=>unfold Rep at h1;subst h1;cases r1;exact EqAt.none_list pl.isList hu
         |bl b=>unfold Rep at h1;subst h1;cases r1;exact EqAt.bool_list b pl.isList hu
         |int b=>unfold Rep at h1;subst h1;obtain⟨t',rfl⟩:=r1;exact EqAt.int_list b t' pl.isList hu
         |str b=>unfold Rep at h1;subst h1;obtain⟨t',rfl⟩:=r1;exact EqAt.str_list b t' pl.isList hu
         |lst _=>cases f.1
         |tup _=>cases f.1
       | tup zs=>
         unfold Rep at hx;obtain⟨p,us',rfl,hq,_⟩:=hx;cases ra;obtain⟨its,_,pl,_⟩:=I.tuple hq
         cases y with
         |non=>unfold Rep at h1;subst h1;cases r1;exact EqAt.none_tuple pl hu
         |bl b=>unfold Rep at h1;subst h1;cases r1;exact EqAt.bool_tuple b pl hu
         |int b=>unfold Rep at h1;subst h1;obtain⟨t',rfl⟩:=r1;exact EqAt.int_tuple b t' pl hu
         |str b=>unfold Rep at h1;subst h1;obtain⟨t',rfl⟩:=r1;exact EqAt.str_tuple b t' pl hu
         |lst _=>cases f.1
         |tup _=>cases f.1
     . exact ih h2 r2 f.2 u hm
noncomputable def zU(K:PySem.W.Frag)(A:Around)(neg:Bool):R2:=fun v u H Q=>∃ x ys p vs,Rep K H x v /\ u=.ref p /\ (SqL K H p vs \/ SqT K H p vs) /\ bZ K H ys vs /\ ys.all cM=true /\ A.units+64<cLine /\ Q (.bl (if neg then !(ys.any fun y=>fj y x)else ys.any fun y=>fj y x)) H
theorem eZ:OpR X (compareOp .In) (zU X.K X.A false):=by
 intro pins s σ H v u a b Q I rx ry h;obtain⟨x,ys,p,vs,hx,rfl,hq,hr,hf,hu,q⟩:=h
 cases g:cM x with
 |true=>exact yL pins s σ H v _ a b Q I rx ry ⟨p,vs,rfl,hq,rP hx g,tT hr hf,by rw[vH hx g hr hf];exact q⟩
 | false=>
   rw[v9 g hf]at q;cases ry
   rcases hq with hq|hq
   . obtain⟨its,r,pl,hz⟩:=I.list hq;refine SeqAt.in_listAt (fun _=>false) pl.isList (fun w hw=>pM I (by show X.A.units+1<cLine;omega) hx rx g hr r hf w (by simpa using hw)) ⟨.bl _,H,I,rfl,?_⟩;rw[show(its.toArray.any fun _=>false)=false by simp[uY]];exact q
   . obtain⟨its,r,pl,hz⟩:=I.tuple hq;refine SeqAt.in_tupleAt (fun _=>false) pl (fun w hw=>pM I (by show X.A.units+1<cLine;omega) hx rx g hr r hf w (by simpa using hw)) ⟨.bl _,H,I,rfl,?_⟩;rw[show(its.toArray.any fun _=>false)=false by simp[uY]];exact q
theorem ze:OpR X (compareOp .NotIn) (zU X.K X.A true):=by
 intro pins s σ H v u a b Q I rx ry h;obtain⟨x,ys,p,vs,hx,rfl,hq,hr,hf,hu,q⟩:=h
 cases g:cM x with
 |true=>exact uB pins s σ H v _ a b Q I rx ry ⟨p,vs,rfl,hq,rP hx g,tT hr hf,by rw[vH hx g hr hf];exact q⟩
 | false=>
   rw[v9 g hf]at q;cases ry
   rcases hq with hq|hq
   . obtain⟨its,r,pl,hz⟩:=I.list hq;refine SeqAt.notIn_listAt (fun _=>false) pl.isList (fun w hw=>pM I (by show X.A.units+1<cLine;omega) hx rx g hr r hf w (by simpa using hw)) ⟨.bl _,H,I,rfl,?_⟩;rw[show(its.toArray.any fun _=>false)=false by simp[uY]];exact q
   . obtain⟨its,r,pl,hz⟩:=I.tuple hq;refine SeqAt.notIn_tupleAt (fun _=>false) pl (fun w hw=>pM I (by show X.A.units+1<cLine;omega) hx rx g hr r hf w (by simpa using hw)) ⟨.bl _,H,I,rfl,?_⟩;rw[show(its.toArray.any fun _=>false)=false by simp[uY]];exact q
theorem yt{A:Around}{neg:Bool}{x y:PV}{v u:V}{b:Bool}{Q:VK}(hu:A.units+64<cLine)(I:aM S H)(hx:RdV K S H x v)(hy:RdV K S H y u)(e:gE x y=some b)(k:∀ z S' H',bx S H S' H'->lr K H S' H' (.sh (.bl (if neg then !b else b))) z->Q z H'):zU K A neg v u H Q:=by
 cases y with
 | tup ys=>
   simp only[gE]at e
   by_cases hf:ys.all cM=true
   . rw[if_pos hf]at e;cases e;obtain⟨p,vs,rfl,hq,hr⟩:=nR hy
     exact⟨x,ys,p,vs,hx.rep I,rfl,.inr (aM.tup I hq),hr.mono I,hf,hu,k _ S H (bx.refl I) oS⟩
   . rw[if_neg hf]at e;cases e
 | lst ys=>
   simp only[gE]at e
   by_cases hf:ys.all cM=true
   . rw[if_pos hf]at e;cases e;obtain⟨p,vs,rfl,hq,hr⟩:=iF hy
     exact⟨x,ys,p,vs,hx.rep I,rfl,.inl hq,hr.mono I,hf,hu,k _ S H (bx.refl I) oS⟩
   . rw[if_neg hf]at e;cases e
 |_=>simp only[gE]at e;cases e
theorem gY{A:Around}(hu:A.units+64<cLine):JR K (zU K A false) gIn:=by
 intro S H x y v u rr Q I hx hy e k;obtain⟨b,e1,e2⟩:=Option.map_eq_some_iff.mp e;subst e2;exact yt hu I hx hy e1 k
theorem Bk{A:Around}(hu:A.units+64<cLine):JR K (zU K A true) uR:=by
 intro S H x y v u rr Q I hx hy e k;obtain⟨b,e1,e2⟩:=Option.map_eq_some_iff.mp e;subst e2;exact yt hu I hx hy e1 k
end
end L2.P
namespace L2.P
open PySem PySem.Spec PyProof.Rows L2 L2.E
section
variable{K:PySem.W.Frag}{cls:String->Option Addr}{W:XW}{Av G S₀ S S' H H' B B':Hp}{ρ:aj}{σ:St}{Q:VK}
noncomputable abbrev g2(K:PySem.W.Frag)(i j:Nat):TG:=Fz K 2 (yA (iY i) (yA (iY j) FC))
theorem xG{mb:aj->OS}{D:Ends}{N:St->Hp->Prop}(hb:JS K cls W tb mb)(I:SR K cls Av G S₀ ρ σ S H)(hx:Rep K S x v)(hy:Rep K S y u)(ht:SqT K H t [v,u])
  (p:fS K cls W Av G S₀ S D (lX i j mb (.tup [x,y] ::xs) ρ)) (hN:∀ ρ' σ' S' H',SR K cls Av G S₀ ρ' σ' S' H'->aM S S'->fS K cls W Av G S₀ S' D (lX i j mb xs ρ')->N σ' H'):
  g2 K i j (.ref t) σ H fun σ2 H2=>tb { D with nx:=N,ct:=N,bk:=D.nx } σ2 H2:=by
 refine⟨t,_,rfl,ht,rfl,_,_,rfl,_,_,rfl,rfl,?_⟩
 refine hb Av G S₀ _ _ S H _ ((I.tW hx).tW hy) ?_;unfold lX at p
 cases e:mb ((ρ.set i (some (.sh x))).set j (some (.sh y)))with
 |nx ρ'=>rw[e]at p;exact fun σ' S' H' I' s'=>hN ρ' σ' S' H' I' s' (p.back s')
 |ct ρ'=>rw[e]at p;exact fun σ' S' H' I' s'=>hN ρ' σ' S' H' I' s' (p.back s')
 |bk ρ'=>rw[e]at p;exact p
 |rt ρ' r=>rw[e]at p;exact p
 |exc ρ' c fs=>rw[e]at p;exact p
 |bad=>rw[e]at p;exact p
theorem wY(xs:List PV):∀(k n:Nat) (y:PV),xs[k]?=some y->qL (n+k) (xs.drop k)=.tup [.int ((n+k:Nat):Int),y] ::qL (n+(k+1)) (xs.drop (k+1)):=by
 intro k n y hy
 have hk:k<xs.length:=(List.getElem?_eq_some_iff.mp hy).1
 rw[List.drop_eq_getElem_cons hk]
 have:xs[k]=y:=(List.getElem?_eq_some_iff.mp hy).2
 rw[this];rfl
theorem Cv{ml:aj->OE}{mb:aj->OS}(hl:JE K cls W tl ml)(hb:JS K cls W tb mb):JS K cls W (zS (AU K (jT tl lz)) (g2 K i j) tb) (yl i j ml mb):=by
 intro Av G S₀ ρ σ S H D I p;refine hl Av G S₀ ρ σ S H _ I ?_;unfold yl at p
 cases em:ml ρ with
 |exc c fs=>rw[em]at p;exact fun a C S' H' w x=>p a C σ S' H' (I.grow w) w.s x
 |bad=>rw[em]at p;exact p
 | ok r=>
   rw[em]at p;intro v S1 H1 w1 r1;simp only[OE.cq]at p
   cases ei:wb r with
   |none=>rw[ei]at p;exact p.elim
   | some xs=>
     rw[ei]at p
     have es:jx r=some (.lst xs):=by
      cases r with
      |sh y=>cases y<;>cases ei<;>rfl
      |fr ys=>cases ei;rfl
      |al ys=>cases ei
     obtain⟨S2,w2,s2,rx⟩:=r1.share w1 es;have I2:=I.grow w2;unfold Rep at rx;obtain⟨a,vs,rfl,hq,hr⟩:=rx
     show ∃ a',[V.ref a]=[V.ref a'] /\ _
     refine⟨a,rfl,⟨vs,aM.seq I2.sh hq⟩,?_⟩
     refine Bg (xs:=vs) (fun k σ' H'=>∃ ρ' S',SR K cls Av G S₀ ρ' σ' S' H' /\ aM S2 S' /\ fS K cls W Av G S₀ S' D (lX i j mb (qL (0+k) (xs.drop k)) ρ'))
      ⟨ρ,S2,I2,aM.refl _,p.back w2.s⟩ ?_ ?_ ?_
     . rintro k σ' H' _ ⟨ρ',S',I',s',_⟩
       exact aM.seq (s'.trans I'.sh) hq
     . rintro k x σ' H' t hx ⟨ρ',S',I',s',p'⟩ ht
       obtain⟨y,hy,ry⟩:=hr.FL hx;rw[wY xs k 0 y hy]at p'
       have w3:bx S' H' S' (upd H' t (.tup [.int k,x])):=bx.heap I'.sh ht
       refine xG hb (I'.grow w3) (x:=.int ((0+k:Nat):Int)) (v:=.int k) (by unfold Rep;rw[Nat.zero_add]) (Rep.mono s' ry) (SqT.new bF) p' fun ρ2 σ2 S3 H3 I3 s3 p3=>⟨ρ2,S3,I3,s'.trans s3,p3⟩
     . rintro σ' H' ⟨ρ',S',I',s',p'⟩
       rw[List.drop_of_length_le (by rw[hr.length];exact Nat.le_refl _)]at p';exact p' σ' S' H' I' (aM.refl _)
end
end L2.P
namespace L2.E
open PySem PySem.Spec PyProof.Rows L2
theorem BY{X:Cx}(hg:Gl X "enumerate")(hm:X.mg "enumerate" = none)(ha:QA X [a] ta)(hs:starEach [a] X.env=[(false,eval a X.env)]:=by rfl):
  QI X (.Tuple elts k tp) (.Call (.Name "enumerate" p) [a] [] pos) (AU X.K ta):=⟨CP hg hm ha.out hs⟩
structure QGs(X:Cx)(es:List Expr)(t:TGs):Prop where
 out:PGs X es t
theorem CS:QGs X [] FC:=⟨Co⟩
theorem vv{X:Cx}(h1:QG X e t)(h2:QGs X es u)
  (hs:(assignEach (e ::es) X.env).map (·.2)=assign e X.env ::(assignEach es X.env).map (·.2):=by rfl):QGs X (e ::es) (yA t u):=⟨Ap h1.out h2.out hs⟩
theorem DO{X:Cx}(hc:X.calm=true)(h:QGs X es t)
  (hn:(assignEach es X.env).length=n:=by rfl) (hst:(assignEach es X.env).findIdx? (·.1)=none:=by rfl):QG X (.Tuple es k pos) (Fz X.K n t):=⟨EX hc h.out hn hst⟩
end L2.E
namespace L2.P
open PySem PySem.Spec PyProof.Rows L2 L2.E
section
variable{K:PySem.W.Frag}{cls:String->Option Addr}{W:XW}{Av G S₀ S S' H H' B B':Hp}{ρ:aj}{σ:St}{Q:VK}{F:Nat->List Addr}
theorem bN.length{ts:List OV}{vs:List V}(h:bN K cls S H ts vs f):vs.length=ts.length:=by
 induction ts generalizing vs f with
 |nil=>unfold bN at h;rw[h.1];rfl
 | cons t ts ih=>
   unfold bN at h;obtain⟨v,r,f1,f2,rfl,_,_,h2⟩:=h;simp[ih h2]
theorem bN.cons_inv(h:bN K cls S H (t ::ts) vs fp):∃ v r f1 f2,vs=v ::r /\ fp=f1++f2 /\ bO K cls S H t v f1 /\ bN K cls S H ts r f2:=by unfold bN at h;exact h
theorem bN.cons(h:bO K cls S H t v f1)(r:bN K cls S H ts vs f2):bN K cls S H (t ::ts) (v ::vs) (f1++f2):=by unfold bN;exact⟨v,vs,f1,f2,rfl,rfl,h,r⟩
theorem bN.nil:bN K cls S H [] [] []:=by unfold bN;exact⟨rfl,rfl⟩
theorem bN.append(h:bN K cls S H ts vs f)(k:bN K cls S H us ws g):bN K cls S H (ts++us) (vs++ws) (f++g):=by
 induction ts generalizing vs f with
 |nil=>unfold bN at h;rw[h.1,h.2];exact k
 | cons t ts ih=>
   obtain⟨v,r,f1,f2,rfl,rfl,h1,h2⟩:=h.cons_inv;have:=bN.cons h1 (ih h2);rw[List.append_assoc];exact this
theorem bN.shs{xs:List PV}(h:bZ K S xs vs):bN K cls S H (xs.map .sh) vs []:=by
 induction xs generalizing vs with
 |nil=>rw[h.nil_inv];exact .nil
 | cons x xs ih=>
   obtain⟨v,r,rfl,h1,h2⟩:=h.cons_inv;exact bN.cons (f1:=[]) (by unfold bO;exact⟨rfl,h1⟩) (ih h2)
theorem bN.flat(e:vx ts=some xs)(h:bN K cls S H ts vs f):bZ K S xs vs /\ f=[]:=by
 induction ts generalizing xs vs f with
 |nil=>cases e;unfold bN at h;rw[h.1,h.2];exact⟨.nil,rfl⟩
 | cons t ts ih=>
   cases t with
   | sh x=>
     obtain⟨ys,e1,e2⟩:=Option.map_eq_some_iff.mp e;subst e2;obtain⟨v,r,f1,f2,rfl,rfl,h1,h2⟩:=h.cons_inv;unfold bO at h1;obtain⟨h3,h4⟩:=ih e1 h2
     exact⟨.cons h1.2 h3,by rw[h1.1,h4];rfl⟩
   |ol _=>cases e
   |ob _ _ _=>cases e
   |di _=>cases e
   |dt _=>cases e
theorem bN.at{ts:List OV}{vs:List V}{f:List Addr}(h:bN K cls S H ts vs f)(e:ts[k]?=some u):
  ∃ w f1 rest,vs[k]?=some w /\ bO K cls S H u w f1 /\ f.Perm (f1++rest) /\
    ∀ S' H' u' w' f',aM S S'->bO K cls S' H' u' w' f'->(∀ a∈rest,∀ o,H a=some o->H' a=some o)->∃ g,bN K cls S' H' (ts.set k u') (vs.set k w') g /\ g.Perm (f'++rest):=by
 induction ts generalizing vs f k with
 |nil=>simp at e
 | cons t ts ih=>
   obtain⟨v,r,f1,f2,rfl,rfl,h1,h2⟩:=h.cons_inv
   cases k with
   | zero=>
     simp at e;subst e
     refine⟨v,f1,f2,rfl,h1,List.Perm.refl _,fun S' H' u' w' f' s r' g=>?_⟩
     exact⟨f'++f2,bN.cons r' (h2.mono s g),List.Perm.refl _⟩
   | succ k=>
     simp at e;obtain⟨w,g1,rest,e1,r1,p1,c1⟩:=ih h2 e
     refine⟨w,g1,f1++rest,by simpa using e1,r1,?_,fun S' H' u' w' f' s r' g=>?_⟩
     . have:(f1++f2).Perm (f1++(g1++rest)):=List.Perm.append_left f1 p1
       refine this.trans ?_;rw[<- List.append_assoc,<- List.append_assoc];exact List.Perm.append_right rest List.perm_append_comm
     . obtain⟨g2,r2,p2⟩:=c1 S' H' u' w' f' s r' fun a ha=>g a (List.mem_append_right _ ha)
       refine⟨f1++g2,bN.cons (h1.mono s fun a ha=>g a (List.mem_append_left _ ha)) r2,?_⟩
       refine(List.Perm.append_left f1 p2).trans ?_
       rw[<- List.append_assoc,<- List.append_assoc];exact List.Perm.append_right rest List.perm_append_comm
theorem yo{ts:List OV}(h:nh ks ts f=some u):∃ k,ts[k]?=some u /\ ks[k]?=some f /\ (∀ u',ti ks ts f u'=ts.set k u') /\ ∀{α:Type} (us:List (Str×α)),us.map (·.1)=ks->us.lookup f=(us.map (·.2))[k]?:=by
 induction ks generalizing ts with
 |nil=>simp[nh]at h
 | cons g ks ih=>
   cases ts with
   |nil=>simp[nh]at h
   | cons t ts=>
     unfold nh at h;split at h
     . rename_i e;subst e;cases h
       refine⟨0,rfl,rfl,fun u'=>by simp[ti],fun us eu=>?_⟩
       cases us with
       |nil=>cases eu
       | cons q us=>
         simp at eu;obtain⟨a,b⟩:=q;simp at eu;rw[<- eu.1];simp[List.lookup]
     . rename_i ne;obtain⟨k,e1,e2,e3,e4⟩:=ih h
       refine⟨k+1,by simpa using e1,by simpa using e2,fun u'=>by simp[ti,ne,e3],fun us eu=>?_⟩
       cases us with
       |nil=>cases eu
       | cons q us=>
         obtain⟨a,b⟩:=q;simp at eu
         have:(f==a)=false:=by rw[eu.1];simpa using Ne.symm ne
         simp[List.lookup,this,e4 us eu.2]
noncomputable def tM(H:Hp):Stp->V->V->Prop
 |.ix k,v,w=>∃ p vs,v=.ref p /\ H p=some (.lst vs) /\ vs[k]?=some w
 |.fd f,v,w=>∃ p C dx us,v=.ref p /\ H p=some (.ins C dx us) /\ us.lookup f=some w
noncomputable def jt(H:Hp):V->List Stp->V->Prop
 |v,[],w=>w=v
 |v,s ::π,w=>∃ u,tM H s v u /\ jt H u π w
theorem tM.inj(h:tM H s v w)(k:tM H s v w'):w=w':=by
 cases s with
 | ix n=>
   obtain⟨p,vs,rfl,e1,e2⟩:=h;obtain⟨p',vs',e3,e4,e5⟩:=k;cases e3;rw[e1]at e4;cases e4;rw[e2]at e5;cases e5;rfl
 | fd f=>
   obtain⟨p,C,dx,us,rfl,e1,e2⟩:=h;obtain⟨p',C',dx',us',e3,e4,e5⟩:=k;cases e3;rw[e1]at e4;cases e4;rw[e2]at e5;cases e5;rfl
theorem jt.inj:∀{v w w':V},jt H v π w->jt H v π w'->w=w':=by
 induction π with
 |nil=>intro v w w' h k;rw[h,k]
 | cons s π ih=>
   rintro v w w' ⟨u,h1,h2⟩ ⟨u',k1,k2⟩
   have:=h1.inj k1;subst this;exact ih h2 k2
theorem jt.snoc:∀{v w u:V},jt H v π w->tM H s w u->jt H v (π++[s]) u:=by
 induction π with
 |nil=>intro v w u h k;rw[h]at k;exact⟨u,k,rfl⟩
 | cons t π ih=>
   rintro v w u ⟨x,h1,h2⟩ k
   exact⟨x,h1,ih h2 k⟩
theorem jt.mono(g:aM H H'):∀{v w:V},jt H v π w->jt H' v π w:=by
 induction π with
 |nil=>intro v w h;exact h
 | cons t π ih=>
   rintro v w ⟨x,h1,h2⟩
   refine⟨x,?_,ih h2⟩
   cases t with
   |ix k=>obtain⟨p,vs,e,e1,e2⟩:=h1;exact⟨p,vs,e,g _ _ e1,e2⟩
   |fd f=>obtain⟨p,C,dx,us,e,e1,e2⟩:=h1;exact⟨p,C,dx,us,e,g _ _ e1,e2⟩
theorem bO.step{t u:OV}{fp:List Addr}(h:bO K cls S H t v fp)(e:t.at1 s=some u):
  ∃ w f1 rest,tM H s v w /\ bO K cls S H u w f1 /\ fp.Perm (f1++rest) /\
    ∀ S' H' u' f',aM S S'->bO K cls S' H' u' w f'->(∀ a∈rest,∀ o,H a=some o->H' a=some o)->∃ g,bO K cls S' H' (t.Ah s u') v g /\ g.Perm (f'++rest):=by
 cases t with
 |sh x=>cases s<;>cases e
 |di x=>cases s<;>cases e
 |dt x=>cases s<;>cases e
 | ol ts=>
   cases s with
   |fd f=>cases e
   | ix k=>
     unfold bO at h;obtain⟨p,vs,f,rfl,hp,rfl,r⟩:=h;obtain⟨w,f1,rest,e1,r1,p1,c1⟩:=r.at e
     refine⟨w,f1,p ::rest,⟨p,vs,rfl,hp,e1⟩,r1,?_,fun S' H' u' f' s r' g=>?_⟩
     . exact(List.Perm.cons p p1).trans (List.perm_middle.symm)
     . obtain⟨g2,r2,p2⟩:=c1 S' H' u' w f' s r' fun a ha=>g a (by simp[ha])
       refine⟨p ::g2,?_,(List.Perm.cons p p2).trans List.perm_middle.symm⟩
       rw[j7 e1]at r2;unfold OV.Ah bO
       exact⟨p,vs,g2,rfl,g p (by simp) _ hp,rfl,r2⟩
 | ob c ks ts=>
   cases s with
   |ix k=>cases e
   | fd f=>
     unfold bO at h;obtain⟨p,C,dx,us,ff,rfl,hc,hp,hd,hk,rfl,r⟩:=h;obtain⟨k,e1,e2,e3,e4⟩:=yo e;obtain⟨w,f1,rest,q1,r1,p1,c1⟩:=r.at e1
     refine⟨w,f1,p ::dx ::rest,⟨p,C,dx,us,rfl,hp,by rw[e4 us hk];exact q1⟩,r1,?_,fun S' H' u' f' s r' g=>?_⟩
     . exact((List.Perm.cons p ((List.Perm.cons dx p1).trans List.perm_middle.symm))).trans List.perm_middle.symm
     . obtain⟨g2,r2,p2⟩:=c1 S' H' u' w f' s r' fun a ha=>g a (by simp[ha])
       refine⟨p ::dx ::g2,?_,(List.Perm.cons p ((List.Perm.cons dx p2).trans List.perm_middle.symm)).trans List.perm_middle.symm⟩
       rw[j7 q1]at r2;unfold OV.Ah bO
       exact⟨p,C,dx,us,g2,rfl,hc,g p (by simp) _ hp,g dx (by simp) _ hd,hk,rfl,by rw[e3];exact r2⟩
theorem bO.focus:∀{t u:OV} {v:V} {fp:List Addr},bO K cls S H t v fp->t.get π=some u ->
  ∃ w f1 rest,jt H v π w /\ bO K cls S H u w f1 /\ fp.Perm (f1++rest) /\
    ∀ S' H' u' f',aM S S'->bO K cls S' H' u' w f'->(∀ a∈rest,∀ o,H a=some o->H' a=some o)->∃ g,bO K cls S' H' (t.put π u') v g /\ g.Perm (f'++rest):=by
 induction π with
 | nil=>
   intro t u v fp h e;cases e
   exact⟨v,fp,[],rfl,h,by simp,fun S' H' u' f' _ r' _=>⟨f',by unfold OV.put;exact r',by simp⟩⟩
 | cons s π ih=>
   intro t u v fp h e;unfold OV.get at e;obtain⟨t1,e1,e2⟩:=Option.bind_eq_some_iff.mp e;obtain⟨w1,f1,rest1,st,r1,p1,c1⟩:=h.step e1;obtain⟨w,f2,rest2,wk,r2,p2,c2⟩:=ih r1 e2
   refine⟨w,f2,rest2++rest1,⟨w1,st,wk⟩,r2,?_,fun S' H' u' f' s' r' g=>?_⟩
   . rw[<- List.append_assoc];exact p1.trans (List.Perm.append_right rest1 p2)
   . obtain⟨g1,q1,k1⟩:=c2 S' H' u' f' s' r' fun a ha=>g a (List.mem_append_left _ ha)
     obtain⟨g2,q2,k2⟩:=c1 S' H' _ g1 s' q1 fun a ha=>g a (List.mem_append_right _ ha)
     refine⟨g2,?_,?_⟩
     . unfold OV.put;rw[e1];exact q2
     . rw[<- List.append_assoc];exact k2.trans (List.Perm.append_right rest1 k1)
theorem SR.tree(I:SR K cls Av G S₀ ρ σ S H)(e:gQ i ρ=some t):∃ v fp,σ[i]?=some (some v) /\ bO K cls S H t v fp:=by
 obtain⟨F,J⟩:=I;unfold gQ at e
 cases q:ρ[i]? with
 |none=>rw[q]at e;cases e
 | some o=>
   cases o with
   |none=>rw[q]at e;cases e
   | some s=>
     rw[q]at e;obtain⟨v,e1,r⟩:=J.own i s q
     cases s with
     |tr io t'=>cases e;exact⟨v,_,e1,r.1⟩
     | bo t'=>
       cases e;obtain⟨_,f,r⟩:=r
       exact⟨v,f,e1,r.mono (aM.refl _) fun _ _ _ h=>J.gh _ _ h⟩
     |sh x=>cases e
     |ow xs=>cases e
     |ex c fs=>cases e
noncomputable def JP(K:PySem.W.Frag)(cls:String->Option Addr)(te:TE)(i:Nat)(mp:MP):Prop:=∀ Av G S₀ ρ σ S H Q v0 t π,SR K cls Av G S₀ ρ σ S H->gQ i ρ=some t->σ[i]?=some (some v0)->mp ρ=some π->(t.get π).isSome=true ->
 (∀ w S' H',bx S H S' H'->jt H' v0 π w->Q w H')->te σ H Q
theorem dG:JP K cls (qP i) i bX:=by
 intro Av G S₀ ρ σ S H Q v0 t π I e ev ep _ k;cases ep
 exact⟨v0,ev,k v0 S H (bx.refl I.sh) rfl⟩
theorem FX{mk:aj->OE}(hp:JP K cls te i mp)(hk:JE K cls W tk mk):JP K cls (tOp (CQ K) te tk) i (pIx i mp mk):=by
 intro Av G S₀ ρ σ S H Q v0 t π I e ev ep hs k;unfold pIx at ep;rw[e]at ep
 dsimp only at ep
 split at ep
 . rename_i π0 e0;split at ep
   . rename_i ts e1;split at ep
     . rename_i r er;split at ep
       . rename_i n en;obtain⟨j,ej,e2⟩:=Option.map_eq_some_iff.mp ep;subst e2
         refine hp Av G S₀ ρ σ S H _ v0 t π0 I e ev e0 (by rw[e1];rfl) fun w S1 H1 w1 wk=>?_
         refine hk Av G S₀ ρ σ S1 H1 _ (I.grow w1) ?_;rw[er];intro u S2 H2 w2 ru;have I2:=(I.grow w1).grow w2
         have hu:u=.int n:=by have:=ru.rd I2.sh;rw[en]at this;exact dI this
         subst hu;obtain⟨v,fp,ev',ro⟩:=I2.tree e;rw[ev]at ev';cases ev';obtain⟨w',f1,rest,wk',r',_,_⟩:=ro.focus e1;have:=(wk.mono w2.g).inj wk';subst this;unfold bO at r';obtain⟨p,vs,f,rfl,hl,rfl,rs⟩:=r'
         have hj:j<ts.length:=by
          have h1:L2.atI ts n=ts[j]?:=by unfold L2.atI;show(ixP ts.length n).bind _=_;rw[ej];rfl
          unfold ixP at ej;split at ej
          . split at ej
            . cases ej;omega
            . cases ej
          . split at ej
            . cases ej;omega
            . cases ej
         have hjv:j<vs.length:=by rw[rs.length];exact hj
         have hx:vs[j]?=some vs[j]:=by simp[hjv]
         refine⟨p,vs,n,vs[j],rfl,rfl,SqL.new hl,?_,k _ S2 H2 (w1.trans w2) (wk'.snoc ⟨p,vs,rfl,hl,hx⟩)⟩
         unfold L2.atI
         show(ixP vs.length n).bind _=_
         rw[rs.length,ej];exact hx
       . cases ep
     . cases ep
   . cases ep
 . cases ep
theorem JP.sub(hp:JP K cls te i mp)(I:SR K cls Av G S₀ ρ σ S H)(e:subAt i mp ρ=some u)
  (k:∀ w S' H' f,bx S H S' H'->SR K cls Av G S₀ ρ σ S' H'->bO K cls S' H' u w f->Q w H'):te σ H Q:=by
 unfold subAt at e;split at e
 . rename_i t et;split at e
   . rename_i π eπ;obtain⟨v0,fp0,ev,_⟩:=I.tree et
     refine hp Av G S₀ ρ σ S H _ v0 t π I et ev eπ (by rw[e];rfl) fun w S1 H1 w1 wk=>?_
     obtain⟨v,fp,ev',ro⟩:=(I.grow w1).tree et;rw[ev]at ev';cases ev';obtain⟨w',f1,rest,wk',r',_,_⟩:=ro.focus e;have:=wk.inj wk';subst this;exact k w S1 H1 f1 w1 (I.grow w1) r'
   . cases e
 . cases e
theorem vZ{ok:String->Bool}(hp:JP K cls te i mp)(ha:∀ c C,cls c=some C->ok c=true->Cls K C /\ kZ K C f):JP K cls (Ep K te f) i (pFd i mp f ok):=by
 intro Av G S₀ ρ σ S H Q v0 t π I e ev ep hs k;unfold pFd at ep;split at ep
 . rename_i c ks ts es;split at ep
   . rename_i hok;rw[Bool.and_eq_true]at hok;obtain⟨π0,e0,rfl⟩:=Option.map_eq_some_iff.mp ep
     have e1:t.get π0=some (.ob c ks ts):=by
      unfold subAt at es;rw[e]at es
      dsimp only at es
      rw[e0]at es;exact es
     refine hp Av G S₀ ρ σ S H _ v0 t π0 I e ev e0 (by rw[e1];rfl) fun w S1 H1 w1 wk=>?_
     have I1:=I.grow w1;obtain⟨v,fp,ev',ro⟩:=I1.tree e;rw[ev]at ev';cases ev';obtain⟨w',f1,rest,wk',r',_,_⟩:=ro.focus e1;have:=wk.inj wk';subst this;unfold bO at r';obtain⟨p,C,dx,us,ff,rfl,hcl,hp',hd,hk,rfl,r⟩:=r';obtain⟨a1,a2⟩:=ha c C hcl hok.1
     cases q:nh ks ts f with
     |none=>rw[q]at hok;cases hok.2
     | some u=>
       obtain⟨n,h1,h2,h3,h4⟩:=yo q
       have hn:n<(us.map (·.2)).length:=by rw[r.length];exact(List.getElem?_eq_some_iff.mp h1).1
       have hx:us.lookup f=some (us.map (·.2))[n]:=by rw[h4 us hk];exact List.getElem?_eq_getElem hn
       exact⟨p,C,dx,us,_,rfl,hp',a1,a2,hx,k _ S1 H1 w1 (wk'.snoc ⟨p,C,dx,us,rfl,hp',hx⟩)⟩
   . cases ep
 . cases ep
theorem nV(hp:JP K cls te i mp):JE K cls W te (iM i mp):=by
 intro Av G S₀ ρ σ S H Q I p;unfold iM at p;split at p
 . rename_i x e
   refine hp.sub I e fun w S1 H1 f w1 _ r=>?_
   unfold bO at r;exact p w S1 H1 w1 r.2
 . rename_i ts e;split at p
   . rename_i xs ex
     refine hp.sub I e fun w S1 H1 f w1 _ r=>?_
     unfold bO at r;obtain⟨q,vs,ff,rfl,hq,_,rs⟩:=r;exact p _ S1 H1 w1 ⟨q,vs,rfl,SqL.new hq,(rs.flat ex).1⟩
   . exact p.elim
 . exact p.elim
theorem j3(hp:JP K cls te i mp):JT K cls W (fun σ H Q=>te σ H fun x H'=>∃ k,sZ K x H' k /\ Q k H') (eK i mp):=by
 intro Av G S₀ ρ σ S H Q I p;unfold eK at p;split at p
 . rename_i ts e
   refine hp.sub I e fun w S1 H1 f w1 _ r=>?_
   unfold bO at r;obtain⟨q,vs,ff,rfl,hq,_,rs⟩:=r
   refine⟨_,.inl ⟨vs,SqL.new hq,rfl⟩,?_⟩
   have:vs.isEmpty=ts.isEmpty:=by
    have:=rs.length
    cases vs<;>cases ts<;>simp_all
   rw[this];exact p S1 H1 w1
 . exact p.elim
end
section
variable{K:PySem.W.Frag}{cls:String->Option Addr}{W:XW}{Av G S₀ S S' H H' B B':Hp}{ρ:aj}{σ:St}{Q:VK}{F:Nat->List Addr}
theorem SRF.part{t u:OV}(J:SRF K cls Av G S₀ ρ σ S H F)(hi:ρ[i]?=some (some (.tr io t)))(hv:σ[i]?=some (some v0))(e:t.get π=some u):
  ∃ w f1 rest,jt H v0 π w /\ bO K cls S H u w f1 /\ (F i).Perm (f1++rest) /\ (f1++rest).Nodup /\ (∀ a∈f1,G a=none /\ S a=none) /\
    ∀ S' H' u' f',aM S S'->aM S' H'->aM G H'->(∀ b,S' b≠none->S₀ b≠none \/ G b=none)->bO K cls S' H' u' w f'->f'.Nodup->(∀ a∈f',a∈f1 \/ H a=none)->(∀ a∈f',S' a=none) ->
      (∀ a o,a∉f1->H a=some o->H' a=some o)->(∀ a,S' a≠none->S a≠none \/ H a=none \/ a∈f1) ->
      ∃ g,SRF K cls Av G S₀ (ρ.set i (some (.tr io (t.put π u')))) σ S' H' (mU F i g) /\ g.Perm (f'++rest):=by
 obtain⟨v,ev,ro,nd,gs,hio⟩:=J.own i _ hi;rw[hv]at ev;cases ev;obtain⟨w,f1,rest,wk,r1,p1,c1⟩:=ro.focus e
 have nd1:(f1++rest).Nodup:=p1.nodup_iff.mp nd
 have in1:∀ a,a∈f1->a∈F i:=fun a ha=>p1.mem_iff.mpr (List.mem_append_left _ ha)
 have inr:∀ a,a∈rest->a∈F i:=fun a ha=>p1.mem_iff.mpr (List.mem_append_right _ ha)
 have off1:∀ a,a∈rest->a∉f1:=fun a ha hb=>(List.nodup_append.mp nd1).2.2 a hb a ha rfl
 refine⟨w,f1,rest,wk,r1,p1,nd1,fun a ha=>gs a (in1 a ha),fun S' H' u' f' s sh gh new r' nd' fr nS keep nw=>?_⟩
 obtain⟨g,rg,pg⟩:=c1 S' H' u' f' s r' fun a ha o h=>keep a o (off1 a ha) h
 have noS:∀ j a,a∈F j->a∉f1->S' a=none:=fun j a ha hb=>by
  cases q:S' a with
  |none=>rfl
  | some o=>
    obtain⟨⟨o',h1,_⟩,_,h3⟩:=J.live j a ha
    rcases nw a (by rw[q];simp)with z|z|z
    . exact absurd h3 z
    . rw[h1]at z;cases z
    . exact absurd z hb
 have J1:SRF K cls Av G S₀ (ρ.set i none) (σ.set i none) S H (mU F i []):=J.put (fun t e=>nomatch e) (fun a ha=>nomatch ha) fun j a _ ha=>nomatch ha
 have off:∀ j a,a∈mU F i [] j->a∉f1 /\ j≠i:=fun j a ha=>by
  by_cases ej:j=i
  . subst ej;rw[iA]at ha;cases ha
  . rw[fc ej]at ha
    exact⟨fun hb=>ej (J.apart j i a ha (in1 a hb)),ej⟩
 have J2:=J1.change (S':=S') (H':=H') gh s sh new (fun j a ha o h=>keep a o (off j a ha).1 h)
  (fun b o hx h=>keep b o (fun hb=>by
    obtain⟨⟨o',h1,h2⟩,_⟩:=J.live i b (in1 b hb)
    rw[h]at h1;cases h1;rw[hx]at h2;cases h2) h)
  fun j a ha=>by
   have hj:=off j a ha;rw[fc hj.2]at ha;exact noS j a ha hj.1
 have mem:∀ a,a∈g->a∈f' \/ a∈rest:=fun a ha=>List.mem_append.mp (pg.mem_iff.mp ha)
 have hlive:∀ a∈g,(∃ o,H' a=some o /\ isX o=false) /\ G a=none /\ S' a=none:=fun a ha=>by
  refine⟨rg.live a ha,?_,?_⟩
  . rcases mem a ha with z|z
    . rcases fr a z with y|y
      . exact(gs a (in1 a y)).1
      . exact J.gh.free y
    . exact(gs a (inr a z)).1
  . rcases mem a ha with z|z
    . exact nS a z
    . exact noS i a (inr a z) (off1 a z)
 have ndg:g.Nodup:=pg.nodup_iff.mpr (List.nodup_append.mpr ⟨nd',(List.nodup_append.mp nd1).2.1,fun a ha b hb z=>by
  subst z
  rcases fr a ha with y|y
  . exact off1 a hb y
  . obtain⟨⟨o',h1,_⟩,_⟩:=J.live i a (inr a hb)
    rw[y]at h1;cases h1⟩)
 have J3:=J2.put (i:=i) (s:=some (.tr io (t.put π u'))) (u:=some v0) (fp:=g) (fun t' e=>by
  cases e
  exact⟨v0,rfl,rg,ndg,fun a ha=>⟨(hlive a ha).2.1,(hlive a ha).2.2⟩,hio⟩) hlive fun j a hj ha hz=>by
   rw[fc hj]at hz
   rcases mem a ha with z|z
   . rcases fr a z with y|y
     . exact hj (J.apart j i a hz (in1 a y))
     . obtain⟨⟨o',h1,_⟩,_⟩:=J.live j a hz;rw[y]at h1;cases h1
   . exact hj (J.apart j i a hz (inr a z))
 rw[List.set_set,List.set_set,j7 hv]at J3
 have eF:mU (mU F i []) i g=mU F i g:=by
  funext j
  by_cases ej:j=i
  . subst ej;rw[iA,iA]
  . rw[fc ej,fc ej,fc ej]
 rw[eF]at J3
 exact⟨g,J3,pg⟩
theorem SRF.more(I:SRF K cls Av G S₀ ρ σ S H F)(h:∀ t,s=some t->∃ v,u=some v /\ qT K cls Av G S H ρ.length t v fp)
  (hl:∀ a∈fp,(∃ o,H a=some o /\ isX o=false) /\ G a=none /\ S a=none) (ap:∀ j a,j<ρ.length->a∈fp->a∉F j):∃ F',SRF K cls Av G S₀ (ρ++[s]) (σ++[u]) S H F':=by
 refine⟨fun j=>if j<ρ.length then F j else if j=ρ.length then fp else[],I.gh,I.s0,I.sh,I.new,fun j t e=>?_,fun j k a h1 h2=>?_,fun j a ha=>?_,by simp[I.len]⟩
 . by_cases hj:j<ρ.length
   . rw[List.getElem?_append_left hj]at e;rw[List.getElem?_append_left (by rw[<- I.len];exact hj)];simp only[hj,if_true];exact I.own j t e
   . rw[List.getElem?_append_right (Nat.le_of_not_lt hj)]at e
     have h0:j - ρ.length=0:=by
      by_cases h:j - ρ.length=0
      . exact h
      . rw[List.getElem?_eq_none (by simp;omega)]at e;cases e
     rw[h0]at e
     have ej:j=ρ.length:=by omega
     obtain⟨v,e2,r⟩:=h t (Option.some.inj e)
     refine⟨v,?_,?_⟩
     . rw[List.getElem?_append_right (by rw[<- I.len];omega),<- I.len,h0,e2];rfl
     . subst ej;simp only[Nat.lt_irrefl,if_false,if_true];exact r
 . by_cases hj:j<ρ.length
   . simp only[hj,if_true]at h1
     by_cases hk:k<ρ.length
     . simp only[hk,if_true]at h2;exact I.apart j k a h1 h2
     . simp only[hk,if_false]at h2;split at h2
       . exact absurd h1 (ap j a hj h2)
       . cases h2
   . simp only[hj,if_false]at h1;split at h1
     . rename_i ej
       by_cases hk:k<ρ.length
       . simp only[hk,if_true]at h2;exact absurd h2 (ap k a hk h1)
       . simp only[hk,if_false]at h2;split at h2
         . rename_i ek;rw[ej,ek]
         . cases h2
     . cases h1
 . by_cases hj:j<ρ.length
   . simp only[hj,if_true]at ha;exact I.live j a ha
   . simp only[hj,if_false]at ha;split at ha
     . exact hl a ha
     . cases ha
theorem SR.fold(I:SR K cls Av G S₀ (ρ++[some s]) (σ++[some v]) S H)(hs:nio s=true):SR K cls Av G S₀ (ρ.set i (some s)) (σ.set i (some v)) S H:=by
 obtain⟨F,J⟩:=I
 have hlen:ρ.length=σ.length:=by have:=J.len;simpa using this
 obtain⟨v',ev,r⟩:=J.own ρ.length s (by simp)
 have ev':v'=v:=by
  rw[List.getElem?_append_right (by rw[hlen];exact Nat.le_refl _),hlen,Nat.sub_self]at ev
  cases ev;rfl
 subst ev'
 have J1:SRF K cls Av G S₀ ρ σ S H (fun j=>if j<ρ.length then F j else[]):=by
  refine⟨J.gh,J.s0,J.sh,J.new,fun j t e=>?_,fun j k a h1 h2=>?_,fun j a ha=>?_,hlen⟩
  . have hj:j<ρ.length:=(List.getElem?_eq_some_iff.mp e).1
    obtain⟨v2,e2,r2⟩:=J.own j t (by rw[List.getElem?_append_left hj];exact e);rw[List.getElem?_append_left (by rw[<- hlen];exact hj)]at e2;simp only[hj,if_true]
    exact⟨v2,e2,r2⟩
  . split at h1
    . split at h2
      . exact J.apart j k a h1 h2
      . cases h2
    . cases h1
  . split at ha
    . exact J.live j a ha
    . cases ha
 refine⟨_,J1.put (i:=i) (s:=some s) (u:=some v') (fp:=F ρ.length) (fun t e=>?_) (fun a ha=>J.live _ a ha) fun j a hj ha hz=>?_⟩
 . cases e
   refine⟨v',rfl,?_⟩
   cases s with
   |sh x=>exact r
   |ow xs=>exact r
   |ex c fs=>exact r
   | tr io t=>
     cases io with
     |true=>cases hs
     |false=>exact⟨r.1,r.2.1,r.2.2.1,fun z=>nomatch z⟩
   |bo t=>cases hs
 . split at hz
   . rename_i hj';have:=J.apart j ρ.length a hz ha;omega
   . cases hz
theorem SR.uz(I:SR K cls Av G S₀ (ρ++[s]) (σ++[u]) S H):SR K cls Av G S₀ ρ σ S H:=by
 obtain⟨F,J⟩:=I
 have hlen:ρ.length=σ.length:=by have:=J.len;simpa using this
 refine⟨F,J.gh,J.s0,J.sh,J.new,fun j t e=>?_,J.apart,J.live,hlen⟩
 have hj:j<ρ.length:=(List.getElem?_eq_some_iff.mp e).1
 obtain⟨v2,e2,r2⟩:=J.own j t (by rw[List.getElem?_append_left hj];exact e);rw[List.getElem?_append_left (by rw[<- hlen];exact hj)]at e2
 exact⟨v2,e2,r2⟩
noncomputable def Ac(K:PySem.W.Frag)(cls:String->Option Addr)(B S H:Hp)(t:OV)(v:V):Prop:=∃ fp,bO K cls S H t v fp /\ fp.Nodup /\ ∀ a∈fp,B a=none /\ S a=none
noncomputable def FQ(K:PySem.W.Frag)(cls:String->Option Addr)(W:XW)(σ:St)(S H:Hp)(Q:VK):OD->Prop
 |.ok t=>∀ v S' H',bx S H S' H'->Ac K cls H S' H' t v->Q v H'
 |.exc c fs=>∀ a C S' H',bx S H S' H'->oi K cls S' H' c fs a C->W (.ref C) (some a) σ H'
 |.bad=>False
noncomputable def JD(K:PySem.W.Frag)(cls:String->Option Addr)(W:XW)(te:TE)(m:aj->OD):Prop:=∀ Av G S₀ ρ σ S H Q,SR K cls Av G S₀ ρ σ S H->FQ K cls W σ S H Q (m ρ)->te σ H Q
theorem Ac.grow(h:Ac K cls B S H t v)(w:bx S H S1 H1):Ac K cls B S1 H1 t v:=by
 obtain⟨fp,r,nd,g⟩:=h
 refine⟨fp,r.mono w.s fun a _ o z=>w.g _ _ z,nd,fun a ha=>⟨(g a ha).1,?_⟩⟩
 obtain⟨o,h1,_⟩:=r.live a ha
 cases q:S1 a with
 |none=>rfl
 | some o'=>
   rcases w.new a (by rw[q];simp)with z|z
   . exact absurd (g a ha).2 z
   . rw[h1]at z;cases z
theorem Bc{me:aj->OE}(h:JE K cls W te me):JD K cls W te (mD me):=by
 intro Av G S₀ ρ σ S H Q I p;refine h Av G S₀ ρ σ S H Q I ?_;unfold mD at p
 cases e:me ρ with
 |exc c fs=>rw[e]at p;exact p
 |bad=>rw[e]at p;exact p
 | ok r=>
   rw[e]at p
   cases r with
   |sh x=>exact fun v S' H' w r=>p v S' H' w ⟨[],by unfold bO;exact⟨rfl,r⟩,List.nodup_nil,fun a ha=>nomatch ha⟩
   |al xs=>exact p.elim
   | fr xs=>
     intro v S' H' w r;obtain⟨q,vs,rfl,hB,hS,hH,hr⟩:=r;refine p _ S' H' w ⟨[q],by unfold bO;exact⟨q,vs,[],rfl,hH,rfl,.shs hr⟩,by simp,fun a ha=>?_⟩
     have z:a=q:=by simpa using ha
     subst z;exact⟨hB,hS⟩
theorem SR.FO(I:SR K cls Av G S₀ ρ σ S H)(w:bx S H S' H')(h:Ac K cls H S' H' t v):SR K cls Av G S₀ (ρ.set i (some (.tr false t))) (σ.set i (some v)) S' H':=by
 obtain⟨F,J⟩:=I;obtain⟨fp,r,nd,g⟩:=h
 refine⟨_,(J.grow w).put (fp:=fp) (fun t' e=>by cases e;exact⟨v,rfl,r,nd,fun a ha=>⟨J.gh.free (g a ha).1,(g a ha).2⟩,fun z=>nomatch z⟩) (fun a ha=>⟨r.live a ha,J.gh.free (g a ha).1,(g a ha).2⟩) fun j a _ ha hz=>?_⟩
 obtain⟨⟨o,h1,_⟩,_⟩:=J.live j a hz;rw[(g a ha).1]at h1;cases h1
theorem uw{md:aj->OD}(h:JD K cls W te md):JS K cls W (rA te (iY i)) (pj i md):=by
 intro Av G S₀ ρ σ S H D I p;refine h Av G S₀ ρ σ S H _ I ?_;unfold pj at p
 cases e:md ρ with
 |exc c fs=>rw[e]at p;exact fun a C S' H' w x=>p a C σ S' H' (I.grow w) w.s x
 |bad=>rw[e]at p;exact p
 |ok t=>rw[e]at p;exact fun v S1 H1 w1 r1=>p _ S1 H1 (I.FO w1 r1) w1.s
end
section
variable{K:PySem.W.Frag}{cls:String->Option Addr}{W:XW}{Av G S₀ S S' H H' B B':Hp}{ρ:aj}{σ:St}{Q:VK}{F:Nat->List Addr}
theorem bO.Ao{ts:List OV}{v:V}{fp:List Addr}(h:bO K cls S H (.ol ts) v fp):∃ p vs f,v=.ref p /\ H p=some (.lst vs) /\ fp=p ::f /\ bN K cls S H ts vs f:=by unfold bO at h;exact h
theorem SRF.uO{i:Nat}{io:Bool}{t:OV}{ts:List OV}{v0:V}{π:List Stp}(J:SRF K cls Av G S₀ ρ σ S H F)(hi:ρ[i]?=some (some (.tr io t)))(hv:σ[i]?=some (some v0))(e:t.get π=some (.ol ts)):
  ∃ q vs ff rest,jt H v0 π (.ref q) /\ H q=some (.lst vs) /\ vs.length=ts.length /\ bN K cls S H ts vs ff /\ (F i).Perm ((q ::ff)++rest) /\ ((q ::ff)++rest).Nodup /\
    ∀ S' H' ts' vs' f',bx S H S' H'->bN K cls S' H' ts' vs' f'->f'.Nodup->(∀ a∈f',a∈ff \/ (H a=none /\ S' a=none)) ->
      ∃ g,SRF K cls Av G S₀ (ρ.set i (some (.tr io (t.put π (.ol ts'))))) σ S' (upd H' q (.lst vs')) (mU F i g) /\ g.Perm ((q ::f')++rest):=by
 obtain⟨w,f1,rest,wk,r1,p1,nd1,gs,c⟩:=J.part hi hv e;obtain⟨q,vs,ff,rfl,hq,rfl,rs⟩:=r1.Ao
 refine⟨q,vs,ff,rest,wk,hq,rs.length,rs,p1,nd1,fun S' H' ts' vs' f' wg r' nd' fr=>?_⟩
 have hGq:=(gs q (by simp)).1;have hSq:=(gs q (by simp)).2
 have hS'q:S' q=none:=by
  cases z:S' q with
  |none=>rfl
  | some o=>
    rcases wg.new q (by rw[z];simp)with y|y
    . exact absurd hSq y
    . rw[hq]at y;cases y
 have nq:q∉f':=fun z=>by
  rcases fr q z with y|y
  . exact(List.nodup_cons.mp (List.nodup_append.mp nd1).1).1 y
  . rw[y.1]at hq;cases hq
 have nS:∀ a∈f',S' a=none:=fun a ha=>by
  rcases fr a ha with y|y
  . cases z:S' a with
    |none=>rfl
    | some o=>
      obtain⟨o',h1,_⟩:=rs.live a y
      rcases wg.new a (by rw[z];simp)with k|k
      . exact absurd (gs a (by simp[y])).2 k
      . rw[h1]at k;cases k
  . exact y.2
 refine c S' (upd H' q (.lst vs')) (.ol ts') (q ::f') wg.s (wg.sh.upd hS'q) ((J.gh.trans wg.g).upd hGq) (fun b h=>?_) ?_ (List.nodup_cons.mpr ⟨nq,nd'⟩) (fun a ha=>?_) (fun a ha=>?_) (fun a o hn h=>?_) fun a h=>?_
 . rcases wg.new b h with z|z
   . exact J.new b z
   . exact .inr (J.gh.free z)
 . unfold bO
   exact⟨q,vs',f',rfl,bF,rfl,r'.mono (aM.refl _) fun a ha o h=>by rw[bD (fun z=>nq (by rw[<- z];exact ha))];exact h⟩
 . rcases List.mem_cons.mp ha with z|z
   . subst z;exact .inl (by simp)
   . rcases fr a z with y|y
     . exact .inl (by simp[y])
     . exact .inr y.1
 . rcases List.mem_cons.mp ha with z|z
   . subst z;exact hS'q
   . exact nS a z
 . rw[bD (fun z=>hn (by rw[z];simp))];exact wg.g _ _ h
 . rcases wg.new a h with z|z
   . exact .inl z
   . exact .inr (.inl z)
theorem JP.at{i:Nat}{te:TE}{mp:MP}{io:Bool}{t u:OV}{v0:V}{π:List Stp}{Q:VK}(hp:JP K cls te i mp)(I:SR K cls Av G S₀ ρ σ S H)(hi:ρ[i]?=some (some (.tr io t)))(hv:σ[i]?=some (some v0))(e0:mp ρ=some π)(e1:t.get π=some u)
  (k:∀ w S' H',bx S H S' H'->SR K cls Av G S₀ ρ σ S' H'->jt H' v0 π w->Q w H'):te σ H Q:=
 hp Av G S₀ ρ σ S H Q v0 t π I (by unfold gQ;rw[hi];rfl) hv e0 (by rw[e1];rfl) fun w S1 H1 w1 wk=>k w S1 H1 w1 (I.grow w1) wk
theorem sF{i:Nat}{mp:MP}{k:OV->(OV->aj)->OS}{D:Ends}(p:fS K cls W Av G S₀ S D (xa i mp ρ k)):∃ io t π u,ρ[i]?=some (some (.tr io t)) /\ mp ρ=some π /\ t.get π=some u /\ fS K cls W Av G S₀ S D (k u fun u'=>ρ.set i (some (.tr io (t.put π u')))):=by
 unfold xa at p;split at p
 . rename_i io t hi;split at p
   . rename_i π e0;split at p
     . rename_i u e1
       exact⟨io,t,π,u,hi,e0,e1,p⟩
     . exact p.elim
   . exact p.elim
 . exact p.elim
theorem SR.val{i:Nat}{s:Sl}(I:SR K cls Av G S₀ ρ σ S H)(e:ρ[i]?=some (some s)):∃ v,σ[i]?=some (some v):=let ⟨v,h,_⟩:=I.good i s e;⟨v,h⟩
theorem r6{i:Nat}{te tx:TE}{mp:MP}{md:aj->OD}(hp:JP K cls te i mp)(hx:JD K cls W tx md):JS K cls W (qK (tBM K "list" uT te (jT tx lz))) (j8 i mp md):=by
 intro Av G S₀ ρ σ S H D I p;obtain⟨io,t,π,u,hi,e0,e1,p⟩:=sF p;obtain⟨v0,hv⟩:=I.val hi
 cases u with
 |sh x=>exact p.elim
 |ob c ks us=>exact p.elim
 |di x=>exact p.elim
 |dt x=>exact p.elim
 | ol ts=>
   dsimp only at p
   refine hp.at I hi hv e0 e1 fun w S1 H1 w1 I1 wk=>?_
   obtain⟨F,J1⟩:=I1;obtain⟨q,vs,ff,rest,wk',hq,hl,rs,_,nd,c⟩:=J1.uO hi hv e1;have:=wk.inj wk';subst this
   refine⟨.inl ⟨rfl,_,SqL.new hq⟩,?_⟩
   refine hx Av G S₀ ρ σ S1 H1 _ ⟨F,J1⟩ ?_
   cases ed:md ρ with
   |exc c fs=>rw[ed]at p;exact fun a C S' H' w x=>p a C σ S' H' (SR.grow ⟨F,J1⟩ w) (w1.s.trans w.s) x
   |bad=>rw[ed]at p;exact p
   | ok x=>
     rw[ed]at p
     dsimp only at p
     split at p
     . rename_i hlt;intro v S2 H2 w2 r2;obtain⟨fx,rx,ndx,gx⟩:=r2
       refine⟨q,vs,v,rfl,rfl,w2.g _ _ hq,by rw[hl];exact hlt,?_⟩
       have ndf:ff.Nodup:=(List.nodup_cons.mp (List.nodup_append.mp nd).1).2
       have apx:∀ a∈ff,a∉fx:=fun a ha hb=>by
        obtain⟨o,h1,_⟩:=rs.live a ha;rw[(gx a hb).1]at h1;cases h1
       obtain⟨g,J3,_⟩:=c S2 H2 (ts++[x]) (vs++[v]) (ff++(fx++[])) w2 ((rs.mono w2.s fun a _ o h=>w2.g _ _ h).append (.cons rx .nil)) (by
         rw[List.append_nil]
         exact List.nodup_append.mpr ⟨ndf,ndx,fun a ha b hb z=>by subst z;exact apx a ha hb⟩) (fun a ha=>by
         rw[List.append_nil]at ha
         rcases List.mem_append.mp ha with z|z
         . exact .inl z
         . exact .inr (gx a z))
       exact p σ S2 _ ⟨_,J3⟩ (w1.s.trans w2.s)
     . exact p.elim
end
section
variable{K:PySem.W.Frag}{cls:String->Option Addr}{W:XW}{Av G S₀ S S' H H' B B':Hp}{ρ:aj}{σ:St}{Q:VK}{F:Nat->List Addr}
noncomputable def CZ(K:PySem.W.Frag)(cls:String->Option Addr)(W:XW)(Av G S₀:Hp)(σ:St)(S:Hp)(Q:VK):OX->Prop
 |.ok ρ' s=>∀ v S' H',SR K cls Av G S₀ (ρ'++[some s]) (σ++[some v]) S' H'->aM S S'->Q v H'
 |.exc ρ' c fs=>∀ a C S' H',SR K cls Av G S₀ ρ' σ S' H'->aM S S'->oi K cls S' H' c fs a C->W (.ref C) (some a) σ H'
 |.bad=>False
noncomputable def JX(K:PySem.W.Frag)(cls:String->Option Addr)(W:XW)(te:TE)(m:aj->OX):Prop:=∀ Av G S₀ ρ σ S H Q,SR K cls Av G S₀ ρ σ S H->CZ K cls W Av G S₀ σ S Q (m ρ)->te σ H Q
theorem q9{i:Nat}{te:TE}{m:aj->OX}(h:JX K cls W te m):JS K cls W (rA te (iY i)) (kQ i m):=by
 intro Av G S₀ ρ σ S H D I p;refine h Av G S₀ ρ σ S H _ I ?_;unfold kQ at p
 cases e:m ρ with
 |exc ρ' c fs=>rw[e]at p;exact fun a C S' H' I' s' x=>p a C σ S' H' I' s' x
 |bad=>rw[e]at p;exact p
 | ok ρ' s=>
   rw[e]at p
   dsimp only at p
   split at p
   . rename_i hs
     exact fun v S' H' I' s'=>p _ S' H' (I'.fold hs) s'
   . exact p.elim
theorem vV{te:TE}{m:aj->OX}(h:JX K cls W te m):JS K cls W (qK te) (mZ m):=by
 intro Av G S₀ ρ σ S H D I p;refine h Av G S₀ ρ σ S H _ I ?_;unfold mZ at p
 cases e:m ρ with
 |exc ρ' c fs=>rw[e]at p;exact fun a C S' H' I' s' x=>p a C σ S' H' I' s' x
 |bad=>rw[e]at p;exact p
 |ok ρ' s=>rw[e]at p;exact fun v S' H' I' s'=>p σ S' H' I'.uz s'
theorem SR.E7{x:PV}{v:V}(I:SR K cls Av G S₀ (ρ++[some (.sh x)]) (σ++[some v]) S H):Rep K S x v:=by
 obtain⟨F,J⟩:=I
 have hlen:ρ.length=σ.length:=by have:=J.len;simpa using this
 obtain⟨v',ev,r⟩:=J.own ρ.length (.sh x) (by simp);rw[List.getElem?_append_right (by rw[hlen];exact Nat.le_refl _),hlen,Nat.sub_self]at ev;cases ev;exact r.2
theorem Cs{te:TE}{m:aj->OX}{ta tb:TS}{ma mb:aj->OS}(h:JX K cls W te m)(ha:JS K cls W ta ma)(hb:JS K cls W tb mb):
  JS K cls W (vS (B5 (fun σ H Q=>te σ H fun x H'=>∃ k,sZ K x H' k /\ Q k H')) ta tb) (BK true m ma mb):=by
 intro Av G S₀ ρ σ S H D I p;refine h Av G S₀ ρ σ S H _ I ?_;unfold BK at p
 cases e:m ρ with
 |exc ρ' c fs=>rw[e]at p;exact fun a C S' H' I' s' x=>p a C σ S' H' I' s' x
 |bad=>rw[e]at p;exact p
 | ok ρ' s=>
   rw[e]at p
   cases s with
   | sh x=>
     dsimp only at p
     intro v S' H' I' s'
     cases et:jv x with
     |none=>rw[et]at p;exact p.elim
     | some k=>
       rw[et]at p
       refine⟨k,ym I'.sh (I'.E7.rd I'.sh) et,?_⟩
       cases k with
       |false=>exact vY (ha Av G S₀ ρ' σ S' H' D I'.uz (p.back s'))
       |true=>exact wy (hb Av G S₀ ρ' σ S' H' D I'.uz (p.back s'))
   |ow xs=>exact p.elim
   |ex c fs=>exact p.elim
   |tr io t=>exact p.elim
   |bo t=>exact p.elim
theorem bN.last{ts:List OV}{vs:List V}{f:List Addr}{x:OV}(h:bN K cls S H ts vs f)(e:ts.getLast?=some x):∃ y f1 f2,vs[vs.length - 1]?=some y /\ bN K cls S H ts.dropLast vs.dropLast f1 /\ bO K cls S H x y f2 /\ f=f1++f2:=by
 induction ts generalizing vs f with
 |nil=>cases e
 | cons t ts ih=>
   obtain⟨v,r,f1,f2,rfl,rfl,h1,h2⟩:=h.cons_inv
   cases ts with
   | nil=>
     unfold bN at h2;obtain⟨rfl,rfl⟩:=h2;simp at e;subst e
     exact⟨v,[],f1,rfl,.nil,h1,by simp⟩
   | cons t2 ts2=>
     rw[List.getLast?_cons_cons]at e;obtain⟨y,g1,g2,e1,r1,r2,rfl⟩:=ih h2 e
     have hr:r≠[]:=by intro z;subst z;have:=h2.length;simp at this
     refine⟨y,f1++g1,g2,?_,?_,r2,by simp⟩
     . cases r with
       |nil=>exact absurd rfl hr
       |cons a r'=>simpa using e1
     . cases r with
       |nil=>exact absurd rfl hr
       |cons a r'=>exact bN.cons h1 r1
theorem BF{x:OV}{v:V}{fp:List Addr}{i:Nat}(h:bO K cls S H x v fp)(nd:fp.Nodup)(g:∀ a∈fp,G a=none /\ S a=none):qT K cls Av G S H i (slO x) v fp:=by
 cases x with
 |sh y=>unfold bO at h;exact h
 |ol ts=>exact⟨h,nd,g,fun z=>nomatch z⟩
 |ob c ks ts=>exact⟨h,nd,g,fun z=>nomatch z⟩
 |di x=>exact⟨h,nd,g,fun z=>nomatch z⟩
 |dt x=>exact⟨h,nd,g,fun z=>nomatch z⟩
theorem u5{i:Nat}{te:TE}{mp:MP}(hp:JP K cls te i mp):JX K cls W (EY K "list" Gh te) (mQ i mp):=by
 intro Av G S₀ ρ σ S H Q I p;unfold mQ at p;split at p
 . rename_i io t hi;split at p
   . rename_i π e0;split at p
     . rename_i ts e1;split at p
       . rename_i x ex;obtain⟨v0,hv⟩:=I.val hi
         refine hp.at I hi hv e0 e1 fun w S1 H1 w1 I1 wk=>?_
         obtain⟨F,J1⟩:=id I1;obtain⟨q,vs,ff,rest,wk',hq,hl,rs,pF,nd,c⟩:=J1.uO hi hv e1;have:=wk.inj wk';subst this;obtain⟨y,f1,f2,ey,ri,rx,rfl⟩:=rs.last ex
         have ndf:(f1++f2).Nodup:=(List.nodup_cons.mp (List.nodup_append.mp nd).1).2
         have nq:q∉f1++f2:=(List.nodup_cons.mp (List.nodup_append.mp nd).1).1
         refine⟨.inl ⟨rfl,_,SqL.new hq⟩,q,vs,y,rfl,rfl,hq,ey,?_⟩
         obtain⟨g,J3,pg⟩:=c S1 H1 ts.dropLast vs.dropLast f1 (bx.refl J1.sh) ri (List.nodup_append.mp ndf).1 fun a ha=>.inl (List.mem_append_left _ ha)
         have in2:∀ a∈f2,a∈F i:=fun a ha=>pF.mem_iff.mpr (by simp[ha])
         have rx':bO K cls S1 (upd H1 q (.lst vs.dropLast)) x y f2:=rx.mono (aM.refl _) fun a ha o h=>by rw[bD (fun z=>nq (by rw[<- z];simp[ha]))];exact h
         have gs2:∀ a∈f2,G a=none /\ S1 a=none:=fun a ha=>(J1.live i a (in2 a ha)).2
         obtain⟨F',J4⟩:=J3.more (s:=some (slO x)) (u:=some y) (fp:=f2) (fun t' e=>by cases e;exact⟨y,rfl,BF rx' (List.nodup_append.mp ndf).2.1 gs2⟩) (fun a ha=>⟨rx'.live a ha,gs2 a ha⟩) fun j a hj ha hz=>by
          by_cases ej:j=i
          . subst ej;rw[iA]at hz;have hm:=pg.mem_iff.mp hz;have hd:=List.nodup_append.mp nd
            rcases List.mem_append.mp hm with z|z
            . rcases List.mem_cons.mp z with z|z
              . subst z;exact nq (by simp[ha])
              . exact(List.nodup_append.mp ndf).2.2 a z a ha rfl
            . exact hd.2.2 a (by simp[ha]) a z rfl
          . rw[fc ej]at hz;exact ej (J1.apart j i a hz (in2 a ha))
         exact p y S1 _ ⟨F',J4⟩ w1.s
       . exact p.elim
     . exact p.elim
   . exact p.elim
 . exact p.elim
end
section
variable{K:PySem.W.Frag}{cls:String->Option Addr}{W:XW}{Av G S₀ S S' H H' B B':Hp}{ρ:aj}{σ:St}{Q:VK}{F:Nat->List Addr}
mutual
theorem bO.frozen(s:aM S S'):∀{t:OV} {v:V} {fp:List Addr} {x:PV},bO K cls S H t v fp->pvO t=some x->(∀ a∈fp,S' a=H a)->Rep K S' x v
 | .sh y,v,fp,x,h,e,g=>by
   unfold pvO at e;cases e;unfold bO at h;exact Rep.mono s h.2
 | .ol ts,v,fp,x,h,e,g=>by
   unfold pvO at e;obtain⟨xs,e1,rfl⟩:=Option.map_eq_some_iff.mp e;obtain⟨p,vs,f,rfl,hp,rfl,rs⟩:=h.Ao;unfold Rep
   exact⟨p,vs,rfl,SqL.new (by rw[g p (by simp)];exact hp),bN.frozen s rs e1 fun a ha=>g a (by simp[ha])⟩
 |.ob c ks ts,v,fp,x,h,e,g=>by unfold pvO at e;cases e
 |.di c,v,fp,x,h,e,g=>by unfold pvO at e;cases e
 |.dt c,v,fp,x,h,e,g=>by unfold pvO at e;cases e
theorem bN.frozen(s:aM S S'):∀{ts:List OV} {vs:List V} {fp:List Addr} {xs:List PV},bN K cls S H ts vs fp->AX ts=some xs->(∀ a∈fp,S' a=H a)->bZ K S' xs vs
 | [],vs,fp,xs,h,e,g=>by
   unfold AX at e;cases e;unfold bN at h;rw[h.1];exact .nil
 | t ::ts,vs,fp,xs,h,e,g=>by
   unfold AX at e;obtain⟨x,e1,e2⟩:=Option.bind_eq_some_iff.mp e;obtain⟨ys,e3,rfl⟩:=Option.map_eq_some_iff.mp e2;obtain⟨v,r,f1,f2,rfl,rfl,h1,h2⟩:=h.cons_inv;exact .cons (bO.frozen s h1 e1 fun a ha=>g a (by simp[ha])) (bN.frozen s h2 e3 fun a ha=>g a (by simp[ha]))
end
theorem SR.Fp{i:Nat}{t:OV}{x:PV}(I:SR K cls Av G S₀ ρ σ S H)(hi:ρ[i]?=some (some (.tr false t)))(ex:pvO t=some x):∃ S',aM S S' /\ SR K cls Av G S₀ (ρ.set i (some (.sh x))) σ S' H:=by
 obtain⟨F,J⟩:=I;obtain⟨v,hv,ro,nd,gs,_⟩:=J.own i _ hi
 have J1:SRF K cls Av G S₀ (ρ.set i none) (σ.set i none) S H (mU F i []):=J.put (fun t e=>nomatch e) (fun a ha=>nomatch ha) fun j a _ ha=>nomatch ha
 let S':Hp:=fun a=>if a∈F i then H a else S a
 have sS:aM S S':=fun b u h=>by
  show(if b∈F i then H b else S b)=some u
  rw[if_neg (fun z=>by rw[(gs b z).2]at h;cases h)];exact h
 have sH:aM S' H:=fun b u h=>by
  have h':(if b∈F i then H b else S b)=some u:=h
  split at h'
  . exact h'
  . exact J.sh b u h'
 have off:∀ j a,a∈mU F i [] j->a∉F i:=fun j a ha z=>by
  by_cases ej:j=i
  . subst ej;rw[iA]at ha;cases ha
  . rw[fc ej]at ha;exact ej (J.apart j i a ha z)
 have J2:=J1.change (S':=S') (H':=H) J.gh sS sH (fun b h=>by
   have h':(if b∈F i then H b else S b)≠none:=h
   split at h'
   . rename_i hb;exact .inr (gs b hb).1
   . exact J.new b h') (fun _ _ _ _ h=>h) (fun _ _ _ h=>h) fun j a ha=>by
     show(if a∈F i then H a else S a)=none
     rw[if_neg (off j a ha)];exact(J1.live j a ha).2.2
 have J3:=J2.put (i:=i) (s:=some (.sh x)) (u:=some v) (fp:=[]) (fun t' e=>by
  cases e
  exact⟨_,rfl,rfl,ro.frozen sS ex fun a ha=>by show(if a∈F i then H a else S a)=H a;rw[if_pos ha]⟩) (fun a ha=>nomatch ha) fun j a _ ha=>nomatch ha
 rw[List.set_set,List.set_set,j7 hv]at J3
 exact⟨S',sS,_,J3⟩
theorem xi{i:Nat}{ts:TS}{m:aj->OS}(h:JS K cls W ts m):JS K cls W ts (rQ i m):=by
 intro Av G S₀ ρ σ S H D I p;unfold rQ xQ at p;split at p
 . rename_i t e;split at p
   . rename_i x ex;obtain⟨S',s,J⟩:=I.Fp e ex;exact h Av G S₀ _ σ S' H D J (p.back s)
   . exact h Av G S₀ ρ σ S H D I p
 . exact h Av G S₀ ρ σ S H D I p
theorem BE{ks:List Str}{us:List (Str×V)}{f:Str}{y:V}(hk:us.map (·.1)=ks){k:Nat}(hf:∀ j,ks[j]?=some f->k<=j)(he:ks[k]?=some f):(jB f y us).map (·.1)=ks /\ (jB f y us).map (·.2)=(us.map (·.2)).set k y:=by
 induction us generalizing ks k with
 |nil=>subst hk;cases he
 | cons q us ih=>
   obtain⟨g,x⟩:=q;subst hk;unfold jB
   by_cases e:g=f
   . rw[if_pos e]
     have k0:k=0:=by have:=hf 0 (by simp[e]);omega
     subst k0
     exact⟨rfl,rfl⟩
   . rw[if_neg e]
     cases k with
     |zero=>simp at he;exact absurd he e
     | succ k=>
       obtain⟨h1,h2⟩:=ih (ks:=us.map (·.1)) (k:=k) rfl (fun j hj=>by have:=hf (j+1) (by simpa using hj);omega) (by simpa using he);simp[h1,h2]
theorem AM{us:List (Str×V)}{f:Str}{y:V}(h:f∉us.map (·.1)):jB f y us=us++[(f,y)]:=by
 induction us with
 |nil=>rfl
 | cons q us ih=>
   obtain⟨g,x⟩:=q;simp at h;unfold jB;rw[if_neg (fun z=>h.1 z.symm),ih (by simpa using h.2)];rfl
theorem xA{ks:List Str}{ts:List OV}{f:Str}(hl:ts.length=ks.length)(h:f∈ks):∃ k,ks[k]?=some f /\ (∀ j,ks[j]?=some f->k<=j) /\ k<ts.length /\ ∀ u,ti ks ts f u=ts.set k u:=by
 induction ks generalizing ts with
 |nil=>cases h
 | cons g ks ih=>
   cases ts with
   |nil=>cases hl
   | cons t ts=>
     by_cases e:g=f
     . subst e
       exact⟨0,rfl,fun j _=>Nat.zero_le _,by simp,fun u=>by simp[ti]⟩
     . obtain ⟨k,h1,h2,h3,h4⟩:=ih (ts:=ts) (by simpa using hl) (by
        rcases List.mem_cons.mp h with z|z
        . exact absurd z.symm e
        . exact z)
       refine⟨k+1,by simpa using h1,fun j hj=>?_,by simpa using h3,fun u=>by simp[ti,e,h4]⟩
       cases j with
       |zero=>simp at hj;exact absurd hj e
       |succ j=>have:=h2 j (by simpa using hj);omega
theorem B2{i:Nat}{te tx:TE}{mp:MP}{f:Str}{okc:String->Bool}{md:aj->OD}(hp:JP K cls te i mp)(hx:JD K cls W tx md)(ha:∀ c C,cls c=some C->okc c=true->Cls K C /\ kZ K C f):JS K cls W (EZ K te tx f) (AD i mp f okc md):=by
 intro Av G S₀ ρ σ S H D I p;refine hx Av G S₀ ρ σ S H _ I ?_;unfold AD at p
 cases ed:md ρ with
 |exc c fs=>rw[ed]at p;exact fun a C S' H' w x=>p a C σ S' H' (I.grow w) w.s x
 |bad=>rw[ed]at p;exact p
 | ok x=>
   rw[ed]at p
   dsimp only at p
   obtain⟨io,t,π,u,hi,e0,e1,p⟩:=sF p;obtain⟨v0,hv⟩:=I.val hi
   cases u with
   |sh x=>exact p.elim
   |ol ts=>exact p.elim
   |di x=>exact p.elim
   |dt x=>exact p.elim
   | ob c ks ts=>
     dsimp only at p
     split at p
     . rename_i hok;rw[Bool.and_eq_true,decide_eq_true_eq]at hok;intro v S1 H1 w1 r1
       refine hp.at (I.grow w1) hi hv e0 e1 fun w S2 H2 w2 I2 wk=>?_
       obtain⟨F,J⟩:=id I;obtain⟨w0,f1,rest,wk',ro,pF,nd,gs,cc⟩:=J.part hi hv e1
       have wg:bx S H S2 H2:=w1.trans w2
       have:=wk.inj (wk'.mono wg.g);subst this;unfold bO at ro;obtain⟨q,C,dx,us,ff,rfl,hcl,hq,hd,hk,rfl,rs⟩:=ro;obtain⟨a1,a2⟩:=ha c C hcl hok.1;have nd1:=(List.nodup_append.mp nd).1
       have nq:q∉dx ::ff:=(List.nodup_cons.mp nd1).1
       have ndx':dx∉ff:=(List.nodup_cons.mp (List.nodup_cons.mp nd1).2).1
       have ndf:ff.Nodup:=(List.nodup_cons.mp (List.nodup_cons.mp nd1).2).2
       have hlen:us.length<1000:=by have:=congrArg List.length hk;simp at this;omega
       obtain⟨fx,rx,nx,gx⟩:=r1.grow w2
       refine⟨q,C,dx,us,rfl,wg.g _ _ hq,a1,a2,hlen,?_⟩
       have noS:∀ a∈q ::dx ::ff,S2 a=none:=fun a ha=>by
        cases z:S2 a with
        |none=>rfl
        | some o=>
          obtain⟨⟨o',h1,_⟩,_,h3⟩:=J.live i a (pF.mem_iff.mpr (List.mem_append_left _ ha))
          rcases wg.new a (by rw[z];simp)with y|y
          . exact absurd h3 y
          . rw[h1]at y;cases y
       have fin:∀ ks' ts' f',(jB f v us).map (·.1)=ks'->bN K cls S2 H2 ts' ((jB f v us).map (·.2)) f'->f'.Nodup->(∀ a∈f',a∈ff \/ (H a=none /\ S2 a=none)) ->
         SR K cls Av G S₀ (ρ.set i (some (.tr io (t.put π (.ob c ks' ts'))))) σ S2 (upd H2 q (.ins C dx (jB f v us))):=by
        intro ks' ts' f' hk' rs' nd' fr
        have nqf:q∉f':=fun z=>by
         rcases fr q z with y|y
         . exact nq (by simp[y])
         . rw[y.1]at hq;cases hq
        have ndf':dx∉f':=fun z=>by
         rcases fr dx z with y|y
         . exact ndx' y
         . rw[y.1]at hd;cases hd
        have ndq:dx≠q:=fun z=>nq (by simp[z])
        obtain⟨g,J3,_⟩:=cc S2 (upd H2 q (.ins C dx (jB f v us))) (.ob c ks' ts') (q ::dx ::f') wg.s (wg.sh.upd (noS q (by simp))) ((J.gh.trans wg.g).upd (gs q (by simp)).1) (fun b h=>by
          rcases wg.new b h with z|z
          . exact J.new b z
          . exact .inr (J.gh.free z)) (by
          unfold bO
          exact⟨q,C,dx,_,f',rfl,hcl,bF,by rw[bD ndq];exact wg.g _ _ hd,hk',rfl,rs'.mono (aM.refl _) fun a ha o h=>by rw[bD (fun z=>nqf (by rw[<- z];exact ha))];exact h⟩)
         (List.nodup_cons.mpr ⟨fun z=>by
           rcases List.mem_cons.mp z with z|z
           . exact ndq z.symm
           . exact nqf z,List.nodup_cons.mpr ⟨ndf',nd'⟩⟩) (fun a ha=>by
           rcases List.mem_cons.mp ha with z|z
           . subst z;exact .inl (by simp)
           . rcases List.mem_cons.mp z with z|z
             . subst z;exact .inl (by simp)
             . rcases fr a z with y|y
               . exact .inl (by simp[y])
               . exact .inr y.1) (fun a ha=>by
           rcases List.mem_cons.mp ha with z|z
           . subst z;exact noS _ (by simp)
           . rcases List.mem_cons.mp z with z|z
             . subst z;exact noS _ (by simp)
             . rcases fr a z with y|y
               . exact noS a (by simp[y])
               . exact y.2) (fun a o hn h=>by rw[bD (fun z=>hn (by rw[z];simp))];exact wg.g _ _ h) fun a h=>by
           rcases wg.new a h with z|z
           . exact .inl z
           . exact .inr (.inl z)
        exact⟨_,J3⟩
       have hlts:ts.length=ks.length:=by rw[<- rs.length,<- hk];simp
       split at p
       . rename_i hc;obtain⟨k,h1,h2,h3,h4⟩:=xA hlts (by simpa using hc);obtain⟨k1,k2⟩:=BE (y:=v) hk h2 h1;obtain⟨w3,g1,rest3,e3,r3,p3,c3⟩:=rs.at (k:=k) (u:=ts[k]) (by simp[h3])
         obtain⟨g,rg,pg⟩:=c3 S2 H2 x v fx wg.s rx fun a _ o h=>wg.g _ _ h
         have inff:∀ a∈rest3,a∈ff:=fun a ha=>p3.mem_iff.mpr (List.mem_append_right _ ha)
         have ndr:rest3.Nodup:=(List.nodup_append.mp (p3.nodup_iff.mp ndf)).2.1
         have ndg:g.Nodup:=pg.nodup_iff.mpr (List.nodup_append.mpr ⟨nx,ndr,fun a ha b hb z=>by
          subst z;obtain⟨o,h1,_⟩:=rs.live a (inff a hb)
          rw[(gx a ha).1]at h1;cases h1⟩)
         have q1:=fin ks (ts.set k x) g k1 (by rw[k2];exact rg) ndg fun a ha=>by
          rcases List.mem_append.mp (pg.mem_iff.mp ha)with z|z
          . exact .inr (gx a z)
          . exact .inl (inff a z)
         rw[h4]at p;exact p σ S2 _ q1 wg.s
       . rename_i hc
         have hn:f∉us.map (·.1):=by rw[hk];simpa using hc
         have e2:=AM (y:=v) hn
         have ndg:(ff++(fx++[])).Nodup:=by
          rw[List.append_nil]
          exact List.nodup_append.mpr ⟨ndf,nx,fun a ha b hb z=>by
           subst z;obtain⟨o,h1,_⟩:=rs.live a ha
           rw[(gx a hb).1]at h1;cases h1⟩
         have q1:=fin (ks++[f]) (ts++[x]) (ff++(fx++[])) (by rw[e2];simp[hk]) (by rw[e2,List.map_append];exact(rs.mono wg.s fun a _ o h=>wg.g _ _ h).append (.cons rx .nil)) ndg fun a ha=>by
          rw[List.append_nil]at ha
          rcases List.mem_append.mp ha with z|z
          . exact .inl z
          . exact .inr (gx a z)
         exact p σ S2 _ q1 wg.s
     . exact p.elim
end
open Classical in
noncomputable def minus(H:Hp)(Fc:Nat->List Addr):Hp:=fun a=>if ∃ k,a∈Fc k then none else H a
section
variable{K:PySem.W.Frag}{cls:String->Option Addr}{W:XW}{Av G S₀ S S' H H' B B':Hp}{ρ:aj}{σ:St}{Q:VK}{F Fc Fc':Nat->List Addr}
theorem vU(h:a∈Fc k):minus H Fc a=none:=by unfold minus;rw[if_pos ⟨k,h⟩]
theorem i7(h:∀ k,a∉Fc k):minus H Fc a=H a:=by unfold minus;rw[if_neg (fun ⟨k,z⟩=>h k z)]
theorem sG:aM (minus H Fc) H:=fun b u h=>by
 unfold minus at h;split at h
 . cases h
 . exact h
theorem lO(h:minus H Fc a=none):H a=none \/ ∃ k,a∈Fc k:=by
 unfold minus at h;split at h
 . rename_i z;exact .inr z
 . exact .inl h
noncomputable def Hx(K:PySem.W.Frag)(cls:String->Option Addr)(S H Hm:Hp):Sl->V->List Addr->Prop
 |.sh x,v,fp=>fp=[] /\ Rep K S x v
 |.tr true t,v,fp=>bO K cls S H t v fp /\ fp.Nodup
 |.bo t,v,fp=>fp=[] /\ ∃ f,bO K cls S Hm t v f
 |_,_,_=>False
structure Bo(K:PySem.W.Frag)(cls:String->Option Addr)(vs:List V)(S H:Hp)(Fc:Nat->List Addr)(outs:List (Option OV))(S' H':Hp)(Fc':Nat->List Addr):Prop where
 s:aM S S'
 sh:aM S' H'
 keep:aM (minus H Fc) H'
 new:∀ b,S' b≠none->S b≠none \/ H b=none \/ ∃ k,b∈Fc k
 out:∀ k t',outs[k]?=some (some t')->∃ u,vs[k]?=some u /\ bO K cls S' H' t' u (Fc' k) /\ (Fc' k).Nodup
 apart:∀ j k a,a∈Fc' j->a∈Fc' k->j=k
 live:∀ k a,a∈Fc' k->minus H Fc a=none /\ S' a=none
noncomputable def FV(K:PySem.W.Frag)(cls:String->Option Addr)(vs:List V)(S H:Hp)(Fc:Nat->List Addr)(Q:VK)(E:XK):OI->Prop
 |.ok x outs=>∀ v S' H' Fc',Bo K cls vs S H Fc outs S' H' Fc'->Rep K S' x v->Q v H'
 |.exc c fs outs=>∀ a C S' H' Fc',Bo K cls vs S H Fc outs S' H' Fc'->oi K cls S' H' c fs a C->E (.ref C) (some a) H'
 |.bad=>False
structure BA(K:PySem.W.Frag)(cls:String->Option Addr)(as:List Sl)(vs:List V)(S H:Hp)(Fc:Nat->List Addr):Prop where
 sh:aM S H
 len:as.length=vs.length
 rel:∀(k:Nat) (s:Sl),as[k]?=some s->∃ v,vs[k]?=some v /\ Hx K cls S H (minus H Fc) s v (Fc k)
 apart:∀ j k a,a∈Fc j->a∈Fc k->j=k
 live:∀ k a,a∈Fc k->(∃ o,H a=some o /\ isX o=false) /\ S a=none
noncomputable def spI(K:PySem.W.Frag)(cls:String->Option Addr)(f:List Sl->OI):Sp:=fun vs H Q E=>∃ S as Fc,BA K cls as vs S H Fc /\ FV K cls vs S H Fc Q E (f as)
theorem Cc{as:List Sl}{vs:List V}{N:List Str}{i:Nat}{s:Sl}(hl:as.length=vs.length)(e:(jM N.length as)[i]?=some (some s)):as[i]?=some s /\ (L2.start N vs)[i]?=some ((vs[i]?)):=by
 unfold jM at e
 by_cases hi:i<as.length
 . rw[List.getElem?_append_left (by simpa using hi),List.getElem?_map]at e
   have hx:as[i]?=some as[i]:=by simp[hi]
   rw[hx]at e;cases e
   refine⟨hx,?_⟩
   unfold L2.start;rw[List.getElem?_append_left (by rw[List.length_map,<- hl];exact hi),List.getElem?_map]
   have hv:vs[i]?=some (vs[i]'(by rw[<- hl];exact hi)):=by simp[<- hl,hi]
   rw[hv];rfl
 . rw[List.getElem?_append_right (by simpa using hi)]at e;rw[List.getElem?_replicate]at e
   split at e<;>cases e
noncomputable def zC(vs:List V):Hp:=fun i=>(vs[i]?).map fun v=>.lst [v]
theorem SR.EE{ρ':aj}(A:aM S H)(I:SR K cls (zC vs) (minus H Fc) S ρ' σ' S' H'):∃ Fc',Bo K cls vs S H Fc ((ρ'.take np).map uf) S' H' Fc':=by
 obtain⟨F,J⟩:=I
 refine⟨F,J.s0,J.sh,J.gh,fun b h=>?_,fun k t' e=>?_,J.apart,fun k a ha=>(J.live k a ha).2⟩
 . rcases J.new b h with z|z
   . exact .inl z
   . rcases lO z with y|y
     . exact .inr (.inl y)
     . exact .inr (.inr y)
 . rw[List.getElem?_map]at e;obtain⟨s,e1,e2⟩:=Option.map_eq_some_iff.mp e
   have e3:ρ'[k]?=some s:=by
    rw[List.getElem?_take]at e1;split at e1
    . exact e1
    . cases e1
   cases s with
   |none=>cases e2
   | some s=>
     cases s with
     | tr io t=>
       cases io with
       |false=>cases e2
       | true=>
         cases e2;obtain⟨v,ev,ro,nd,_,hio⟩:=J.own k _ e3;have:=hio rfl;unfold zC at this;obtain⟨u,eu,e4⟩:=Option.map_eq_some_iff.mp this;cases e4
         exact⟨v,eu,ro,nd⟩
     |sh x=>cases e2
     |ow x=>cases e2
     |ex c fs=>cases e2
     |bo t=>cases e2
theorem qM{P:Program}{w:World}{mg:Str->Option Value}{base:Heap}{x qual:Str}{st:Stmt}{f:Addr}{fd:FuncData}{N ps:List Str}{k:Nat}{m:aj->OS}(Fn:Fun K x qual st f fd)(Sc:aY N ps (aK st))
  (hbody:∀(cdv:Value) (A:Around) (outer:List Env) (s:Shared) (H:Hp) (E:XK),gT k (A.deeper (envOfC qual (aK st) s.heap.objs.size f cdv)) ->
    ∃ t,QSs (qq (CXE P w) P w K mg base N qual (aK st) f cdv A outer s H E) (dF st) t /\ JS K cls (fun C a _ H=>∀ H',aM H H'->E C a H') t m):cA P w K mg base (CXE P w) (k+1) f fd ps (spI K cls (fnI ps.length N.length m)):=by
 refine okX Fn Sc (fun vs H Q E h=>?_) fun cdv A outer s H vs Q E hr h=>?_
 . obtain⟨S,as,Fc,a,q⟩:=h;unfold fnI at q;split at q
   . rw[<- a.len];assumption
   . exact q.elim
 . obtain⟨S,as,Fc,a,q⟩:=h;unfold fnI at q;split at q
   . rename_i hl;obtain⟨t,ht,J⟩:=hbody cdv A outer s H E hr
     refine⟨t,ht.out,?_⟩
     have start:SR K cls (zC vs) (minus H Fc) S (jM N.length as) (L2.start N vs) S H:=by
      refine⟨Fc,sG,aM.refl _,a.sh,fun _ z=>.inl z,fun i s e=>?_,a.apart,fun i b hb=>⟨(a.live i b hb).1,vU hb,(a.live i b hb).2⟩,?_⟩
      . obtain⟨e1,e2⟩:=Cc a.len e;obtain⟨v,ev,r⟩:=a.rel i s e1;rw[ev]at e2
        refine⟨v,e2,?_⟩
        cases s with
        |sh x=>exact r
        |ow x=>exact r.elim
        |ex c fs=>exact r.elim
        | tr io t=>
          cases io with
          |false=>exact r.elim
          |true=>exact⟨r.1,r.2,fun b hb=>⟨vU hb,(a.live i b hb).2⟩,fun _=>by unfold zC;rw[ev];rfl⟩
        |bo t=>exact r
      . unfold jM L2.start;simp[a.len]
     refine J (zC vs) (minus H Fc) S (jM N.length as) (L2.start N vs) S H _ start ?_
     cases e:m (jM N.length as)with
     |nx ρ'=>rw[e]at q;exact fun σ' S' H' I' s'=>let ⟨Fc',E'⟩:=I'.EE (np:=ps.length) a.sh;q .non S' H' Fc' E' (by unfold Rep;rfl)
     |bk ρ'=>rw[e]at q;exact q.elim
     |ct ρ'=>rw[e]at q;exact q.elim
     |bad=>rw[e]at q;exact q.elim
     | rt ρ' r=>
       rw[e]at q
       cases r with
       |al ys=>exact q.elim
       |fr ys=>exact q.elim
       |sh y=>exact fun v σ' S' H' I' s' rr=>let ⟨Fc',E'⟩:=I'.EE (np:=ps.length) a.sh;q v S' H' Fc' E' rr
     | exc ρ' c fs=>
       rw[e]at q
       exact fun b C σ' S' H' I' s' x H2 g2=>let ⟨Fc',E'⟩:=(I'.same g2).EE (np:=ps.length) a.sh;q b C S' H2 Fc' E' (x.mono (aM.refl _) g2)
   . exact q.elim
noncomputable def AR1(K:PySem.W.Frag)(S H:Hp)(ρ:aj)(σ:St):Arg->Sl->V->Prop
 |.e _,.sh x,v=>Rep K S x v
 |.t i mp,.tr true u,v=>∃ io t π v0,ρ[i]?=some (some (.tr io t)) /\ mp ρ=some π /\ t.get π=some u /\ σ[i]?=some (some v0) /\ jt H v0 π v
 |.b i mp,.bo u,v=>∃ t π v0,gQ i ρ=some t /\ mp ρ=some π /\ t.get π=some u /\ σ[i]?=some (some v0) /\ jt H v0 π v
 |_,_,_=>False
noncomputable def ARs(K:PySem.W.Frag)(S H:Hp)(ρ:aj)(σ:St):List Arg->List Sl->List V->Prop
 |[],ss,vs=>ss=[] /\ vs=[]
 |a ::as,ss,vs=>∃ s sr v vr,ss=s ::sr /\ vs=v ::vr /\ AR1 K S H ρ σ a s v /\ ARs K S H ρ σ as sr vr
theorem AR1.mono(h:AR1 K S H ρ σ a s v)(s1:aM S S')(g:aM H H'):AR1 K S' H' ρ σ a s v:=by
 cases a with
 |e me=>cases s<;>first|exact h.elim|exact Rep.mono s1 h
 | t i mp=>
   cases s with
   | tr io u=>
     cases io with
     |false=>exact h.elim
     |true=>obtain⟨io,t,π,v0,h1,h2,h3,h4,h5⟩:=h;exact⟨io,t,π,v0,h1,h2,h3,h4,h5.mono g⟩
   |_=>exact h.elim
 | b i mp=>
   cases s with
   |bo u=>obtain⟨t,π,v0,h1,h2,h3,h4,h5⟩:=h;exact⟨t,π,v0,h1,h2,h3,h4,h5.mono g⟩
   |_=>exact h.elim
theorem ARs.at:∀{ss:List Sl} {vs:List V} {k:Nat} {a:Arg},ARs K S H ρ σ as ss vs->as[k]?=some a->∃ s v,ss[k]?=some s /\ vs[k]?=some v /\ AR1 K S H ρ σ a s v:=by
 induction as with
 |nil=>intro ss vs k a _ e;simp at e
 | cons b as ih=>
   rintro ss vs k a ⟨s,sr,v,vr,rfl,rfl,h1,h2⟩ e
   cases k with
   |zero=>simp at e;subst e;exact⟨s,v,rfl,rfl,h1⟩
   |succ k=>simp at e;obtain⟨s',v',e1,e2,r⟩:=ih h2 e;exact⟨s',v',by simpa using e1,by simpa using e2,r⟩
theorem ARs.len{as:List Arg}:∀{ss:List Sl} {vs:List V},ARs K S H ρ σ as ss vs->ss.length=as.length /\ vs.length=as.length:=by
 induction as with
 |nil=>intro ss vs h;rw[h.1,h.2];exact⟨rfl,rfl⟩
 | cons b as ih=>
   rintro ss vs ⟨s,sr,v,vr,rfl,rfl,h1,h2⟩
   have:=ih h2;simp[this]
noncomputable def JAI(K:PySem.W.Frag)(cls:String->Option Addr)(t:TA)(as:List Arg):Prop:=∀ Av G S₀ ρ σ S H Q ss,SR K cls Av G S₀ ρ σ S H->gZ as ρ=some ss->(∀ vs S' H',bx S H S' H'->ARs K S' H' ρ σ as ss vs->Q vs H')->t σ H Q
noncomputable def JA1(K:PySem.W.Frag)(cls:String->Option Addr)(te:TE)(a:Arg):Prop:=∀ Av G S₀ ρ σ S H Q s,SR K cls Av G S₀ ρ σ S H->ku a ρ=some s->(∀ v S' H',bx S H S' H'->AR1 K S' H' ρ σ a s v->Q v H')->te σ H Q
theorem pP{me:aj->OE}(h:JE K cls W te me):JA1 K cls te (.e me):=by
 intro Av G S₀ ρ σ S H Q s I e k;unfold ku at e
 dsimp only at e
 refine h Av G S₀ ρ σ S H Q I ?_
 cases em:me ρ with
 |exc c fs=>rw[em]at e;cases e
 |bad=>rw[em]at e;cases e
 | ok r=>
   rw[em]at e;obtain⟨x,e1,rfl⟩:=Option.map_eq_some_iff.mp e;intro v S1 H1 w1 r1;obtain⟨S2,w2,s2,rx⟩:=r1.share w1 e1;exact k v S2 H1 w2 rx
theorem yE(h:JP K cls te i mp):JA1 K cls te (.t i mp):=by
 intro Av G S₀ ρ σ S H Q s I e k;unfold ku at e
 dsimp only at e
 split at e
 . rename_i io t hi;obtain⟨u,e1,rfl⟩:=Option.map_eq_some_iff.mp e;obtain⟨π,e2,e3⟩:=Option.bind_eq_some_iff.mp e1;obtain⟨v0,hv⟩:=I.val hi
   exact h.at I hi hv e2 e3 fun w S1 H1 w1 I1 wk=>k w S1 H1 w1 ⟨io,t,π,v0,hi,e2,e3,hv,wk⟩
 . cases e
theorem zP(h:JP K cls te i mp):JA1 K cls te (.b i mp):=by
 intro Av G S₀ ρ σ S H Q s I e k;unfold ku at e
 dsimp only at e
 obtain⟨u,e1,rfl⟩:=Option.map_eq_some_iff.mp e;unfold subAt at e1;split at e1
 . rename_i t et;split at e1
   . rename_i π eπ;obtain⟨v0,fp,hv,_⟩:=I.tree et
     exact h Av G S₀ ρ σ S H Q v0 t π I et hv eπ (by rw[e1];rfl) fun w S1 H1 w1 wk=>k w S1 H1 w1 ⟨t,π,v0,et,eπ,e1,hv,wk⟩
   . cases e1
 . cases e1
theorem mj:JAI K cls lz []:=by
 intro Av G S₀ ρ σ S H Q ss I e k;cases e;exact k [] S H (bx.refl I.sh) ⟨rfl,rfl⟩
theorem fF(h:JA1 K cls te a)(r:JAI K cls t as):JAI K cls (jT te t) (a ::as):=by
 intro Av G S₀ ρ σ S H Q ss I e k;unfold gZ at e;obtain⟨s,e1,e2⟩:=Option.bind_eq_some_iff.mp e;obtain⟨sr,e3,rfl⟩:=Option.map_eq_some_iff.mp e2
 refine h Av G S₀ ρ σ S H _ s I e1 fun v S1 H1 w1 h1=>?_
 refine r Av G S₀ ρ σ S1 H1 _ sr (I.grow w1) e3 fun vs S2 H2 w2 h2=>?_
 exact k (v ::vs) S2 H2 (w1.trans w2) ⟨s,sr,v,vs,rfl,rfl,h1.mono w2.s w2.g,h2⟩
end
section
variable{K:PySem.W.Frag}{cls:String->Option Addr}{W:XW}{Av G S₀ S S' H H' B B':Hp}{ρ:aj}{σ:St}{Q:VK}{F Fc Fc':Nat->List Addr}
noncomputable def cY:List Arg->List Nat
 |[]=>[]
 |.t i _ ::as=>i ::cY as
 |_ ::as=>cY as
noncomputable def pW:List Arg->List Nat
 |[]=>[]
 |.b i _ ::as=>i ::pW as
 |_ ::as=>pW as
noncomputable def argsOk(as:List Arg):Bool:=decide (cY as).Nodup&&(pW as).all fun i=>!(cY as).contains i
theorem gi{as:List Arg}{k i:Nat}{mp:MP}(h:as[k]?=some (.t i mp)):i∈cY as:=by
 induction as generalizing k with
 |nil=>simp at h
 | cons a as ih=>
   cases k with
   |zero=>simp at h;subst h;simp[cY]
   | succ k=>
     simp at h;have:=ih h
     cases a<;>simp[cY,this]
theorem wQ{as:List Arg}{k i:Nat}{mp:MP}(h:as[k]?=some (.b i mp)):i∈pW as:=by
 induction as generalizing k with
 |nil=>simp at h
 | cons a as ih=>
   cases k with
   |zero=>simp at h;subst h;simp[pW]
   | succ k=>
     simp at h;have:=ih h
     cases a<;>simp[pW,this]
theorem mw{as:List Arg}(nd:(cY as).Nodup){j k i:Nat}{mp mp':MP}(h:as[j]?=some (.t i mp))(h':as[k]?=some (.t i mp')):j=k:=by
 induction as generalizing j k with
 |nil=>simp at h
 | cons a as ih=>
   cases j with
   | zero=>
     simp at h;subst h
     cases k with
     |zero=>rfl
     | succ k=>
       simp at h';have:=gi h';simp[cY]at nd;exact absurd this nd.1
   | succ j=>
     cases k with
     | zero=>
       simp at h';subst h';simp at h;have:=gi h;simp[cY]at nd;exact absurd this nd.1
     | succ k=>
       simp at h h'
       have nd':(cY as).Nodup:=by
        cases a with
        |t i' mp=>simp[cY]at nd;exact nd.2
        |e me=>exact nd
        |b i' mp=>exact nd
       rw[ih nd' h h']
theorem qo{as:List Arg}{i:Nat}(h:i∈cY as):∃(k:Nat) (mp:MP),as[k]?=some (.t i mp):=by
 induction as with
 |nil=>simp[cY]at h
 | cons a as ih=>
   cases a with
   | t j mp=>
     simp[cY]at h
     rcases h with h|h
     . subst h;exact⟨0,mp,rfl⟩
     . obtain⟨k,mp',e⟩:=ih h;exact⟨k+1,mp',by simpa using e⟩
   |e me=>obtain⟨k,mp',e⟩:=ih h;exact⟨k+1,mp',by simpa using e⟩
   |b j mp=>obtain⟨k,mp',e⟩:=ih h;exact⟨k+1,mp',by simpa using e⟩
theorem qy{as:List Arg}{ρ₀:aj}:∀{us:List (Option OV)} {ρ:aj} {i:Nat},i∉cY as->(fU ρ₀ as us ρ)[i]?=ρ[i]?:=by
 induction as with
 |nil=>intro us ρ i _;rfl
 | cons a as ih=>
   intro us ρ i h;unfold fU
   cases a with
   |e me=>rw[ih h];rfl
   |b j mp=>rw[ih h];rfl
   | t j mp=>
     simp[cY]at h;rw[ih h.2]
     have:∀ x:Option Sl,(ρ.set j x)[i]?=ρ[i]?:=fun x=>List.getElem?_set_ne (Ne.symm h.1)
     cases us.head?.join with
     |none=>exact this _
     | some u=>
       unfold lj;dsimp only;split
       . split
         . exact this _
         . exact this _
       . exact this _
theorem xu{as:List Arg}{ρ₀:aj}:∀{us:List (Option OV)} {ρ:aj} {i k:Nat} {mp:MP} {s:Sl},(cY as).Nodup->as[k]?=some (.t i mp)->(fU ρ₀ as us ρ)[i]?=some (some s) ->
  ∃ io t π u,us[k]?=some (some u) /\ ρ[i]?=some (some (.tr io t)) /\ mp ρ₀=some π /\ s=.tr io (t.put π u):=by
 induction as with
 |nil=>intro us ρ i k mp s _ h;simp at h
 | cons a as ih=>
   intro us ρ i k mp s nd h e;unfold fU at e
   cases k with
   | zero=>
     simp at h;subst h;simp[cY]at nd;rw[qy nd.1]at e
     cases us with
     | nil=>
       unfold lj at e;simp at e;rw[List.getElem?_set]at e;simp at e
     | cons u us=>
       cases u with
       | none=>
         unfold lj at e;simp at e;rw[List.getElem?_set]at e;simp at e
       | some u=>
         unfold lj at e;simp only[List.head?_cons,Option.join_some]at e;split at e
         . rename_i io t hi;split at e
           . rename_i π hπ;rw[List.getElem?_set]at e;simp at e
             exact⟨io,t,π,u,rfl,hi,hπ,e.2.symm⟩
           . rw[List.getElem?_set]at e;simp at e
         . rw[List.getElem?_set]at e;simp at e
   | succ k=>
     simp at h
     have nd':(cY as).Nodup:=by
      cases a with
      |t i' mp=>simp[cY]at nd;exact nd.2
      |e me=>exact nd
      |b i' mp=>exact nd
     obtain⟨io,t,π,u,e1,e2,e3,e4⟩:=ih nd' h e
     refine⟨io,t,π,u,?_,?_,e3,e4⟩
     . cases us with
       |nil=>simp at e1
       |cons _ us=>simpa using e1
     . cases a with
       |e me=>exact e2
       |b j mp=>exact e2
       | t j mp'=>
         have hij:i≠j:=by
          intro z;subst z;simp[cY]at nd;exact nd.1 (gi h)
         have:∀ x:Option Sl,(ρ.set j x)[i]?=ρ[i]?:=fun x=>List.getElem?_set_ne (Ne.symm hij)
         cases q:us.head?.join with
         |none=>rw[q]at e2;unfold lj at e2;simp only at e2;rw[this]at e2;exact e2
         | some u=>
           rw[q]at e2;unfold lj at e2;simp only at e2;split at e2
           . split at e2
             . rw[this]at e2;exact e2
             . rw[this]at e2;exact e2
           . rw[this]at e2;exact e2
theorem vy{as:List Arg}{ρ₀:aj}:∀{us:List (Option OV)} {ρ:aj},(fU ρ₀ as us ρ).length=ρ.length:=by
 induction as with
 |nil=>intro us ρ;rfl
 | cons a as ih=>
   intro us ρ;unfold fU;rw[ih];unfold lj;split
   . split
     . split<;>simp
     . simp
   . simp
   . rfl
theorem SR.F0{as:List Arg}{ss:List Sl}{vs:List V}(I:SR K cls Av G S₀ ρ σ S H)(ok:argsOk as=true)(h:ARs K S H ρ σ as ss vs):
  ∃ Fc,BA K cls ss vs S H Fc /\ ∀ outs S' H' Fc',Bo K cls vs S H Fc outs S' H' Fc'->SR K cls Av G S₀ (fU ρ as outs ρ) σ S' H':=by
 obtain⟨F,J⟩:=I;unfold argsOk at ok;rw[Bool.and_eq_true,decide_eq_true_eq]at ok;obtain⟨nd,hb⟩:=ok
 have cell:∀ k:Nat,∃ d:List Addr×List Addr,(∀ i mp,as[k]?=some (.t i mp)->∃ io t π u v0 w,ss[k]?=some (.tr true u) /\ vs[k]?=some w /\ ρ[i]?=some (some (.tr io t)) /\ mp ρ=some π /\ t.get π=some u /\ σ[i]?=some (some v0) /\ bO K cls S H u w d.1 /\ (F i).Perm (d.1++d.2) /\ (d.1++d.2).Nodup /\ (io=true->Av i=some (.lst [v0])) /\
   ∀ S' H' u' f',aM S S'->bO K cls S' H' u' w f'->(∀ a∈d.2,∀ o,H a=some o->H' a=some o)->∃ g,bO K cls S' H' (t.put π u') v0 g /\ g.Perm (f'++d.2)) /\ ((∀ i mp,as[k]?≠some (.t i mp))->d=([],[])):=by
  intro k
  by_cases hk:∃ i mp,as[k]?=some (.t i mp)
  . obtain⟨i,mp,e⟩:=hk;obtain⟨s,w,es,ev,r⟩:=h.at e
    cases s with
    | tr io' u=>
      cases io' with
      |false=>exact r.elim
      | true=>
        obtain⟨io,t,π,v0,h1,h2,h3,h4,h5⟩:=r;obtain⟨v,ev',ro,ndf,gs,hio⟩:=J.own i _ h1;rw[h4]at ev';cases ev';obtain⟨w',f1,rest,wk,r1,p1,c1⟩:=ro.focus h3;have:=h5.inj wk;subst this
        refine⟨(f1,rest),fun i' mp' e'=>?_,fun z=>absurd e (z i mp)⟩
        rw[e]at e'
        cases e'
        exact⟨io,t,π,u,v0,w,es,ev,h1,h2,h3,h4,r1,p1,p1.nodup_iff.mp ndf,hio,c1⟩
    |sh x=>exact r.elim
    |ow x=>exact r.elim
    |ex c fs=>exact r.elim
    |bo x=>exact r.elim
  . exact⟨([],[]),fun i mp e=>absurd ⟨i,mp,e⟩ hk,fun _=>rfl⟩
 obtain⟨d,hd⟩:=Classical.axiomOfChoice cell
 have tOf:∀ k a,a∈(d k).1->∃ i mp,as[k]?=some (.t i mp) /\ a∈F i:=by
  intro k a ha
  by_cases hk:∃ i mp,as[k]?=some (.t i mp)
  . obtain⟨i,mp,e⟩:=hk;obtain⟨io,t,π,u,v0,w,_,_,_,_,_,_,_,p1,_⟩:=(hd k).1 i mp e
    exact⟨i,mp,e,p1.mem_iff.mpr (List.mem_append_left _ ha)⟩
  . rw[(hd k).2 fun i mp e=>hk ⟨i,mp,e⟩]at ha;cases ha
 have hlen:=h.len
 have qS:∀ i a,a∈F i->(∀ k mp,as[k]?=some (.t i mp)->a∉(d k).1)->∀ k,a∉(d k).1:=by
  intro i a ha hn k hk;obtain⟨i',mp,e,ha'⟩:=tOf k a hk;have:=J.apart i i' a ha ha';subst this;exact hn k mp e hk
 refine⟨fun k=>(d k).1,⟨J.sh,by rw[hlen.1,hlen.2],fun k s es=>?_,fun j k a h1 h2=>?_,fun k a ha=>?_⟩,fun outs S' H' Fc' E=>?_⟩
 . have hk:k<as.length:=by rw[<- hlen.1];exact(List.getElem?_eq_some_iff.mp es).1
   obtain⟨s',w,es',ev,r⟩:=h.at (k:=k) (a:=as[k]) (by simp[hk]);rw[es]at es';cases es'
   refine⟨w,ev,?_⟩
   cases q:as[k]with
   | e me=>
     rw[q]at r
     have hz:=(hd k).2 fun i mp e=>by rw[List.getElem?_eq_getElem hk,q]at e;cases e
     cases s<;>first|exact r.elim|exact⟨by rw[hz],r⟩
   | t i mp=>
     have eq:as[k]?=some (.t i mp):=by rw[List.getElem?_eq_getElem hk,q]
     obtain⟨io,t,π,u,v0,w',es',ev',_,_,_,_,r1,_,nd1,_⟩:=(hd k).1 i mp eq;rw[es]at es';cases es';rw[ev]at ev';cases ev'
     exact⟨r1,(List.nodup_append.mp nd1).1⟩
   | b i mp=>
     have eq:as[k]?=some (.b i mp):=by rw[List.getElem?_eq_getElem hk,q]
     rw[q]at r
     have hz:=(hd k).2 fun i mp e=>by rw[eq]at e;cases e
     cases s with
     | bo u=>
       obtain⟨t,π,v0,h1,h2,h3,h4,h5⟩:=r
       refine⟨by rw[hz],?_⟩
       have nt:i∉cY as:=by
        have:=List.all_eq_true.mp hb i (wQ eq)
        simpa using this
       have ro:∃ f,bO K cls S (minus H fun k=>(d k).1) t v0 f:=by
        unfold gQ at h1
        cases q1:ρ[i]? with
        |none=>rw[q1]at h1;cases h1
        | some o=>
          cases o with
          |none=>rw[q1]at h1;cases h1
          | some s1=>
            rw[q1]at h1;obtain⟨v,ev',r⟩:=J.own i s1 q1;rw[h4]at ev';cases ev'
            cases s1 with
            | tr io t'=>
              cases h1
              exact⟨_,r.1.mono (aM.refl _) fun a ha o ho=>by
               rw[i7 (qS i a ha fun k' mp' e'=>absurd (gi e') nt)];exact ho⟩
            | bo t'=>
              cases h1;obtain⟨_,f,r⟩:=r
              exact⟨f,r.mono (aM.refl _) fun a ha o ho=>by
               rw[i7 fun k' hk'=>?_]
               . exact J.gh _ _ ho
               . obtain⟨i',mp',_,ha'⟩:=tOf k' a hk'
                 rw[(J.live i' a ha').2.1]at ho;cases ho⟩
            |sh x=>cases h1
            |ow x=>cases h1
            |ex c fs=>cases h1
       obtain⟨f,ro⟩:=ro;obtain⟨w',f1,rest,wk,r1,_,_⟩:=ro.focus h3;have:=h5.inj (wk.mono sG);subst this
       exact⟨f1,r1⟩
     |sh x=>exact r.elim
     |ow x=>exact r.elim
     |ex c fs=>exact r.elim
     |tr io x=>exact r.elim
 . obtain⟨i,mp,e1,m1⟩:=tOf j a h1;obtain⟨i',mp',e2,m2⟩:=tOf k a h2;have:=J.apart i i' a m1 m2;subst this;exact mw nd e1 e2
 . obtain⟨i,mp,e1,m1⟩:=tOf k a ha
   exact⟨(J.live i a m1).1,(J.live i a m1).2.2⟩
 .
  have noS:∀ i a,a∈F i->(∀ k,a∉(d k).1)->S' a=none:=fun i a ha hn=>by
   cases z:S' a with
   |none=>rfl
   | some o=>
     obtain⟨⟨o',h1,_⟩,_,h3⟩:=J.live i a ha
     rcases E.new a (by rw[z];simp)with y|y|⟨k,y⟩
     . exact absurd h3 y
     . rw[h1]at y;cases y
     . exact absurd y (hn k)
  have keep:∀ a o,(∀ k,a∉(d k).1)->H a=some o->H' a=some o:=fun a o hn ho=>E.keep a o (by rw[i7 hn];exact ho)
  have restOff:∀ k i mp,as[k]?=some (.t i mp)->∀ a∈(d k).2,a∈F i /\ ∀ k',a∉(d k').1:=fun k i mp e a ha=>by
   obtain⟨io,t,π,u,v0,w,_,_,_,_,_,_,_,p1,nd1,_⟩:=(hd k).1 i mp e
   have m:a∈F i:=p1.mem_iff.mpr (List.mem_append_right _ ha)
   refine⟨m,qS i a m fun k' mp' e' hk'=>?_⟩
   have:=mw nd e e';subst this
   exact(List.nodup_append.mp nd1).2.2 a hk' a ha rfl
  have gcell:∀ k:Nat,∃ g:List Addr,∀ i mp u',as[k]?=some (.t i mp)->outs[k]?=some (some u')->∀ io t π,ρ[i]?=some (some (.tr io t))->mp ρ=some π->∃ v0,σ[i]?=some (some v0) /\ (io=true->Av i=some (.lst [v0])) /\ bO K cls S' H' (t.put π u') v0 g /\ g.Perm (Fc' k++(d k).2):=by
   intro k
   by_cases hk:∃ i mp u',as[k]?=some (.t i mp) /\ outs[k]?=some (some u')
   . obtain⟨i,mp,u',e,eo⟩:=hk;obtain⟨io,t,π,u,v0,w,es,ev,h1,h2,h3,h4,r1,p1,nd1,hio,c1⟩:=(hd k).1 i mp e;obtain⟨w',ew,r',ndf'⟩:=E.out k u' eo;rw[ev]at ew;cases ew
     obtain⟨g,rg,pg⟩:=c1 S' H' u' (Fc' k) E.s r' fun a ha o ho=>keep a o (restOff k i mp e a ha).2 ho
     refine⟨g,fun i' mp' u'' e' eo' io' t' π' h1' h2'=>?_⟩
     rw[e]at e';cases e';rw[eo]at eo';cases eo';rw[h1]at h1';cases h1';rw[h2]at h2';cases h2'
     exact⟨v0,h4,hio,rg,pg⟩
   . exact⟨[],fun i mp u' e eo=>absurd ⟨i,mp,u',e,eo⟩ hk⟩
  obtain⟨g,hg⟩:=Classical.axiomOfChoice gcell
  have fcell:∀ i:Nat,∃ f:List Addr,(i∉cY as->f=F i) /\ ∀ k mp,as[k]?=some (.t i mp)->((∃ io t π u',ρ[i]?=some (some (.tr io t)) /\ mp ρ=some π /\ outs[k]?=some (some u'))->f=g k) /\ ((¬ ∃ io t π u',ρ[i]?=some (some (.tr io t)) /\ mp ρ=some π /\ outs[k]?=some (some u'))->f=[]):=by
   intro i
   by_cases hi:i∈cY as
   . obtain⟨k,mp,e⟩:=qo hi
     by_cases hx:∃ io t π u',ρ[i]?=some (some (.tr io t)) /\ mp ρ=some π /\ outs[k]?=some (some u')
     . refine⟨g k,fun z=>absurd hi z,fun k' mp' e'=>?_⟩
       have:=mw nd e e';subst this;rw[e]at e';cases e'
       exact⟨fun _=>rfl,fun z=>absurd hx z⟩
     . refine⟨[],fun z=>absurd hi z,fun k' mp' e'=>?_⟩
       have:=mw nd e e';subst this;rw[e]at e';cases e'
       exact⟨fun z=>absurd z hx,fun _=>rfl⟩
   . exact⟨F i,fun _=>rfl,fun k mp e=>absurd (gi e) hi⟩
  obtain⟨F',hF'⟩:=Classical.axiomOfChoice fcell
  have memF:∀ i a,a∈F' i->(i∉cY as /\ a∈F i /\ ∀ k,a∉(d k).1) \/ (∃ k mp,as[k]?=some (.t i mp) /\ F' i=g k /\ ((a∈Fc' k) \/ (a∈F i /\ ∀ k,a∉(d k).1)) /\ ∃ io t π u',ρ[i]?=some (some (.tr io t)) /\ mp ρ=some π /\ outs[k]?=some (some u')):=by
   intro i a ha
   by_cases hi:i∈cY as
   . obtain⟨k,mp,e⟩:=qo hi
     by_cases hx:∃ io t π u',ρ[i]?=some (some (.tr io t)) /\ mp ρ=some π /\ outs[k]?=some (some u')
     . have e1:=((hF' i).2 k mp e).1 hx;refine .inr ⟨k,mp,e,e1,?_,hx⟩;obtain⟨io,t,π,u',h1,h2,h3⟩:=hx;obtain⟨v0,_,_,rg,pg⟩:=hg k i mp u' e h3 io t π h1 h2;rw[e1]at ha
       rcases List.mem_append.mp (pg.mem_iff.mp ha)with z|z
       . exact .inl z
       . exact .inr (restOff k i mp e a z)
     . rw[((hF' i).2 k mp e).2 hx]at ha;cases ha
   . have e1:=(hF' i).1 hi;rw[e1]at ha;exact .inl ⟨hi,ha,qS i a ha fun k mp e=>absurd (gi e) hi⟩
  refine⟨F',?_,J.s0.trans E.s,E.sh,fun b hbn=>?_,fun i s e=>?_,fun i j a h1 h2=>?_,fun i a ha=>?_,?_⟩
  . intro b u hu;refine keep b u (fun k hk=>?_) (J.gh b u hu);obtain⟨i,mp,_,m⟩:=tOf k b hk;rw[(J.live i b m).2.1]at hu;cases hu
  . rcases E.new b hbn with z|z|⟨k,z⟩
    . exact J.new b z
    . exact .inr (J.gh.free z)
    . obtain⟨i,mp,_,m⟩:=tOf k b z;exact .inr (J.live i b m).2.1
  . by_cases hi:i∈cY as
    . obtain⟨k,mp,ek⟩:=qo hi;obtain⟨io,t,π,u,e1,e2,e3,rfl⟩:=xu nd ek e;obtain⟨v0,h1,hio,rg,pg⟩:=hg k i mp u ek e1 io t π e2 e3;have e4:=((hF' i).2 k mp ek).1 ⟨io,t,π,u,e2,e3,e1⟩;rw[e4];obtain⟨w',ew,r',ndf'⟩:=E.out k u e1
      refine⟨v0,h1,rg,pg.nodup_iff.mpr (List.nodup_append.mpr ⟨ndf',?_,fun a ha b hb' z=>?_⟩),fun a ha=>?_,hio⟩
      . obtain⟨_,_,_,_,_,_,_,_,_,_,_,_,_,_,nd1,_⟩:=(hd k).1 i mp ek
        exact(List.nodup_append.mp nd1).2.1
      . subst z;obtain⟨m,off⟩:=restOff k i mp ek a hb';have:=(E.live k a ha).1;rw[i7 off]at this;obtain⟨⟨o,ho,_⟩,_⟩:=J.live i a m;rw[this]at ho;cases ho
      . rcases List.mem_append.mp (pg.mem_iff.mp ha)with z|z
        . refine⟨?_,(E.live k a z).2⟩
          rcases lO (E.live k a z).1 with y|⟨k',y⟩
          . exact J.gh.free y
          . obtain⟨i',mp',_,m⟩:=tOf k' a y
            exact(J.live i' a m).2.1
        . obtain⟨m,off⟩:=restOff k i mp ek a z
          exact⟨(J.live i a m).2.1,noS i a m off⟩
    . rw[qy hi]at e;obtain⟨v,ev,r⟩:=J.own i s e;rw[(hF' i).1 hi]
      have off:∀ a∈F i,∀ k,a∉(d k).1:=fun a ha=>qS i a ha fun k mp e=>absurd (gi e) hi
      exact⟨v,ev,r.mono E.s (fun a ha o ho=>keep a o (off a ha) ho) (fun b o hx ho=>keep b o (fun k hk=>by
       obtain⟨i',mp',_,m⟩:=tOf k b hk;obtain⟨⟨o',h1,h2⟩,_⟩:=J.live i' b m
       rw[ho]at h1;cases h1;rw[hx]at h2;cases h2) ho) fun a ha=>noS i a ha (off a ha)⟩
  .
   have key:∀ i j a,a∈F' i->a∈F' j->(∃ k,a∈Fc' k)->∃ k mp,as[k]?=some (.t i mp) /\ a∈Fc' k:=by
    intro i j a ha _ ⟨k0,hk0⟩
    have no:∀ i',a∈F i'->¬ ∀ k,a∉(d k).1:=fun i' m off=>by
     have:=(E.live k0 a hk0).1;rw[i7 off]at this;obtain⟨⟨o,ho,_⟩,_⟩:=J.live i' a m;rw[this]at ho;cases ho
    rcases memF i a ha with⟨_,m,off⟩|⟨k,mp,e,_,z,_⟩
    . exact absurd off (no i m)
    . rcases z with z|⟨m,off⟩
      . exact⟨k,mp,e,z⟩
      . exact absurd off (no i m)
   by_cases hk:∃ k,a∈Fc' k
   . obtain⟨k1,mp1,e1,z1⟩:=key i j a h1 h2 hk;obtain⟨k2,mp2,e2,z2⟩:=key j i a h2 h1 hk;have:=E.apart k1 k2 a z1 z2;subst this;rw[e1]at e2;cases e2;rfl
   . have fromF:∀ i,a ∈ F' i -> a ∈ F i:=fun i ha=>by
      rcases memF i a ha with⟨_,m,_⟩|⟨k,mp,e,_,z,_⟩
      . exact m
      . rcases z with z|⟨m,_⟩
        . exact absurd ⟨k,z⟩ hk
        . exact m
     exact J.apart i j a (fromF i h1) (fromF j h2)
  . rcases memF i a ha with⟨_,m,off⟩|⟨k,mp,e,eg,z,io,t,π,u',x1,x2,x3⟩
    . obtain⟨⟨o,ho,hx⟩,hg',_⟩:=J.live i a m
      exact⟨⟨o,keep a o off ho,hx⟩,hg',noS i a m off⟩
    . obtain⟨v0,_,_,rg,pg⟩:=hg k i mp u' e x3 io t π x1 x2;rw[eg]at ha
      refine⟨rg.live a ha,?_⟩
      rcases z with z|⟨m,off⟩
      . refine⟨?_,(E.live k a z).2⟩
        rcases lO (E.live k a z).1 with y|⟨k',y⟩
        . exact J.gh.free y
        . obtain⟨i',mp',_,m⟩:=tOf k' a y
          exact(J.live i' a m).2.1
      . exact⟨(J.live i a m).2.1,noS i a m off⟩
  . rw[vy];exact J.len
end
end L2.P
namespace L2.E
open PySem PySem.Spec PyProof.Rows L2
section
variable{X:Cx}{k:Nat}{f C:Addr}{fd:FuncData}{ps:List Str}{sp:Sp}{ds:List Value}{W:XW}{x m:Str}{p pos apos:Pos}{e o:Expr}{es:List Expr}{ta:TE}{t:TA}
noncomputable def uv(C:Addr)(m:Str)(sp:Sp)(W:XW)(ta:TE)(t:TA):TE:=fun σ H Q=>ta σ H fun x H1=>∃ a dx fs,x=.ref a /\ H1 a=some (.ins C dx fs) /\ fs.lookup m=none /\
 t σ H1 fun vs H2=>sp (x ::vs) H2 Q fun C a H'=>W C a σ H'
theorem vm{pl:Sem Bool}(he:QE X o ta)(c:Cls X.K C)(hm:Meth X.K C m f)(F:cA X.prog X.w X.K X.mg X.base (CXE X.prog X.w) k f fd ps sp)(hr:gT k X.A)(hb:Binds X.K fd ps [])(hx:Thr X W)(ha:QA X (e ::es) t)
  (hst:starEach (e ::es) X.env=(false,eval e X.env) ::starEach es X.env:=by rfl) (hpl:(backTo pos (starEach es X.env)).any (·.1)=false:=by rfl)
  (ht:eval (.Call (.Attribute o m apos) (e ::es) [] pos) X.env=(do
    let ov <- eval o X.env
    standAt apos.atName
    let (f,first) <- holding [ov] (getMethod ov m pl)
    callWith pos f first (backTo pos (starEach (e ::es) X.env)) (backToKw pos (keywordEach [] X.env))):=by rfl):
  QE X (.Call (.Attribute o m apos) (e ::es) [] pos) (uv C m sp W ta t):=⟨by
 intro pins s σ H Q I h;refine PySem.W.methodCall_KW (pl:=pl) (thn (he.out pins s σ H _ I h) fun u s1 ⟨x,H1,I1,rx,a,dx,fs,ex,ea,l,q⟩=>?_) ht;subst ex
 obtain rfl:u=Value.ref a:=rx
 refine su I1 ea c hm l ?_;refine PySem.W.callWith_K (first:=[.ref a]) (h₀:=X.base) I.ok.mod.kin hm.kp (thn (ha.out pos pins s1 σ H1 _ I1 q) fun us s2 ⟨vs,H2,I2,r,q2⟩=>⟨I2.kIn,?_⟩) hst hpl
 exact q8 (us:=.ref a ::us) (vs:=.ref a ::vs) (dvs:=[]) F hr hb .nil hx I2 (.cons rfl r) (by rw[List.append_nil];exact q2)⟩
theorem tZ{pl:Sem Bool}(he:QE X o ta)(c:Cls X.K C)(hm:Meth X.K C m f)(F:cA X.prog X.w X.K X.mg X.base (CXE X.prog X.w) k f fd ps sp)(hr:gT k X.A)(hb:Binds X.K fd ps [])(hx:Thr X W)
  (ht:eval (.Call (.Attribute o m apos) [] [] pos) X.env=(do
    let ov <- eval o X.env
    standAt apos.atName
    let (f,first) <- holding [ov] (getMethod ov m pl)
    callWith pos f first (backTo pos (starEach [] X.env)) (backToKw pos (keywordEach [] X.env))):=by rfl):
  QE X (.Call (.Attribute o m apos) [] [] pos) (uv C m sp W ta lz):=⟨by
 intro pins s σ H Q I h;refine PySem.W.methodCall_KW (pl:=pl) (thn (he.out pins s σ H _ I h) fun u s1 ⟨x,H1,I1,rx,a,dx,fs,ex,ea,l,q⟩=>?_) ht;subst ex
 obtain rfl:u=Value.ref a:=rx
 refine su I1 ea c hm l ?_
 exact PySem.W.callWith_K0 (first:=[.ref a]) I1.kIn hm.kp (q8 (us:=[.ref a]) (vs:=[.ref a]) (dvs:=[]) F hr hb .nil hx I1 (.cons rfl .nil) q)⟩
theorem tI(F:cA X.prog X.w X.K X.mg X.base (CXE X.prog X.w) k f fd ps sp)(hr:gT k X.A)(hg:Gl X x)(hm:X.mg x=some (.ref f))(hk:PySem.W.keepIn X.K (.ref f)=true)(hb:Binds X.K fd ps [])(hx:Thr X W)
  (hdb:(x==("__debug__":Str))=false:=by decide):QE X (.Call (.Name x p) [] [] pos) (nP sp [] W lz):=⟨yZ F hr hg hm hk hb .nil hx hdb⟩
theorem AE(M:Mk X.K C f)(F:cA X.prog X.w X.K X.mg X.base (CXE X.prog X.w) k f fd ps sp)(hr:gT (k+1) X.A)(hg:Gl X x)(hm:X.mg x=some (.ref C))(hb:Binds X.K fd ps [])(hdb:(x==("__debug__":Str))=false:=by decide):
  QE X (.Call (.Name x p) [] [] pos) (Bd C sp [] (fun _ _ _=>False) lz):=⟨zA M F hr hg hm hb .nil (fun pins σ H s e s' I h=>by obtain⟨a,C,dx,H',_,_,_,_,_,_,z⟩:=h;exact z.elim) hdb⟩
theorem sP{f:Str}(he:QE X e ta)(hb:attributeBase e f X.env (eval e X.env)=eval e X.env:=by rfl):QE X (.Attribute e f pos) (Ep X.K ta f):=⟨Fs he.out hb⟩
theorem D6{f:Str}{value:Expr}{tv:TE}{pos':Pos}(ha:QE X o ta)(hv:QE X value tv)(hs:swapsWith value (some (.Attribute o f pos')) pos.line X.env=pure false:=by rfl):QS X (.Assign [.Attribute o f pos'] value pos) (EZ X.K ta tv f):=⟨DQ ha.out hv.out hs⟩
end
end L2.E
namespace L2.P
open PySem PySem.Spec PyProof.Rows L2 L2.E
section
variable{K:PySem.W.Frag}{cls:String->Option Addr}{W:XW}{Av G S₀ S S' H H' B B':Hp}{ρ:aj}{σ:St}{Q:VK}{F Fc Fc':Nat->List Addr}
theorem SR.more(I:SR K cls Av G S₀ ρ σ S H)(h:Rep K S x v):SR K cls Av G S₀ (ρ++[some (.sh x)]) (σ++[some v]) S H:=by
 obtain⟨F,J⟩:=I
 exact J.more (fp:=[]) (fun t e=>by cases e;exact⟨v,rfl,rfl,h⟩) (fun a ha=>nomatch ha) fun j a _ ha=>nomatch ha
theorem sO{f:List Sl->OI}(ok:argsOk as=true)(I:SR K cls Av G S₀ ρ σ S1 H1)(s1:aM S S1)(ar:ARs K S1 H1 ρ σ as ss vs)
  (p:CZ K cls W Av G S₀ σ S Q (match f ss with
    |.ok x outs=>.ok (fU ρ as outs ρ) (.sh x)
    |.exc c fs outs=>.exc (fU ρ as outs ρ) c fs
    |.bad=>.bad)):spI K cls f vs H1 Q fun C a H'=>W C a σ H':=by
 obtain⟨Fc,A,fin⟩:=I.F0 ok ar
 refine⟨S1,ss,Fc,A,?_⟩
 cases e:f ss with
 |bad=>rw[e]at p;exact p
 |ok x outs=>rw[e]at p;exact fun v S' H' Fc' E r=>p v S' H' ((fin outs S' H' Fc' E).more r) (s1.trans E.s)
 |exc c fs outs=>rw[e]at p;exact fun a C S' H' Fc' E r=>p a C S' H' (fin outs S' H' Fc' E) (s1.trans E.s) r
theorem vR{f:List Sl->OI}(ok:argsOk as=true)(h:JAI K cls t as):JX K cls W (nP (spI K cls f) [] W t) (jz f as):=by
 intro Av G S₀ ρ σ S H Q I p;unfold jz at p
 cases e:gZ as ρ with
 |none=>rw[e]at p;exact p.elim
 | some ss=>
   rw[e]at p
   refine h Av G S₀ ρ σ S H _ ss I e fun vs S1 H1 w1 ar=>?_
   show spI K cls f (vs++[]) H1 Q _;rw[List.append_nil];exact sO ok (I.grow w1) w1.s ar p
theorem x5(hc:cls c=some C)(I:SR K cls Av G S₀ ρ σ S H)(r:AR1 K S H ρ σ a s v)(h:recv c m (some s)=true):∃ q dx us,v=.ref q /\ H q=some (.ins C dx us) /\ us.lookup m=none:=by
 have main:∀(ks:List Str) (ts:List OV) (f:List Addr),(c==c && !ks.contains m)=true->bO K cls S H (.ob c ks ts) v f->∃ q dx us,v=.ref q /\ H q=some (.ins C dx us) /\ us.lookup m=none:=by
  intro ks ts f hk ro;unfold bO at ro;obtain⟨q,C',dx,us,ff,rfl,hcl,hq,hd,hks,rfl,rs⟩:=ro;rw[hc]at hcl;cases hcl
  refine⟨q,dx,us,rfl,hq,?_⟩
  have hn:m∉us.map (·.1):=by rw[hks];simpa using hk
  clear hks hk rs hq
  induction us with
  |nil=>rfl
  | cons p us ih=>
    obtain⟨g,y⟩:=p;simp at hn
    have:(m==g)=false:=by simpa using hn.1
    simp[List.lookup,this,ih (by simpa using hn.2)]
 cases a with
 |e me=>cases s<;>first|exact r.elim|cases h
 | t i mp=>
   cases s with
   | tr io u=>
     cases io with
     |false=>cases h
     | true=>
       cases u with
       |sh x=>cases h
       |ol ts=>cases h
       |di x=>cases h
       |dt x=>cases h
       | ob c' ks ts=>
         obtain⟨io,t,π,v0,h1,h2,h3,h4,h5⟩:=r
         have h':(c'==c && !ks.contains m)=true:=h
         have hcc:c'=c:=by rw[Bool.and_eq_true]at h';simpa using h'.1
         subst hcc;obtain⟨v',fp,ev,ro⟩:=I.tree (i:=i) (t:=t) (by unfold gQ;rw[h1];rfl);rw[h4]at ev;cases ev;obtain⟨w,f1,rest,wk,r1,_,_⟩:=ro.focus h3;have:=h5.inj wk;subst this;exact main ks ts f1 h' r1
   |sh x=>exact r.elim
   |ow x=>exact r.elim
   |ex c fs=>exact r.elim
   |bo x=>exact r.elim
 | b i mp=>
   cases s with
   | bo u=>
     cases u with
     |sh x=>cases h
     |ol ts=>cases h
     |di x=>cases h
     |dt x=>cases h
     | ob c' ks ts=>
       obtain⟨t,π,v0,h1,h2,h3,h4,h5⟩:=r
       have h':(c'==c && !ks.contains m)=true:=h
       have hcc:c'=c:=by rw[Bool.and_eq_true]at h';simpa using h'.1
       subst hcc;obtain⟨v',fp,ev,ro⟩:=I.tree h1;rw[h4]at ev;cases ev;obtain⟨w,f1,rest,wk,r1,_,_⟩:=ro.focus h3;have:=h5.inj wk;subst this;exact main ks ts f1 h' r1
   |sh x=>exact r.elim
   |ow x=>exact r.elim
   |ex c fs=>exact r.elim
   |tr io x=>exact r.elim
theorem v5{f:List Sl->OI}(hc:cls c=some C)(ok:argsOk (a ::as)=true)(ha:JA1 K cls ta a)(h:JAI K cls t as):JX K cls W (uv C m (spI K cls f) W ta t) (nO c m f (a ::as)):=by
 intro Av G S₀ ρ σ S H Q I p;unfold nO at p
 dsimp only at p
 split at p
 . rename_i hr;unfold jz at p
   cases e:gZ (a ::as) ρ with
   |none=>rw[e]at p;exact p.elim
   | some ss=>
     rw[e]at p
     have e':=e
     unfold gZ at e';obtain⟨s,e1,e2⟩:=Option.bind_eq_some_iff.mp e';obtain⟨sr,e3,rfl⟩:=Option.map_eq_some_iff.mp e2;rw[e1]at hr
     refine ha Av G S₀ ρ σ S H _ s I e1 fun v S1 H1 w1 r1=>?_
     have I1:=I.grow w1;obtain⟨q,dx,us,rfl,hq,hl⟩:=x5 hc I1 r1 hr
     refine⟨q,dx,us,rfl,hq,hl,?_⟩
     refine h Av G S₀ ρ σ S1 H1 _ sr I1 e3 fun vs S2 H2 w2 ar=>?_
     exact sO (ss:=s ::sr) ok (I1.grow w2) (w1.s.trans w2.s) ⟨s,sr,_,vs,rfl,rfl,r1.mono w2.s w2.g,ar⟩ p
 . exact p.elim
theorem rK{f:List Sl->OI}(ok:cY as=[])(I:SR K cls Av G S₀ ρ σ S H)(ar:ARs K S H ρ σ as ss vs)
  (p:kz K cls W σ S H Q (match f ss with
    |.ok x _=>.ok (.sh x)
    |.exc c fs _=>.exc c fs
    |.bad=>.bad)):spI K cls f vs H Q fun C a H'=>W C a σ H':=by
 have hm:minus H (fun _=>[])=H:=by funext a;exact i7 fun k h=>nomatch h
 have hlen:=ar.len
 refine⟨S,ss,fun _=>[],⟨I.sh,by rw[hlen.1,hlen.2],fun k s es=>?_,fun j k a h=>(nomatch h),fun k a h=>(nomatch h)⟩,?_⟩
 . have hk:k<as.length:=by rw[<- hlen.1];exact(List.getElem?_eq_some_iff.mp es).1
   obtain⟨s',w,es',ev,r⟩:=ar.at (k:=k) (a:=as[k]) (by simp[hk]);rw[es]at es';cases es'
   refine⟨w,ev,?_⟩
   cases q:as[k]with
   | e me=>
     rw[q]at r
     cases s<;>first|exact r.elim|exact⟨rfl,r⟩
   | t i mp=>
     have:=gi (as:=as) (k:=k) (i:=i) (mp:=mp) (by rw[List.getElem?_eq_getElem hk,q]);rw[ok]at this;cases this
   | b i mp=>
     rw[q]at r
     cases s with
     | bo u=>
       obtain⟨t,π,v0,h1,h2,h3,h4,h5⟩:=r;obtain⟨v',fp,ev',ro⟩:=I.tree h1;rw[h4]at ev';cases ev';obtain⟨w',f1,rest,wk,r1,_,_⟩:=ro.focus h3;have:=h5.inj wk;subst this
       exact⟨rfl,f1,by rw[hm];exact r1⟩
     |sh x=>exact r.elim
     |ow x=>exact r.elim
     |ex c fs=>exact r.elim
     |tr io x=>exact r.elim
 . have gr:∀ {outs S' H' Fc'},Bo K cls vs S H (fun _=>[]) outs S' H' Fc' -> bx S H S' H':=fun {outs S' H' Fc'} E=>⟨E.s,by have:=E.keep; rwa [hm] at this,E.sh,fun b hb=>by
    rcases E.new b hb with z|z|⟨k,z⟩
    . exact .inl z
    . exact .inr z
    . cases z⟩
   cases e:f ss with
   |bad=>rw[e]at p;exact p
   |ok x outs=>rw[e]at p;exact fun v S' H' Fc' E r=>p v S' H' (gr E) r
   |exc c fs outs=>rw[e]at p;exact fun a C S' H' Fc' E r=>p a C S' H' (gr E) r
theorem A6{f:List Sl->OI}(ok:cY as=[])(h:JAI K cls t as):JE K cls W (nP (spI K cls f) [] W t) (mz f as):=by
 intro Av G S₀ ρ σ S H Q I p;unfold mz at p
 cases e:gZ as ρ with
 |none=>rw[e]at p;exact p.elim
 | some ss=>
   rw[e]at p
   refine h Av G S₀ ρ σ S H _ ss I e fun vs S1 H1 w1 ar=>?_
   show spI K cls f (vs++[]) H1 Q _;rw[List.append_nil];exact rK ok (I.grow w1) ar (p.back w1)
theorem vE{f:List Sl->OI}(hc:cls c=some C)(ok:cY (a ::as)=[])(ha:JA1 K cls ta a)(h:JAI K cls t as):JE K cls W (uv C m (spI K cls f) W ta t) (lW c m f (a ::as)):=by
 intro Av G S₀ ρ σ S H Q I p;unfold lW at p
 dsimp only at p
 split at p
 . rename_i hr;unfold mz at p
   cases e:gZ (a ::as) ρ with
   |none=>rw[e]at p;exact p.elim
   | some ss=>
     rw[e]at p
     have e':=e
     unfold gZ at e';obtain⟨s,e1,e2⟩:=Option.bind_eq_some_iff.mp e';obtain⟨sr,e3,rfl⟩:=Option.map_eq_some_iff.mp e2;rw[e1]at hr
     refine ha Av G S₀ ρ σ S H _ s I e1 fun v S1 H1 w1 r1=>?_
     have I1:=I.grow w1;obtain⟨q,dx,us,rfl,hq,hl⟩:=x5 hc I1 r1 hr
     refine⟨q,dx,us,rfl,hq,hl,?_⟩
     refine h Av G S₀ ρ σ S1 H1 _ sr I1 e3 fun vs S2 H2 w2 ar=>?_
     exact rK (ss:=s ::sr) ok (I1.grow w2) ⟨s,sr,_,vs,rfl,rfl,r1.mono w2.s w2.g,ar⟩ (p.back (w1.trans w2))
 . exact p.elim
theorem CN{f:List Sl->OI}(hc:cls c=some C):JD K cls W (Bd C (spI K cls f) [] (fun _ _ _=>False) lz) (tL c f):=by
 intro Av G S₀ ρ σ S H Q I p;unfold tL at p
 show ∀ x dx,H x=none->H dx=none->dx≠x->_
 intro x dx hx hdx ne
 have gS:∀ a,H a=none->S a=none:=fun a h=>I.sh.free h
 let H1:=upd (upd H dx (.own x)) x (.ins C dx [])
 have h1x:H1 x=some (.ins C dx []):=bF
 have h1d:H1 dx=some (.own x):=by show upd _ x _ dx=_;rw[bD ne,bF]
 have h1o:∀ a,a≠x->a≠dx->H1 a=H a:=fun a n1 n2=>by show upd _ x _ a=_;rw[bD n1,bD n2]
 let Fc:Nat->List Addr:=fun k=>if k=0 then[x,dx]else[]
 have mF:∀ k a,a∈Fc k->k=0 /\ (a=x \/ a=dx):=fun k a h=>by
  have h':a∈(if k=0 then[x,dx]else[]):=h
  split at h'
  . rename_i e;exact⟨e,by simpa using h'⟩
  . cases h'
 have A:BA K cls [.tr true (.ob c [] [])] [.ref x] S H1 Fc:=by
  refine⟨fun b u h=>?_,rfl,fun k s e=>?_,fun j k a h1 h2=>?_,fun k a h=>?_⟩
  . have hb:=I.sh b u h;rw[h1o b (fun z=>by rw[z,hx]at hb;cases hb) (fun z=>by rw[z,hdx]at hb;cases hb)];exact hb
  . cases k with
    | zero=>
      cases e
      refine⟨.ref x,rfl,?_,?_⟩
      . unfold bO
        exact⟨x,C,dx,[],[],rfl,hc,h1x,h1d,rfl,rfl,.nil⟩
      . show[x,dx].Nodup
        simp[Ne.symm ne]
    |succ k=>simp at e
  . rw[(mF j a h1).1,(mF k a h2).1]
  . rcases(mF k a h).2 with z|z
    . subst z;exact⟨⟨_,h1x,rfl⟩,gS _ hx⟩
    . subst z;exact⟨⟨_,h1d,rfl⟩,gS _ hdx⟩
 refine⟨S,_,Fc,A,?_⟩
 have free:∀ a,minus H1 Fc a=none->H a=none:=fun a h=>by
  rcases lO h with z|⟨k,z⟩
  . by_cases n1:a=x
    . rw[n1];exact hx
    . by_cases n2:a=dx
      . rw[n2];exact hdx
      . rw[h1o a n1 n2]at z;exact z
  . rcases(mF k a z).2 with y|y
    . rw[y];exact hx
    . rw[y];exact hdx
 cases e:f [.tr true (.ob c [] [])]with
 |bad=>rw[e]at p;exact p.elim
 |exc c fs outs=>rw[e]at p;exact p.elim
 | ok y outs=>
   rw[e]at p
   cases y with
   | non=>
     cases outs with
     |nil=>exact p.elim
     | cons o outs=>
       cases o with
       |none=>exact p.elim
       | some t=>
         dsimp only at p
         intro v S' H' Fc' E r;unfold Rep at r
         refine⟨r,p (.ref x) S' H' ⟨E.s,fun b u h=>?_,E.sh,fun b h=>?_⟩ ?_⟩
         . have n1:b≠x:=fun z=>by rw[z,hx]at h;cases h
           have n2:b≠dx:=fun z=>by rw[z,hdx]at h;cases h
           refine E.keep b u ?_;rw[i7 fun k z=>?_]
           . exact(h1o b n1 n2).trans h
           . rcases(mF k b z).2 with y|y
             . exact n1 y
             . exact n2 y
         . rcases E.new b h with z|z|⟨k,z⟩
           . exact .inl z
           . refine .inr ?_
             by_cases n1:b=x
             . rw[n1];exact hx
             . by_cases n2:b=dx
               . rw[n2];exact hdx
               . exact(h1o b n1 n2).symm.trans z
           . rcases(mF k b z).2 with y|y
             . rw[y];exact .inr hx
             . rw[y];exact .inr hdx
         . obtain⟨u,eu,ro,nd⟩:=E.out 0 t rfl;cases eu
           exact⟨Fc' 0,ro,nd,fun a ha=>⟨free a (E.live 0 a ha).1,(E.live 0 a ha).2⟩⟩
   |bl b=>exact p.elim
   |int b=>exact p.elim
   |str b=>exact p.elim
   |lst b=>exact p.elim
   |tup b=>exact p.elim
end
end L2.P
namespace L2.E
open PySem PySem.Spec PyProof.Rows L2
noncomputable def ui(wi:TI)(ι:List Nat)(tc:TT)(te:TE):TE:=fun σ H Q=>wi σ H fun J H1=>∀ D,H1 D=none->∃ W:Nat->Nat->List V->Hp->Prop,(∃ m,W 0 m [] (upd H1 D (.lst []))) /\ ∀ i m ys H,W i m ys H ->
 H D=some (.lst ys) /\ ((J.stop i H /\ Q (.ref D) H) \/ (J.go i H /\ ∀ x H',J.yld i H x H'->tc (pick ι σ++[some x]) H' fun b H3=>H3 D=some (.lst ys) /\ if b=true then
   te (pick ι σ++[some x]) H3 fun y H2=>H2 D=some (.lst ys) /\ ys.length<sizeLine /\ ∃ m',m'<m /\ W (i+1) m' (ys++[y]) (upd H2 D (.lst (ys++[y])))else ∃ m',m'<m /\ W (i+1) m' ys H3))
section
variable{X:Cx}{scope:Scope}{cl:List (Str×Addr)}{M:List Str}{ι:List Nat}{x:Str}
theorem zc{elt iter c:Expr}{px pos:Pos}{wi:TI}{tc:TT}{te:TE}(S:oO X scope cl M ι x)(hc:X.calm=true)(hi:PI X (.Name x px) iter wi)(hcd:∀ C s₀ H₀ ex,PT (blk X scope cl (M++[x]) C s₀ H₀ ex) c tc)(he:∀ C s₀ H₀ ex,PE (blk X scope cl (M++[x]) C s₀ H₀ ex) elt te)
  (hs:∀ v,foldedSetIterable iter X.env v=pure v:=by intro _;rfl):PE X (.ListComp elt [⟨.Name x px,iter,[c],0⟩] scope pos) (ui wi ι tc te):=by
 intro pins s σ H Q I h;rw[eval_ListComp];refine wpAny_comprehension_free (use:=none) rfl hs S.clos S.kind (fun y hy hl=>?_) (wpAny_mono (hi pins s σ H _ I h) (fun v s1 h1=>wpAny_mono h1 (fun itv s2 h2=>?_) fun _ _ z=>z) fun _ _ z=>z)
 . have q:=List.all_eq_true.mp S.locs y hy;rw[hl]at q
   simpa using q
 obtain⟨it,fp,tn,J,H2,rfl,I2,T,st2,f2,hW⟩:=h2;have I3:=I2.D0 (ys:=[]) (its:=[]) (t':=s2.toks) .nil (Nat.zero_le _);obtain⟨W,⟨m0,w0⟩,turn⟩:=hW s2.heap.objs.size I2.fresh
 have fpo:∀ b∈fp,b<s2.heap.objs.size:=fun b hb=>let ⟨_,e,_⟩:=T.obj _ _ st2 b hb;Heap.lt_size e
 have f3:∀ b∈fp,pV X pins (upd H2 s2.heap.objs.size (.lst [])) b:=fun b hb=>by
  obtain⟨q0,q⟩:=f2 b hb
  exact⟨by rw[bD (Nat.ne_of_lt (fpo b hb))];exact q0,q⟩
 show wpAny _ _ (newObj (.type "list") _ none) _ _ s2;refine wpAny_newObj_type (wpAny_newFunctionEnv (fun y hy=>?_) (by intro y hy;simp at hy) (fun h₁ hn₁ sb₁=>?_) S.kind)
 . have q:=List.all_eq_true.mp S.nocell y hy
   simpa using q
 have hsz:(s2.heap.push { cls:=.type "list",dict:=none,data:=.seq ([]:List Value).toArray }).objs.size=s2.heap.objs.size+1:=Heap.size_push ..
 have hk₁:∀ b o,(s2.heap.push { cls:=.type "list",dict:=none,data:=.seq ([]:List Value).toArray }).get? b=some o->h₁.get? b=some o:=fun b o e=>
  (sb₁.2 b (Nat.ne_of_lt (Heap.lt_size e))).trans (Heap.get?_push_of_some _ e)
 have J0:=AS (t':=s2.toks+([]:List (Str×Value)).length) S I3 (ex:=fp) (fun b hb=>⟨f3 b hb,Nat.lt_of_lt_of_le (fpo b hb) (by rw[hsz];exact Nat.le_succ _)⟩) hn₁ hk₁
 have old:∀ b∈fp,∀ o,s2.heap.get? b=some o->h₁.get? b=some o:=fun b _ o e=>hk₁ b o (Heap.get?_push_of_some _ e)
 have st₁:tn 0 h₁:=T.keep _ _ _ st2 old
 have loop:codeAny (model X.prog X.w) X.A (.compLoop (.ListComp elt [⟨.Name x px,iter,[c],0⟩] scope pos) 0 (.ref it) (.ref s2.heap.objs.size) (compEnvC scope cl (s2.heap.objs.size+1) X.env))
   (compPost (model X.prog X.w) X.A X.xe none (EP X pins σ Q) (.ref s2.heap.objs.size) (s2.heap.objs.size+1)) { s2 with heap:=h₁,toks:=s2.toks+([]:List (Str×Value)).length }:=by
  rw[hsz]at J0
  refine codeAny_loop rfl (fun n s'=>∃ i H' ys v,Inv (blk X scope cl (M++[x]) (s2.heap.objs.size+1) { s2 with heap:=s2.heap.push { cls:=.type "list",data:=.seq ([]:List Value).toArray },toks:=s2.toks } (upd H2 s2.heap.objs.size (.lst [])) fp) [] (pick ι σ++[v]) H' s' /\ tn i s'.heap /\ (∀ b∈fp,H' b=none) /\ W i n ys H')
   (fun n s' hI=>?_) m0 ⟨0,_,[],none,J0,st₁,fun b hb=>(f3 b hb).1,w0⟩
  obtain⟨i,H',ys,v,J',st',fr',w'⟩:=hI;obtain⟨hD,alt⟩:=turn i n ys H' w'
  have fpY:∀{G:Hp},(∀ b∈fp,G b=none)->∀ b∈fp,pV (blk X scope cl (M++[x]) (s2.heap.objs.size+1) { s2 with heap:=s2.heap.push { cls:=.type "list",data:=.seq ([]:List Value).toArray },toks:=s2.toks } (upd H2 s2.heap.objs.size (.lst [])) fp) [] G b:=fun hG b hb=>
   ⟨hG b hb,(J'.ok.exf b hb).1,J'.ok.exfs b hb,.inl hb,(J'.ok.exf b hb).2,fun p hp=>absurd (show p∈([]:List (Addr×Obj)) from hp) (by simp)⟩
  show wpAny _ _ ((compTurn _ 0 (.ref it) (.ref s2.heap.objs.size) (compEnvC scope cl (s2.heap.objs.size+1) X.env)).onRaise _) _ _ s';refine wpAny_noted (wpAny_noRaise ?_);rw[compTurn_list];refine wpAny_bind (wpAny_standAt (wpAny_bind ?_))
  rcases alt with⟨stop,qn⟩|⟨go,step⟩
  . refine thn (T.done (blk X scope cl (M++[x]) (s2.heap.objs.size+1) _ _ fp) rfl rfl rfl hc i [] s' _ H' _ J' (fpY fr') st' stop) fun r s4 ⟨hr,J4⟩=>?_
    subst hr;refine wpAny_pure ?_;obtain⟨m,hm,_⟩:=id J4.loc
    refine⟨m,hm,fun h' sb=>⟨.ref s2.heap.objs.size,H',yi I3 hsz.symm f3 J4 sb,rfl,qn⟩⟩
  . refine thn (T.item (blk X scope cl (M++[x]) (s2.heap.objs.size+1) _ _ fp) rfl rfl rfl hc i [] s' _ H' _ J' (fpY fr') st' go) fun r s4 ⟨u,hr,h4⟩=>?_
    subst hr;refine wpAny_bind (thn h4 fun _ s5 ⟨z,H5,J5,r5,y5,st5,fr5⟩=>?_)
    have J5':=J5.pinned (fpY fr5) (T.obj _ _ st5)
    have hxN:(M++[x])[M.length]?=some x:=by simp
    refine wpAny_bind ?_;refine wpAny_assign_Name ?_;refine pQ (X:=blk X scope cl (M++[x]) (s2.heap.objs.size+1) _ _ fp) (i:=M.length) (v:=z) J5' S.nd hxN (.inl (lookup_relabel_local S.var)) r5 (fun s6 J6=>?_) (.inr (lookup_relabel_local S.var))
    have hlp:(pick ι σ).length=M.length:=by
     have q:=congrArg List.length S.names;rw[List.length_map,List.length_map]at q;unfold pick;rw[List.length_map,q]
    have hset:(pick ι σ++[v]).set M.length (some z)=pick ι σ++[some z]:=by
     rw[<- hlp,List.set_append_right _ _ (Nat.le_refl _),Nat.sub_self];rfl
    rw[hset]at J6;refine wpAny_bind (wpAny_tests_one (thn (hcd _ _ _ _ _ s6 _ H5 _ J6 (step z H5 y5)) fun b s7 ⟨H7,J7,hD7,q7⟩=>?_))
    cases b with
    | true=>
      rw[if_pos rfl]at q7;refine wpAny_bind (wpAny_bind (thn (he _ _ _ _ _ s7 _ H7 _ J7 q7) fun yv s8 ⟨y,H8,J8,r8,hD8,hz8,m',hm',w8⟩=>?_));refine wpAny_bind (thn (lM (X:=blk X scope cl (M++[x]) (s2.heap.objs.size+1) _ _ fp) _ s8 _ H8 (.ref s2.heap.objs.size) [y] (.ref s2.heap.objs.size) [yv] (fun _ G=>G=upd H8 s2.heap.objs.size (.lst (ys++[y]))) J8 rfl (.cons r8 .nil) ⟨_,_,y,rfl,rfl,hD8,hz8,rfl⟩) fun _ s9 ⟨_,H9,J9,_,e9⟩=>?_);subst e9;refine wpAny_pure (wpAny_pure ⟨rfl,m',hm',i+1,_,_,some z,J9.lC,?_,fun b hb=>?_,w8⟩)
      . exact T.keep _ _ _ st5 fun b hb o e=>(J9.pin (b,o) (List.mem_append_right _ (List.mem_append_right _ (gb hb e)))).1
      . obtain⟨o,e,d⟩:=T.obj _ _ st5 b hb
        exact(J9.pin (b,o) (List.mem_append_right _ (List.mem_append_right _ (gb hb e)))).2.1
    | false=>
      rw[if_neg (by decide)]at q7;obtain⟨m',hm',w8⟩:=q7;refine wpAny_pure ⟨rfl,m',hm',i+1,_,_,some z,J7.lC,?_,fun b hb=>?_,w8⟩
      . exact T.keep _ _ _ st5 fun b hb o e=>(J7.pin (b,o) (List.mem_append_right _ (List.mem_append_right _ (gb hb e)))).1
      . obtain⟨o,e,d⟩:=T.obj _ _ st5 b hb
        exact(J7.pin (b,o) (List.mem_append_right _ (List.mem_append_right _ (gb hb e)))).2.1
 rw[hsz]at *;exact codeAny_compStart_list loop (T.self X.A 0 _ _ _ st₁ loop)
end
theorem zW(its:List Value):slicePick its.toArray none none (some (-1))=its.reverse.toArray:=by
 unfold slicePick
 have hb:sliceBounds none none (some (-1)) its.toArray.size=((its.length:Int) - 1,-1,-1):=by simp[sliceBounds]
 rw[hb]
 congr 1
 have hr:sliceRange ((its.length:Int) - 1) (-1) (-1)=(List.range its.length).map fun i=>its.length - 1 - i:=by
  unfold sliceRange;rw[if_neg (by decide)]
  have hc:(if((its.length:Int) - 1) > -1 then(((its.length:Int) - 1) - -1 - -1 - 1)/(- -1)else 0).toNat=its.length:=by
   split
   . rw[show(- -1:Int)=1 by decide,Int.ediv_one];omega
   . omega
  dsimp only;rw[hc]
  refine List.map_congr_left fun k hk=>?_
  have:=List.mem_range.mp hk;omega
 rw[hr];apply List.ext_getElem?;intro n;rw[List.filterMap_map]
 have hall:∀ m,m<=its.length->List.filterMap ((fun x=>its.toArray[x]?) ∘ fun i=>its.length - 1 - i) (List.range m)=(its.reverse).take m:=by
  intro m
  induction m with
  |zero=>intro _;simp
  | succ m ih=>
    intro hm;rw[List.range_succ,List.filterMap_append,ih (by omega)]
    have h1:its.length - 1 - m<its.length:=by omega
    have h2:m<its.reverse.length:=by rw[List.length_reverse];omega
    rw[List.take_succ_eq_append_getElem h2]
    congr 1
    simp[h1]
 rw[hall its.length (Nat.le_refl _),List.take_of_length_le (by simp)]
theorem vq:∀{xs:List V} {us:List Value},Vals xs us->Vals xs.reverse us.reverse
 |_,_,.nil=>.nil
 | _,_,.cons r t=>by
   rw[List.reverse_cons,List.reverse_cons]
   exact(vq t).append (.cons r .nil)
section
variable{X:Cx}{e st:Expr}{te ts:TE}{pos p2:Pos}
noncomputable def DM(K:PySem.W.Frag)(te ts:TE):TE:=fun σ H Q=>te σ H fun x H1=>ts σ H1 fun k H2=>k=.int (-1) /\ ∃ a xs,x=.ref a /\ SqL K H2 a xs /\ ∀ p,H2 p=none->Q (.ref p) (upd H2 p (.lst xs.reverse))
theorem Fo(he:PE X e te)(hk:PE X st ts):PE X (.Subscript e (.Slice none none (some st) p2) pos) (DM X.K te ts):=by
 intro pins s σ H Q I h;refine Subscript_ (thn (he pins s σ H _ I h) fun v s1 ⟨x,H1,I1,r1,q1⟩=>?_);refine wpAny_Slice ?_;rw[evalPart_none];refine wpAny_pure (wpAny_pure ?_);rw[evalPart_some]
 refine thn (hk pins s1 σ H1 _ I1 q1) fun u s3 ⟨k,H3,I3,r3,q3⟩=>?_
 obtain⟨rfl,a,xs,rfl,hq,q⟩:=q3;obtain⟨t,rfl⟩:=r3;cases r1
 have I4:Inv X pins σ H3 { s3 with heap:=s3.heap.push { cls:=.type "slice",data:=.fields #[.none,.none,.int (-1) t] } }:=I3.kept (t':=s3.toks) fun b ob q=>Heap.get?_push_of_some _ q
 obtain⟨its,r,ht,hz⟩:=I4.list hq;have hlen:=r.length;show wpAny (model X.prog X.w) X.A (subscriptTail e (.Slice none none (some st) p2) (.ref a) (.ref s3.heap.objs.size)) (EP X pins σ Q) X.xe { s3 with heap:=s3.heap.push { cls:=.type "slice",data:=.fields #[.none,.none,.int (-1) t] } };refine tail_any (ops:=[.ref a,.ref s3.heap.objs.size]) ht.isList.typeIs slot_list_getitem.lookup ?_ (by with_unfolding_all rfl);refine wpAny_getItem_list_slice ht.isList (Heap.IsSliceOf.new ..) .none .none (.int (-1) t) (by decide) ?_ (by rw[List.size_toArray]<;>omega);rw[zW]
 refine⟨.ref _,_,I4.laid (t':=s3.toks) (o:=.lst xs.reverse) (fun b ob q=>Heap.get?_push_of_some _ q) (Nat.le_refl _) ?_,rfl,q _ (I4.hok.fresh (Nat.le_refl _))⟩
 refine⟨by rw[List.length_reverse];exact hz,its.reverse,0,vq r,Heap.get?_push_size _ rfl⟩
end
end L2.E
namespace L2.P
open PySem PySem.Spec PyProof.Rows L2 L2.E
section
variable{K:PySem.W.Frag}{cls:String->Option Addr}{W:XW}{Av G S₀ S S' H H' B B':Hp}{ρ:aj}{σ:St}{Q:VK}
theorem zX{ml me:aj->OE}{ι:List Nat}(hι:ι.Nodup)(hl:JE K cls W tl ml)(he:JE K cls (fun _ _ _ _=>False) te me):JE K cls W (x4 (DZ K tl) ι te) (sN ml ι me):=by
 intro Av G S₀ ρ σ S H Q I p
 refine hl.go I p fun r v S1 H1 I1 w1 r1 p1=>?_
 have ra:=r1.rd I1.sh
 cases e:r.pv with
 | tup xs=>
   rw[e]at p1 ra;obtain⟨a,vs,rfl,hq,hr⟩:=nR ra
   refine⟨a,rfl,⟨vs,aM.tup I1.sh hq⟩,?_⟩
   dsimp only at p1
   cases em:fu me (e6 ι ρ) xs with
   |exc c fs=>rw[em]at p1;exact p1.elim
   |bad=>rw[em]at p1;exact p1.elim
   | ok ys=>
     rw[em]at p1;simp only[noX]at p1;split at p1
     . rename_i hlen
       refine tj hι he I1 em hlen (fun k H' x g hx=>?_) (fun H' g=>⟨vs,aM.tup (I1.sh.trans g) hq,by rw[hr.length];exact Nat.le_refl _⟩) fun D S' H' w nD sD ⟨us,hD,rr⟩=>p1 (.ref D) S' H' w ⟨D,us,rfl,nD,sD,hD,rr⟩
       obtain⟨u,hu,ru⟩:=hr.get hx
       refine⟨⟨vs,u,aM.tup (I1.sh.trans g) hq,hu⟩,?_⟩
       rintro v' H2 ⟨rfl,hv⟩
       have:=hv vs (aM.tup (I1.sh.trans g) hq);rw[hu]at this;cases this
       exact⟨rfl,ru⟩
     . exact p1.elim
 |_=>rw[e]at p1;exact p1.elim
theorem we{J:It}{ι:List Nat}{mc:aj->OT}{me:aj->OE}{xs ys:List PV}(hι:ι.Nodup)(hc:JT K cls (fun _ _ _ _=>False) tc mc)(he:JE K cls (fun _ _ _ _=>False) te me)(I:SR K cls Av G S₀ ρ σ S H)(hy:gX mc me (e6 ι ρ) xs=.ok ys)(hl:ys.length<=lim)
  (go:∀ k H' x,aM H H'->xs[k]?=some x->J.go k H' /\ ∀ v H2,J.yld k H' v H2->H2=H' /\ Rep K S x v) (stop:∀ H',aM H H'->J.stop xs.length H')
  (hQ:∀ D S' H',bx S H S' H'->H D=none->S' D=none->(∃ us,H' D=some (.lst us) /\ bZ K S' ys us)->Q (.ref D) H'):
  ∀ D,H D=none->∃ W:Nat->Nat->List V->Hp->Prop,(∃ m,W 0 m [] (upd H D (.lst []))) /\ ∀ i m us H',W i m us H' ->
    H' D=some (.lst us) /\ ((J.stop i H' /\ Q (.ref D) H') \/ (J.go i H' /\ ∀ x H2,J.yld i H' x H2->tc (L2.E.pick ι σ++[some x]) H2 fun b H4=>H4 D=some (.lst us) /\ if b=true then te (L2.E.pick ι σ++[some x]) H4 fun y H3=>H3 D=some (.lst us) /\ us.length<sizeLine /\ ∃ m',m'<m /\ W (i+1) m' (us++[y]) (upd H3 D (.lst (us++[y])))else ∃ m',m'<m /\ W (i+1) m' us H4)):=by
 intro D nD
 refine⟨fun k m us H'=>m+k=xs.length /\ H' D=some (.lst us) /\ ∃ S' zs ws,aM S S' /\ aM H H' /\ aM S' H' /\ (∀ b,S' b≠none->S b≠none \/ (H b=none /\ b≠D)) /\ bZ K S' zs us /\ gX mc me (e6 ι ρ) (xs.drop k)=.ok ws /\ ys=zs++ws,
  ⟨xs.length,rfl,bF,S,[],ys,aM.refl _,aM.new nD,I.sh.trans (aM.new nD),fun b z=>.inl z,.nil,hy,rfl⟩,?_⟩
 rintro k m us H' ⟨hm,hD,S',zs,ws,s1,g1,sh1,n1,r1,e1,rfl⟩
 refine⟨hD,?_⟩
 have hSD:S' D=none:=by
  cases q:S' D with
  |none=>rfl
  | some o=>
    rcases n1 D (by rw[q];simp)with z|⟨_,z⟩
    . exact absurd (I.sh.free nD) z
    . exact absurd rfl z
 by_cases hk:k<xs.length
 . refine .inr ?_
   have hx:xs[k]?=some xs[k]:=by simp[hk]
   obtain⟨hgo,hyld⟩:=go k H' xs[k] g1 hx
   refine⟨hgo,fun v H2 hv=>?_⟩
   obtain⟨rfl,rv⟩:=hyld v H2 hv;rw[List.drop_eq_getElem_cons hk]at e1
   have I1:SR K cls Av G S₀ ρ σ S' H2:=I.grow ⟨s1,g1,sh1,fun b z=>by
    rcases n1 b z with z|⟨z,_⟩
    . exact .inl z
    . exact .inr z⟩
   have Ip:=I1.pick hι (Rep.mono s1 rv);refine hc _ G S₀ _ _ S' H2 _ Ip ?_;unfold gX at e1;split at e1
   . rename_i ec;rw[ec];intro S2 H3 w2
     have hSD2:S2 D=none:=by
      cases q:S2 D with
      |none=>rfl
      | some o=>
        rcases w2.new D (by rw[q];simp)with z|z
        . exact absurd hSD z
        . rw[hD]at z;cases z
     refine⟨w2.g _ _ hD,?_⟩
     rw[if_pos rfl];refine he _ G S₀ _ _ S2 H3 _ (Ip.grow w2) ?_
     cases em:me (e6 ι ρ++[some (.sh xs[k])])with
     |exc c fs=>rw[em]at e1;cases e1
     |bad=>rw[em]at e1;cases e1
     | ok r=>
       rw[em]at e1;simp only[OE.fh]at e1
       cases es:jx r with
       |none=>rw[es]at e1;cases e1
       | some y=>
         rw[es]at e1
         dsimp only at e1
         cases e2:gX mc me (e6 ι ρ) (xs.drop (k+1))with
         |exc c fs=>rw[e2]at e1;cases e1
         |bad=>rw[e2]at e1;cases e1
         | ok zs'=>
           rw[e2]at e1;simp only[OA.fh]at e1;cases e1;intro u S4 H4 w4 r4;obtain⟨S3,w3,s3,ru⟩:=r4.share w4 es
           have hl2:(zs++y ::zs').length<=lim:=hl
           have w5:=w2.trans w3
           have hSD3:S3 D=none:=by
            cases q:S3 D with
            |none=>rfl
            | some o=>
              rcases w3.new D (by rw[q];simp)with z|z
              . exact absurd hSD2 z
              . rw[w2.g _ _ hD]at z;cases z
           refine⟨w5.g _ _ hD,?_,m - 1,by omega,by omega,bF,S3,zs++[y],zs',s1.trans w5.s,(g1.trans w5.g).upd nD,w3.sh.upd hSD3,fun b z=>?_,(r1.mono w5.s).append (.cons ru .nil),e2,by simp⟩
           . rw[r1.length,<- Bh];rw[List.length_append,List.length_cons]at hl2;omega
           . rcases w5.new b z with z|z
             . exact n1 b z
             . refine .inr ⟨g1.free z,fun e=>?_⟩;rw[e,hD]at z;cases z
   . rename_i ec;rw[ec];intro S2 H3 w2
     refine⟨w2.g _ _ hD,?_⟩
     rw[if_neg (by decide)]
     refine⟨m - 1,by omega,by omega,w2.g _ _ hD,S2,zs,ws,s1.trans w2.s,g1.trans w2.g,w2.sh,fun b z=>?_,r1.mono w2.s,e1,rfl⟩
     rcases w2.new b z with z|z
     . exact n1 b z
     . refine .inr ⟨g1.free z,fun e=>?_⟩;rw[e,hD]at z;cases z
   . cases e1
 . have hk':k=xs.length:=by omega
   subst hk';refine .inl ⟨stop H' g1,?_⟩;rw[List.drop_length]at e1;cases e1
   exact hQ D S' H' ⟨s1,g1,sh1,fun b z=>by
    rcases n1 b z with z|⟨z,_⟩
    . exact .inl z
    . exact .inr z⟩ nD hSD ⟨us,hD,by rw[List.append_nil];exact r1⟩
theorem xm{ml me:aj->OE}{mc:aj->OT}{ι:List Nat}(hι:ι.Nodup)(hl:JE K cls W tl ml)(hc:JT K cls (fun _ _ _ _=>False) tc mc)(he:JE K cls (fun _ _ _ _=>False) te me):JE K cls W (ui (wG K tl) ι tc te) (rp ml ι mc me):=by
 intro Av G S₀ ρ σ S H Q I p
 refine hl.go I p fun r v S1 H1 I1 w1 r1 p1=>?_
 have ra:=r1.rd I1.sh
 cases e:r.pv with
 | lst xs=>
   rw[e]at p1 ra;obtain⟨a,vs,rfl,hq,hr⟩:=iF ra
   refine⟨a,rfl,⟨vs,hq⟩,?_⟩
   dsimp only at p1
   cases em:gX mc me (e6 ι ρ) xs with
   |exc c fs=>rw[em]at p1;exact p1.elim
   |bad=>rw[em]at p1;exact p1.elim
   | ok ys=>
     rw[em]at p1;simp only[noX]at p1;split at p1
     . rename_i hlen
       refine we hι hc he I1 em hlen (fun k H' x g hx=>?_) (fun H' g=>⟨vs,aM.seq g hq,by rw[hr.length];exact Nat.le_refl _⟩) fun D S' H' w nD sD ⟨us,hD,rr⟩=>p1 (.ref D) S' H' w ⟨D,us,rfl,nD,sD,hD,rr⟩
       obtain⟨u,hu,ru⟩:=hr.get hx
       refine⟨⟨vs,u,aM.seq g hq,hu⟩,?_⟩
       rintro v' H2 ⟨rfl,hv⟩
       have:=hv vs (aM.seq g hq);rw[hu]at this;cases this
       exact⟨rfl,ru⟩
     . exact p1.elim
 |_=>rw[e]at p1;exact p1.elim
theorem D9{ma ms:aj->OE}(ha:JE K cls W ta ma)(hs:JE K cls W ts ms):JE K cls W (DM K ta ts) (Cd ma ms):=by
 intro Av G S₀ ρ σ S H Q I p
 refine ha.go I p fun a v S1 H1 I1 w1 r1 p1=>hs.go I1 p1 fun k u S2 H2 I2 w2 r2 p2=>?_
 have ra:=(r1.rd I1.sh).mono w2.s w2.g;have rk:=r2.rd I2.sh;split at p2
 . rename_i xs n ea ek;split at p2
   . rename_i hn;rw[ea]at ra;rw[ek]at rk;obtain⟨q,vs,rfl,hq,hr⟩:=iF ra
     refine⟨by rw[dI rk,hn],q,vs,rfl,hq,fun l hl=>?_⟩
     refine p2 _ S2 _ (bx.heap I2.sh hl) ⟨l,_,rfl,hl,I2.sh.free hl,bF,?_⟩;clear ea p2 hq ra
     induction xs generalizing vs with
     |nil=>rw[hr.nil_inv];exact .nil
     | cons x xs ih=>
       obtain⟨y,t,rfl,h1,h2⟩:=hr.cons_inv;rw[List.reverse_cons,List.reverse_cons]
       exact(ih _ h2).append (.cons h1 .nil)
   . exact p2.elim
 . exact p2.elim
end
end L2.P
namespace L2.E
open PySem PySem.Spec PyProof.Rows L2
theorem yN{X:Cx}{cl:List (Str×Addr)}(S:oO X scope cl M ι x)(hc:X.calm=true)(hi:QI X (.Name x px) iter wi)(hcd:∀ C s₀ H₀ ex,QT (blk X scope cl (M++[x]) C s₀ H₀ ex) c tc)(he:∀ C s₀ H₀ ex,QE (blk X scope cl (M++[x]) C s₀ H₀ ex) elt te)
  (hs:∀ v,foldedSetIterable iter X.env v=pure v:=by intro _;rfl):QE X (.ListComp elt [⟨.Name x px,iter,[c],0⟩] scope pos) (ui wi ι tc te):=⟨zc S hc hi.out (fun a b c d=>(hcd a b c d).out) (fun a b c d=>(he a b c d).out) hs⟩
theorem Ez{X:Cx}{e st:Expr}{te ts:TE}{pos p2:Pos}(he:QE X e te)(hk:QE X st ts):QE X (.Subscript e (.Slice none none (some st) p2) pos) (DM X.K te ts):=⟨Fo he.out hk.out⟩
noncomputable def F5(p:Int×V)(e:DictEntry):Prop:=e.hash=hashInt p.1 /\ (∃ t,e.key=.int p.1 t) /\ RelV p.2 e.val
noncomputable def DKI(K:PySem.W.Frag)(d:Addr)(kvs:List (Int×V)):Prop:=(d==sysModules)=false /\ (kvs.map (·.1)).Nodup /\ ∃(es:List DictEntry) (ep:Nat),K.lookup d=some ⟨.type "dict",none,.dict es.toArray ep,#[]⟩ /\ Paired F5 kvs es
theorem vB{prog:Program}{w:World}:∀{kvs:List (Int×V)} {es:List DictEntry},Paired F5 kvs es ->
  ∃ us:List (Int×Value),us.map (·.1)=kvs.map (·.1) /\ Pairs (intKind prog w) es us /\ (∀ e∈es,∃ k,(intKind prog w).is k e.key=true /\ e.hash=(intKind prog w).hash k) /\
    ∀ n,match kvs.lookup n with
      |some v=>∃ u,valueAt us n=some u /\ RelV v u
      |none=>valueAt us n=none
 |_,_,.nil=>⟨[],rfl,.nil,fun e he=>(nomatch he),fun n=>rfl⟩
 | (n,v) ::kvs,e ::es,.cons h t=>by
   obtain⟨us,h1,h2,h3,h4⟩:=vB (prog:=prog) (w:=w) t;obtain⟨k1,⟨tk,k2⟩,k3⟩:=h
   have hk:(intKind prog w).is n e.key=true:=by rw[k2];show Value.isInt n (.int n tk)=true;simp[Value.isInt]
   refine⟨(n,e.val) ::us,by simp[h1],.cons hk rfl h2,fun e' he'=>?_,fun m=>?_⟩
   . rcases List.mem_cons.mp he' with z|z
     . subst z;exact⟨n,hk,k1⟩
     . exact h3 e' z
   . have:=h4 m
     by_cases hm:m=n
     . subst hm;simp[List.lookup,valueAt];exact k3
     . have hb:(m==n)=false:=by simpa using hm
       have hn:¬ n=m:=fun z=>hm z.symm
       simp only[List.lookup,hb]
       unfold valueAt at this ⊢
       simp only[List.find?_cons,hn,decide_false];exact this
theorem DKI.at{X:Cx}{pins:List (Addr×Obj)}{σ:St}{H:Hp}{s:Shared}{d:Addr}{kvs:List (Int×V)}(D:DKI X.K d kvs)(I:Inv X pins σ H s):
  ∃ us:List (Int × Value),s.heap.DictOf (intKind X.prog X.w) d us /\ ∀ n,match kvs.lookup n with
     |some v=>∃ u,valueAt us n=some u /\ RelV v u
     |none=>valueAt us n=none:=by
 obtain⟨_,nd,es,ep,hk,pr⟩:=D;obtain⟨us,h1,h2,h3,h4⟩:=vB (prog:=X.prog) (w:=X.w) pr
 exact⟨us,⟨_,es.toArray,ep,I.kIn d _ hk,⟨rfl,rfl,rfl⟩,rfl,fun e he=>h3 e (by simpa using he),by simpa using h2,by rw[h1];exact nd⟩,h4⟩
section
variable{X:Cx}
noncomputable def A7(K:PySem.W.Frag)(td te:TE):TE:=fun σ H Q=>td σ H fun x H1=>∃ d kvs,x=.ref d /\ DKI K d kvs /\ te σ H1 fun y H2=>∃ n,y=.int n /\ Q ((kvs.lookup n).getD .non) H2
theorem vO{o e:Expr}{td te:TE}{apos cpos:Pos}(ho:QE X o td)(he:QE X e te)(hbase:attributeBase o "get" X.env (eval o X.env)=eval o X.env:=by rfl)
  (few:((backTo cpos (starEach [e] X.env)).all (fun x=>!x.1)&&(backToKw cpos (keywordEach [] X.env)).all (fun x=>x.1.isSome)&&decide (([e]:List Expr).length+([]:List Keyword).length+(if([]:List Keyword).isEmpty then 0 else 1)<30))=true:=by rfl)
  (line:(apos.endLine==cpos.line)=true:=by rfl) (trees:backTo cpos (starEach [e] X.env)=[(false,eval e X.env)]:=by rfl):QE X (.Call (.Attribute o "get" apos) [e] [] cpos) (A7 X.K td te):=⟨by
 intro pins s σ H Q I h;refine wpAny_Call_method hbase few line PySem.F.plainAttrs_dict PySem.F.slot_dict_get PySem.F.type_dict_get (thn (ho.out pins s σ H _ I h) fun u s1 ⟨x,H1,I1,rx,d,kvs,ex,D,q1⟩=>?_);subst ex
 obtain rfl:u=Value.ref d:=rx
 obtain⟨us,dd,hv⟩:=D.at I1;obtain⟨_,nd,es,ep,hk,pr⟩:=id D
 refine⟨dd.typeIs,fun b hb=>by cases hb;exact⟨_,I1.kIn d _ hk,rfl⟩,?_⟩
 rw[trees];refine Calls.callWith_builtin rfl (Calls.evalArgs_plain (Calls.spliced_cons (thn (he.out pins s1 σ H1 _ I1 q1) fun iv s2 ⟨y,H2,I2,ry,n,ey,q2⟩=>Calls.spliced_nil ?_)));subst ey;obtain⟨t,rfl⟩:=ry;obtain⟨us2,dd2,hv2⟩:=D.at I2;refine call_meetsIn PySem.F.slot_dict_get dd2.typeIs PySem.F.entry_dict_get (PySem.F.args_dict_get_2 _ _) (meets_dict_get (intKind X.prog X.w) d (k:=n) (key:=.int n t) (by show Value.isInt n (.int n t)=true;simp[Value.isInt]) D.1) ⟨_,dd2.mapOf,⟨_,H2,I2.tok _,?_,q2⟩⟩;have h2:=hv2 n
 cases q:kvs.lookup n with
 |none=>rw[q]at h2;rw[h2];rfl
 |some v=>rw[q]at h2;obtain⟨u,e,r⟩:=h2;rw[e];exact r⟩
end
end L2.E
namespace L2.P
open PySem PySem.Spec PyProof.Rows L2 L2.E
section
variable{K:PySem.W.Frag}{cls:String->Option Addr}{W:XW}{Av G S₀ S S' H H' B B':Hp}{ρ:aj}{σ:St}{Q:VK}
noncomputable def DKP(K:PySem.W.Frag)(d:Addr)(kvs:List (Int×PV)):Prop:=∃ us,DKI K d us /\ Paired (fun (p:Int×PV) (q:Int×V)=>p.1=q.1 /\ ∀ S,Rep K S p.2 q.2) kvs us
theorem DKP.look{d:Addr}:∀{kvs:List (Int×PV)} {us:List (Int×V)},Paired (fun (p:Int×PV) (q:Int×V)=>p.1=q.1 /\ ∀ S,Rep K S p.2 q.2) kvs us->∀ n,match kvs.lookup n with
  |some x=>∃ v,us.lookup n=some v /\ ∀ S,Rep K S x v
  |none=>us.lookup n=none
 |_,_,.nil,n=>rfl
 | (k,x) ::kvs,(k',v) ::us,.cons h t,n=>by
   obtain⟨rfl,hr⟩:=h;have:=DKP.look (d:=d) t n
   by_cases hm:n=k
   . subst hm;simp[List.lookup];exact hr
   . have hb:(n==k)=false:=by simpa using hm
     simp only[List.lookup,hb];exact this
theorem vi{d:Addr}{kvs:List (Int×PV)}{ta:TE}{ma:aj->OE}(D:DKP K d kvs)(ha:JE K cls W ta ma):JE K cls W (A7 K (tC (.ref d)) ta) (mUn (gu kvs) ma):=by
 intro Av G S₀ ρ σ S H Q I p;obtain⟨us,D1,pr⟩:=D
 refine⟨d,us,rfl,D1,?_⟩
 refine ha.go I p fun a v S1 H1 I1 w1 r1 p1=>?_
 have ra:=r1.rd I1.sh
 cases e:a.pv with
 | int n=>
   rw[e]at p1 ra;have:=DKP.look (d:=d) pr n;simp only[gu,oE]at p1
   refine⟨n,dI ra,?_⟩
   cases q:kvs.lookup n with
   | none=>
     rw[q]at p1 this;rw[this];exact p1 _ S1 H1 (bx.refl I1.sh) (by show Rep K S1 _ _;unfold Rep;rfl)
   | some x=>
     rw[q]at p1 this;obtain⟨u,eu,hr⟩:=this;rw[eu];exact p1 _ S1 H1 (bx.refl I1.sh) (hr S1)
 |_=>rw[e]at p1;exact p1.elim
end
end L2.P
namespace L2.E
open PySem PySem.Spec PyProof.Rows L2
end L2.E
namespace L2.P
open PySem PySem.Spec PyProof.Rows L2 L2.E
end L2.P
namespace L2.P
open PySem
end L2.P
namespace L2.P
open PySem PySem.Spec PyProof.Rows L2 L2.E
end L2.P
namespace L2.P
open PySem
end L2.P
namespace L2
open PySem PySem.Spec PyProof.Rows
end L2
namespace L2.P
open PySem PySem.Spec PyProof.Rows L2 L2.E
end L2.P
namespace HT
open PySem PyProof.Rows
end HT
namespace L2
open PySem PySem.Spec PyProof.Rows
end L2
namespace L2.P
open PySem PySem.Spec PyProof.Rows L2 L2.E
end L2.P
namespace HT
open PySem PyProof.Rows
open AutoSeq1 (wpAny_loadPart')
end HT
namespace L2
open PySem PySem.Spec PyProof.Rows
end L2
namespace L2.P
open PySem PySem.Spec PyProof.Rows L2 L2.E
end L2.P
namespace L2.P
open PySem
noncomputable def kD(kvs:List (Int×PV))(a b:RV):OE:=match a.pv,b with
 |.int n,.sh d=>.ok (.sh ((kvs.lookup n).getD d))
 |_,_=>.bad
noncomputable def nY(kvs:List (Int×PV))(ma mb:aj->OE):aj->OE:=fun ρ=>(ma ρ).bind fun a=>(mb ρ).bind fun b=>kD kvs a b
@[simp] theorem FJ(kvs:List (Int×PV))(ma mb:aj->OE)(ρ:aj):nY kvs ma mb ρ=(ma ρ).bind fun a=>(mb ρ).bind fun b=>kD kvs a b:=rfl
noncomputable def ng(i:Nat)(mp:MP)(me:aj->OE):aj->OS:=fun ρ=>xa i mp ρ fun u put=>match u with
 | .ol ts=>(me ρ).cq ρ fun r=>(match r with
   |.fr ys=>if ts.length+ys.length<=lim then .nx (put (.ol (ts++ys.map .sh)))else .bad
   |.sh (.lst ys)=>if ts.length+ys.length<=lim then .nx (put (.ol (ts++ys.map .sh)))else .bad
   |_=>.bad)
 |_=>.bad
end L2.P
namespace L2
open PySem PySem.Spec PyProof.Rows
end L2
namespace L2.E
open PySem PySem.Spec PyProof.Rows L2
end L2.E
namespace L2.P
open PySem PySem.Spec PyProof.Rows L2 L2.E
end L2.P
namespace L2.E
open PySem PySem.Spec PyProof.Rows L2
section
variable{X:Cx}{o i:Expr}{td ty:TE}{pos:Pos}
theorem B4(hu:X.A.units+1<cLine)(ho:QE X o td)(hi:QE X i ty)(hs:D2 i):QE X (.Subscript o i pos) (wt td ty):=⟨Cq hu ho.out hi.out hs⟩
structure QPs(X:Cx)(pos:Pos)(keys:List (Option Expr))(values:List Expr)(trs:List (TE×TE)):Prop where
 out:PPs X pos keys values trs
theorem uG:QPs X pos [] [] []:=⟨CB⟩
theorem g9{ks:List (Option Expr)}{trs:List (TE×TE)}(hk:QE X k tk)(hv:QE X v tv)(hr:QPs X pos ks vs trs):QPs X pos (some k ::ks) (v ::vs) ((tk,tv) ::trs):=⟨A0 hk.out hv.out hr.out⟩
theorem u6{keys:List (Option Expr)}{values:List Expr}{trs:List (TE×TE)}(h:QPs X pos keys values trs)(hall:keys.all (·.isSome)=true:=by rfl)(hl:keys.length=values.length:=by rfl)(h0:keys≠[]:=by intro z;cases z)(h15:keys.length<=15:=by decide):QE X (.Dict keys values pos) (vk trs):=⟨CA h.out hall hl h0 h15⟩
end
end L2.E
namespace L2.P
open PySem PySem.Spec PyProof.Rows L2 L2.E
section
variable{K:PySem.W.Frag}{cls:String->Option Addr}{W:XW}{S H:Hp}
theorem wx(kvs:List (Int×Int))(σ:St):∀(H:Hp) (R:List (V×V)->Hp->Prop),R (kvs.map fun p=>(.int p.1,.int p.2)) H->pY (kvs.map fun p=>(tC (.int p.1),tC (.int p.2))) σ H R:=by
 induction kvs with
 |nil=>intro H R h;exact h
 |cons p kvs ih=>intro H R h;exact ih H _ h
theorem tq(more:List (Key×V)):∀ kvs:List (Key×V),((kvs++more).map (·.1)).Nodup->m6 kvs more=kvs++more:=by
 induction more with
 |nil=>intro kvs _;simp[m6]
 | cons p more ih=>
   intro kvs h
   have hn:kr kvs p.1=none:=by
    unfold kr;rw[Option.map_eq_none_iff,List.find?_eq_none];intro q hq e
    have e':q.1=p.1:=of_decide_eq_true e
    rw[List.map_append,List.nodup_append]at h;exact h.2.2 q.1 (List.mem_map_of_mem hq) p.1 (by simp) e'
   show m6 (putK kvs p.1 p.2) more=_;rw[Bq _ hn,ih _ (by simpa using h)];simp
theorem vz.look{kvs:List (Int×PV)}{us:List (Key×V)}(h:vz K S kvs us)(n:Int):match kvs.lookup n with
  |some x=>∃ v,kr us (Sum.inl n:Key)=some v /\ Rep K S x v
  |none=>kr us (Sum.inl n:Key)=none:=by
 induction h with
 |nil=>rfl
 | @cons p q ps qs h t ih=>
   obtain⟨h1,h2⟩:=h;obtain⟨k,x⟩:=p;obtain⟨k',v⟩:=q
   dsimp only at h1 h2
   subst h1
   by_cases hm:n=k
   . subst hm;simp[List.lookup,kr];exact h2
   . have hb:(n==k)=false:=by simpa using hm
     have hd:decide ((Sum.inl k:Key)=Sum.inl n)=false:=decide_eq_false fun z=>hm (Sum.inl.inj z).symm
     simp only[List.lookup,hb]
     have e:kr ((Sum.inl k,v) ::qs) (Sum.inl n:Key)=kr qs (Sum.inl n):=by
      unfold kr;rw[List.find?_cons,hd]
     rw[e];exact ih
end
end L2.P
namespace L2.E
open PySem PySem.Spec PyProof.Rows L2
end L2.E
namespace L2.P
open PySem PySem.Spec PyProof.Rows L2 L2.E
end L2.P
namespace L2.E
open PySem PySem.Spec PyProof.Rows L2
end L2.E
namespace L2.P
open PySem PySem.Spec PyProof.Rows L2 L2.E
end L2.P
namespace L2.E
open PySem PySem.Spec PyProof.Rows L2
theorem u2(l:Addr)(items:Array Value)(n:Nat)(b:Addr)(items2:Array Value)(n2:Nat)(dd2:Option Addr)(sl2:Array (Option Value))(hc0:¬(!items.isEmpty&&Builtin.List.listTooLong (items.size+items2.size))=true)(hc1:items.size<=sizeLine)(hs2:items.size+items2.size<=sizeLine+1):
  Meets (Builtin.«list.extend» ⟨[.ref l,.ref b],[]⟩) (fun _ R s=>s.heap.get? l=some { cls:=.type "list",dict:=none,data:=.seq items n,slots:=#[] } /\ s.heap.get? b=some { cls:=.type "list",dict:=dd2,data:=.seq items2 n2,slots:=sl2 } /\ R (.ok (.ret Value.none)) { s with heap:=s.heap.update l (Obj.mapSeq fun x=>x++items2),toks:=s.toks }):=
 .of_wp fun prog w A R s h=>by
  obtain⟨hp,g,d,tk,os⟩:=s;obtain⟨hl,hb,h⟩:=h;have f1:=AutoSeq1.idx_int;have f2:=AutoSeq1.sub_tuple_tuple;have f3:=AutoSeq1.sub_list_list;have f4:=AutoSeq1.sub_tuple_list;have f5:=AutoSeq1.sub_list_tuple
  have hz':(items++items2).size<=sizeLine+1:=by rw[Array.size_append];exact hs2
  wp_walk using (wpAny_updateSeq hl rfl (hz:=hc1) (_hz':=hz')),wpAny_loadPart' hl,wpAny_loadPart' hb;exact⟨_,rfl,h⟩
noncomputable def vp(K:PySem.W.Frag):V->List V->Hp->VK->Prop:=fun x vs H Q=>∃ l b xs zs,x=.ref l /\ vs=[.ref b] /\ H l=some (.lst xs) /\ SqL K H b zs /\ xs.length+zs.length<=sizeLine /\ Q .non (upd H l (.lst (xs++zs)))
theorem xr{X:Cx}:MtM X "list.extend" (vp X.K):=by
 intro pins s σ H x vs v us Q I rx rv h;obtain⟨l,b,xs,zs,rfl,rfl,hH,hB,hz,q⟩:=h;cases rx;obtain⟨u,rfl,ru⟩:=rv.one;cases ru;obtain⟨z,its,n,r,hl,e⟩:=I.Fe hH;obtain⟨its2,r2,pl2,z2⟩:=I.list hB;obtain⟨⟨cls2,dd2,data2,sl2⟩,ho2,hc2,n2,hd2⟩:=pl2.isList;simp only at hc2 hd2;subst hc2 hd2;have hl2:=r2.length
 have hsz:its.toArray.size+its2.toArray.size<=sizeLine:=by rw[List.size_toArray,List.size_toArray];omega
 have hlong:¬ (!its.toArray.isEmpty&&Builtin.List.listTooLong (its.toArray.size+its2.toArray.size))=true:=by
  rw[zI hsz,Bool.and_false];exact Bool.false_ne_true
 refine call_meets F.slot_list_extend ⟨_,e,rfl⟩ F.entry_list_extend (F.args_list_extend_2 _ _)
  (u2 l its.toArray n b its2.toArray n2 dd2 sl2 hlong (by rw[List.size_toArray];omega) (by omega)) ⟨e,ho2,?_⟩
 refine⟨.non,_,I.E6 (its':=its++its2) hH e (by simp) (r.append r2) ?_,rfl,q⟩
 rw[List.length_append];omega
end L2.E
namespace L2.P
open PySem PySem.Spec PyProof.Rows L2 L2.E
section
variable{K:PySem.W.Frag}{cls:String->Option Addr}{W:XW}{Av G S₀ S S' H H' B B':Hp}{ρ:aj}{σ:St}{Q:VK}{F:Nat->List Addr}
theorem wU{i:Nat}{te tx:TE}{mp:MP}{me:aj->OE}(hp:JP K cls te i mp)(hx:JE K cls W tx me):JS K cls W (qK (tBM K "list" (vp K) te (jT tx lz))) (ng i mp me):=by
 intro Av G S₀ ρ σ S H D I p;obtain⟨io,t,π,u,hi,e0,e1,p⟩:=sF p;obtain⟨v0,hv⟩:=I.val hi
 cases u with
 |sh x=>exact p.elim
 |ob c ks us=>exact p.elim
 |di x=>exact p.elim
 |dt x=>exact p.elim
 | ol ts=>
   dsimp only at p
   refine hp.at I hi hv e0 e1 fun w S1 H1 w1 I1 wk=>?_
   have p1:=p.back w1.s;obtain⟨F,J1⟩:=id I1;obtain⟨q,vs,ff,rest,wk',hq,hl,rs,_,nd,c⟩:=J1.uO hi hv e1;have:=wk.inj wk';subst this
   refine⟨.inl ⟨rfl,_,SqL.new hq⟩,?_⟩
   refine hx.goS I1 p1 fun r v S2 H2 I2 w2 r2 p2=>?_
   have ndf:ff.Nodup:=(List.nodup_cons.mp (List.nodup_append.mp nd).1).2
   cases r with
   |al ys=>exact p2.elim
   | sh x=>
     cases x with
     | lst ys=>
       dsimp only at p2
       split at p2
       . rename_i hlt
         have r3:Rep K S2 (.lst ys) v:=r2
         unfold Rep at r3;obtain⟨b,us,rfl,k3,k4⟩:=r3
         refine⟨q,b,vs,us,rfl,rfl,w2.g _ _ hq,aM.seq w2.sh k3,by rw[hl,k4.length];exact hlt,?_⟩
         obtain⟨g,J3,_⟩:=c S2 H2 (ts++ys.map .sh) (vs++us) (ff++[]) w2 ((rs.mono w2.s fun a _ o h=>w2.g _ _ h).append (.shs k4)) (by rw[List.append_nil];exact ndf) fun a ha=>.inl (by simpa using ha)
         exact p2 σ S2 _ ⟨_,J3⟩ (aM.refl _)
       . exact p2.elim
     |_=>exact p2.elim
   | fr ys=>
     dsimp only at p2
     split at p2
     . rename_i hlt;obtain⟨b,us,rfl,k1,k2,k3,k4⟩:=r2
       refine⟨q,b,vs,us,rfl,rfl,w2.g _ _ hq,SqL.new k3,by rw[hl,k4.length];exact hlt,?_⟩
       obtain⟨g,J3,_⟩:=c S2 H2 (ts++ys.map .sh) (vs++us) (ff++[]) w2 ((rs.mono w2.s fun a _ o h=>w2.g _ _ h).append (.shs k4)) (by rw[List.append_nil];exact ndf) fun a ha=>.inl (by simpa using ha)
       exact p2 σ S2 _ ⟨_,J3⟩ (aM.refl _)
     . exact p2.elim
end
end L2.P
namespace L2.E
open PySem PySem.Spec PyProof.Rows L2
theorem eR{N P:List Str}{sc:Scope}(a:sc.kind=.function:=by rfl)(b:sc.isCoroutine=false:=by rfl)(c:sc.isGenerator=false:=by rfl)(d:N.Nodup:=by decide +kernel)(e:N.take P.length=P:=by rfl)
  (f:∀ x∈P,sc.names.lookup x=some .local \/ sc.names.lookup x=some .cell:=by decide +kernel) (g:∀ y∈sc.names,y.2≠.free:=by decide +kernel):aY N P sc:=⟨a,b,c,d,e,f,g⟩
structure Ent(K:PySem.W.Frag)(mg:Str->Option Value)(x:Str)(st:Stmt)(f:Addr)(d:FuncData)(ps:List Str):Prop where
 F:Fun K x x st f d
 m:mg x=some (.ref f)
 b:Binds K d ps []
structure Fd(K:PySem.W.Frag)(x:Str)(st:Stmt)(f:Addr)(d:FuncData):Prop where
 a:PySem.W.nsIn K mainGlobals x=some (some (.ref f))
 F:Fun K x x st f d
section
variable{K:PySem.W.Frag}{mg:Str->Option Value}{h:Heap}{x:Str}{st:Stmt}{f:Addr}{d:FuncData}
theorem dz{oc:Value}{od an:Option Addr}{osl:Array (Option Value)}{kV doc pm cdv ct:Value}(a:PySem.W.nsIn K mainGlobals x=some (some (.ref f)))
  (l:K.lookup f=some ⟨oc,od,.func (PySem.W.fnOf x x (eJ st) (dF st) (aK st) .none kV doc pm an cdv ct),osl⟩) (c:PySem.W.codeIn K cdv x=true) (k:PySem.W.keepIn K (.ref f)=true):
  Fd K x st f (PySem.W.fnOf x x (eJ st) (dF st) (aK st) .none kV doc pm an cdv ct):=⟨a,j4 l c k⟩
theorem Fd.e{ps:List Str}(H:Fd K x st f d)(X:K.In h)(G:h.Ns mainGlobals mg)
  (hb:∀(kV doc pm:Value) (an:Option Addr) (cdv ct:Value) (us:List Value),us.length=ps.length->bindArgs (PySem.W.fnOf x x (eJ st) (dF st) (aK st) .none kV doc pm an cdv ct) ⟨us,[]⟩=pure (ps.zip us)):Ent K mg x st f d ps:=⟨H.F,PySem.W.mg_of X G H.a,H.F.binds hb⟩
theorem Fd.e0(H:Fd K x st f d)(X:K.In h)(G:h.Ns mainGlobals mg)
  (hb:∀(kV doc pm:Value) (an:Option Addr) (cdv ct:Value),bindArgs (PySem.W.fnOf x x (eJ st) (dF st) (aK st) .none kV doc pm an cdv ct) ⟨[],[]⟩=pure []:=by intros;rfl):Ent K mg x st f d []:=
 H.e X G fun p q r s t u us hl=>match us,hl with|[],_=>hb p q r s t u
theorem Fd.e1{a:Str}(H:Fd K x st f d)(X:K.In h)(G:h.Ns mainGlobals mg)
  (hb:∀(kV doc pm:Value) (an:Option Addr) (cdv ct i:Value),bindArgs (PySem.W.fnOf x x (eJ st) (dF st) (aK st) .none kV doc pm an cdv ct) ⟨[i],[]⟩=pure [(a,i)]:=by intros;rfl):Ent K mg x st f d [a]:=
 H.e X G fun p q r s t u us hl=>match us,hl with|[_],_=>hb p q r s t u _
theorem Fd.e2{a b:Str}(H:Fd K x st f d)(X:K.In h)(G:h.Ns mainGlobals mg)
  (hb:∀(kV doc pm:Value) (an:Option Addr) (cdv ct i j:Value),bindArgs (PySem.W.fnOf x x (eJ st) (dF st) (aK st) .none kV doc pm an cdv ct) ⟨[i,j],[]⟩=pure [(a,i),(b,j)]:=by intros;rfl):Ent K mg x st f d [a,b]:=
 H.e X G fun p q r s t u us hl=>match us,hl with|[_,_],_=>hb p q r s t u _ _
theorem Fd.e3{a b c:Str}(H:Fd K x st f d)(X:K.In h)(G:h.Ns mainGlobals mg)
  (hb:∀(kV doc pm:Value) (an:Option Addr) (cdv ct i j k:Value),bindArgs (PySem.W.fnOf x x (eJ st) (dF st) (aK st) .none kV doc pm an cdv ct) ⟨[i,j,k],[]⟩=pure [(a,i),(b,j),(c,k)]:=by intros;rfl):Ent K mg x st f d [a,b,c]:=
 H.e X G fun p q r s t u us hl=>match us,hl with|[_,_,_],_=>hb p q r s t u _ _ _
theorem Fd.e4{a b c e:Str}(H:Fd K x st f d)(X:K.In h)(G:h.Ns mainGlobals mg)
  (hb:∀(kV doc pm:Value) (an:Option Addr) (cdv ct i j k l:Value),bindArgs (PySem.W.fnOf x x (eJ st) (dF st) (aK st) .none kV doc pm an cdv ct) ⟨[i,j,k,l],[]⟩=pure [(a,i),(b,j),(c,k),(e,l)]:=by intros;rfl):Ent K mg x st f d [a,b,c,e]:=
 H.e X G fun p q r s t u us hl=>match us,hl with|[_,_,_,_],_=>hb p q r s t u _ _ _ _
end
theorem qz{X:Cx}{pos:Pos}(i:Nat)(h7:X.N.Nodup)(h10:QE X e te)(h8:X.N[i]?=some x:=by rfl)(h9:Loc X.env.scope x:=by first|exact Or.inl rfl|exact Or.inr rfl)
  (h11:autoParam (swapsWith e (some (.Name x pos')) pos.line X.env=pure false) L2.qau._auto_1) (h12:autoParam (X.fn x=true \/ X.env.scope.names.lookup x=some .local) L2.qau._auto_1):QS X (.Assign [.Name x pos'] e pos) (rA te (iY i)):=Fh h7 h8 h9 h10 h11 h12
theorem qx{X:Cx}{j k:Nat}{f:Addr}{fd:FuncData}{ps:List Str}{sp:Sp}{W:XW}{x:Str}{st:Stmt}{p pos:Pos}{e:Expr}{es:List Expr}{t:TA}(h15:cA X.prog X.w X.K X.mg X.base (CXE X.prog X.w) j f fd ps sp)(E:Ent X.K X.mg x st f fd ps)(h16:gT k X.A)(h22:Thr X W)(h23:QA X (e ::es) t)
  (hj:j<=k:=by decide) (h17:Gl X x:=by rfl) (h24:autoParam ((x==Str.ofString "__debug__")=false) L2.qau._auto_1) (h25:autoParam (starEach (e ::es) X.env=(false,eval e X.env) ::starEach es X.env) L2.qau._auto_1) (h26:autoParam (((backTo pos (starEach es X.env)).any fun x=>x.1)=false) L2.qau._auto_1):
  QE X (.Call (.Name x p) (e ::es) [] pos) (nP sp [] W t):=A5 (h15.mono hj) h16 h17 E.m E.F.kp E.b .nil h22 h23 h24 h25 h26
theorem kq{X:Cx}(h11:X.mg "len" = none)(h:QE X e te)(h10:Gl X "len":=by rfl)(hs:isStar e=false:=by rfl)(h16:autoParam (starEach [e] X.env=(false,eval e X.env) ::starEach [] X.env) L2.qau._auto_1)(h17:autoParam (((backTo pos (starEach [] X.env)).any fun x=>x.1)=false) L2.qau._auto_1):
  QE X (.Call (.Name "len" p) [e] [] pos) (tCB (fun xs H Q=>∃ p ys,xs=[.ref p] /\ (SqL X.K H p ys \/ SqT X.K H p ys) /\ Q (.int ys.length) H) (jT te lz)):=nj uM h10 h11 boot_len (aa h aq hs) (by decide) (by decide) h16 h17
theorem qi(h7:IxR X r)(h8:QE X a ta)(h9:QE X b tb)(h10:uk b:=by exact fun _ _=>rfl):QE X (.Subscript a b pos) (tOp r ta tb):=FT h7 h8 h9 h10
theorem bB(h8:OpR X (compareOp op) r)(h9:QE X a ta)(h10:QE X b tb)(h11:behindInMarks op b=false:=by exact ic _):QT X (.Compare a [op] [b] pos) (tN (tOp r ta tb)):=dN h8 h9 h10 h11
theorem qap{X:Cx}{apos cpos pos:Pos}{r:V->List V->Hp->VK->Prop}(h15:MtR X "list.append" r)(h16:QE X o to)(h:QE X e te)(hs:isStar e=false:=by rfl)
  (h18:autoParam (attributeBase o "append" X.env (eval o X.env)=eval o X.env) L2.qau._auto_1) (h19:autoParam (((((backTo cpos (starEach [e] X.env)).all fun x=>!x.1)&&(backToKw cpos (keywordEach [] X.env)).all fun x=>x.1.isSome)&&decide (([e].length+([]:List Keyword).length+if([]:List Keyword).isEmpty=true then 0 else 1)<30))=true) L2.qau._auto_1)
  (h20:autoParam ((apos.endLine==cpos.line)=true) L2.qau._auto_1) (h21:autoParam (starEach [e] X.env=(false,eval e X.env) ::starEach [] X.env) L2.qau._auto_1) (h22:autoParam (((backTo cpos (starEach [] X.env)).any fun x=>x.1)=false) L2.qau._auto_1) (h5:autoParam (swapsWith (.Call (.Attribute o "append" apos) [e] [] cpos) none pos.line X.env=pure false) L2.qau._auto_1):
  QS X (.Expr (.Call (.Attribute o "append" apos) [e] [] cpos) pos) (qK (tBM X.K "list" r to (jT te lz))):=qY (Dh PySem.F.plainAttrs_list PySem.F.slot_list_append PySem.F.type_list_append h15 h16 (aa h aq hs) h18 h19 h20 h21 h22) h5
theorem qex{X:Cx}{apos cpos pos:Pos}{r:V->List V->Hp->VK->Prop}(h15:MtR X "list.extend" r)(h16:QE X o to)(h:QE X e te)(hs:isStar e=false:=by rfl)
  (h18:autoParam (attributeBase o "extend" X.env (eval o X.env)=eval o X.env) L2.qau._auto_1) (h19:autoParam (((((backTo cpos (starEach [e] X.env)).all fun x=>!x.1)&&(backToKw cpos (keywordEach [] X.env)).all fun x=>x.1.isSome)&&decide (([e].length+([]:List Keyword).length+if([]:List Keyword).isEmpty=true then 0 else 1)<30))=true) L2.qau._auto_1)
  (h20:autoParam ((apos.endLine==cpos.line)=true) L2.qau._auto_1) (h21:autoParam (starEach [e] X.env=(false,eval e X.env) ::starEach [] X.env) L2.qau._auto_1) (h22:autoParam (((backTo cpos (starEach [] X.env)).any fun x=>x.1)=false) L2.qau._auto_1) (h5:autoParam (swapsWith (.Call (.Attribute o "extend" apos) [e] [] cpos) none pos.line X.env=pure false) L2.qau._auto_1):
  QS X (.Expr (.Call (.Attribute o "extend" apos) [e] [] cpos) pos) (qK (tBM X.K "list" r to (jT te lz))):=qY (Dh PySem.F.plainAttrs_list PySem.F.slot_list_extend PySem.F.type_list_extend h15 h16 (aa h aq hs) h18 h19 h20 h21 h22) h5
end L2.E
namespace L2.P
open PySem PySem.Spec PyProof.Rows L2 L2.E
theorem CD{K:PySem.W.Frag}{cls:String->Option Addr}{mk:aj->OE}(h:JP K cls te i mp)(k:JE K cls (fun _ _ _ _=>False) tk mk):JP K cls (tOp (CQ K) te tk) i (pIx i mp mk):=FX h k
end L2.P
namespace L2.P
open PySem
theorem OV.get_nil(t:OV):t.get []=some t:=by unfold OV.get;rfl
theorem OV.um(t u:OV):t.put [] u=u:=by unfold OV.put;rfl
theorem OV.Fu{ts:List OV}{j:Nat}{u:OV}(h:ts[j]?=some u)(π:List Stp):(OV.ol ts).get (.ix j ::π)=u.get π:=by
 rw[OV.get];simp[OV.at1,h]
theorem gz{ρ:aj}{i:Nat}{s:Sl}{t:OV}(h:ρ[i]?=some (some s))(hs:slT s=some t):gQ i ρ=some t:=by
 unfold gQ;rw[h];exact hs
theorem xW{ρ:aj}{i j:Nat}{ts:List OV}{mk:aj->OE}{r:RV}{k:Int}(h:gQ i ρ=some (.ol ts))(hk:mk ρ=.ok r)(hr:r.pv=.int k)(hj:ixP ts.length k=some j):pIx i bX mk ρ=some [.ix j]:=by
 unfold pIx;rw[h];simp[bX,OV.get_nil,hk,hr,hj]
theorem subAt_one{ρ:aj}{i j:Nat}{ts:List OV}{mp:MP}{u:OV}(h:gQ i ρ=some (.ol ts))(hp:mp ρ=some [.ix j])(hu:ts[j]?=some u):subAt i mp ρ=some u:=by
 unfold subAt;rw[h,hp];simp[OV.Fu hu,OV.get_nil]
theorem lu{ρ:aj}{i:Nat}{t:OV}(h:gQ i ρ=some t):subAt i bX ρ=some t:=by
 unfold subAt;rw[h];simp[bX,OV.get_nil]
theorem yj{ρ:aj}{i:Nat}{mp:MP}{x:PV}(h:subAt i mp ρ=some (.sh x)):iM i mp ρ=.ok (.sh x):=by unfold iM;rw[h]
theorem sg{ρ:aj}{i:Nat}{mp:MP}{ts:List OV}(h:subAt i mp ρ=some (.ol ts)):eK i mp ρ=.ok (!ts.isEmpty):=by unfold eK;rw[h]
theorem x8{ρ:aj}{i:Nat}{io:Bool}{ts:List OV}{x:OV}(h:ρ[i]?=some (some (.tr io (.ol (ts++[x]))))):mQ i bX ρ=.ok (ρ.set i (some (.tr io (.ol ts)))) (slO x):=by
 unfold mQ;rw[h];simp[bX,OV.get_nil,OV.um]
theorem xR{ρ:aj}{i:Nat}{io:Bool}{ts:List OV}{x:OV}{md:aj->OD}(h:ρ[i]?=some (some (.tr io (.ol ts))))(hd:md ρ=.ok x)(hl:ts.length<lim):j8 i bX md ρ=.nx (ρ.set i (some (.tr io (.ol (ts++[x]))))):=by
 unfold j8 xa;rw[h];simp only[bX,OV.get_nil,hd,hl,if_true,OV.um]
theorem aP{m n:aj->OS}{ρ ρ':aj}(h:m ρ=.nx ρ'):aN m n ρ=n ρ':=by unfold aN;rw[h];rfl
theorem iS{m n:aj->OS}{ρ ρ':aj}{v:RV}(h:m ρ=.rt ρ' v):aN m n ρ=.rt ρ' v:=by unfold aN;rw[h];rfl
theorem vb(ρ:aj):aO ρ=.nx ρ:=rfl
theorem mI{c:aj->OT}{a b:aj->OS}{ρ:aj}(h:c ρ=.ok true):bp c a b ρ=a ρ:=by unfold bp;rw[h];rfl
theorem qb{c:aj->OT}{a b:aj->OS}{ρ:aj}(h:c ρ=.ok false):bp c a b ρ=b ρ:=by unfold bp;rw[h];rfl
theorem nU{f:List PV->OE}{x y:PV}{r:RV}(h:f [x,y]=.ok r)(hr:∀ xs,r≠.al xs):aS (bU f (af (ak 0) (af (ak 1) aB))) [some (.sh x),some (.sh y)]=.rt [some (.sh x),some (.sh y)] r:=by
 cases r with
 |al xs=>exact absurd rfl (hr xs)
 |sh z=>simp[h]
 |fr z=>simp[h]
theorem yG{f:List PV->OE}{x y:PV}{r:RV}(h:f [y]=.ok r)(hr:∀ xs,r≠.al xs):aS (bU f (af (ak 1) aB)) [some (.sh x),some (.sh y)]=.rt [some (.sh x),some (.sh y)] r:=by
 cases r with
 |al xs=>exact absurd rfl (hr xs)
 |sh z=>simp[h]
 |fr z=>simp[h]
theorem Fw{ρ:aj}{r:RV}(hr:∀ xs,r≠.al xs):fin (.rt ρ r)=.ok r:=by
 cases r with
 |al xs=>exact absurd rfl (hr xs)
 |sh z=>rfl
 |fr z=>rfl
theorem sk{c:aj->OT}{a n:aj->OS}{ρ:aj}(h:c ρ=.ok false):aN (bp c a aO) n ρ=n ρ:=aP (Eq.trans (qb h) (vb _))
theorem st{c:aj->OT}{a b n:aj->OS}{ρ ρ':aj}{r:RV}(h:c ρ=.ok true)(k:a ρ=.rt ρ' r):aN (bp c a b) n ρ=.rt ρ' r:=iS (Eq.trans (mI h) k)
theorem ib{X:OS}{ρ:aj}{x:PV}(h:X=.rt ρ (.sh x)):fin X=.ok (.sh x):=by rw[h];rfl
end L2.P
namespace L2.E
open PySem PySem.Spec PyProof.Rows L2
end L2.E
namespace L2.P
open PySem PySem.Spec PyProof.Rows L2 L2.E
end L2.P
namespace L2.E
open PySem PySem.Spec PyProof.Rows L2
end L2.E
namespace L2.P
open PySem PySem.Spec PyProof.Rows L2 L2.E
end L2.P
namespace L2.E
open PySem PySem.Spec PyProof.Rows L2
theorem wc{X:Cx}{o e f:Expr}{td te tf:TE}{apos cpos:Pos}(hu:X.A.units+1<cLine)(ho:QE X o td)(he:QE X e te)(hf:QE X f tf)(hbase:attributeBase o "get" X.env (eval o X.env)=eval o X.env:=by rfl)
  (few:((backTo cpos (starEach [e,f] X.env)).all (fun x=>!x.1)&&(backToKw cpos (keywordEach [] X.env)).all (fun x=>x.1.isSome)&&decide (([e,f]:List Expr).length+([]:List Keyword).length+(if([]:List Keyword).isEmpty then 0 else 1)<30))=true:=by rfl)
  (line:(apos.endLine==cpos.line)=true:=by rfl) (trees:backTo cpos (starEach [e,f] X.env)=[(false,eval e X.env),(false,eval f X.env)]:=by rfl):QE X (.Call (.Attribute o "get" apos) [e,f] [] cpos) (xk td te tf):=
 ⟨AL hu ho.out he.out hf.out ⟨hbase,few,line,trees⟩⟩
end L2.E
namespace L2.P
open PySem PySem.Spec PyProof.Rows L2 L2.E
section
variable{K:PySem.W.Frag}{cls:String->Option Addr}{W:XW}{S H:Hp}
theorem tJ{kvs:List (Int×Int)}{ta tb:TE}{ma mb:aj->OE}(nd:(kvs.map (·.1)).Nodup)(h15:kvs.length<=15)(ha:JE K cls W ta ma)(hb:JE K cls W tb mb):JE K cls W (xk (vk (kvs.map fun p=>(tC (.int p.1),tC (.int p.2)))) ta tb) (nY (kvs.map fun p=>(p.1,.int p.2)) ma mb):=by
 intro Av G S₀ ρ σ S H Q I p;intro q hq;refine wx kvs σ _ _ ⟨bF,kvs.map fun p=>(Sum.inl p.1,V.int p.2),by simp[kV],by simpa using h15,?_⟩
 rw[Cf,tq _ [] (by
  rw[List.nil_append,List.map_map]
  have:((fun x:Key×V=>x.1) ∘ fun p:Int×Int=>((Sum.inl p.1:Key),V.int p.2))=(fun k:Int=>(Sum.inl k:Key)) ∘ fun p:Int×Int=>p.1:=rfl
  rw[this,<- List.map_map]
  exact List.pairwise_map.mpr (List.Pairwise.imp (fun h z=>h (Sum.inl.inj z)) nd)),List.nil_append]
 have w0:bx S H S (upd H q (.dK (kvs.map fun p=>(Sum.inl p.1,V.int p.2)))):=bx.heap I.sh hq
 refine⟨q,rfl,.inl ⟨_,.inl bF⟩,?_⟩
 refine ha.go (I.grow w0) (p.back w0) fun a v S1 H1 I1 w1 r1 p1=>hb.go I1 p1 fun b u S2 H2 I2 w2 r2 p2=>?_
 have hq2:=w2.g _ _ (w1.g _ _ (bF (H:=H) (a:=q) (o:=.dK (kvs.map fun p=>(Sum.inl p.1,V.int p.2)))))
 have hd:vz K S2 (kvs.map fun p=>(p.1,.int p.2)) (kvs.map fun p=>(Sum.inl p.1,V.int p.2)):=by
  clear nd h15 p p1 p2 hq2 w0 w1 w2 r1 r2
  induction kvs with
  |nil=>exact .nil
  |cons x kvs ih=>exact .cons ⟨rfl,by unfold Rep;rfl⟩ ih
 have ra:=(r1.rd I1.sh).mono w2.s w2.g
 cases e:a.pv with
 | int n=>
   rw[e]at ra;have hl:=hd.look n
   cases b with
   |fr xs=>unfold kD at p2;rw[e]at p2;exact p2.elim
   |al xs=>unfold kD at p2;rw[e]at p2;exact p2.elim
   | sh x=>
     unfold kD at p2;rw[e]at p2;have hv:=dI ra;subst hv
     refine⟨_,u0.k (k:=(Sum.inl n:Key)) hq2,?_⟩
     cases el:(kvs.map fun p=>(p.1,PV.int p.2)).lookup n with
     | none=>
       rw[el]at hl;simp only[el]at p2;rw[hl];exact p2 _ S2 H2 (bx.refl I2.sh) r2
     | some y=>
       rw[el]at hl;simp only[el]at p2;obtain⟨u',eu,ru⟩:=hl;rw[eu];exact p2 _ S2 H2 (bx.refl I2.sh) ru
 |_=>unfold kD at p2;rw[e]at p2;exact p2.elim
end
end L2.P
namespace L2.P
open PySem PySem.Spec PyProof.Rows L2 L2.E PySem.SeqAt
end L2.P
namespace L2.P
open PySem
noncomputable def ins(n:Int):List Int->List Int
 |[]=>[n]
 |m ::ms=>if n<=m then n ::m ::ms else m ::ins n ms
end L2.P
namespace L2
open PySem PySem.Spec PyProof.Rows PySem.W
end L2
namespace L2.E
open PySem PySem.Spec PyProof.Rows L2
end L2.E
namespace L2.P
open PySem PySem.Spec PyProof.Rows L2 L2.E
end L2.P
namespace L2.P
open PySem
noncomputable def yB(i j:Nat)(ks:List Str)(ma:aj->OA)(mk:aj->OE):aj->OS:=fun ρ=>if i<ρ.length then(ma ρ).cq ρ fun xs=>if xs.length=ks.length then(mk (ρ.set i none)).cq (ρ.set i none) fun r=>(match r.pv with
 | .str n=>(match (ks.zip xs).lookup n with
   |some x=>.nx ((ρ.set i none).set j (some (.sh x)))
   |none=>.bad)
 |_=>.bad)else .bad else .bad
noncomputable def rR(i t:Nat)(mp:MP)(me:aj->OE)(mc:aj->OT)(ma mb:aj->OS):aj->OS:=fun ρ=>if i<ρ.length then(match subAt t mp ρ with
 | some (.ol ts)=>if ts.isEmpty=true then mb (ρ.set i none)else(me ρ).cq ρ fun r=>(match r with
   |.sh (.bl b)=>if b=true then bp mc ma mb (ρ.set i (some (.sh (.bl b))))else mb (ρ.set i (some (.sh (.bl b))))
   |_=>.bad)
 |_=>.bad)else .bad
end L2.P
namespace L2.E
open PySem PySem.Spec PyProof.Rows L2
section
variable{X:Cx}{a b:Expr}{rest:List Expr}{pos:Pos}
noncomputable def AI(K:PySem.W.Frag)(ta tb:TE):TE:=fun σ H Q=>ta σ H fun x H1=>∃ c,sZ K x H1 c /\ if c=true then tb σ H1 Q else Q x H1
theorem Cb{ta tb:TE}(ha:QE X a ta)(hb:QE X b tb):QE X (.BoolOp .And [a,b] pos) (AI X.K ta tb):=⟨by
 intro pins s σ H Q I h;refine BoolOp_and (thn (ha.out pins s σ H _ I h) fun v s1 ⟨x,H1,I1,r1,c,ht,q1⟩=>?_)
 refine thn (A9 pins s1 σ H1 x v (fun k H2=>k=c /\ H2=H1) I1 r1 ⟨c,ht,rfl,rfl⟩) fun k s2 ⟨H2,I2,hk,hH⟩=>?_
 subst hk;subst hH
 cases k with
 |true=>exact Ak hb.out pins s2 σ H2 Q I2 q1
 |false=>exact⟨x,H2,I2,r1,q1⟩⟩
end
end L2.E
namespace L2.P
open PySem PySem.Spec PyProof.Rows L2 L2.E
section
variable{K:PySem.W.Frag}{cls:String->Option Addr}{W:XW}{Av G S₀ S S' H H' B B':Hp}{ρ:aj}{σ:St}{Q:VK}{F:Nat->List Addr}
noncomputable def FW(ks:List Str)(vs:List V):List (V×V):=(ks.zip vs).map fun p=>(V.str p.1,p.2)
noncomputable def JPs(K:PySem.W.Frag)(cls:String->Option Addr)(W:XW)(trs:List (TE×TE))(ks:List Str)(ma:aj->OA):Prop:=∀ Av G S₀ ρ σ S H (R:List (V×V)->Hp->Prop),SR K cls Av G S₀ ρ σ S H->rX K cls W σ S H (fun vs H'=>R (FW ks vs) H') (ma ρ)->pY trs σ H R
theorem BM:JPs K cls W [] [] aB:=fun Av G S₀ ρ σ S H R I p=>p [] S H (bx.refl I.sh) .nil
theorem lx{k:Str}{tv:TE}{trs:List (TE×TE)}{ks:List Str}{me:aj->OE}{mr:aj->OA}(he:JE K cls W tv me)(ht:JPs K cls W trs ks mr):JPs K cls W ((tC (.str k),tv) ::trs) (k ::ks) (af me mr):=by
 intro Av G S₀ ρ σ S H R I p
 show tv σ H fun y H2=>pY trs σ H2 fun ps H3=>R ((V.str k,y) ::ps) H3
 refine he Av G S₀ ρ σ S H _ I ?_;unfold af at p
 cases e:me ρ with
 |exc c fs=>rw[e]at p;exact p
 |bad=>rw[e]at p;exact p
 | ok r=>
   rw[e]at p;intro v S1 H1 w1 r1;simp only[OE.fh]at p
   cases es:jx r with
   |none=>rw[es]at p;exact p.elim
   | some x=>
     rw[es]at p;obtain⟨S2,w2,s2,rx⟩:=r1.share w1 es;refine ht Av G S₀ ρ σ S2 H1 _ (I.grow w2) ?_
     cases em:mr ρ with
     | exc c fs=>
       rw[em]at p;intro a C S' H' w' x';exact p a C S' H' (w2.trans w') x'
     |bad=>rw[em]at p;exact p
     | ok ys=>
       rw[em]at p;intro vs S' H' w' r';exact p (v ::vs) S' H' (w2.trans w') (.cons (Rep.mono w'.s rx) r')
theorem wa{n:Str}:∀{ks:List Str} {xs:List PV} {vs:List V} {x:PV},bZ K S xs vs->(ks.zip xs).lookup n=some x->∃ v,kr ((ks.zip vs).map fun p=>((Sum.inr p.1:Key),p.2)) (Sum.inr n)=some v /\ Rep K S x v
 |[],xs,vs,x,_,h=>by simp at h
 |k ::ks,[],vs,x,_,h=>by simp at h
 | k ::ks,y ::xs,vs,x,hr,h=>by
   obtain⟨v,r,rfl,q,hr'⟩:=hr.cons_inv
   by_cases e:n=k
   . subst e
     have:x=y:=by simpa [List.zip_cons_cons]using h.symm
     subst this
     exact⟨v,by simp[kr],q⟩
   . have hb:(n==k)=false:=by simpa using e
     rw[List.zip_cons_cons,List.lookup_cons,hb]at h;obtain⟨u,h1,h2⟩:=wa hr' h
     refine⟨u,?_,h2⟩
     rw[List.zip_cons_cons,List.map_cons];rw[pw (fun z=>e (Sum.inr.inj z).symm)];exact h1
theorem v3:∀(ks:List Str) (vs:List V),vs.length=ks.length->((ks.zip vs).map fun p=>((Sum.inr p.1:Key),p.2)).map (·.1)=ks.map Sum.inr
 |[],vs,_=>by simp
 |k ::ks,[],h=>by simp at h
 | k ::ks,v ::vs,h=>by
   have:=v3 ks vs (by simpa using h);rw[List.zip_cons_cons,List.map_cons,List.map_cons,this];rfl
theorem rS{ρ:aj}{x:OE}{f:RV->OS}{k:aj->OS}:(OE.cq ρ x f).andThen k=OE.cq ρ x fun r=>(f r).andThen k:=by cases x<;>rfl
theorem BU{i j:Nat}{trs:List (TE×TE)}{ks:List Str}{ma:aj->OA}{tk:TE}{mk:aj->OE}{tr:TS}{mr:aj->OS}(h:JPs K cls W trs ks ma)(nd:ks.Nodup)(h15:ks.length<=15)(hk:JE K cls W tk mk)(hr:JS K cls W tr mr):JS K cls W (r9 (rA (vk trs) (iY i)) (r9 (rA (wt (qP i) tk) (iY j)) tr)) (aN (yB i j ks ma mk) mr):=by
 intro Av G S₀ ρ σ S H D I p;unfold aN yB at p
 by_cases hi:i<ρ.length
 case neg=>rw[if_neg hi]at p;exact p.elim
 rw[if_pos hi]at p
 show vk trs σ H fun v H1=>r9 (rA (wt (qP i) tk) (iY j)) tr D (σ.set i (some v)) H1
 intro q hq
 have w0:bx S H S (upd H q (.dK [])):=bx.heap I.sh hq
 refine h Av G S₀ ρ σ S _ _ (I.grow w0) ?_
 cases em:ma ρ with
 | exc c fs=>
   rw[em]at p;intro a C S' H' w' x';exact p a C σ S' H' (I.grow (w0.trans w')) w'.s x'
 |bad=>rw[em]at p;exact p
 | ok xs=>
   rw[em]at p;intro vs S1 H1 w1 r1;simp only[OA.cq]at p
   by_cases hxl:xs.length=ks.length
   case neg=>rw[if_neg hxl]at p;exact p.elim
   rw[if_pos hxl]at p
   have hvl:vs.length=ks.length:=by rw[r1.length];exact hxl
   have hq1:H1 q=some (.dK []):=w1.g _ _ bF
   have hS1q:S1 q=none:=by
    cases z:S1 q with
    |none=>rfl
    | some o=>
      rcases w1.new q (by rw[z];simp)with y|y
      . exact absurd (I.sh.free hq) y
      . rw[bF]at y;cases y
   generalize hkv:((ks.zip vs).map fun p=>((Sum.inr p.1:Key),p.2))=kvs
   have hkn:(kvs.map (·.1)).Nodup:=by
    rw[<- hkv,v3 ks vs hvl];exact List.pairwise_map.mpr (List.Pairwise.imp (fun h z=>h (Sum.inr.inj z)) nd)
   refine⟨hq1,kvs,by rw[<- hkv];simp[FW,kV,List.map_map,Function.comp_def],by rw[<- hkv];simp;omega,?_⟩
   rw[tq _ [] (by rw[List.nil_append];exact hkn),List.nil_append]
   have w2:bx S H S1 (upd H1 q (.dK kvs)):=⟨w1.s,fun b o hb=>by
     have hbq:b≠q:=fun z=>by rw[z,hq]at hb;cases hb
     rw[bD hbq]
     exact w1.g _ _ (by rw[bD hbq];exact hb),w1.sh.upd hS1q,fun b hb=>by
     rcases w1.new b hb with z|z
     . exact .inl z
     . by_cases y:b=q
       . rw[y];exact .inr hq
       . rw[bD y]at z;exact .inr z⟩
   have I2:SR K cls Av G S₀ (ρ.set i none) (σ.set i (some (.ref q))) S1 (upd H1 q (.dK kvs)):=(I.grow w2).zD
   show r9 (rA (wt (qP i) tk) (iY j)) tr D (σ.set i (some (.ref q))) (upd H1 q (.dK kvs))
   refine⟨.ref q,by rw[List.getElem?_set_self (by rw[<- I.len];exact hi)],?_⟩
   have p2:fS K cls W Av G S₀ S1 D (OE.cq (ρ.set i none) (mk (ρ.set i none)) fun r=>(match r.pv with
    | .str n=>(match (ks.zip xs).lookup n with
      |some x=>OS.nx ((ρ.set i none).set j (some (.sh x)))
      |none=>.bad)
    |_=>.bad).andThen mr):=by
    rw[<- rS];exact fS.back w2.s p
   refine hk.goS I2 p2 fun r z S3 H3 I3 w3 r3 p3=>?_
   have ra:=r3.rd I3.sh
   cases er:r.pv with
   | str n=>
     rw[er]at p3 ra
     dsimp only at p3
     cases el:(ks.zip xs).lookup n with
     |none=>rw[el]at p3;exact p3.elim
     | some x=>
       rw[el]at p3;obtain⟨v,hv,hrep⟩:=wa r1 el;rw[hkv]at hv
       have hz:z=.str n:=jF ra
       subst hz;have hg:=u0.k (k:=(Sum.inr n:Key)) (w3.g _ _ (bF (H:=H1) (a:=q) (o:=.dK kvs)));rw[hv]at hg
       exact⟨q,v,rfl,hg,hr Av G S₀ _ _ S3 H3 D (I3.tW (Rep.mono w3.s hrep)) p3⟩
   |_=>rw[er]at p3;exact p3.elim
theorem AF{i t:Nat}{mp:MP}{td te:TE}{tc:TT}{ta tb tr:TS}{me:aj->OE}{mc:aj->OT}{ma mb mr:aj->OS}(hp:JP K cls td t mp)(he:JE K cls W te me)(hc:JT K cls W tc mc)(ha:JS K cls W ta ma)(hb:JS K cls W tb mb)(hr:JS K cls W tr mr):
  JS K cls W (r9 (rA (AI K td te) (iY i)) (r9 (vS (AZ (fun σ H Q=>qP i σ H fun x H'=>∃ k,sZ K x H' k /\ Q k H') tc) ta tb) tr)) (aN (rR i t mp me mc ma mb) mr):=by
 intro Av G S₀ ρ σ S H D I p;unfold aN rR at p
 by_cases hi:i<ρ.length
 case neg=>rw[if_neg hi]at p;exact p.elim
 rw[if_pos hi]at p
 show AI K td te σ H fun v H1=>r9 (vS (AZ (fun σ H Q=>qP i σ H fun x H'=>∃ k,sZ K x H' k /\ Q k H') tc) ta tb) tr D (σ.set i (some v)) H1
 have seqB:∀{m:aj->OS} {tm:TS} {ρ':aj} {σ':St} {S' H':Hp},JS K cls W tm m->SR K cls Av G S₀ ρ' σ' S' H'->fS K cls W Av G S₀ S' D ((m ρ').andThen mr)->r9 tm tr D σ' H':=fun hm I' p'=>az hm hr Av G S₀ _ _ _ _ D I' p'
 split at p
 . rename_i ts es
   refine hp.sub I es fun w S1 H1 f w1 I1 r=>?_
   unfold bO at r;obtain⟨q,vs,ff,rfl,hq,_,rs⟩:=r
   have hve:vs.isEmpty=ts.isEmpty:=by
    have:=rs.length
    cases vs<;>cases ts<;>simp_all
   refine⟨!vs.isEmpty,.inl ⟨vs,SqL.new hq,rfl⟩,?_⟩
   rw[hve]
   have hset:∀ v:V,(σ.set i (some v))[i]?=some (some v):=fun v=>by rw[List.getElem?_set_self (by rw[<- I.len];exact hi)]
   cases hte:ts.isEmpty with
   | true=>
     rw[hte]at p;simp only[if_true]at p;simp only[Bool.not_true,Bool.false_eq_true,if_false]
     have I2:SR K cls Av G S₀ (ρ.set i none) (σ.set i (some (.ref q))) S1 H1:=I1.zD
     show vS _ ta tb { D with nx:=tr D } (σ.set i (some (.ref q))) H1
     refine⟨.ref q,hset _,!vs.isEmpty,.inl ⟨vs,SqL.new hq,rfl⟩,?_⟩
     rw[hve,hte];simp only[Bool.not_true,Bool.false_eq_true,if_false];exact seqB hb I2 (fS.back w1.s p)
   | false=>
     rw[hte]at p;simp only[Bool.false_eq_true,if_false]at p;simp only[Bool.not_false,if_true];rw[rS]at p
     refine he.goS I1 (fS.back w1.s p) fun r z S3 H3 I3 w3 r3 p3=>?_
     cases r with
     |fr xs=>exact p3.elim
     |al xs=>exact p3.elim
     | sh x=>
       cases x with
       | bl b=>
         have hz:z=.bl b:=lB (r3.rd I3.sh)
         subst hz
         have I4:SR K cls Av G S₀ (ρ.set i (some (.sh (.bl b)))) (σ.set i (some (.bl b))) S3 H3:=I3.tW (by unfold Rep;rfl)
         show vS _ ta tb { D with nx:=tr D } (σ.set i (some (.bl b))) H3
         refine⟨.bl b,hset _,b,rfl,?_⟩
         dsimp only at p3
         cases b with
         | false=>
           simp only[Bool.false_eq_true,if_false]at p3 ⊢
           exact seqB hb I4 p3
         | true=>
           simp only[if_true]at p3 ⊢
           exact seqB (aR hc ha hb) I4 p3
       |_=>exact p3.elim
 . exact p.elim
end
end L2.P
namespace PG
noncomputable def cell(ns:List Int)(k:Int):Int:=if ns=[]then 0 else ns.getD (k%(ns.length:Int)).toNat 0
noncomputable def mix(ns:List Int)(k:Int):Int:=
 let a:=(cell ns k+104729*(k+1))%4294967291
 let b:=a*48271%4294967279
 (b/64*69621+b)%4294967231
theorem As(ns:List Int)(k:Int):0<=mix ns k /\ mix ns k<4294967231:=by unfold mix;dsimp only;omega
end PG
namespace PG
noncomputable def HK(b:Int):Int×Int:=if b=224 then(160,191)else if b=237 then(128,159)else(128,191)
noncomputable def HE(b:Int):Int×Int:=if b=240 then(144,191)else if b=244 then(128,143)else(128,191)
noncomputable def spans(b:Int):Option (List (Int×Int)):=if 0<=b /\ b<128 then some []else if 194<=b /\ b<224 then some [(128,191)]else if 224<=b /\ b<240 then some [HK b,(128,191)]else if 240<=b /\ b<245 then some [HE b,(128,191),(128,191)]else none
noncomputable def mark(k:Nat):Int:=[0,192,224,240].getD k 0
noncomputable def val(b:Int)(cs:List Int):Int:=cs.foldl (fun n c=>n*64+c - 128) (b - mark cs.length)
end PG
namespace L2.P
open PySem
@[simp] theorem Dg(s:String):(Str.ofString s).cps.all (·<0x110000)=true:=by
  rw[Str.ofString_eq_toList,List.all_toArray,List.all_map];rw[List.all_eq_true];intro c _;have:=c.valid;simp only[Function.comp,decide_eq_true_eq]
  rcases this with h|⟨_,h⟩
  . exact Nat.lt_of_lt_of_le h (by decide)
  . exact h
theorem toNat_inj:∀(xs ys:List Char),xs.map Char.toNat=ys.map Char.toNat->xs=ys
 |[],[],_=>rfl
 |[],_ ::_,h=>by cases h
 |_ ::_,[],h=>by cases h
 | x ::xs,y ::ys,h=>by
   rw[List.map_cons,List.map_cons]at h
   injection h with h1 h2
   have:x=y:=Char.ext (UInt32.toNat_inj.mp h1)
   rw[this,toNat_inj xs ys h2]
theorem aG(a b:String):Str.ofString a=Str.ofString b↔a=b:=by
 constructor
 . intro h;rw[Str.ofString_eq_toList,Str.ofString_eq_toList]at h
   injection h with h
   have h2:a.toList.map Char.toNat=b.toList.map Char.toNat:=by
    have:=congrArg Array.toList h
    simpa using this
   exact String.toList_inj.mp (toNat_inj _ _ h2)
 . intro h;rw[h]
@[simp] theorem BC(a b:String):(Str.ofString a==Str.ofString b)=decide (a=b):=by
  by_cases h:a=b
  . subst h;simp
  . have:Str.ofString a≠Str.ofString b:=fun z=>h ((aG a b).mp z)
    simp[h,this]
@[simp] theorem GH(a b:String):fj (.str (Str.ofString a)) (.str (Str.ofString b))=decide (a=b):=by simp[fj]
theorem iH{i:Nat}{mb:aj->OS}{x:PV}{xs:List PV}{ρ ρ':aj}(h:mb (ρ.set i (some (.sh x)))=.nx ρ'):eM i mb (x ::xs) ρ=eM i mb xs ρ':=by rw[eI,h];rfl
@[simp] theorem get_nil(t:OV):t.get []=some t:=by cases t<;>rfl
@[simp] theorem um(t u:OV):t.put [] u=u:=by cases t<;>rfl
end L2.P
namespace PJ
open PySem L2.P
inductive JV where
 |lf (x:PV)|row (vs:List JV)|fld (ns:List (List Int)) (vs:List JV)
noncomputable def mem(n:List Int)(x:PV):PV:=.tup [.tup (n.map .int),x]
mutual
noncomputable def enc:JV->PV
 |.lf x=>x
 |.row vs=>.tup [.str "row",.tup (AY vs)]
 |.fld ns vs=>.tup [.str "fields",.tup (List.zipWith mem ns (AY vs))]
noncomputable def AY:List JV->List PV
 |[]=>[]
 |v ::vs=>enc v ::AY vs
end
mutual
noncomputable def size:JV->Nat
 |.lf _=>1
 |.row vs=>1+Bx vs
 |.fld _ vs=>1+Bx vs
noncomputable def Bx:List JV->Nat
 |[]=>0
 |v ::vs=>size v+Bx vs
end
noncomputable def named(n:Int):List Int:=if n<6 then([[],[97],[97,98],[126,47],[48],[233]]:List (List Int)).getD n.toNat []else[98+n]
abbrev Fr:=Bool×List JV
noncomputable def names(k:Nat):List (List Int):=(List.range k).map fun j:Nat=>named (j:Int)
noncomputable def items(f:Fr):List PV:=if f.1 then List.zipWith mem (names f.2.length) (AY f.2)else AY f.2
end PJ
namespace PG
open L2.P PySem
inductive It where
 |sp (lo hi:Int)|white|value|lead|figures|fraction|exponent|sign|text|escape|code|coded|hex|hexd|hexcf|row|mrow|fields|mfields|name
 deriving DecidableEq
noncomputable def bC:It->PV
 |.sp lo hi=>.tup [.int lo,.int hi]
 |.white=>.str "white" | .value=>.str "value" | .lead=>.str "lead" | .figures=>.str "figures" | .fraction=>.str "fraction" | .exponent=>.str "exponent" | .sign=>.str "sign"
 |.text=>.str "text" | .escape=>.str "escape" | .code=>.str "code" | .coded=>.str "code d" | .hex=>.str "hex" | .hexd=>.str "hex d" | .hexcf=>.str "hex c to f"
 |.row=>.str "row" | .mrow=>.str "more row" | .fields=>.str "fields" | .mfields=>.str "more fields" | .name=>.str "name"
noncomputable def loose:It->Bool
 |.white=>true|.figures=>true|.fraction=>true|.exponent=>true|.sign=>true
 |_=>false
noncomputable def opn:It->Bool
 |.row=>true|.mrow=>true|.fields=>true|.mfields=>true
 |_=>false
noncomputable def wht(b:Int):Bool:=decide (9=b)||(decide (10=b)||(decide (13=b)||decide (32=b)))
noncomputable def fig(b:Int):Bool:=decide (48<=b)&&decide (b<=57)
noncomputable def ko(b:Int):Option Int:=if 48<=b /\ b<=57 then some (b - 48)else if 65<=b /\ b<=70 then some (b - 55)else if 97<=b /\ b<=102 then some (b - 87)else none
noncomputable def i5(b:Int):Option (List It):=if b=48 then some [.fraction,.exponent]else if 48<=b /\ b<=57 then some [.figures,.fraction,.exponent]else none
noncomputable def kF(b:Int):Option (List It):=
 if b=91 then some [.white,.row]else if b=123 then some [.white,.fields]else if b=34 then some [.text]else if b=45 then some [.lead]
 else if b=110 then some [.sp 117 117,.sp 108 108,.sp 108 108]else if b=116 then some [.sp 114 114,.sp 117 117,.sp 101 101]else if b=102 then some [.sp 97 97,.sp 108 108,.sp 115 115,.sp 101 101]
 else i5 b
noncomputable def lA:List It:=[.white,.sp 58 58,.white,.value,.white,.mfields]
noncomputable def tls(b:Int):Option (List It):=
 if 0<=b /\ b<128 then some []else if 194<=b /\ b<224 then some [.sp 128 191]
 else if 224<=b /\ b<240 then some [if b=224 then .sp 160 191 else if b=237 then .sp 128 159 else .sp 128 191,.sp 128 191]
 else if 240<=b /\ b<245 then some [if b=240 then .sp 144 191 else if b=244 then .sp 128 143 else .sp 128 191,.sp 128 191,.sp 128 191]
 else none
noncomputable def oY(b:Int):Option (List It):=if b=34 then some []else if b=92 then some [.escape,.text]else if b<32 then none else(tls b).map (·++[.text])
noncomputable def oR(b:Int):Bool:=b=34||b=92||b=47||b=98||b=102||b=110||b=114||b=116
noncomputable def xJ(b:Int):Option (List It):=if b=117 then some [.code]else if oR b then some []else none
noncomputable def vC(w:Int):Option (List It):=if w<8 then some [.hex,.hex]else if w<12 then some [.hex,.hex,.sp 92 92,.sp 117 117,.hexd,.hexcf,.hex,.hex]else none
noncomputable def bh:It->Int->Option (List It)
 |.sp lo hi,b=>if lo<=b /\ b<=hi then some []else none
 |.white,b=>if wht b then some [.white]else none
 |.value,b=>kF b
 |.lead,b=>i5 b
 |.figures,b=>if 48<=b /\ b<=57 then some [.figures]else none
 |.fraction,b=>if b=46 then some [.sp 48 57,.figures]else none
 |.exponent,b=>if b=101 \/ b=69 then some [.sign,.sp 48 57,.figures]else none
 |.sign,b=>if b=43 \/ b=45 then some []else none
 |.text,b=>oY b
 |.escape,b=>xJ b
 |.code,b=>(ko b).bind fun w=>if w=13 then some [.coded]else some [.hex,.hex,.hex]
 |.coded,b=>(ko b).bind vC
 |.hex,b=>(ko b).map fun _=>[]
 |.hexd,b=>(ko b).bind fun w=>if w=13 then some []else none
 |.hexcf,b=>(ko b).bind fun w=>if 12<=w then some []else none
 |.row,b=>if b=93 then some []else(kF b).map (·++[.white,.mrow])
 |.mrow,b=>if b=44 then some [.white,.value,.white,.mrow]else if b=93 then some []else none
 |.fields,b=>if b=125 then some []else if b=34 then some (.text ::lA)else none
 |.mfields,b=>if b=44 then some (.white ::.name ::lA)else if b=125 then some []else none
 |.name,b=>if b=34 then some [.text]else none
noncomputable def cnt(st:List It):Nat:=(st.filter opn).length
noncomputable def gon:List It->Int->List It×Bool
 |[],_=>([],false)
 | it ::st,b=>match bh it b with
   |some l=>(l++st,decide (cnt (l++st)<=64))
   |none=>if loose it then gon st b else(st,false)
noncomputable def tk:List It->List Int->List It×Nat
 |st,[]=>(st,0)
 |st,b ::r=>if(gon st b).2 then((tk (gon st b).1 r).1,(tk (gon st b).1 r).2+1)else((gon st b).1,0)
noncomputable def st0:List It:=[.white,.value,.white]
noncomputable def flt(row:List Int):Option Nat:=if(tk st0 row).2=row.length /\ (tk st0 row).1.all loose=true then none else some (tk st0 row).2
noncomputable def wk(st:List It):OV:=.ob "Walk" ["coming"] [.ol ((st.reverse.map bC).map .sh)]
theorem zy(it:It)(b:Int)(l:List It)(h:bh it b=some l):l.length<=8:=by
 have hv:∀ l,kF b=some l->l.length<=5:=by
  intro l h;unfold kF i5 at h
  repeat' split at h
  all_goals(first|(cases h;done)|(injection h with h;subst h;decide))
 have ht:∀ l,tls b=some l->l.length<=5:=by
  intro l h;unfold tls at h
  repeat' split at h
  all_goals(first|(cases h;done)|(injection h with h;subst h;simp))
 cases it with
 |value=>exact Nat.le_trans (hv l h) (by decide)
 | row=>
   simp only[bh]at h;split at h
   . injection h with h;subst h;decide
   . cases e:kF b with
     |none=>rw[e]at h;cases h
     |some l'=>rw[e]at h;injection h with h;subst h;have:=hv l' e;simp;omega
 | text=>
   simp only[bh,oY]at h
   repeat' split at h
   all_goals first|(cases h;done)|(injection h with h;subst h;decide)|skip
   cases e:tls b with
   |none=>rw[e]at h;cases h
   |some l'=>rw[e]at h;injection h with h;subst h;have:=ht l' e;simp;omega
 | code=>
   simp only[bh]at h
   cases e:ko b with
   |none=>rw[e]at h;cases h
   |some w=>rw[e]at h;simp only[Option.bind_some]at h;split at h<;>(injection h with h;subst h;decide)
 | coded=>
   simp only[bh]at h
   cases e:ko b with
   |none=>rw[e]at h;cases h
   | some w=>
     rw[e]at h;simp only[Option.bind_some,vC]at h
     repeat' split at h
     all_goals first|(cases h;done)|(injection h with h;subst h;decide)
 | hex=>
   simp only[bh]at h
   cases e:ko b with
   |none=>rw[e]at h;cases h
   |some w=>rw[e]at h;injection h with h;subst h;simp
 | hexd=>
   simp only[bh]at h
   cases e:ko b with
   |none=>rw[e]at h;cases h
   |some w=>rw[e]at h;simp only[Option.bind_some]at h;split at h<;>first|(cases h;done)|(injection h with h;subst h;decide)
 | hexcf=>
   simp only[bh]at h
   cases e:ko b with
   |none=>rw[e]at h;cases h
   |some w=>rw[e]at h;simp only[Option.bind_some]at h;split at h<;>first|(cases h;done)|(injection h with h;subst h;decide)
 | _=>
   simp only[bh,i5,xJ,lA]at h
   repeat' split at h
   all_goals first|(cases h;done)|(injection h with h;subst h;decide)
theorem ya(st:List It)(b:Int):(gon st b).1.length<=st.length+8:=by
 induction st with
 |nil=>simp[gon]
 | cons it st ih=>
   unfold gon
   cases e:bh it b with
   |some l=>have:=zy it b l e;simp;omega
   | none=>
     dsimp only;split
     . simp;omega
     . simp;omega
end PG
namespace PG
noncomputable def hv(b:Int):Int:=(ko b).getD 0
theorem Au{b w:Int}(h:ko b=some w):0<=w /\ w<16 /\ 48<=b /\ b<=102 /\ b≠92 /\ b≠117:=by
 unfold ko at h;split at h
 . injection h with h;omega
 . split at h
   . injection h with h;omega
   . split at h
     . injection h with h;omega
     . cases h
theorem cnt_cons(it:It)(st:List It):cnt (it ::st)=(if opn it then 1 else 0)+cnt st:=by
 unfold cnt
 cases e:opn it<;>simp[e]
 omega
theorem ji(l st:List It):cnt (l++st)=cnt l+cnt st:=by
 unfold cnt;rw[List.filter_append,List.length_append]
theorem FU{st st':List It}{b:Int}{r:List Int}(h:gon st b=(st',true)):tk st (b ::r)=((tk st' r).1,(tk st' r).2+1):=by
 simp[tk,h]
theorem Ck{it:It}{st l:List It}{b:Int}{r:List Int}(h:bh it b=some l)(hl:cnt l=0)(hc:cnt st<=64):tk (it ::st) (b ::r)=((tk (l++st) r).1,(tk (l++st) r).2+1):=by
 refine FU ?_
 have:cnt (l++st)<=64:=by rw[ji];omega
 simp[gon,h,this]
theorem qZ{it:It}{st:List It}{b:Int}{r:List Int}(h:bh it b=none)(hl:loose it=true):tk (it ::st) (b ::r)=tk st (b ::r):=by
 simp[tk,gon,h,hl]
noncomputable def Goes(st:List It)(bs:List Int)(st':List It):Prop:=∀ r,tk st (bs++r)=((tk st' r).1,(tk st' r).2+bs.length)
theorem Goes.nil(st:List It):Goes st [] st:=fun r=>by simp
theorem Goes.trans{a b c:List It}{xs ys:List Int}(h:Goes a xs b)(k:Goes b ys c):Goes a (xs++ys) c:=fun r=>by
 rw[List.append_assoc,h,k,List.length_append]
 congr 1
 omega
theorem Goes.step{it:It}{st l st':List It}{b:Int}{bs:List Int}(h:bh it b=some l)(hl:cnt l=0)(hc:cnt st<=64)(k:Goes (l++st) bs st'):Goes (it ::st) (b ::bs) st':=fun r=>by
 rw[List.cons_append,Ck h hl hc,k,List.length_cons]
 congr 1
theorem Goes.skip{it:It}{st st':List It}{b:Int}{bs:List Int}(h:bh it b=none)(hl:loose it=true)(k:Goes st (b ::bs) st'):Goes (it ::st) (b ::bs) st':=fun r=>by
 rw[List.cons_append,qZ h hl,<- List.cons_append,k]
end PG
namespace PG
noncomputable abbrev isF(b:Int):Prop:=48<=b /\ b<=57
structure Nm where
 neg:Bool
 ip:List Int
 fr:List Int
 ex:Option (Int×List Int×List Int)
noncomputable def frB(fr:List Int):List Int:=if fr=[]then[]else 46 ::fr
noncomputable def exB:Option (Int×List Int×List Int)->List Int
 |none=>[]
 |some (e,s,ds)=>e ::(s++ds)
noncomputable def nb(m:Nm):List Int:=(if m.neg then[45]else[])++(m.ip++(frB m.fr++exB m.ex))
noncomputable def nl:It->Bool
 |.figures=>true|.fraction=>true|.exponent=>true
 |_=>false
theorem qf{st:List It}(hc:cnt st<=64)(ds:List Int)(h:∀ b∈ds,isF b):Goes (.figures ::st) ds (.figures ::st):=by
 induction ds with
 |nil=>exact .nil _
 | cons d ds ih=>
   refine Goes.step (l:=[.figures]) ?_ rfl hc (ih fun b hb=>h b (List.mem_cons_of_mem _ hb));have:=h d List.mem_cons_self;simp only[bh];rw[if_pos this]
theorem rY{ls:List It}(h:ls.all nl=true):ls.all loose=true:=by
 rw[List.all_eq_true]at h ⊢
 intro it hi;have:=h it hi
 cases it<;>first|rfl|(exact absurd this (by simp[nl]))
end PG
namespace PG
open L2.P PySem
noncomputable def out:List Bool->List It
 |[]=>[.white]
 |r ::fs=>.white ::(if r then .mrow else .mfields) ::out fs
noncomputable def hd(r e:Bool):It:=if r then(if e then .row else .mrow)else(if e then .fields else .mfields)
noncomputable def stk(r e:Bool)(fs:List Bool):List It:=.white ::hd r e ::out fs
theorem uD:∀ fs:List Bool,cnt (out fs)=fs.length
 |[]=>rfl
 | r ::fs=>by
   show cnt (.white ::(if r then It.mrow else It.mfields) ::out fs)=fs.length+1;rw[cnt_cons,cnt_cons,uD fs]
   cases r<;>simp[opn]<;>omega
noncomputable def Ga(b:Int):Prop:=bh .figures b=none /\ bh .fraction b=none /\ bh .exponent b=none
theorem Goes.one{it:It}{st l:List It}{b:Int}(h:bh it b=some l)(hc:cnt (l++st)<=64):Goes (it ::st) [b] (l++st):=fun r=>by
 have:gon (it ::st) b=(l++st,true):=by unfold gon;rw[h];simp[hc]
 show tk (it ::st) (b ::r)=_;rw[FU this];rfl
noncomputable def tb(b:Int):Prop:=wht b=true \/ isF b \/ b=46 \/ b=101 \/ b=69 \/ b=43 \/ b=45
theorem Df:∀(r:List Int) (st:List It),(tk st r).2<=r.length
 |[],st=>by simp[tk]
 | b ::r,st=>by
   unfold tk;split
   . have:=Df r (gon st b).1;simp only[List.length_cons];omega
   . simp
theorem Goes.whole{a b:List It}{xs:List Int}(h:Goes a xs b):(tk a xs).2=xs.length:=by
 have:=h [];rw[List.append_nil]at this;rw[this];simp[tk]
noncomputable def short:It->List Int
 |.sp lo _=>[lo]|.value=>[48]|.lead=>[48]|.text=>[34]|.name=>[34,34]|.escape=>[34]|.code=>[48,48,48,48]|.coded=>[48,48,48]
 |.hex=>[48]|.hexd=>[68]|.hexcf=>[67]|.row=>[93]|.mrow=>[93]|.fields=>[125]|.mfields=>[125]
 |_=>[]
noncomputable def ends(st:List It):List Int:=st.flatMap short
noncomputable def num:It->Bool
 |.figures=>true|.fraction=>true|.exponent=>true|.value=>true|.lead=>true
 |_=>false
noncomputable def Stp(st:List It):Prop:=∀ b r,ends st=b ::r->Ga b
noncomputable def dv(s:List It)(Q:List Int)(n:Nat):Prop:=(tk s Q).2=n /\ (n=Q.length->(tk s Q).1.all loose=false)
theorem dv.le{s:List It}{Q:List Int}{n:Nat}(h:dv s Q n):n<=Q.length:=by rw[<- h.1];exact Df Q s
theorem dv.after{s s':List It}{P Q:List Int}{n:Nat}(g:Goes s P s')(h:dv s' Q n):dv s (P++Q) (P.length+n):=by
 have e:=g Q
 refine⟨by rw[e];simp only[h.1];omega,fun z=>?_⟩
 rw[e];refine h.2 ?_;rw[List.length_append]at z;omega
theorem dv.cons{s s':List It}{b:Int}{Q:List Int}{n:Nat}(g:Goes s [b] s')(h:dv s' Q n):dv s (b ::Q) (n+1):=by
 have:=h.after g;rw[List.length_singleton,Nat.add_comm]at this;exact this
theorem dv.now{s s':List It}{b:Int}{Q:List Int}(h:gon s b=(s',false)):dv s (b ::Q) 0:=by
 have e:tk s (b ::Q)=(s',0):=by
  unfold tk;rw[h];rfl
 exact⟨by rw[e],fun z=>by simp at z⟩
theorem dv.end{s:List It}(h:s.all loose=false):dv s [] 0:=⟨rfl,fun _=>h⟩
theorem bR{it:It}{s:List It}{b:Int}{Q:List Int}(h:bh it b=none)(hl:loose it=false):dv (it ::s) (b ::Q) 0:=by
 refine dv.now (s':=s) ?_;unfold gon;rw[h,hl];rfl
theorem dA{it:It}{s:List It}(hl:loose it=false):dv (it ::s) [] 0:=dv.end (by rw[List.all_cons,hl];rfl)
theorem cN{it:It}{s l:List It}{b:Int}(h:bh it b=some l)(hl:cnt l=0)(hc:cnt s<=64):Goes (it ::s) [b] (l++s):=Goes.one h (by rw[ji,hl];omega)
noncomputable def sps(lo hi:Int):Nat->List It
 |0=>[]
 |j+1=>.sp lo hi ::List.replicate j (.sp 128 191)
theorem xX(lo hi:Int):∀ j,cnt (sps lo hi j)=0
 |0=>rfl
 | j+1=>by
   unfold sps;rw[cnt_cons]
   have:cnt (List.replicate j (It.sp 128 191))=0:=by
    induction j with
    |zero=>rfl
    |succ j ih=>rw[List.replicate_succ,cnt_cons,ih];rfl
   rw[this];rfl
theorem vJ(j:Nat):sps 128 191 j=List.replicate j (.sp 128 191):=by cases j<;>rfl
noncomputable def tLo(b:Int):Int:=if b=224 then 160 else if b=240 then 144 else 128
noncomputable def tHi(b:Int):Int:=if b=237 then 159 else if b=244 then 143 else 191
noncomputable def gf(b:Int):Nat:=1+(if 224<=b then 1 else 0)+(if 240<=b then 1 else 0)
theorem BB{b:Int}(h1:194<=b)(h2:b<=244):tls b=some (sps (tLo b) (tHi b) (gf b)):=by
 unfold tls tLo tHi gf;rw[if_neg (by omega)]
 by_cases c1:b<224
 . rw[if_pos ⟨h1,c1⟩,if_neg (by omega),if_neg (by omega),if_neg (by omega),if_neg (by omega),if_neg (by omega),if_neg (by omega)];rfl
 . rw[if_neg (by omega)]
   by_cases c2:b<240
   . rw[if_pos (by omega),if_pos (show(224:Int)<=b by omega),if_neg (show ¬ (240:Int)<=b by omega)]
     by_cases z1:b=224
     . subst z1;rfl
     . by_cases z2:b=237
       . subst z2;rfl
       . rw[if_neg z1,if_neg z2,if_neg z1,if_neg (by omega),if_neg z2,if_neg (by omega)];rfl
   . rw[if_neg (by omega),if_pos (by omega),if_pos (show(224:Int)<=b by omega),if_pos (show(240:Int)<=b by omega)]
     by_cases z1:b=240
     . subst z1;rfl
     . by_cases z2:b=244
       . subst z2;rfl
       . rw[if_neg z1,if_neg z2,if_neg (by omega),if_neg z1,if_neg (by omega),if_neg z2];rfl
theorem BD{b:Int}(h1:128<=b)(h2:b<194 \/ 244<b):tls b=none:=by
 unfold tls;rw[if_neg (by omega),if_neg (by omega),if_neg (by omega),if_neg (by omega)]
theorem uS{b:Int}(g1:b≠34)(g2:b≠92)(g3:¬ b<32):bh .text b=(tls b).map (·++[.text]):=by simp only[bh,oY,g1,g2,g3,if_false]
theorem DX{b:Int}(g1:b≠34)(g2:b≠92)(g3:b<32):bh .text b=none:=by simp only[bh,oY,g1,g2,g3,if_false,if_true]
noncomputable def Tells(s t:List It)(Q:List Int)(ok:Bool)(n:Nat):Prop:=n<=Q.length /\ (ok=true->Goes s (Q.take n) t) /\ (ok=false->dv s Q n)
theorem Tells.go{s s' t:List It}{P Q:List Int}{ok:Bool}{n:Nat}(g:Goes s P s')(h:Tells s' t Q ok n):Tells s t (P++Q) ok (P.length+n):=by
 refine⟨by rw[List.length_append];have:=h.1;omega,fun z=>?_,fun z=>(h.2.2 z).after g⟩
 rw[List.take_length_add_append];exact g.trans (h.2.1 z)
theorem Tells.yes{s t:List It}{P Q:List Int}(g:Goes s P t):Tells s t (P++Q) true P.length:=⟨by simp,fun _=>by rw[List.take_left];exact g,fun z=>by cases z⟩
theorem Tells.no{s t:List It}{Q:List Int}{n:Nat}(h:dv s Q n):Tells s t Q false n:=⟨h.le,fun z=>(by cases z),fun _=>h⟩
noncomputable def wor(c:Int):Int:=(ko c).getD (-1)
noncomputable def okh(low:Bool)(k:Nat)(num c:Int):Bool:=decide (0<=wor c)&&((!decide (k=1)||(decide (220<=num*16+wor c /\ num*16+wor c<=223)==low))&&(!decide (k=0)||(!low||decide (wor c=13))))
theorem lG(c:Int):(ko c=none /\ wor c=-1) \/ (ko c=some (wor c) /\ 0<=wor c /\ wor c<16):=by
 unfold wor
 cases h:ko c with
 |none=>exact .inl ⟨rfl,rfl⟩
 |some w=>have:=Au h;exact .inr ⟨rfl,by simp only[Option.getD_some];omega,by simp only[Option.getD_some];omega⟩
noncomputable def nc:List It:=[.sp 92 92,.sp 117 117,.hexd,.hexcf,.hex,.hex]
noncomputable def stF(T:List It):Nat->Int->List It
 |0,_=>.code ::T
 |1,n=>if n=13 then .coded ::T else .hex ::.hex ::.hex ::T
 |2,n=>.hex ::.hex ::((if 216<=n /\ n<=219 then nc else[])++T)
 |3,n=>.hex ::((if 216<=n/16 /\ n/16<=219 then nc else[])++T)
 |_,n=>(if 216<=n/256 /\ n/256<=219 then nc else[])++T
noncomputable def stL(T:List It):Nat->Int->List It
 |0,_=>.hexd ::.hexcf ::.hex ::.hex ::T
 |1,_=>.hexcf ::.hex ::.hex ::T
 |2,_=>.hex ::.hex ::T
 |3,_=>.hex ::T
 |_,_=>T
noncomputable def hIn(low:Bool)(k:Nat)(n:Int):Prop:=0<=n /\ (k=0->n=0) /\ (k=1->n<16) /\ (k=2->n<256) /\ (k=3->n<4096) /\ (low=true->k=1->n=13)
structure HS(low:Bool)(sf:Nat->Int->List It):Prop where
 go:∀(k:Nat) (n c:Int),k<4->hIn low k n->okh low k n c=true->Goes (sf k n) [c] (sf (k+1) (n*16+wor c))
 no:∀(k:Nat) (n c:Int) (Q:List Int),k<4->hIn low k n->okh low k n c=false->dv (sf k n) (c ::Q) 0
 en:∀(k:Nat) (n:Int),k<4->dv (sf k n) [] 0
theorem A3{low:Bool}{k:Nat}{n c:Int}(hk:k<4)(h:hIn low k n)(ho:okh low k n c=true):hIn low (k+1) (n*16+wor c):=by
 obtain⟨h0,h1,h2,h3,h4,h5⟩:=h;unfold okh at ho;simp only[Bool.and_eq_true,decide_eq_true_eq]at ho;obtain⟨a1,a2,a3⟩:=ho
 rcases lG c with⟨_,z⟩|⟨_,z1,z2⟩
 . omega
 refine⟨by omega,by omega,fun z=>?_,fun z=>?_,fun z=>?_,fun z1' z2'=>?_⟩
 . have:=h1 (by omega);omega
 . have:=h2 (by omega);omega
 . have:=h3 (by omega);omega
 . have hk0:k=0:=by omega
   subst hk0;subst z1';have:=h1 rfl;simp at a3;omega
theorem Fi{T:List It}(hT:cnt T<=64):HS true (stL T):=by
 have cn:∀ l:List It,cnt l=0->cnt (l++T)<=64:=fun l hl=>by rw[ji,hl];omega
 refine⟨fun k n c hk hi ho=>?_,fun k n c Q hk hi ho=>?_,fun k n hk=>?_⟩
 . unfold okh at ho;simp only[Bool.and_eq_true,decide_eq_true_eq]at ho;obtain⟨a1,a2,a3⟩:=ho
   rcases lG c with⟨_,z⟩|⟨hw,z1,z2⟩
   . omega
   match k,hk with
   | 0,_=>
     simp at a3;exact cN (l:=[]) (by simp[bh,hw,a3]) rfl (cn [.hexcf,.hex,.hex] rfl)
   | 1,_=>
     have hn:=hi.2.2.2.2.2 rfl rfl;simp at a2;exact cN (l:=[]) (by simp[bh,hw];omega) rfl (cn [.hex,.hex] rfl)
   |2,_=>exact cN (l:=[]) (by simp[bh,hw]) rfl (cn [.hex] rfl)
   |3,_=>exact cN (l:=[]) (by simp[bh,hw]) rfl hT
 . rcases lG c with⟨hw,z⟩|⟨hw,z1,z2⟩
   . match k,hk with
     |0,_=>exact bR (by simp[bh,hw]) rfl
     |1,_=>exact bR (by simp[bh,hw]) rfl
     |2,_=>exact bR (by simp[bh,hw]) rfl
     |3,_=>exact bR (by simp[bh,hw]) rfl
   . unfold okh at ho
     match k,hk with
     | 0,_=>
       simp[z1]at ho;exact bR (by simp[bh,hw,ho]) rfl
     | 1,_=>
       have hn:=hi.2.2.2.2.2 rfl rfl;simp[z1,hn]at ho;exact bR (by simp[bh,hw];omega) rfl
     |2,_=>simp[z1]at ho
     |3,_=>simp[z1]at ho
 . match k,hk with
   |0,_=>exact dA rfl
   |1,_=>exact dA rfl
   |2,_=>exact dA rfl
   |3,_=>exact dA rfl
theorem Bi{T:List It}(hT:cnt T<=64):HS false (stF T):=by
 have cn:∀ l:List It,cnt l=0->cnt (l++T)<=64:=fun l hl=>by rw[ji,hl];omega
 have cp:∀(p:Prop) [Decidable p] (l:List It),cnt l=0->cnt (l++((if p then nc else[])++T))<=64:=fun p _ l hl=>by
  rw[ji,hl,ji]
  have:cnt (if p then nc else[])=0:=by split<;>rfl
  omega
 refine⟨fun k n c hk hi ho=>?_,fun k n c Q hk hi ho=>?_,fun k n hk=>?_⟩
 . unfold okh at ho;simp only[Bool.and_eq_true,decide_eq_true_eq]at ho;obtain⟨a1,a2,a3⟩:=ho
   rcases lG c with⟨_,z⟩|⟨hw,z1,z2⟩
   . omega
   match k,hk with
   | 0,_=>
     have hn:=hi.2.1 rfl;subst hn;show Goes (.code ::T) [c] (if 0*16+wor c=13 then .coded ::T else .hex ::.hex ::.hex ::T)
     by_cases z:wor c=13
     . rw[if_pos (by omega)];exact cN (l:=[.coded]) (by simp[bh,hw,z]) rfl hT
     . rw[if_neg (by omega)];exact cN (l:=[.hex,.hex,.hex]) (by simp[bh,hw,z]) rfl hT
   | 1,_=>
     have hn:=hi.2.2.1 rfl;have hn0:=hi.1;show Goes (if n=13 then .coded ::T else .hex ::.hex ::.hex ::T) [c] (.hex ::.hex ::((if 216<=n*16+wor c /\ n*16+wor c<=219 then nc else[])++T))
     by_cases z:n=13
     . subst z;rw[if_pos rfl]
       by_cases z8:wor c<8
       . rw[if_neg (by omega)];exact cN (l:=[.hex,.hex]) (by simp[bh,hw,vC,z8]) rfl hT
       . simp at a2
         have z12:wor c<12:=by omega
         rw[if_pos (by omega)];exact cN (l:=[.hex,.hex,.sp 92 92,.sp 117 117,.hexd,.hexcf,.hex,.hex]) (by simp[bh,hw,vC,z8,z12]) rfl hT
     . rw[if_neg z,if_neg (by omega)];exact cN (l:=[]) (by simp[bh,hw]) rfl (cn [.hex,.hex] rfl)
   | 2,_=>
     have hn:=hi.2.2.2.1 rfl;have hn0:=hi.1
     have e:(n*16+wor c)/16=n:=by omega
     show Goes (.hex ::.hex ::((if 216<=n /\ n<=219 then nc else[])++T)) [c] (.hex ::((if 216<=(n*16+wor c)/16 /\ (n*16+wor c)/16<=219 then nc else[])++T));rw[e];exact cN (l:=[]) (by simp[bh,hw]) rfl (cp _ [.hex] rfl)
   | 3,_=>
     have hn0:=hi.1
     have e:(n*16+wor c)/256=n/16:=by omega
     show Goes (.hex ::((if 216<=n/16 /\ n/16<=219 then nc else[])++T)) [c] ((if 216<=(n*16+wor c)/256 /\ (n*16+wor c)/256<=219 then nc else[])++T);rw[e];exact cN (l:=[]) (by simp[bh,hw]) rfl (cp _ [] rfl)
 . rcases lG c with⟨hw,z⟩|⟨hw,z1,z2⟩
   . match k,hk with
     |0,_=>exact bR (by simp[bh,hw]) rfl
     | 1,_=>
       show dv (if n=13 then .coded ::T else .hex ::.hex ::.hex ::T) (c ::Q) 0;split
       . exact bR (by simp[bh,hw]) rfl
       . exact bR (by simp[bh,hw]) rfl
     |2,_=>exact bR (by simp[bh,hw]) rfl
     |3,_=>exact bR (by simp[bh,hw]) rfl
   . unfold okh at ho
     match k,hk with
     |0,_=>simp[z1]at ho
     | 1,_=>
       simp[z1]at ho;have hn:=hi.2.2.1 rfl;have hn0:=hi.1
       have h13:n=13:=by omega
       subst h13;show dv (.coded ::T) (c ::Q) 0
       have z8:¬ wor c<8:=by omega
       have z12:¬ wor c<12:=by omega
       exact bR (by simp[bh,hw,vC,z8,z12]) rfl
     |2,_=>simp[z1]at ho
     |3,_=>simp[z1]at ho
 . match k,hk with
   |0,_=>exact dA rfl
   | 1,_=>
     show dv (if n=13 then .coded ::T else .hex ::.hex ::.hex ::T) [] 0
     split<;>exact dA rfl
   |2,_=>exact dA rfl
   |3,_=>exact dA rfl
noncomputable def Runs(s t:List It)(Q:List Int)(n:Nat):Prop:=n<=Q.length /\ ∃ ls,ls.all nl=true /\ tk s Q=((tk (ls++t) (Q.drop n)).1,(tk (ls++t) (Q.drop n)).2+n) /\ (Q.drop n≠[]->tk (ls++t) (Q.drop n)=tk t (Q.drop n))
noncomputable def gy(s t:List It)(Q:List Int)(ok:Bool)(n:Nat):Prop:=(ok=true->Runs s t Q n) /\ (ok=false->dv s Q n)
theorem Runs.wJ{s t:List It}{Q:List Int}{n:Nat}(hn:n<=Q.length)(g:Goes s (Q.take n) t):Runs s t Q n:=by
 refine⟨hn,[],rfl,?_,fun _=>rfl⟩
 have:=g (Q.drop n);rw[List.take_append_drop,List.length_take,Nat.min_eq_left hn]at this;exact this
theorem Tells.says{s t:List It}{Q:List Int}{ok:Bool}{n:Nat}(h:Tells s t Q ok n):gy s t Q ok n:=⟨fun z=>.wJ h.1 (h.2.1 z),h.2.2⟩
theorem gy.go{s s' t:List It}{P Q:List Int}{ok:Bool}{n:Nat}(g:Goes s P s')(h:gy s' t Q ok n):gy s t (P++Q) ok (P.length+n):=by
 refine⟨fun z=>?_,fun z=>(h.2 z).after g⟩
 obtain⟨h1,ls,h2,h3,h4⟩:=h.1 z
 have hd:(P++Q).drop (P.length+n)=Q.drop n:=by rw[<- List.drop_drop,List.drop_left]
 refine⟨by rw[List.length_append];omega,ls,h2,?_,by rw[hd];exact h4⟩
 rw[hd,g Q,h3];simp only[Prod.mk.injEq,true_and];omega
theorem gy.same{s s' t:List It}{Q:List Int}{ok:Bool}{n:Nat}(e:tk s Q=tk s' Q)(h:gy s' t Q ok n):gy s t Q ok n:=by
 refine⟨fun z=>?_,fun z=>?_⟩
 . obtain⟨h1,ls,h2,h3,h4⟩:=h.1 z
   exact⟨h1,ls,h2,by rw[e];exact h3,h4⟩
 . obtain⟨h1,h2⟩:=h.2 z
   exact⟨by rw[e];exact h1,by rw[e];exact h2⟩
theorem pJ{c:Int}{r:List Int}{S:List It}:∀{ls:List It},(∀ it∈ls,bh it c=none /\ loose it=true)->tk (ls++S) (c ::r)=tk S (c ::r)
 |[],_=>rfl
 | it ::ls,h=>by
   have:=h it List.mem_cons_self;rw[List.cons_append,qZ this.1 this.2]
   exact pJ fun x hx=>h x (List.mem_cons_of_mem _ hx)
noncomputable def Fl(ls:List It)(X:List Int):Prop:=∀ c r,X=c ::r->∀ it∈ls,bh it c=none /\ loose it=true
theorem gy.here{ls t:List It}{X:List Int}(hl:ls.all nl=true)(hp:Fl ls X):gy (ls++t) t X true 0:=by
 refine⟨fun _=>⟨Nat.zero_le _,ls,hl,by simp,fun hne=>?_⟩,fun z=>by cases z⟩
 rw[List.drop_zero]at hne ⊢
 cases X with
 |nil=>exact absurd rfl hne
 |cons c r=>exact pJ (hp c r rfl)
noncomputable def dgs:List Int->Nat
 |[]=>0
 |c ::r=>if 48<=c /\ c<=57 then dgs r+1 else 0
theorem qp:∀ X:List Int,dgs X<=X.length
 |[]=>Nat.le_refl _
 |c ::r=>by unfold dgs;have:=qp r;split<;>simp<;>omega
theorem pN:∀ X:List Int,∀ b∈X.take (dgs X),isF b
 |[],b,h=>by simp at h
 | c ::r,b,h=>by
   unfold dgs at h;split at h
   . rename_i hc;rw[List.take_succ_cons,List.mem_cons]at h
     rcases h with z|z
     . rw[z];exact hc
     . exact pN r b z
   . simp at h
theorem o8:∀(X:List Int) (c:Int) (r:List Int),X.drop (dgs X)=c ::r->¬ (48<=c /\ c<=57)
 |[],c,r,h=>by simp at h
 | x ::X,c,r,h=>by
   unfold dgs at h;split at h
   . rw[List.drop_succ_cons]at h;exact o8 X c r h
   . rename_i hx;rw[List.drop_zero]at h
     cases h;exact hx
noncomputable def lP:List Int->Bool×Nat
 |[]=>(true,0)
 | c ::X=>if c = 101 \/ c = 69 then (match X with
     |[]=>(false,1)
     |s ::Y=>if s=43 \/ s=45 then(decide (0<dgs Y),2+dgs Y)else(decide (0<dgs (s ::Y)),1+dgs (s ::Y)))else(true,0)
noncomputable def iX:List Int->Bool×Nat
 |[]=>(true,0)
 |c ::X=>if c=46 then(if dgs X=0 then(false,1)else((lP (X.drop (dgs X))).1,1+dgs X+(lP (X.drop (dgs X))).2))else lP (c ::X)
noncomputable def mX:List Int->Bool×Nat
 |[]=>(false,0)
 |d ::r=>if 48<=d /\ d<=57 then(let n:=if d=48 then 1 else dgs (d ::r);((iX ((d ::r).drop n)).1,n+(iX ((d ::r).drop n)).2))else(false,0)
noncomputable def rL:List Int->Bool×Nat
 |[]=>(false,0)
 |b ::r=>if b=45 then((mX r).1,1+(mX r).2)else mX (b ::r)
theorem zM {c:Int} {X:List Int} (h:c = 101 \/ c = 69):lP (c ::X) = match X with
   |[]=>(false,1)
   |s ::Y=>if s=43 \/ s=45 then(decide (0<dgs Y),2+dgs Y)else(decide (0<dgs (s ::Y)),1+dgs (s ::Y)):=by
 show(if _ then _ else _)=_
 rw[if_pos h]
theorem Bl{c:Int}{X:List Int}(h:¬ (c=101 \/ c=69)):lP (c ::X)=(true,0):=by
 show(if _ then _ else _)=_
 rw[if_neg h]
theorem xZ{X:List Int}:iX (46 ::X)=if dgs X=0 then(false,1)else((lP (X.drop (dgs X))).1,1+dgs X+(lP (X.drop (dgs X))).2):=rfl
theorem xV{c:Int}{X:List Int}(h:¬ c=46):iX (c ::X)=lP (c ::X):=by
 show(if _ then _ else _)=_
 rw[if_neg h]
theorem xg{r:List Int}:mX (48 ::r)=((iX r).1,1+(iX r).2):=rfl
theorem xo{d:Int}{r:List Int}(h:48<=d /\ d<=57)(h0:¬ d=48):mX (d ::r)=((iX (r.drop (dgs r))).1,dgs r+1+(iX (r.drop (dgs r))).2):=by
 have e:dgs (d ::r)=dgs r+1:=by simp[dgs,h]
 unfold mX;simp only[if_pos h,if_neg h0,e,List.drop_succ_cons]
theorem xD{d:Int}{r:List Int}(h:¬ (48<=d /\ d<=57)):mX (d ::r)=(false,0):=by
 show(if _ then _ else _)=_
 rw[if_neg h]
theorem qd{T X:List Int}{t:List It}(hc:cnt t<=64):gy (.sp 48 57 ::.figures ::t) t X (decide (0<dgs X)) (dgs X):=by
 have hc2:cnt (.figures ::t)<=64:=by rw[cnt_cons];simpa [PG.opn]using hc
 cases X with
 |nil=>exact⟨fun z=>by simp[dgs]at z,fun _=>dA rfl⟩
 | cons c r=>
   by_cases hcd:48<=c /\ c<=57
   . have e:dgs (c ::r)=dgs r+1:=by simp[dgs,hcd]
     rw[e,decide_eq_true (by omega)]
     have g1:Goes (.sp 48 57 ::.figures ::t) [c] (.figures ::t):=cN (l:=[]) (by simp only[bh];rw[if_pos hcd]) rfl hc2
     have g2:Goes (.figures ::t) (r.take (dgs r)) (.figures ::t):=qf hc _ (pN r)
     have:=(gy.here (ls:=[.figures]) (t:=t) (X:=r.drop (dgs r)) rfl (fun c' r' e' it hit=>by
      rw[List.mem_singleton]at hit;subst hit
      exact⟨by simp only[bh];rw[if_neg (o8 r c' r' e')],rfl⟩)).go (g1.trans g2)
     rw[List.append_assoc,List.take_append_drop]at this
     have hl:([c]++r.take (dgs r)).length+0=dgs r+1:=by
      have:=qp r
      simp;omega
     rw[hl]at this;exact this
   . have e:dgs (c ::r)=0:=by simp[dgs,hcd]
     rw[e]
     exact⟨fun z=>by simp at z,fun _=>bR (by simp only[bh];rw[if_neg hcd]) rfl⟩
theorem vj{t:List It}(hc:cnt t<=64){ls:List It}(hl:ls.all nl=true):∀ X:List Int,Fl ls X->gy (ls ++ .exponent ::t) t X (lP X).1 (lP X).2:=by
 have hE:∀ X:List Int,gy (.exponent ::t) t X (lP X).1 (lP X).2:=by
  intro X
  have hcf:cnt (.figures ::t)<=64:=by rw[cnt_cons];simpa [PG.opn]using hc
  have hcs:cnt (.sp 48 57 ::.figures ::t)<=64:=by rw[cnt_cons];simpa [PG.opn]using hcf
  cases X with
  |nil=>exact gy.here (ls:=[.exponent]) rfl (fun c r e=>by cases e)
  | cons c X=>
    by_cases he:c=101 \/ c=69
    . rw[zM he]
      have g1:Goes (.exponent ::t) [c] (.sign ::.sp 48 57 ::.figures ::t):=cN (l:=[.sign,.sp 48 57,.figures]) (by simp only[bh];rw[if_pos he]) rfl hc
      cases X with
      |nil=>exact⟨fun z=>(by cases z),fun _=>(dv.end (by rfl)).cons g1⟩
      | cons s Y=>
        by_cases hs:s=43 \/ s=45
        . simp only[if_pos hs]
          have g2:Goes (.sign ::.sp 48 57 ::.figures ::t) [s] (.sp 48 57 ::.figures ::t):=cN (l:=[]) (by simp only[bh];rw[if_pos hs]) rfl hcs
          exact(qd (T:=[]) hc).go (P:=[c,s]) (g1.trans g2)
        . simp only[if_neg hs];have:=(gy.same (s:=.sign ::.sp 48 57 ::.figures ::t) (qZ (by simp only[bh];rw[if_neg hs]) rfl) (qd (T:=[]) (X:=s ::Y) hc)).go (P:=[c]) g1;exact this
    . rw[Bl he]
      exact gy.here (ls:=[.exponent]) rfl (fun c' r e it hit=>by
       cases e;rw[List.mem_singleton]at hit;subst hit
       exact⟨by simp only[bh];rw[if_neg he],rfl⟩)
 intro X hp
 cases X with
 |nil=>exact gy.here (ls:=ls++[.exponent]) (t:=t) (by rw[List.all_append,hl];rfl) (fun c r e=>by cases e) |> fun h=>by simpa [lP,iX]using h
 |cons c X=>exact(hE (c ::X)).same (pJ (hp c X rfl))
theorem tS{t:List It}(hc:cnt t<=64){ls:List It}(hl:ls.all nl=true):∀ X:List Int,Fl ls X->gy (ls ++ .fraction ::.exponent ::t) t X (iX X).1 (iX X).2:=by
 intro X hp
 have hce:cnt (.exponent ::t)<=64:=by rw[cnt_cons];simpa [PG.opn]using hc
 cases X with
 |nil=>exact gy.here (ls:=ls++[.fraction,.exponent]) (t:=t) (by rw[List.all_append,hl];rfl) (fun c r e=>by cases e) |> fun h=>by simpa [lP,iX]using h
 | cons c X=>
   refine gy.same (pJ (hp c X rfl)) ?_
   by_cases h46:c=46
   . subst h46;rw[xZ]
     have g1:Goes (.fraction ::.exponent ::t) [46] (.sp 48 57 ::.figures ::.exponent ::t):=cN (l:=[.sp 48 57,.figures]) rfl rfl hce
     by_cases h0:dgs X=0
     . rw[if_pos h0]
       refine⟨fun z=>(by cases z),fun _=>?_⟩
       have:=(qd (T:=[]) (X:=X) hce).2 (by rw[h0];rfl);rw[h0]at this;exact this.cons g1
     . rw[if_neg h0]
       obtain⟨d,r,rfl⟩:∃ d r,X=d ::r:=by cases X with|nil=>exact absurd rfl h0|cons d r=>exact⟨d,r,rfl⟩
       have hd:48<=d /\ d<=57:=by
        by_cases z:48<=d /\ d<=57
        . exact z
        . exact absurd (by simp[dgs,z]) h0
       have e:dgs (d ::r)=dgs r+1:=by simp[dgs,hd]
       have hcf:cnt (.figures ::.exponent ::t)<=64:=by rw[cnt_cons];simpa [PG.opn]using hce
       have g2:Goes (.sp 48 57 ::.figures ::.exponent ::t) [d] (.figures ::.exponent ::t):=cN (l:=[]) (by simp only[bh];rw[if_pos hd]) rfl hcf
       have g3:Goes (.figures ::.exponent ::t) (r.take (dgs r)) (.figures ::.exponent ::t):=qf hce _ (pN r)
       have hx:=vj hc (ls:=[.figures]) rfl (r.drop (dgs r)) (fun c' r' e' it hit=>by
        rw[List.mem_singleton]at hit;subst hit
        exact⟨by simp only[bh];rw[if_neg (o8 r c' r' e')],rfl⟩)
       have:=hx.go ((g1.trans g2).trans g3);rw[List.append_assoc,List.take_append_drop]at this;have hle:=qp r
       have hlen:(([46]++[d])++r.take (dgs r)).length=1+(dgs r+1):=by simp;omega
       rw[hlen]at this;rw[e,List.drop_succ_cons];exact this
   . rw[xV h46]
     have hE:=vj hc (ls:=[.fraction]) rfl (c ::X) (fun c' r' e' it hit=>by
      cases e'
      rw[List.mem_singleton]at hit;subst hit
      exact⟨by simp only[bh];rw[if_neg h46],rfl⟩)
     exact hE
theorem wD{it:It}{t:List It}(hc:cnt t<=64)(hl:loose it=false)(hb:∀ d,¬ (48<=d /\ d<=57)->it=.lead->bh it d=none)(hd:∀ d,48<=d /\ d<=57->bh it d=i5 d)(X:List Int)(hX:it=.lead \/ ∃ d r,X=d ::r /\ 48<=d /\ d<=57):gy (it ::t) t X (mX X).1 (mX X).2:=by
 cases X with
 | nil=>
   rcases hX with z|⟨d,r,e,_⟩
   . exact⟨fun z=>(by cases z),fun _=>dA hl⟩
   . cases e
 | cons d r=>
   by_cases h:48<=d /\ d<=57
   . by_cases h48:d=48
     . subst h48;rw[xg]
       have g1:Goes (it ::t) [48] (.fraction ::.exponent ::t):=cN (l:=[.fraction,.exponent]) (by rw[hd 48 h];rfl) rfl hc
       exact(tS hc (ls:=[]) rfl r (fun _ _ _ it hit=>by cases hit)).go (P:=[48]) g1
     . rw[xo h h48]
       have hcf:cnt (.fraction ::.exponent ::t)<=64:=by rw[cnt_cons,cnt_cons];simpa [PG.opn]using hc
       have g1:Goes (it ::t) [d] (.figures ::.fraction ::.exponent ::t):=cN (l:=[.figures,.fraction,.exponent]) (by rw[hd d h];unfold i5;rw[if_neg h48,if_pos h]) rfl hc
       have g2:Goes (.figures ::.fraction ::.exponent ::t) (r.take (dgs r)) (.figures ::.fraction ::.exponent ::t):=qf hcf _ (pN r)
       have hx:=tS hc (ls:=[.figures]) rfl (r.drop (dgs r)) (fun c' r' e' it hit=>by
        rw[List.mem_singleton]at hit;subst hit
        exact⟨by simp only[bh];rw[if_neg (o8 r c' r' e')],rfl⟩)
       have:=hx.go (g1.trans g2);rw[List.append_assoc,List.take_append_drop]at this;have hle:=qp r
       have hlen:([d]++r.take (dgs r)).length=dgs r+1:=by simp;omega
       rw[hlen]at this;exact this
   . rw[xD h]
     rcases hX with z|⟨d',r',e,h1⟩
     . exact⟨fun z=>(by cases z),fun _=>bR (hb d h z) hl⟩
     . cases e;exact absurd h1 h
theorem Bv{t:List It}(hc:cnt t<=64){b:Int}{r:List Int}(hb:b=45 \/ (48<=b /\ b<=57)):gy (.value ::t) t (b ::r) (rL (b ::r)).1 (rL (b ::r)).2:=by
 by_cases h45:b=45
 . subst h45
   have g1:Goes (.value ::t) [45] (.lead ::t):=cN (l:=[.lead]) rfl rfl hc
   exact(wD (it:=.lead) hc rfl (fun d h _=>by simp only[bh,i5];rw[if_neg (by omega),if_neg h]) (fun d _=>rfl) r (.inl rfl)).go (P:=[45]) g1
 . have en:rL (b ::r) = mX (b ::r):=by
    unfold rL;simp only[if_neg h45]
   rw[en]
   have hd:48<=b /\ b<=57:=by rcases hb with z|z;exact absurd z h45;exact z
   refine wD (it:=.value) hc rfl (fun d h z=>by cases z) (fun d h=>?_) (b ::r) (.inr ⟨b,r,rfl,hd⟩);simp only[bh];unfold kF;rw[if_neg (by omega),if_neg (by omega),if_neg (by omega),if_neg (by omega),if_neg (by omega),if_neg (by omega),if_neg (by omega)]
end PG
namespace L2.plainglass_k07_whole_any_bytes
open PySem L2.P PG
noncomputable def mW(c:String):Bool:=c == "Walk"
noncomputable def sj:aj -> OS:=
    (aN (bp (dn (ak 0))
    (aS (mOp bc (ak 0) (mOp oa (ak 1) (mUn gF (ak 0)))))
    aO)
    (aS (mC (.int 0))))
noncomputable def hV:List PV->OE:=fnP 2 2 sj
noncomputable def qG:aj -> OS:=
    (aS (mOp oa (mOp cu (mOp yO (mOp sW (ak 2) (mC (.int 64))) (mC (.int 69621))) (ak 2)) (mC (.int 4294967231))))
noncomputable def qI:aj -> OS:=
    (aN (aU 2 (mOp oa (mOp yO (ak 2) (mC (.int 48271))) (mC (.int 4294967279))))
    qG)
noncomputable def tV:aj -> OS:=
    (aN (aU 2 (mOp oa (mOp cu (bU hV (af (ak 0) (af (ak 1) aB))) (mOp yO (mC (.int 104729)) (mOp cu (ak 1) (mC (.int 1))))) (mC (.int 4294967291))))
    qI)
noncomputable def gD:List PV->OE:=fnP 2 3 tV
noncomputable def oz:aj -> OS:=
    (aS (mOp bc (ak 6) (mOp oa (ak 0) (mUn gF (ak 6)))))
noncomputable def oB:aj -> OS:=
    (jm 4 (aN (yB 5 6 ["value","value first","name first","name","colon","behind"] (af (ak 4) (af (mOp pH (ak 4) (ba (af (ba (af (mC (.int 93)) aB)) aB))) (af (ba (af (ba (af (mC (.int 34)) (af (mC (.int 97)) (af (mC (.int 34)) aB)))) (af (ba (af (mC (.int 125)) aB)) (af (ba (af (mC (.int 34)) (af (mC (.int 34)) aB))) (af (ba (af (mC (.int 34)) (af (mC (.int 98)) (af (mC (.int 34)) aB)))) aB))))) (af (ba (af (ba (af (mC (.int 34)) (af (mC (.int 97)) (af (mC (.int 34)) aB)))) (af (ba (af (mC (.int 32)) aB)) (af (ba (af (mC (.int 34)) (af (mC (.int 98)) (af (mC (.int 34)) aB)))) aB)))) (af (ba (af (ba (af (mC (.int 58)) aB)) (af (ba (af (mC (.int 58)) aB)) (af (ba (af (mC (.int 32)) aB)) aB)))) (af (ba (af (ba (af (mC (.int 44)) aB)) (af (ba (af (ak 3) aB)) (af (ba (af (mC (.int 10)) aB)) (af (ba (af (ak 3) aB)) (af (ba (af (mC (.int 44)) aB)) (af (ba (af (mC (.int 93)) aB)) aB))))))) aB)))))) (ak 1))
    oz))
noncomputable def oI:aj -> OS:=
    (aN (aU 4 (ba (af (ba (af (mC (.int 91)) aB)) (af (ba (af (mC (.int 123)) aB)) (af (ba (af (mC (.int 34)) (af (mC (.int 97)) (af (mC (.int 34)) aB)))) (af (ba (af (mC (.int 48)) aB)) (af (ba (af (mC (.int 45)) (af (mC (.int 49)) (af (mC (.int 46)) (af (mC (.int 48)) (af (mC (.int 101)) (af (mC (.int 43)) (af (mC (.int 50)) aB)))))))) (af (ba (af (mC (.int 110)) (af (mC (.int 117)) (af (mC (.int 108)) (af (mC (.int 108)) aB))))) (af (ba (af (mC (.int 91)) aB)) (af (ba (af (mC (.int 32)) aB)) (af (ba (af (mC (.int 34)) (af (mC (.int 92)) (af (mC (.int 117)) (af (mC (.int 100)) (af (mC (.int 56)) (af (mC (.int 48)) (af (mC (.int 48)) (af (mC (.int 92)) (af (mC (.int 117)) (af (mC (.int 100)) (af (mC (.int 99)) (af (mC (.int 48)) (af (mC (.int 48)) (af (mC (.int 34)) aB))))))))))))))) (af (ba (af (mC (.int 34)) (af (mC (.int 195)) (af (mC (.int 164)) (af (mC (.int 92)) (af (mC (.int 110)) (af (mC (.int 34)) aB))))))) (af (ba (af (mC (.int 123)) aB)) (af (ba (af (mC (.int 116)) (af (mC (.int 114)) (af (mC (.int 117)) (af (mC (.int 101)) aB))))) (af (ba (af (mC (.int 34)) (af (mC (.int 240)) (af (mC (.int 159)) (af (mC (.int 152)) (af (mC (.int 128)) (af (mC (.int 92)) (af (mC (.int 34)) (af (mC (.int 34)) aB))))))))) aB)))))))))))))))
    oB)
noncomputable def oM:aj -> OS:=
    (aN (bp (cQ (eK 2 bX) (au (mOp gEq (iM 2 (pIx 2 bX (mUn lg (mC (.int 1))))) (mC (.int 123)))))
    (aU 3 (mC (.int 125)))
    aO)
    oI)
noncomputable def qN:aj -> OS:=
    (aN (aU 3 (mC (.int 93)))
    oM)
noncomputable def fq:List Sl->OI:=fnI 3 7 qN
noncomputable def oH:aj -> OS:=
    (aS (fi (au (mOp gIn (ak 1) (cB (af (mC (.str "name")) (af (mC (.str "name first")) aB))))) (mC (.str "colon")) (mC (.str "behind"))))
noncomputable def jn:aj -> OS:=
    (aN (bp (au (mOp gEq (mOp bc (ak 0) (mC (.int 0))) (mC (.int 58))))
    (aS (mC (.str "value")))
    aO)
    oH)
noncomputable def jr:aj -> OS:=
    (aN (bp (au (mOp gEq (mOp bc (ak 0) (mC (.int 0))) (mC (.int 44))))
    (rQ 2 (aS (fi (cQ (eK 2 bX) (au (mOp gEq (iM 2 (pIx 2 bX (mUn lg (mC (.int 1))))) (mC (.int 123))))) (mC (.str "name")) (mC (.str "value")))))
    aO)
    jn)
noncomputable def g8:aj -> OS:=
    (aN (bp (au (mOp gIn (mOp bc (ak 0) (mC (.int 0))) (cB (af (mC (.int 93)) (af (mC (.int 125)) aB)))))
    (aN (bp (eK 2 bX)
    (mZ (mQ 2 bX))
    aO)
    (aS (mC (.str "behind"))))
    aO)
    jr)
noncomputable def jo:aj -> OS:=
    (aN (bp (au (mOp gIn (mOp bc (ak 0) (mC (.int 0))) (cB (af (mC (.int 91)) (af (mC (.int 123)) aB)))))
    (aN (j8 2 bX (mD (mOp bc (ak 0) (mC (.int 0)))))
    (aS (fi (au (mOp gEq (mOp bc (ak 0) (mC (.int 0))) (mC (.int 91)))) (mC (.str "value first")) (mC (.str "name first")))))
    aO)
    g8)
noncomputable def eS:aj -> OS:=
    (aN (bp (lH (kE (dn (ak 0))) (au (mOp gIn (mOp bc (ak 0) (mC (.int 0))) (cB (af (mC (.int 32)) (af (mC (.int 10)) aB))))))
    (kx 1)
    aO)
    jo)
noncomputable def eY:List Sl->OI:=fnI 3 3 eS
noncomputable def rm:aj -> OS:=
    (aN (aU 1 (ba (af (ba (af (mC (.int 48)) aB)) (af (ba (af (mC (.int 49)) aB)) (af (ba (af (mC (.int 93)) aB)) (af (ba (af (mC (.int 125)) aB)) (af (ba (af (mC (.int 44)) aB)) (af (ba (af (mC (.int 58)) aB)) (af (ba (af (mC (.int 34)) aB)) (af (ba (af (mC (.int 92)) aB)) (af (ba (af (mC (.int 46)) aB)) (af (ba (af (mC (.int 101)) aB)) (af (ba (af (mC (.int 45)) aB)) (af (ba (af (mC (.int 31)) aB)) (af (ba (af (mC (.int 127)) aB)) (af (ba (af (mC (.int 195)) (af (mC (.int 169)) aB))) (af (ba (af (mC (.int 34)) (af (mC (.int 31)) (af (mC (.int 34)) aB)))) (af (ba (af (mC (.int 48)) (af (mC (.int 49)) aB))) (af (ba (af (mC (.int 48)) (af (mC (.int 48)) aB))) (af (ba (af (mC (.int 44)) (af (mC (.int 125)) aB))) (af (ba (af (mC (.int 44)) (af (mC (.int 93)) aB))) (af (ba (af (mC (.int 49)) (af (mC (.int 46)) aB))) (af (ba (af (mC (.int 34)) (af (mC (.int 92)) (af (mC (.int 117)) (af (mC (.int 68)) (af (mC (.int 99)) aB)))))) (af (ba (af (mC (.int 34)) (af (mC (.int 92)) (af (mC (.int 117)) (af (mC (.int 100)) (af (mC (.int 99)) (af (mC (.int 48)) (af (mC (.int 48)) (af (mC (.int 34)) aB))))))))) (af (ba (af (mC (.int 34)) (af (mC (.int 9)) (af (mC (.int 34)) aB)))) (af (ba (af (mC (.int 34)) (af (mC (.int 32)) (af (mC (.int 34)) aB)))) (af (ba (af (mC (.int 48)) (af (mC (.int 46)) (af (mC (.int 49)) aB)))) (af (ba (af (mC (.int 34)) (af (mC (.int 92)) (af (mC (.int 117)) (af (mC (.int 48)) (af (mC (.int 68)) (af (mC (.int 70)) (af (mC (.int 102)) aB)))))))) aB))))))))))))))))))))))))))))
    (aS (mOp bc (ak 1) (mOp oa (ak 0) (mC (.int 26))))))
noncomputable def ia:List PV->OE:=fnP 1 2 rm
noncomputable def fK:aj -> OS:=
    (aN (aU 5 (bU gD (af (ak 0) (af (ak 4) aB))))
    (bp (au (mOp gEq (mOp oa (ak 5) (mC (.int 12))) (mC (.int 0))))
    (pA 1 (mOp oa (mOp sW (ak 5) (mC (.int 12))) (mC (.int 256))))
    (bp (au (mOp gLt (mOp oa (ak 5) (mC (.int 12))) (mC (.int 4))))
    (aU 1 (mOp pH (ak 1) (bU ia (af (mOp sW (ak 5) (mC (.int 12))) aB))))
    (aN (aU 6 (mz fq [.e (mOp sW (ak 5) (mC (.int 12))),.e (ak 3),.b 2 bX]))
    (aN (bp (au (mOp gEq (mOp oa (ak 5) (mC (.int 12))) (mC (.int 4))))
    (aU 6 (CY (ak 6) (mC .non) (vW (mOp oa (mOp sW (ak 5) (mC (.int 120))) (mOp cu (mUn gF (ak 6)) (mC (.int 1)))))))
    aO)
    (aN (aU 1 (mOp pH (ak 1) (ak 6)))
    (jm 6 (kQ 3 (jz eY [.e (ak 6),.e (ak 3),.t 2 bX])))))))))
noncomputable def sU:aj -> OS:=
    (kx 1)
noncomputable def oy:aj -> OS:=
    (aN (ka 4 (mOp cu (mC (.int 1)) (mOp oa (bU gD (af (ak 0) (af (mC (.int 60)) aB))) (mC (.int 24))))
    fK)
    sU)
noncomputable def oK:aj -> OS:=
    (aN (aU 3 (mC (.str "value")))
    oy)
noncomputable def oo:aj -> OS:=
    (aN (pj 2 (mD (ba aB)))
    oK)
noncomputable def qJ:aj -> OS:=
    (aN (aU 1 (ba aB))
    oo)
noncomputable def gd:List PV->OE:=fnP 1 7 qJ
noncomputable def qV:aj -> OS:=
    (AD 0 bX "coming" mW (mD (ba (af (mC (.str "white")) (af (mC (.str "value")) (af (mC (.str "white")) aB))))))
noncomputable def cU:List Sl->OI:=fnI 1 1 qV
noncomputable def jw:aj -> OS:=
    (aS (mUn (gu [(110,.tup ([117,108,108].map .int)),(116,.tup ([114,117,101].map .int)),(102,.tup ([97,108,115,101].map .int))]) (ak 0)))
noncomputable def eT:List PV->OE:=fnP 1 1 jw
noncomputable def qE:aj -> OS:=
    (aS (bL gLe gLe (mC (.int 48)) (ak 0) (mC (.int 57))))
noncomputable def eU:List PV->OE:=fnP 1 1 qE
noncomputable def jC:aj -> OS:=
    (aS (mC .non))
noncomputable def jP:aj -> OS:=
    (aN (bp (dn (bU eU (af (ak 0) aB)))
    (aS (ba (af (mC (.str "figures")) (af (mC (.str "fraction")) (af (mC (.str "exponent")) aB)))))
    aO)
    jC)
noncomputable def kT:aj -> OS:=
    (aN (bp (au (mOp gEq (ak 0) (mC (.int 48))))
    (aS (ba (af (mC (.str "fraction")) (af (mC (.str "exponent")) aB))))
    aO)
    jP)
noncomputable def dM:List PV->OE:=fnP 1 1 kT
noncomputable def cI:aj -> OE:=
    (cB (af (ak 0) (af (ak 0) aB)))
noncomputable def cE:aj -> OS:=
    (aS (bU dM (af (ak 0) aB)))
noncomputable def cF:aj -> OS:=
    (aN (bp (au (mOp vX (ak 1) (mC .non)))
    (aS (sN (ak 1) [] cI))
    aO)
    cE)
noncomputable def cD:aj -> OS:=
    (aN (aU 1 (bU eT (af (ak 0) aB)))
    cF)
noncomputable def cH:aj -> OS:=
    (aN (bp (au (mOp gEq (ak 0) (mC (.int 45))))
    (aS (ba (af (mC (.str "lead")) aB)))
    aO)
    cD)
noncomputable def cK:aj -> OS:=
    (aN (bp (au (mOp gEq (ak 0) (mC (.int 34))))
    (aS (ba (af (mC (.str "text")) aB)))
    aO)
    cH)
noncomputable def cG:aj -> OS:=
    (aN (bp (au (mOp gEq (ak 0) (mC (.int 123))))
    (aS (ba (af (mC (.str "white")) (af (mC (.str "fields")) aB))))
    aO)
    cK)
noncomputable def dr:aj -> OS:=
    (aN (bp (au (mOp gEq (ak 0) (mC (.int 91))))
    (aS (ba (af (mC (.str "white")) (af (mC (.str "row")) aB))))
    aO)
    cG)
noncomputable def bP:List PV->OE:=fnP 1 2 dr
noncomputable def bI:aj -> OS:=
    (aS (fi (au (mOp gIn (ak 1) (cB (af (mC (.int 43)) (af (mC (.int 45)) aB))))) (ba aB) (mC .non)))
noncomputable def bH:aj -> OS:=
    (aN (bp (au (mOp gEq (ak 0) (mC (.str "exponent"))))
    (aS (fi (au (mOp gIn (ak 1) (cB (af (mC (.int 101)) (af (mC (.int 69)) aB))))) (ba (af (mC (.str "sign")) (af (cB (af (mC (.int 48)) (af (mC (.int 57)) aB))) (af (mC (.str "figures")) aB)))) (mC .non)))
    aO)
    bI)
noncomputable def bK:aj -> OS:=
    (aN (bp (au (mOp gEq (ak 0) (mC (.str "fraction"))))
    (aS (fi (au (mOp gEq (ak 1) (mC (.int 46)))) (ba (af (cB (af (mC (.int 48)) (af (mC (.int 57)) aB))) (af (mC (.str "figures")) aB))) (mC .non)))
    aO)
    bH)
noncomputable def bG:aj -> OS:=
    (aN (bp (au (mOp gEq (ak 0) (mC (.str "figures"))))
    (aS (fi (dn (bU eU (af (ak 1) aB))) (ba (af (mC (.str "figures")) aB)) (mC .non)))
    aO)
    bK)
noncomputable def bV:aj -> OS:=
    (aN (bp (au (mOp gEq (ak 0) (mC (.str "lead"))))
    (aS (bU dM (af (ak 1) aB)))
    aO)
    bG)
noncomputable def aV:List PV->OE:=fnP 2 2 bV
noncomputable def oJ:aj -> OS:=
    (aS (mC .non))
noncomputable def ox:aj -> OS:=
    (aN (bp (au (bL gLe gLe (mC (.int 97)) (ak 0) (mC (.int 102))))
    (aS (mOp nk (ak 0) (mC (.int 87))))
    aO)
    oJ)
noncomputable def oF:aj -> OS:=
    (aN (bp (au (bL gLe gLe (mC (.int 65)) (ak 0) (mC (.int 70))))
    (aS (mOp nk (ak 0) (mC (.int 55))))
    aO)
    ox)
noncomputable def qA:aj -> OS:=
    (aN (bp (dn (bU eU (af (ak 0) aB)))
    (aS (mOp nk (ak 0) (mC (.int 48))))
    aO)
    oF)
noncomputable def fk:List PV->OE:=fnP 1 1 qA
noncomputable def iC:aj -> OS:=
    (aS (mC .non))
noncomputable def iP:aj -> OS:=
    (aN (bp (au (mOp gLt (ak 0) (mC (.int 12))))
    (aN (aU 1 (ba (af (cB (af (mC (.int 92)) (af (mC (.int 92)) aB))) (af (cB (af (mC (.int 117)) (af (mC (.int 117)) aB))) (af (mC (.str "hex d")) (af (mC (.str "hex c to f")) (af (mC (.str "hex")) (af (mC (.str "hex")) aB))))))))
    (aS (mOp pH (ba (af (mC (.str "hex")) (af (mC (.str "hex")) aB))) (ak 1))))
    aO)
    iC)
noncomputable def jK:aj -> OS:=
    (aN (bp (au (mOp gLt (ak 0) (mC (.int 8))))
    (aS (ba (af (mC (.str "hex")) (af (mC (.str "hex")) aB))))
    aO)
    iP)
noncomputable def dB:List PV->OE:=fnP 1 2 jK
noncomputable def gU:aj -> OS:=
    (aS (mC (.tup ([128,191].map .int))))
noncomputable def gP:aj -> OS:=
    (aN (bp (au (mOp gEq (ak 0) (mC (.int 237))))
    (aS (cB (af (mC (.int 128)) (af (mC (.int 159)) aB))))
    aO)
    gU)
noncomputable def iT:aj -> OS:=
    (aN (bp (au (mOp gEq (ak 0) (mC (.int 224))))
    (aS (cB (af (mC (.int 160)) (af (mC (.int 191)) aB))))
    aO)
    gP)
noncomputable def cP:List PV->OE:=fnP 1 1 iT
noncomputable def ir:aj -> OS:=
    (aS (mC (.tup ([128,191].map .int))))
noncomputable def iu:aj -> OS:=
    (aN (bp (au (mOp gEq (ak 0) (mC (.int 244))))
    (aS (cB (af (mC (.int 128)) (af (mC (.int 143)) aB))))
    aO)
    ir)
noncomputable def iZ:aj -> OS:=
    (aN (bp (au (mOp gEq (ak 0) (mC (.int 240))))
    (aS (cB (af (mC (.int 144)) (af (mC (.int 191)) aB))))
    aO)
    iu)
noncomputable def de:List PV->OE:=fnP 1 1 iZ
noncomputable def jY:aj -> OS:=
    (aS (mC .non))
noncomputable def j0:aj -> OS:=
    (aN (bp (au (bL gLe gLt (mC (.int 240)) (ak 0) (mC (.int 245))))
    (aS (ba (af (bU de (af (ak 0) aB)) (af (mC (.tup ([128,191].map .int))) (af (mC (.tup ([128,191].map .int))) aB)))))
    aO)
    jY)
noncomputable def jZ:aj -> OS:=
    (aN (bp (au (bL gLe gLt (mC (.int 224)) (ak 0) (mC (.int 240))))
    (aS (ba (af (bU cP (af (ak 0) aB)) (af (mC (.tup ([128,191].map .int))) aB))))
    aO)
    j0)
noncomputable def j2:aj -> OS:=
    (aN (bp (au (bL gLe gLt (mC (.int 194)) (ak 0) (mC (.int 224))))
    (aS (ba (af (mC (.tup ([128,191].map .int))) aB)))
    aO)
    jZ)
noncomputable def nX:aj -> OS:=
    (aN (bp (au (bL gLe gLt (mC (.int 0)) (ak 0) (mC (.int 128))))
    (aS (ba aB))
    aO)
    j2)
noncomputable def iN:List PV->OE:=fnP 1 1 nX
noncomputable def dS:aj -> OS:=
    (aS (mOp pH (ak 1) (ba (af (mC (.str "text")) aB))))
noncomputable def dU:aj -> OS:=
    (aN (bp (lH (au (mOp gLt (ak 0) (mC (.int 32)))) (au (mOp rB (ak 1) (mC .non))))
    (aS (mC .non))
    aO)
    dS)
noncomputable def dR:aj -> OS:=
    (aN (aU 1 (bU iN (af (ak 0) aB)))
    dU)
noncomputable def dP:aj -> OS:=
    (aN (bp (au (mOp gEq (ak 0) (mC (.int 92))))
    (aS (ba (af (mC (.str "escape")) (af (mC (.str "text")) aB))))
    aO)
    dR)
noncomputable def eB:aj -> OS:=
    (aN (bp (au (mOp gEq (ak 0) (mC (.int 34))))
    (aS (ba aB))
    aO)
    dP)
noncomputable def bW:List PV->OE:=fnP 1 2 eB
noncomputable def cS:aj -> OS:=
    (aS (mUn (gu [(34,.int 34),(92,.int 92),(47,.int 47),(98,.int 8),(102,.int 12),(110,.int 10),(114,.int 13),(116,.int 9)]) (ak 0)))
noncomputable def bQ:List PV->OE:=fnP 1 1 cS
noncomputable def ij:aj -> OS:=
    (aN (bp (au (mOp gEq (ak 0) (mC (.int 117))))
    (aS (ba (af (mC (.str "code")) aB)))
    aO)
    (aS (fi (au (mOp rB (bU bQ (af (ak 0) aB)) (mC .non))) (mC .non) (ba aB))))
noncomputable def cw:List PV->OE:=fnP 1 1 ij
noncomputable def cZ:aj -> OS:=
    (aS (bU dB (af (ak 2) aB)))
noncomputable def cW:aj -> OS:=
    (aN (bp (au (mOp gEq (ak 0) (mC (.str "code"))))
    (aS (fi (au (mOp gEq (ak 2) (mC (.int 13)))) (ba (af (mC (.str "code d")) aB)) (ba (af (mC (.str "hex")) (af (mC (.str "hex")) (af (mC (.str "hex")) aB))))))
    aO)
    cZ)
noncomputable def da:aj -> OS:=
    (aN (bp (au (mOp rB (ak 2) (mC .non)))
    (aS (mC .non))
    aO)
    cW)
noncomputable def dc:aj -> OS:=
    (aN (aU 2 (bU fk (af (ak 1) aB)))
    da)
noncomputable def cX:aj -> OS:=
    (aN (bp (au (mOp gEq (ak 0) (mC (.str "escape"))))
    (aS (bU cw (af (ak 1) aB)))
    aO)
    dc)
noncomputable def dH:aj -> OS:=
    (aN (bp (au (mOp gEq (ak 0) (mC (.str "text"))))
    (aS (bU bW (af (ak 1) aB)))
    aO)
    cX)
noncomputable def bM:List PV->OE:=fnP 2 3 dH
noncomputable def gj:aj -> OS:=
    (aS (ba aB))
noncomputable def fX:aj -> OS:=
    (aN (bp (au (mOp gEq (ak 0) (mC (.str "hex c to f"))))
    (aS (fi (au (mOp gGe (ak 2) (mC (.int 12)))) (ba aB) (mC .non)))
    aO)
    gj)
noncomputable def gm:aj -> OS:=
    (aN (bp (au (mOp gEq (ak 0) (mC (.str "hex d"))))
    (aS (fi (au (mOp gEq (ak 2) (mC (.int 13)))) (ba aB) (mC .non)))
    aO)
    fX)
noncomputable def fZ:aj -> OS:=
    (aN (bp (au (mOp rB (ak 2) (mC .non)))
    (aS (mC .non))
    aO)
    gm)
noncomputable def iV:aj -> OS:=
    (aN (aU 2 (bU fk (af (ak 1) aB)))
    fZ)
noncomputable def dy:List PV->OE:=fnP 2 3 iV
noncomputable def eQ:aj -> OS:=
    (aS (fi (au (mOp rB (ak 1) (mC .non))) (mC .non) (mOp pH (ak 1) (ba (af (mC (.str "white")) (af (mC (.str "more row")) aB))))))
noncomputable def eO:aj -> OS:=
    (aN (aU 1 (bU bP (af (ak 0) aB)))
    eQ)
noncomputable def fB:aj -> OS:=
    (aN (bp (au (mOp gEq (ak 0) (mC (.int 93))))
    (aS (ba aB))
    aO)
    eO)
noncomputable def b4:List PV->OE:=fnP 1 2 fB
noncomputable def oC:aj -> OS:=
    (aS (ba (af (mC (.str "white")) (af (cB (af (mC (.int 58)) (af (mC (.int 58)) aB))) (af (mC (.str "white")) (af (mC (.str "value")) (af (mC (.str "white")) (af (mC (.str "more fields")) aB))))))))
noncomputable def ez:List PV->OE:=fnP 0 0 oC
noncomputable def fP:aj -> OS:=
    (aN (bp (au (mOp gEq (ak 0) (mC (.int 125))))
    (aS (ba aB))
    aO)
    (aS (fi (au (mOp gEq (ak 0) (mC (.int 34)))) (mOp pH (ba (af (mC (.str "text")) aB)) (bU ez aB)) (mC .non))))
noncomputable def bY:List PV->OE:=fnP 1 1 fP
noncomputable def b7:aj -> OS:=
    (aS (fi (au (mOp gEq (ak 1) (mC (.int 125)))) (ba aB) (mC .non)))
noncomputable def b9:aj -> OS:=
    (aN (bp (au (mOp gEq (ak 1) (mC (.int 44))))
    (aS (mOp pH (ba (af (mC (.str "white")) (af (mC (.str "name")) aB))) (bU ez aB)))
    aO)
    b7)
noncomputable def b8:aj -> OS:=
    (aN (bp (au (mOp gEq (ak 0) (mC (.str "more row"))))
    (aN (bp (au (mOp gEq (ak 1) (mC (.int 44))))
    (aS (ba (af (mC (.str "white")) (af (mC (.str "value")) (af (mC (.str "white")) (af (mC (.str "more row")) aB))))))
    aO)
    (aS (fi (au (mOp gEq (ak 1) (mC (.int 93)))) (ba aB) (mC .non))))
    aO)
    b9)
noncomputable def b5:aj -> OS:=
    (aN (bp (au (mOp gEq (ak 0) (mC (.str "fields"))))
    (aS (bU bY (af (ak 1) aB)))
    aO)
    b8)
noncomputable def cj:aj -> OS:=
    (aN (bp (au (mOp gEq (ak 0) (mC (.str "row"))))
    (aS (bU b4 (af (ak 1) aB)))
    aO)
    b5)
noncomputable def aZ:List PV->OE:=fnP 2 2 cj
noncomputable def sx:aj -> OS:=
    (aS (mOp gIn (ak 0) (mC (.tup ([9,10,13,32].map .int)))))
noncomputable def il:List PV->OE:=fnP 1 1 sx
noncomputable def sC:aj -> OS:=
    (aS (bU bP (af (ak 1) aB)))
noncomputable def sI:aj -> OS:=
    (aN (bp (au (mOp gEq (ak 0) (mC (.str "name"))))
    (aS (fi (au (mOp gEq (ak 1) (mC (.int 34)))) (ba (af (mC (.str "text")) aB)) (mC .non)))
    aO)
    sC)
noncomputable def rG:aj -> OS:=
    (aN (bp (au (mOp gEq (ak 0) (mC (.str "white"))))
    (aS (fi (dn (bU il (af (ak 1) aB))) (ba (af (mC (.str "white")) aB)) (mC .non)))
    aO)
    sI)
noncomputable def sy:aj -> OS:=
    (aN (bp (au (mOp gIn (ak 0) (mC (.tup [.str "row",.str "more row",.str "fields",.str "more fields"]))))
    (aS (bU aZ (af (ak 0) (af (ak 1) aB))))
    aO)
    rG)
noncomputable def sv:aj -> OS:=
    (aN (bp (au (mOp gIn (ak 0) (cB (af (mC (.str "hex")) (af (mC (.str "hex d")) (af (mC (.str "hex c to f")) aB))))))
    (aS (bU dy (af (ak 0) (af (ak 1) aB))))
    aO)
    sy)
noncomputable def rF:aj -> OS:=
    (aN (bp (au (mOp gIn (ak 0) (cB (af (mC (.str "text")) (af (mC (.str "escape")) (af (mC (.str "code")) (af (mC (.str "code d")) aB)))))))
    (aS (bU bM (af (ak 0) (af (ak 1) aB))))
    aO)
    sv)
noncomputable def so:aj -> OS:=
    (aN (bp (au (mOp gIn (ak 0) (cB (af (mC (.str "lead")) (af (mC (.str "figures")) (af (mC (.str "fraction")) (af (mC (.str "exponent")) (af (mC (.str "sign")) aB))))))))
    (aS (bU aV (af (ak 0) (af (ak 1) aB))))
    aO)
    rF)
noncomputable def sJ:aj -> OS:=
    (aN (bp (dn (mIs "tuple" (ak 0)))
    (aS (fi (au (bL gLe gLe (mOp fH (ak 0) (mC (.int 0))) (ak 1) (mOp fH (ak 0) (mC (.int 1))))) (ba aB) (mC .non)))
    aO)
    so)
noncomputable def ju:List PV->OE:=fnP 2 2 sJ
noncomputable def iD:aj -> OE:=
    (ak 0)
noncomputable def fT:aj -> OT:=
    (au (mOp gIn (ak 0) (mC (.tup [.str "row",.str "more row",.str "fields",.str "more fields"]))))
noncomputable def mT:aj -> OS:=
    (aS (mUn gF (rp (iM 0 (pFd 0 bX "coming" mW)) [] fT iD)))
noncomputable def cx:List Sl->OI:=fnI 1 1 mT
noncomputable def gB:aj -> OT:=
    (eK 0 (pFd 0 bX "coming" mW))
noncomputable def gA:aj -> OS:=
    (aN (kQ 2 (mQ 0 (pFd 0 bX "coming" mW)))
    (aN (aU 3 (bU ju (af (ak 2) (af (ak 1) aB))))
    (aN (bp (au (mOp vX (ak 3) (mC .non)))
    (aN (ng 0 (pFd 0 bX "coming" mW) (Cd (ak 3) (mUn lg (mC (.int 1)))))
    (aS (mOp gLe (lW "Walk" "brackets" cx [.b 0 bX]) (mC (.int 64)))))
    aO)
    (bp (au (mOp uR (ak 2) (mC (.tup [.str "white",.str "figures",.str "fraction",.str "exponent",.str "sign"]))))
    (aS (mC (.bl false)))
    aO))))
noncomputable def iK:aj -> OS:=
    (aN (cJ gB
    gA fuel)
    (aS (mC (.bl false))))
noncomputable def dO:List Sl->OI:=fnI 2 4 iK
noncomputable def jj:aj -> OS:=
    (BK true (nO "Walk" "goes_on" dO [.t 0 bX,.e (ak 3)])
    (kx 2)
    aO)
noncomputable def kL:aj -> OS:=
    (aN (yl 2 3 (ak 1)
    jj)
    (aS (mUn gF (ak 1))))
noncomputable def fo:List Sl->OI:=fnI 2 4 kL
noncomputable def iL:aj -> OE:=
    (mOp gIn (ak 0) (mC (.tup [.str "white",.str "figures",.str "fraction",.str "exponent",.str "sign"])))
noncomputable def mP:aj -> OS:=
    (aS (mUn CM (w9 (iM 0 (pFd 0 bX "coming" mW)) [] iL)))
noncomputable def cV:List Sl->OI:=fnI 1 1 mP
noncomputable def p6:aj -> OS:=
    (kx 2)
noncomputable def tD:aj -> OS:=
    (aN (bp (cQ (au (mOp gEq (ak 2) (mUn gF (ak 0)))) (dn (lW "Walk" "is_whole" cV [.b 1 bX])))
    (aS (mC .non))
    aO)
    p6)
noncomputable def tX:aj -> OS:=
    (aN (kQ 2 (nO "Walk" "take" fo [.t 1 bX,.e (ak 0)]))
    tD)
noncomputable def yx:aj -> OS:=
    (aN (pj 1 (tL "Walk" cU))
    tX)
noncomputable def kN:List PV->OE:=fnP 1 3 yx
noncomputable def qF:aj -> OS:=
    (aS (oA (mIs "int" (ak 0)) (zJ (mIs "bool" (ak 0)))))
noncomputable def gc:List PV->OE:=fnP 1 1 qF
noncomputable def b3:aj -> OS:=
    (bp (lH (au (mOp gEq (mOp cu (ak 1) (ak 3)) (mUn gF (ak 0)))) (au (mOp gNe (mOp bc (ak 0) (mOp cu (ak 1) (ak 3))) (mOp bc (ak 2) (ak 3)))))
    (aS (cB (af (mC (.bl false)) (af (mOp cu (ak 1) (ak 3)) aB))))
    aO)
noncomputable def dW:aj -> OS:=
    (bp (au (mOp gEq (mOp bc (ak 0) (ak 1)) (mOp bc (ak 2) (mC (.int 0)))))
    (aN (ka 3 (mUn gF (ak 2))
    b3)
    (aS (cB (af (mC (.bl true)) (af (mOp cu (ak 1) (mUn gF (ak 2))) aB)))))
    aO)
noncomputable def mL:aj -> OS:=
    (aN (rC 2 (ba (af (ba (af (mC (.int 110)) (af (mC (.int 117)) (af (mC (.int 108)) (af (mC (.int 108)) aB))))) (af (ba (af (mC (.int 116)) (af (mC (.int 114)) (af (mC (.int 117)) (af (mC (.int 101)) aB))))) (af (ba (af (mC (.int 102)) (af (mC (.int 97)) (af (mC (.int 108)) (af (mC (.int 115)) (af (mC (.int 101)) aB)))))) aB))))
    dW)
    (aS (cB (af (mC (.bl false)) (af (ak 1) aB)))))
noncomputable def dC:List PV->OE:=fnP 2 4 mL
noncomputable def cz:aj -> OS:=
    (aN (bp (au (mOp gEq (mOp cu (ak 1) (ak 4)) (mUn gF (ak 0))))
    (aS (cB (af (mUn lg (mC (.int 1))) (af (mOp cu (ak 1) (ak 4)) aB))))
    aO)
    (aN (aU 5 (mOp bc (ak 0) (mOp cu (ak 1) (ak 4))))
    (aN (aU 6 (fi (au (bL gLe gLe (mC (.int 48)) (ak 5) (mC (.int 57)))) (mOp nk (ak 5) (mC (.int 48))) (mUn lg (mC (.int 1)))))
    (aN (bp (au (bL gLe gLe (mC (.int 97)) (ak 5) (mC (.int 102))))
    (aU 6 (mOp nk (ak 5) (mC (.int 87))))
    aO)
    (aN (bp (au (bL gLe gLe (mC (.int 65)) (ak 5) (mC (.int 70))))
    (aU 6 (mOp nk (ak 5) (mC (.int 55))))
    aO)
    (aN (aU 3 (mOp cu (mOp yO (ak 3) (mC (.int 16))) (ak 6)))
    (aN (aU 7 (oA (mOp gEq (ak 4) (mC (.int 1))) (bL gLe gLe (mC (.int 220)) (ak 3) (mC (.int 223)))))
    (bp (lH (au (mOp gLt (ak 6) (mC (.int 0)))) (lH (cQ (au (mOp gEq (ak 4) (mC (.int 1)))) (au (mOp gNe (ak 7) (ak 2)))) (cQ (au (mOp gEq (ak 4) (mC (.int 0)))) (cQ (dn (ak 2)) (au (mOp gNe (ak 6) (mC (.int 13))))))))
    (aS (cB (af (mUn lg (mC (.int 1))) (af (mOp cu (ak 1) (ak 4)) aB))))
    aO))))))))
noncomputable def oN:aj -> OS:=
    (aS (cB (af (ak 3) (af (mOp cu (ak 1) (mC (.int 4))) aB))))
noncomputable def kX:aj -> OS:=
    (aN (ka 4 (mC (.int 4))
    cz)
    oN)
noncomputable def qr:aj -> OS:=
    (aN (aU 3 (mC (.int 0)))
    kX)
noncomputable def cO:List PV->OE:=fnP 3 8 qr
noncomputable def cg:aj -> OS:=
    (bp (lH (au (mOp gEq (mOp cu (mOp cu (ak 1) (mC (.int 6))) (ak 3)) (mUn gF (ak 0)))) (au (mOp gNe (mOp bc (ak 0) (mOp cu (mOp cu (ak 1) (mC (.int 6))) (ak 3))) (mOp bc (ba (af (mC (.int 92)) (af (mC (.int 117)) aB))) (ak 3)))))
    (aS (cB (af (mC (.bl false)) (af (mOp cu (mOp cu (ak 1) (mC (.int 6))) (ak 3)) aB))))
    aO)
noncomputable def kb:aj -> OS:=
    (aS (cB (af (mOp gGe (mOp fH (ak 4) (mC (.int 0))) (mC (.int 0))) (af (mOp fH (ak 4) (mC (.int 1))) aB))))
noncomputable def nQ:aj -> OS:=
    (aN (aU 4 (bU cO (af (ak 0) (af (mOp cu (ak 1) (mC (.int 8))) (af (mC (.bl true)) aB)))))
    kb)
noncomputable def nG:aj -> OS:=
    (aN (ka 3 (mC (.int 2))
    cg)
    nQ)
noncomputable def j5:aj -> OS:=
    (aN (bp (lH (au (mOp gLt (mOp fH (ak 2) (mC (.int 0))) (mC (.int 0)))) (kE (au (bL gLe gLe (mC (.int 55296)) (mOp fH (ak 2) (mC (.int 0))) (mC (.int 56319))))))
    (aS (cB (af (mOp gGe (mOp fH (ak 2) (mC (.int 0))) (mC (.int 0))) (af (mOp fH (ak 2) (mC (.int 1))) aB))))
    aO)
    nG)
noncomputable def m4:aj -> OS:=
    (aN (aU 2 (bU cO (af (ak 0) (af (mOp cu (ak 1) (mC (.int 2))) (af (mC (.bl false)) aB)))))
    j5)
noncomputable def nL:aj -> OS:=
    (aN (bp (au (mOp gNe (mOp bc (ak 0) (mOp cu (ak 1) (mC (.int 1)))) (mC (.int 117))))
    (aS (cB (af (mC (.bl false)) (af (mOp cu (ak 1) (mC (.int 1))) aB))))
    aO)
    m4)
noncomputable def nu:aj -> OS:=
    (aN (bp (au (mOp gIn (mOp bc (ak 0) (mOp cu (ak 1) (mC (.int 1)))) (cB (af (mC (.int 34)) (af (mC (.int 92)) (af (mC (.int 47)) (af (mC (.int 98)) (af (mC (.int 102)) (af (mC (.int 110)) (af (mC (.int 114)) (af (mC (.int 116)) aB)))))))))))
    (aS (cB (af (mC (.bl true)) (af (mOp cu (ak 1) (mC (.int 2))) aB))))
    aO)
    nL)
noncomputable def mE:aj -> OS:=
    (aN (bp (au (mOp gEq (mOp cu (ak 1) (mC (.int 1))) (mUn gF (ak 0))))
    (aS (cB (af (mC (.bl false)) (af (mOp cu (ak 1) (mC (.int 1))) aB))))
    aO)
    nu)
noncomputable def eX:List PV->OE:=fnP 2 5 mE
noncomputable def bT:aj -> OS:=
    (aN (bp (lH (au (mOp gEq (mOp cu (mOp cu (ak 1) (mC (.int 1))) (ak 6)) (mUn gF (ak 0)))) (kE (au (bL gLe gLe (ak 4) (mOp bc (ak 0) (mOp cu (mOp cu (ak 1) (mC (.int 1))) (ak 6))) (ak 5)))))
    (aS (mOp nk (mOp nk (mUn lg (ak 1)) (mC (.int 2))) (ak 6)))
    aO)
    (aN (aU 4 (mC (.int 128)))
    (aU 5 (mC (.int 191)))))
noncomputable def kG:aj -> OS:=
    (aS (mOp cu (mC (.int 1)) (ak 3)))
noncomputable def kO:aj -> OS:=
    (aN (ka 6 (ak 3)
    bT)
    kG)
noncomputable def kH:aj -> OS:=
    (aN (aU 5 (nY (List.map (fun p:Int×Int=>(p.1,PV.int p.2)) [(237,159),(244,143)]) (ak 2) (mC (.int 191))))
    kO)
noncomputable def kK:aj -> OS:=
    (aN (aU 4 (nY (List.map (fun p:Int×Int=>(p.1,PV.int p.2)) [(224,160),(240,144)]) (ak 2) (mC (.int 128))))
    kH)
noncomputable def kM:aj -> OS:=
    (aN (bp (lH (au (mOp gLt (ak 2) (mC (.int 194)))) (au (mOp gGt (ak 2) (mC (.int 244)))))
    (aS (mOp nk (mUn lg (ak 1)) (mC (.int 1))))
    aO)
    kK)
noncomputable def kC:aj -> OS:=
    (aN (aU 3 (mOp cu (mOp cu (mC (.int 1)) (mUn qH (mOp gGe (ak 2) (mC (.int 224))))) (mUn qH (mOp gGe (ak 2) (mC (.int 240))))))
    kM)
noncomputable def fR:aj -> OS:=
    (aN (bp (au (mOp gLt (ak 2) (mC (.int 128))))
    (aS (mC (.int 1)))
    aO)
    kC)
noncomputable def jy:aj -> OS:=
    (aN (aU 2 (mOp bc (ak 0) (ak 1)))
    fR)
noncomputable def bS:List PV->OE:=fnP 2 7 jy
noncomputable def bg:aj -> OT:=
    (cQ (au (mOp gLt (ak 1) (mUn gF (ak 0)))) (au (mOp gNe (mOp bc (ak 0) (ak 1)) (mC (.int 34)))))
noncomputable def aW:aj -> OS:=
    (bp (au (mOp gEq (mOp bc (ak 0) (ak 1)) (mC (.int 92))))
    (aN (aU 2 (bU eX (af (ak 0) (af (ak 1) aB))))
    (aN (bp (kE (dn (mOp fH (ak 2) (mC (.int 0)))))
    (aS (cB (af (mC (.bl false)) (af (mOp fH (ak 2) (mC (.int 1))) aB))))
    aO)
    (aU 1 (mOp fH (ak 2) (mC (.int 1))))))
    (aN (aU 3 (bU bS (af (ak 0) (af (ak 1) aB))))
    (aN (bp (lH (au (mOp gLt (mOp bc (ak 0) (ak 1)) (mC (.int 32)))) (au (mOp gLt (ak 3) (mC (.int 0)))))
    (aS (cB (af (mC (.bl false)) (af (fi (au (mOp gLt (mOp bc (ak 0) (ak 1)) (mC (.int 32)))) (ak 1) (mOp nk (mUn lg (ak 3)) (mC (.int 1)))) aB))))
    aO)
    (aU 1 (mOp cu (ak 1) (ak 3))))))
noncomputable def b0:aj -> OS:=
    (aS (cB (af (mOp gLt (ak 1) (mUn gF (ak 0))) (af (mOp cu (ak 1) (mUn qH (mOp gLt (ak 1) (mUn gF (ak 0))))) aB))))
noncomputable def kP:aj -> OS:=
    (aN (cJ bg
    aW fuel)
    b0)
noncomputable def mO:aj -> OS:=
    (aN (aU 1 (mOp cu (ak 1) (mC (.int 1))))
    kP)
noncomputable def cy:List PV->OE:=fnP 2 4 mO
noncomputable def dD:aj -> OT:=
    (cQ (au (mOp gLt (ak 1) (mUn gF (ak 0)))) (au (bL gLe gLe (mC (.int 48)) (mOp bc (ak 0) (ak 1)) (mC (.int 57)))))
noncomputable def hU:aj -> OS:=
    (aU 1 (mOp cu (ak 1) (mC (.int 1))))
noncomputable def oG:aj -> OS:=
    (aN (cJ dD
    hU fuel)
    (kx 1))
noncomputable def cT:List PV->OE:=fnP 2 2 oG
noncomputable def gN:aj -> OS:=
    (aS (cB (af (mC (.bl true)) (af (ak 1) aB))))
noncomputable def gR:aj -> OS:=
    (aN (bp (cQ (au (mOp gLt (ak 1) (mUn gF (ak 0)))) (au (mOp gIn (mOp bc (ak 0) (ak 1)) (cB (af (mC (.int 101)) (af (mC (.int 69)) aB))))))
    (aN (aU 1 (mOp cu (ak 1) (mC (.int 1))))
    (aN (bp (cQ (au (mOp gLt (ak 1) (mUn gF (ak 0)))) (au (mOp gIn (mOp bc (ak 0) (ak 1)) (cB (af (mC (.int 43)) (af (mC (.int 45)) aB))))))
    (aU 1 (mOp cu (ak 1) (mC (.int 1))))
    aO)
    (aN (aU 2 (bU cT (af (ak 0) (af (ak 1) aB))))
    (aS (cB (af (mOp gGt (ak 2) (ak 1)) (af (ak 2) aB)))))))
    aO)
    gN)
noncomputable def gV:aj -> OS:=
    (aN (bp (cQ (au (mOp gLt (ak 1) (mUn gF (ak 0)))) (au (mOp gEq (mOp bc (ak 0) (ak 1)) (mC (.int 46)))))
    (aN (aU 2 (bU cT (af (ak 0) (af (mOp cu (ak 1) (mC (.int 1))) aB))))
    (aN (bp (au (mOp gEq (ak 2) (mOp cu (ak 1) (mC (.int 1)))))
    (aS (cB (af (mC (.bl false)) (af (ak 2) aB))))
    aO)
    (aU 1 (ak 2))))
    aO)
    gR)
noncomputable def jS:aj -> OS:=
    (aN (aU 1 (fi (au (mOp gEq (mOp bc (ak 0) (ak 1)) (mC (.int 48)))) (mOp cu (ak 1) (mC (.int 1))) (bU cT (af (ak 0) (af (ak 1) aB)))))
    gV)
noncomputable def gK:aj -> OS:=
    (aN (bp (lH (au (mOp gEq (ak 1) (mUn gF (ak 0)))) (kE (au (bL gLe gLe (mC (.int 48)) (mOp bc (ak 0) (ak 1)) (mC (.int 57))))))
    (aS (cB (af (mC (.bl false)) (af (ak 1) aB))))
    aO)
    jS)
noncomputable def kR:aj -> OS:=
    (aN (aU 1 (mOp cu (ak 1) (mUn qH (mOp gEq (mOp bc (ak 0) (ak 1)) (mC (.int 45))))))
    gK)
noncomputable def dw:List PV->OE:=fnP 2 3 kR
noncomputable def ki:aj -> OS:=
    (aS (bU dC (af (ak 0) (af (ak 1) aB))))
noncomputable def kn:aj -> OS:=
    (aN (bp (lH (au (mOp gEq (mOp bc (ak 0) (ak 1)) (mC (.int 45)))) (au (bL gLe gLe (mC (.int 48)) (mOp bc (ak 0) (ak 1)) (mC (.int 57)))))
    (aS (bU dw (af (ak 0) (af (ak 1) aB))))
    aO)
    ki)
noncomputable def lK:aj -> OS:=
    (aN (bp (au (mOp gEq (mOp bc (ak 0) (ak 1)) (mC (.int 34))))
    (aS (bU cy (af (ak 0) (af (ak 1) aB))))
    aO)
    kn)
noncomputable def dh:List PV->OE:=fnP 2 2 lK
noncomputable def ot:aj -> OS:=
    (aS (cB (af (mC (.bl false)) (af (ak 1) (af (ak 2) aB)))))
noncomputable def js:aj -> OS:=
    (aN (bp (cQ (au (mOp gEq (ak 2) (mC (.str "behind")))) (cQ (eK 3 bX) (au (mOp gEq (ak 4) (mC (.int 44))))))
    (aS (cB (af (mC (.bl true)) (af (mOp cu (ak 1) (mC (.int 1))) (af (fi (au (mOp gEq (iM 3 (pIx 3 bX (mUn lg (mC (.int 1))))) (mC (.int 1)))) (mC (.str "name")) (mC (.str "value"))) aB)))))
    aO)
    ot)
noncomputable def jk:aj -> OS:=
    (aN (bp (cQ (au (mOp gEq (ak 2) (mC (.str "colon")))) (au (mOp gEq (ak 4) (mC (.int 58)))))
    (aS (cB (af (mC (.bl true)) (af (mOp cu (ak 1) (mC (.int 1))) (af (mC (.str "value")) aB)))))
    aO)
    js)
noncomputable def jh:aj -> OS:=
    (aN (bp (cQ (au (mOp gIn (ak 2) (cB (af (mC (.str "name")) (af (mC (.str "name first")) aB))))) (au (mOp gEq (ak 4) (mC (.int 34)))))
    (aN (aU 6 (bU cy (af (ak 0) (af (ak 1) aB))))
    (aS (cB (af (mOp fH (ak 6) (mC (.int 0))) (af (mOp fH (ak 6) (mC (.int 1))) (af (mC (.str "colon")) aB))))))
    aO)
    jk)
noncomputable def bJ:aj -> OS:=
    (aN (bp (au (mOp gIn (ak 2) (cB (af (mC (.str "value")) (af (mC (.str "value first")) aB)))))
    (aN (bp (au (mOp gIn (ak 4) (cB (af (mC (.int 91)) (af (mC (.int 123)) aB)))))
    (aN (j8 3 bX (mD (mUn qH (mOp gEq (ak 4) (mC (.int 123))))))
    (aS (cB (af (mC (.bl true)) (af (mOp cu (ak 1) (mC (.int 1))) (af (fi (au (mOp gEq (ak 4) (mC (.int 123)))) (mC (.str "name first")) (mC (.str "value first"))) aB))))))
    aO)
    (aN (aU 6 (bU dh (af (ak 0) (af (ak 1) aB))))
    (aS (cB (af (mOp fH (ak 6) (mC (.int 0))) (af (mOp fH (ak 6) (mC (.int 1))) (af (mC (.str "behind")) aB)))))))
    aO)
    jh)
noncomputable def dJ:aj -> OS:=
    (aN (rR 5 3 bX (mOp gEq (ak 4) (mOp bc (ba (af (mC (.int 93)) (af (mC (.int 125)) aB))) (iM 3 (pIx 3 bX (mUn lg (mC (.int 1))))))) (au (mOp gIn (ak 2) (cB (af (mC (.str "behind")) (af (mC (.str "value first")) (af (mC (.str "name first")) aB))))))
    (aN (mZ (mQ 3 bX))
    (aS (cB (af (mC (.bl true)) (af (mOp cu (ak 1) (mC (.int 1))) (af (mC (.str "behind")) aB))))))
    aO)
    bJ)
noncomputable def qO:aj -> OS:=
    (aN (aU 4 (mOp bc (ak 0) (ak 1)))
    dJ)
noncomputable def eP:List Sl->OI:=fnI 4 7 qO
noncomputable def jW:aj -> OT:=
    (cQ (dn (ak 5)) (au (mOp gLt (ak 4) (mUn gF (ak 1)))))
noncomputable def jl:aj -> OS:=
    (bp (au (mOp gIn (mOp bc (ak 1) (ak 4)) (cB (af (mC (.int 32)) (af (mC (.int 9)) (af (mC (.int 10)) (af (mC (.int 13)) aB)))))))
    (aU 4 (mOp cu (ak 4) (mC (.int 1))))
    (aN (jm 1 (kQ 6 (jz eP [.e (ak 1),.e (ak 4),.e (ak 3),.t 2 bX])))
    (aN (aU 5 (mOp fH (ak 6) (mC (.int 0))))
    (aN (aU 4 (mOp fH (ak 6) (mC (.int 1))))
    (aU 3 (mOp fH (ak 6) (mC (.int 2))))))))
noncomputable def uy:aj -> OS:=
    (aS (oA (bU gc (af (ak 7) aB)) (mOp gEq (ak 7) (ak 4))))
noncomputable def yg:aj -> OS:=
    (aN (bp (cQ (dn (ak 5)) (cQ (au (mOp gEq (ak 3) (mC (.str "behind")))) (kE (eK 2 bX))))
    (aS (mOp rB (ak 7) (mC .non)))
    aO)
    uy)
noncomputable def yq:aj -> OS:=
    (aN (jm 1 (aU 7 (bU kN (af (ak 1) aB))))
    yg)
noncomputable def yy:aj -> OS:=
    (aN (cJ jW
    jl fuel)
    yq)
noncomputable def xY:aj -> OS:=
    (aN (aU 5 (mC (.bl true)))
    yy)
noncomputable def xO:aj -> OS:=
    (aN (aU 4 (mC (.int 0)))
    xY)
noncomputable def yn:aj -> OS:=
    (aN (aU 3 (mC (.str "value")))
    xO)
noncomputable def xU:aj -> OS:=
    (aN (pj 2 (mD (ba aB)))
    yn)
noncomputable def Dp:aj -> OS:=
    (aN (aU 1 (bU gd (af (ak 0) aB)))
    xU)
noncomputable def tR:List PV->OE:=fnP 1 8 Dp
theorem lU(ns:List Int)(k:Int):hV [.lst (ns.map .int),.int k]=.ok (.sh (.int (PG.cell ns k))):=by
 unfold hV sj PG.cell
 cases ns with
 |nil=>simp
 | cons n r=>
   have hp:(0:Int)<(r.length:Int)+1:=by omega
   have hm:0<=k%((r.length:Int)+1):=Int.emod_nonneg _ (by omega)
   have hm2:k%((r.length:Int)+1)<(r.length:Int)+1:=Int.emod_lt_of_pos _ hp
   have hi:(k%((r.length:Int)+1)).toNat<(n ::r).length:=by rw[List.length_cons];omega
   have ha:atP (PV.int n ::r.map .int) (k%((r.length:Int)+1))=some (.int ((n ::r).getD (k%((r.length:Int)+1)).toNat 0)):=by
    rw[E9 _ _ hm]
    have:(PV.int n ::r.map .int)=(n ::r).map .int:=rfl
    rw[this,List.getElem?_map,List.getElem?_eq_getElem hi,List.getD_eq_getElem?_getD,List.getElem?_eq_getElem hi];rfl
   simp[hp,ha]
theorem jX(ns:List Int)(k:Int):gD [.lst (ns.map .int),.int k]=.ok (.sh (.int (PG.mix ns k))):=by
 unfold PG.mix;simp[qG,qI,tV,gD,lU]
theorem ky(n:Int):gc [.int n]=.ok (.sh (.bl true)):=by
 unfold gc qF;simp
theorem lZ(b:Int):il [.int b]=.ok (.sh (.bl (wht b))):=by
 simp -implicitDefEqProofs [sx,il,gIn,gE,cM,fj,wht];simp[Bool.beq_eq_decide_eq]
theorem fm(b:Int):eU [.int b]=.ok (.sh (.bl (fig b))):=by
 by_cases h:48<=b<;>simp -implicitDefEqProofs [qE,eU,fig,h]
theorem iy(b:Int):fk [.int b]=.ok (.sh (match ko b with|some w=>.int w|none=>.non)):=by
 unfold ko
 by_cases h1:48<=b<;>by_cases h2:b<=57<;>by_cases h3:65<=b<;>by_cases h4:b<=70<;>by_cases h5:97<=b<;>by_cases h6:b<=102<;>first|omega|simp -implicitDefEqProofs [oJ,ox,oF,qA,fk,fm,fig,h1,h2,h3,h4,h5,h6]
theorem zK(b:Int):iN [.int b]=.ok (match tls b with|some l=>.fr (l.map bC)|none=>.sh .non):=by
 have h3:cP [.int b]=.ok (.sh (bC (if b=224 then .sp 160 191 else if b=237 then .sp 128 159 else .sp 128 191))):=by
  by_cases h1:b=224
  . simp[gU,gP,iT,cP,h1,bC]
  . by_cases h2:b=237<;>simp[gU,gP,iT,cP,h1,h2,bC]
 have h4:de [.int b]=.ok (.sh (bC (if b=240 then .sp 144 191 else if b=244 then .sp 128 143 else .sp 128 191))):=by
  by_cases h1:b=240
  . simp[ir,iu,iZ,de,h1,bC]
  . by_cases h2:b=244<;>simp[ir,iu,iZ,de,h1,h2,bC]
 unfold tls
 by_cases h0:0<=b /\ b<128
 . simp[jY,j0,jZ,j2,nX,iN,h0.1,h0.2]
 . by_cases ha:194<=b /\ b<224
   . have:¬ b<128:=by omega
     have z:0<=b:=by omega
     simp[jY,j0,jZ,j2,nX,iN,ha.1,ha.2,z,this,bC]
   . by_cases hb:224<=b /\ b<240
     . have z1:¬ b<128:=by omega
       have z2:¬ b<224:=by omega
       have z:0<=b:=by omega
       have z3:194<=b:=by omega
       simp[jY,j0,jZ,j2,nX,iN,hb.1,hb.2,z,z1,z2,z3,h3];simp[bC]
     . by_cases hc:240<=b /\ b<245
       . have z1:¬ b<128:=by omega
         have z2:¬ b<224:=by omega
         have z:0<=b:=by omega
         have z3:194<=b:=by omega
         have z4:224<=b:=by omega
         have z5:¬ b<240:=by omega
         simp[jY,j0,jZ,j2,nX,iN,hc.1,hc.2,z,z1,z2,z3,z4,z5,h4];simp[bC]
       . simp only[h0,ha,hb,hc,if_false]
         by_cases g0:0<=b<;>by_cases g1:b<128<;>by_cases g2:194<=b<;>by_cases g3:b<224<;>by_cases g4:224<=b<;>by_cases g5:b<240<;>by_cases g6:240<=b<;>by_cases g7:b<245<;>first|omega|simp[jY,j0,jZ,j2,nX,iN,g0,g1,g2,g3,g4,g5,g6,g7]
noncomputable def rI:Option (List PG.It)->RV
 |some l=>.fr (l.map bC)
 |none=>.sh .non
theorem fJ(b:Int):dM [.int b]=.ok (rI (i5 b)):=by
 unfold i5
 by_cases h0:b=48
 . simp[jC,jP,kT,dM,h0,rI,bC]
 . by_cases h1:48<=b<;>by_cases h2:b<=57<;>simp[jC,jP,kT,dM,h0,h1,h2,fm,fig,rI,bC]
theorem fg(b:Int):bP [.int b]=.ok (rI (kF b)):=by
 unfold kF
 by_cases h1:b=91
 . simp[cI,cE,cF,cD,cH,cK,cG,dr,bP,h1,rI,bC]
 by_cases h2:b=123
 . simp[cI,cE,cF,cD,cH,cK,cG,dr,bP,h2,rI,bC]
 by_cases h3:b=34
 . simp[cI,cE,cF,cD,cH,cK,cG,dr,bP,h3,rI,bC]
 by_cases h4:b=45
 . simp[cI,cE,cF,cD,cH,cK,cG,dr,bP,h4,rI,bC]
 by_cases h5:b=110
 . simp[cI,cE,cF,cD,cH,cK,cG,dr,bP,h5,rI,bC,jw,eT,gu,cL,sN,fu,e6,List.lookup]
 by_cases h6:b=116
 . simp[cI,cE,cF,cD,cH,cK,cG,dr,bP,h6,rI,bC,jw,eT,gu,cL,sN,fu,e6,List.lookup]
 by_cases h7:b=102
 . simp[cI,cE,cF,cD,cH,cK,cG,dr,bP,h7,rI,bC,jw,eT,gu,cL,sN,fu,e6,List.lookup]
 have z5:(b==110)=false:=by simpa using h5
 have z6:(b==116)=false:=by simpa using h6
 have z7:(b==102)=false:=by simpa using h7
 simp[cI,cE,cF,cD,cH,cK,cG,dr,bP,h1,h2,h3,h4,h5,h6,h7,z5,z6,z7,jw,eT,gu,cL,List.lookup,fJ]
 cases i5 b<;>simp[rI]
theorem dq:ez []=.ok (.fr (lA.map bC)):=by
 simp[oC,ez,lA,bC]
theorem lp(it:PG.It)(b:Int)(h:it=.lead \/ it=.figures \/ it=.fraction \/ it=.exponent \/ it=.sign):aV [bC it,.int b]=.ok (rI (bh it b)):=by
 rcases h with rfl|rfl|rfl|rfl|rfl
 . simp[bI,bH,bK,bG,bV,aV,bC,gEq,eqS,aG,fJ]
   cases e:i5 b<;>simp[bh,rI,e]
 . by_cases h1:48<=b<;>by_cases h2:b<=57<;>simp[bI,bH,bK,bG,bV,aV,bC,gEq,eqS,aG,fm,fig,bh,rI,h1,h2]
 . by_cases h1:b=46<;>simp[bI,bH,bK,bG,bV,aV,bC,gEq,eqS,aG,bh,rI,h1]
 . by_cases h1:b=101
   . simp[bI,bH,bK,bG,bV,aV,bC,gEq,eqS,aG,bh,rI,h1,gIn,gE,cM,fj]
   . by_cases h2:b=69
     . simp[bI,bH,bK,bG,bV,aV,bC,gEq,eqS,aG,bh,rI,h2,gIn,gE,cM,fj]
     . have z1:¬ 101=b:=fun z=>h1 z.symm
       have z2:¬ 69=b:=fun z=>h2 z.symm
       simp[bI,bH,bK,bG,bV,aV,bC,gEq,eqS,aG,bh,rI,h1,h2,z1,z2,gIn,gE,cM,fj]
 . by_cases h1:b=43
   . simp[bI,bH,bK,bG,bV,aV,bC,gEq,eqS,aG,bh,rI,h1,gIn,gE,cM,fj]
   . by_cases h2:b=45
     . simp[bI,bH,bK,bG,bV,aV,bC,gEq,eqS,aG,bh,rI,h2,gIn,gE,cM,fj]
     . have z1:¬ 43=b:=fun z=>h1 z.symm
       have z2:¬ 45=b:=fun z=>h2 z.symm
       simp[bI,bH,bK,bG,bV,aV,bC,gEq,eqS,aG,bh,rI,h1,h2,z1,z2,gIn,gE,cM,fj]
theorem iG(b:Int):∃ x,bQ [.int b]=.ok (.sh x) /\ cL x=!oR b:=by
 unfold oR
 by_cases h1:b=34
 . exact⟨.int 34,by simp[cS,bQ,gu,List.lookup,h1],by simp[cL,h1]⟩
 by_cases h2:b=92
 . exact⟨.int 92,by simp[cS,bQ,gu,List.lookup,h2],by simp[cL,h2]⟩
 by_cases h3:b=47
 . exact⟨.int 47,by simp[cS,bQ,gu,List.lookup,h3],by simp[cL,h3]⟩
 by_cases h4:b=98
 . exact⟨.int 8,by simp[cS,bQ,gu,List.lookup,h4],by simp[cL,h4]⟩
 by_cases h5:b=102
 . exact⟨.int 12,by simp[cS,bQ,gu,List.lookup,h5],by simp[cL,h5]⟩
 by_cases h6:b=110
 . exact⟨.int 10,by simp[cS,bQ,gu,List.lookup,h6],by simp[cL,h6]⟩
 by_cases h7:b=114
 . exact⟨.int 13,by simp[cS,bQ,gu,List.lookup,h7],by simp[cL,h7]⟩
 by_cases h8:b=116
 . exact⟨.int 9,by simp[cS,bQ,gu,List.lookup,h8],by simp[cL,h8]⟩
 have zz:∀ k:Int,¬ b=k->(b==k)=false:=fun k h=>by simpa using h
 exact⟨.non,by simp[cS,bQ,gu,List.lookup,zz _ h1,zz _ h2,zz _ h3,zz _ h4,zz _ h5,zz _ h6,zz _ h7,zz _ h8],by simp[cL,h1,h2,h3,h4,h5,h6,h7,h8]⟩
theorem fC(b:Int):cw [.int b]=.ok (rI (xJ b)):=by
 obtain⟨x,hx,hn⟩:=iG b;unfold xJ
 by_cases h1:b=117
 . simp[ij,cw,h1,rI,bC]
 . cases hs:oR b<;>rw[hs]at hn<;>simp at hn<;>simp[ij,cw,h1,hx,hn,rI]
theorem B3(b:Int)(l:List PG.It)(h:tls b=some l):l.length<=3:=by
 unfold tls at h
 repeat' split at h
 all_goals(first|(cases h;done)|(injection h with h;subst h;simp))
theorem fE(b:Int):bW [.int b]=.ok (rI (oY b)):=by
 have ht:=zK b;unfold oY
 by_cases h1:b=34
 . simp[dS,dU,dR,dP,eB,bW,h1,rI]
 by_cases h2:b=92
 . simp[dS,dU,dR,dP,eB,bW,h2,rI,bC]
 cases e:tls b with
 | none=>
   rw[e]at ht
   by_cases h3:b<32<;>simp[dS,dU,dR,dP,eB,bW,h1,h2,h3,rI,ht,cL]
 | some l=>
   rw[e]at ht
   have hl:l.length+1<=lim:=cf (by have:=B3 b l e;omega)
   by_cases h3:b<32<;>simp[dS,dU,dR,dP,eB,bW,h1,h2,h3,rI,ht,cL,hl,bC]
theorem hJ(w:Int):dB [.int w]=.ok (rI (vC w)):=by
 unfold vC
 by_cases h1:w<8
 . simp[iC,iP,jK,dB,h1,rI,bC]
 . by_cases h2:w<12<;>simp[iC,iP,jK,dB,h1,h2,rI,bC]
theorem rh(it:PG.It)(b:Int)(h:it=.text \/ it=.escape \/ it=.code \/ it=.coded):bM [bC it,.int b]=.ok (rI (bh it b)):=by
 have hw:=iy b
 rcases h with rfl|rfl|rfl|rfl
 . simp[cZ,cW,da,dc,cX,dH,bM,bC,gEq,eqS,aG,fE]
   cases e:oY b<;>simp[bh,rI,e]
 . simp[cZ,cW,da,dc,cX,dH,bM,bC,gEq,eqS,aG,fC]
   cases e:xJ b<;>simp[bh,rI,e]
 . cases e:ko b with
   | none=>
     rw[e]at hw;simp[cZ,cW,da,dc,cX,dH,bM,bC,gEq,eqS,aG,hw,cL,bh,e,rI]
   | some w=>
     rw[e]at hw
     by_cases h13:w=13<;>simp[cZ,cW,da,dc,cX,dH,bM,bC,gEq,eqS,aG,hw,cL,bh,e,rI,h13]
 . cases e:ko b with
   | none=>
     rw[e]at hw;simp[cZ,cW,da,dc,cX,dH,bM,bC,gEq,eqS,aG,hw,cL,bh,e,rI]
   | some w=>
     rw[e]at hw;simp[cZ,cW,da,dc,cX,dH,bM,bC,gEq,eqS,aG,hw,cL,bh,e,hJ]
     cases e2:vC w<;>simp[rI]
theorem wX(it:PG.It)(b:Int)(h:it=.hex \/ it=.hexd \/ it=.hexcf):dy [bC it,.int b]=.ok (rI (bh it b)):=by
 have hw:=iy b
 cases e:ko b with
 | none=>
   rw[e]at hw
   rcases h with rfl|rfl|rfl<;>simp[gj,fX,gm,fZ,iV,dy,bC,gEq,eqS,aG,hw,cL,bh,e,rI]
 | some w=>
   rw[e]at hw
   rcases h with rfl|rfl|rfl
   . simp[gj,fX,gm,fZ,iV,dy,bC,gEq,eqS,aG,hw,cL,bh,e,rI]
   . by_cases h13:w=13<;>simp[gj,fX,gm,fZ,iV,dy,bC,gEq,eqS,aG,hw,cL,bh,e,rI,h13]
   . by_cases h13:12<=w<;>simp[gj,fX,gm,fZ,iV,dy,bC,gEq,eqS,aG,hw,cL,bh,e,rI,h13]
theorem zj(b:Int)(l:List PG.It)(h:kF b=some l):l.length<=5:=by
 unfold kF i5 at h
 repeat' split at h
 all_goals(first|(cases h;done)|(injection h with h;subst h;decide))
theorem fD(b:Int):b4 [.int b]=.ok (rI (bh .row b)):=by
 have hv:=fg b
 by_cases h1:b=93
 . simp[eQ,eO,fB,b4,h1,rI,bh]
 cases e:kF b with
 |none=>rw[e]at hv;simp[eQ,eO,fB,b4,h1,hv,rI,bh,e,cL]
 | some l=>
   rw[e]at hv
   have hl:l.length+2<=lim:=cf (by have:=zj b l e;omega)
   simp[eQ,eO,fB,b4,h1,hv,rI,bh,e,cL,bC,hl]
theorem eL(b:Int):bY [.int b]=.ok (rI (bh .fields b)):=by
 by_cases h1:b=125
 . simp[fP,bY,h1,rI,bh]
 by_cases h2:b=34<;>simp[fP,bY,h1,h2,rI,bh,dq,lA,bC]
theorem kJ(it:PG.It)(b:Int)(h:it=.row \/ it=.mrow \/ it=.fields \/ it=.mfields):aZ [bC it,.int b]=.ok (rI (bh it b)):=by
 rcases h with rfl|rfl|rfl|rfl
 . simp[b7,b9,b8,b5,cj,aZ,bC,gEq,eqS,aG,fD]
   cases e:bh .row b<;>simp[rI]
 . by_cases h1:b=44
   . simp[b7,b9,b8,b5,cj,aZ,bC,gEq,eqS,aG,h1,bh,rI]
   . by_cases h2:b=93<;>simp[b7,b9,b8,b5,cj,aZ,bC,gEq,eqS,aG,h1,h2,bh,rI]
 . simp[b7,b9,b8,b5,cj,aZ,bC,gEq,eqS,aG,eL]
   cases e:bh .fields b<;>simp[rI]
 . by_cases h1:b=44
   . simp[b7,b9,b8,b5,cj,aZ,bC,gEq,eqS,aG,h1,bh,rI,dq,lA]
   . by_cases h2:b=125<;>simp[b7,b9,b8,b5,cj,aZ,bC,gEq,eqS,aG,h1,h2,bh,rI]
theorem tQ(o:Option (List PG.It))(xs:List PV):rI o≠.al xs:=by cases o<;>simp[rI]
theorem b6{x:PV}{b:Int}{ρ:aj}{o:Option (List PG.It)}(h:sJ [some (.sh x),some (.sh (.int b))]=.rt ρ (rI o)):ju [x,.int b]=.ok (rI o):=Eq.trans (congrArg fin h) (Fw (tQ o))
theorem pD(it:PG.It)(b:Int):ju [bC it,.int b]=.ok (rI (bh it b)):=by
 have t1:∀ it:PG.It,aV [bC it,.int b]=.ok (rI (bh it b))->_:=fun it h=>nU h (tQ _)
 have t2:∀ it:PG.It,bM [bC it,.int b]=.ok (rI (bh it b))->_:=fun it h=>nU h (tQ _)
 have t3:∀ it:PG.It,dy [bC it,.int b]=.ok (rI (bh it b))->_:=fun it h=>nU h (tQ _)
 have t4:∀ it:PG.It,aZ [bC it,.int b]=.ok (rI (bh it b))->_:=fun it h=>nU h (tQ _)
 cases it with
 |sp lo hi=>by_cases h1:lo<=b<;>by_cases h2:b<=hi<;>simp[sC,sI,rG,sy,sv,rF,so,sJ,ju,bC,isP,h1,h2,bh,rI]
 |white=>exact b6 (ρ:=[some (.sh (bC .white)),some (.sh (.int b))]) ((sk (by rfl)).trans ((sk (by rfl)).trans ((sk (by rfl)).trans ((sk (by rfl)).trans ((sk (by rfl)).trans (st (by rfl) (by cases h:wht b<;>simp[fi,lZ,h,bh,rI,bC])))))))
 |name=>exact b6 (ρ:=[some (.sh (bC .name)),some (.sh (.int b))]) ((sk (by rfl)).trans ((sk (by rfl)).trans ((sk (by rfl)).trans ((sk (by rfl)).trans ((sk (by rfl)).trans ((sk (by rfl)).trans (st (by rfl) (by by_cases h:b=34<;>simp[fi,h,bh,rI,bC]))))))))
 |value=>exact b6 ((sk (by rfl)).trans ((sk (by rfl)).trans ((sk (by rfl)).trans ((sk (by rfl)).trans ((sk (by rfl)).trans ((sk (by rfl)).trans ((sk (by rfl)).trans (yG (fg b) (tQ _)))))))))
 |lead=>exact b6 ((sk (by rfl)).trans (st (by rfl) (t1 .lead (lp _ b (by simp)))))
 |figures=>exact b6 ((sk (by rfl)).trans (st (by rfl) (t1 .figures (lp _ b (by simp)))))
 |fraction=>exact b6 ((sk (by rfl)).trans (st (by rfl) (t1 .fraction (lp _ b (by simp)))))
 |exponent=>exact b6 ((sk (by rfl)).trans (st (by rfl) (t1 .exponent (lp _ b (by simp)))))
 |sign=>exact b6 ((sk (by rfl)).trans (st (by rfl) (t1 .sign (lp _ b (by simp)))))
 |text=>exact b6 ((sk (by rfl)).trans ((sk (by rfl)).trans (st (by rfl) (t2 .text (rh _ b (by simp))))))
 |escape=>exact b6 ((sk (by rfl)).trans ((sk (by rfl)).trans (st (by rfl) (t2 .escape (rh _ b (by simp))))))
 |code=>exact b6 ((sk (by rfl)).trans ((sk (by rfl)).trans (st (by rfl) (t2 .code (rh _ b (by simp))))))
 |coded=>exact b6 ((sk (by rfl)).trans ((sk (by rfl)).trans (st (by rfl) (t2 .coded (rh _ b (by simp))))))
 |hex=>exact b6 ((sk (by rfl)).trans ((sk (by rfl)).trans ((sk (by rfl)).trans (st (by rfl) (t3 .hex (wX _ b (by simp)))))))
 |hexd=>exact b6 ((sk (by rfl)).trans ((sk (by rfl)).trans ((sk (by rfl)).trans (st (by rfl) (t3 .hexd (wX _ b (by simp)))))))
 |hexcf=>exact b6 ((sk (by rfl)).trans ((sk (by rfl)).trans ((sk (by rfl)).trans (st (by rfl) (t3 .hexcf (wX _ b (by simp)))))))
 |row=>exact b6 ((sk (by rfl)).trans ((sk (by rfl)).trans ((sk (by rfl)).trans ((sk (by rfl)).trans (st (by rfl) (t4 .row (kJ _ b (by simp))))))))
 |mrow=>exact b6 ((sk (by rfl)).trans ((sk (by rfl)).trans ((sk (by rfl)).trans ((sk (by rfl)).trans (st (by rfl) (t4 .mrow (kJ _ b (by simp))))))))
 |fields=>exact b6 ((sk (by rfl)).trans ((sk (by rfl)).trans ((sk (by rfl)).trans ((sk (by rfl)).trans (st (by rfl) (t4 .fields (kJ _ b (by simp))))))))
 |mfields=>exact b6 ((sk (by rfl)).trans ((sk (by rfl)).trans ((sk (by rfl)).trans ((sk (by rfl)).trans (st (by rfl) (t4 .mfields (kJ _ b (by simp))))))))
noncomputable abbrev cm(st:List PG.It):List PV:=st.reverse.map bC
theorem vN(st:List PG.It):PG.wk st=.ob "Walk" ["coming"] [.ol ((cm st).map .sh)]:=rfl
theorem xy(st:List PG.It):(PG.wk st).get [.fd "coming"]=some (.ol ((cm st).map .sh)):=by
 simp[vN,OV.get,OV.at1,nh]
theorem zF(st:List PG.It)(t:OV):(PG.wk st).put [.fd "coming"] t=.ob "Walk" ["coming"] [t]:=by
 simp[vN,OV.put,OV.at1,OV.Ah,nh,ti]
theorem wL{ρ:aj}{i:Nat}{s:Sl}{st:List PG.It}(h:ρ[i]?=some (some s))(hs:slT s=some (PG.wk st)):subAt i bX ρ=some (PG.wk st):=by
 unfold subAt gQ bX;rw[h];simp[hs]
theorem wR{ρ:aj}{i:Nat}{s:Sl}{st:List PG.It}(h:ρ[i]?=some (some s))(hs:slT s=some (PG.wk st)):pFd i bX "coming" mW ρ=some [.fd "coming"]:=by
 unfold pFd;rw[wL h hs,vN];simp[mW,nh,bX]
theorem ur{ρ:aj}{i:Nat}{s:Sl}{st:List PG.It}(h:ρ[i]?=some (some s))(hs:slT s=some (PG.wk st)):subAt i (pFd i bX "coming" mW) ρ=some (.ol ((cm st).map .sh)):=by
 unfold subAt gQ;rw[h,wR h hs];simp[hs,xy]
theorem FN(it:PG.It):fT [some (.sh (bC it))]=.ok (opn it):=by
 cases it<;>simp -implicitDefEqProofs [fT,bC,gIn,gE,cM,opn,fj]
theorem yS(l:List PG.It):gX fT iD [] (l.map bC)=.ok ((l.filter opn).map bC):=by
 induction l with
 |nil=>rfl
 | cons it l ih=>
   rw[List.map_cons];unfold gX;have h:=FN it
   have he:iD [some (.sh (bC it))]=.ok (.sh (bC it)):=rfl
   cases e:opn it<;>rw[e]at h<;>simp[h,ih,e,he]
theorem xF(st:List PG.It)(hl:st.length<=100000):cx [.bo (PG.wk st)]=.ok (.int (PG.cnt st)) [none]:=by
 have hp:iM 0 (pFd 0 bX "coming" mW) [some (.bo (PG.wk st))]=.ok (.al (cm st)):=by
  unfold iM;rw[ur (s:=.bo (PG.wk st)) rfl rfl];simp only[uc]
 have hc:(st.reverse.filter opn).length=PG.cnt st:=by unfold PG.cnt;rw[List.filter_reverse,List.length_reverse]
 have hn:PG.cnt st<=lim:=cf (by unfold PG.cnt;have:=List.length_filter_le opn st;omega)
 have he:=yS st.reverse
 simp -implicitDefEqProofs only[cx,mT,fnI,jM,rp,hp,e6,List.map_nil,he,zE,zR,List.map_cons,List.length_cons,List.length_nil,List.replicate,List.append_nil,lI,C7,Bu,List.length_map,hc,hn,if_true,EO,yw,i0,DA,Nat.sub_self,xc]
 rfl
theorem BI(it:PG.It):uR (bC it) (.tup [.str "white",.str "figures",.str "fraction",.str "exponent",.str "sign"])=some (.sh (.bl (!PG.loose it))):=by
 cases it<;>simp -implicitDefEqProofs [bC,uR,gE,cM,PG.loose,fj]
theorem AV(it:PG.It):gIn (bC it) (.tup [.str "white",.str "figures",.str "fraction",.str "exponent",.str "sign"])=some (.sh (.bl (PG.loose it))):=by
 cases it<;>simp -implicitDefEqProofs [bC,gIn,gE,cM,PG.loose,fj]
theorem E8{ρ:aj}{i:Nat}{io:Bool}{it:PG.It}{st:List PG.It}(h:ρ[i]?=some (some (.tr io (PG.wk (it ::st))))):mQ i (pFd i bX "coming" mW) ρ=.ok (ρ.set i (some (.tr io (PG.wk st)))) (.sh (bC it)):=by
 have hc:(cm (it ::st)).map OV.sh=(cm st).map OV.sh++[.sh (bC it)]:=by simp[cm]
 unfold mQ;rw[h,wR h rfl];simp only[xy,hc,List.getLast?_concat,List.dropLast_concat,zF];rfl
theorem DR{ρ:aj}{i:Nat}{io:Bool}{l st:List PG.It}{me:aj->OE}(h:ρ[i]?=some (some (.tr io (PG.wk st))))(he:me ρ=.ok (.fr (l.map bC).reverse))(hl:st.length+l.length<=100000):
  ng i (pFd i bX "coming" mW) me ρ=.nx (ρ.set i (some (.tr io (PG.wk (l++st))))):=by
 have hc:(cm (l++st)).map OV.sh=(cm st).map OV.sh++(l.map bC).reverse.map .sh:=by simp[cm]
 have hl2:st.length+l.length<=lim:=cf (by omega)
 unfold ng xa;rw[h,wR h rfl];simp only[xy,he,i0,List.length_map,List.length_reverse,hl2,if_true,zF];rw[vN,hc]
theorem wz{ρ:aj}{i:Nat}{io:Bool}{st:List PG.It}(h:ρ[i]?=some (some (.tr io (PG.wk st)))):eK i (pFd i bX "coming" mW) ρ=.ok (!st.isEmpty):=by
 unfold eK;rw[ur h rfl]
 cases st<;>simp[cm]
theorem BN{ρ:aj}{i:Nat}{io:Bool}{st:List PG.It}(h:ρ[i]?=some (some (.tr io (PG.wk st))))(hl:st.length<=100000):lW "Walk" "brackets" cx [.b i bX] ρ=.ok (.sh (.int (PG.cnt st))):=by
 have ha:ku (.b i bX) ρ=some (.bo (PG.wk st)):=by
  simp only[ku];rw[wL h rfl];rfl
 have hr:recv "Walk" "brackets" (some (.bo (PG.wk st)))=true:=by
  rw[vN];simp[recv,aG]
 simp only[lW,ha,hr,if_true,mz,gZ,Option.bind_some,Option.map_some,xF st hl]
theorem zt(b:Int)(it:PG.It)(st:List PG.It)(io:Bool)(x y:Option Sl)(hl:st.length+8<=100000):gA [some (.tr io (PG.wk (it ::st))),some (.sh (.int b)),x,y] =
  match bh it b with
  |some l=>.rt [some (.tr io (PG.wk (l++st))),some (.sh (.int b)),some (.sh (bC it)),some (.ow (l.map bC))] (.sh (.bl (decide (PG.cnt (l++st)<=64))))
  |none=>if PG.loose it then .nx [some (.tr io (PG.wk st)),some (.sh (.int b)),some (.sh (bC it)),some (.sh .non)]else .rt [some (.tr io (PG.wk st)),some (.sh (.int b)),some (.sh (bC it)),some (.sh .non)] (.sh (.bl false)):=by
 have h1:kQ 2 (mQ 0 (pFd 0 bX "coming" mW)) [some (.tr io (PG.wk (it ::st))),some (.sh (.int b)),x,y]=.nx [some (.tr io (PG.wk st)),some (.sh (.int b)),some (.sh (bC it)),y]:=by
  unfold kQ;rw[E8 (it:=it) (st:=st) (io:=io) rfl];rfl
 have hb:=pD it b;have hlo:=BI it;unfold gA;simp only[wZ,h1,rW]
 cases e:bh it b with
 | none=>
   rw[e]at hb
   cases e2:PG.loose it<;>rw[e2]at hlo<;>simp -implicitDefEqProofs [hb,rI,cL,hlo]
 | some l=>
   rw[e]at hb;have hll:=zy it b l e
   have h2:ng 0 (pFd 0 bX "coming" mW) (Cd (ak 3) (mUn lg (mC (.int 1)))) [some (.tr io (PG.wk st)),some (.sh (.int b)),some (.sh (bC it)),some (.ow (l.map bC))]=.nx [some (.tr io (PG.wk (l++st))),some (.sh (.int b)),some (.sh (bC it)),some (.ow (l.map bC))]:=
    DR (io:=io) rfl (by simp[Cd]) (by omega)
   have h3:lW "Walk" "brackets" cx [.b 0 bX] [some (.tr io (PG.wk (l++st))),some (.sh (.int b)),some (.sh (bC it)),some (.ow (l.map bC))]=.ok (.sh (.int (PG.cnt (l++st)))):=BN (io:=io) rfl (by simp;omega)
   have h4:(decide ((PG.cnt (l++st):Int)<=64))=decide (PG.cnt (l++st)<=64):=by rw[decide_eq_decide];omega
   simp -implicitDefEqProofs [hb,rI,cL,h2,h3,h4]
theorem yM(b:Int)(io:Bool)(st:List PG.It):∀(n:Nat) (x y:Option Sl),st.length<n->st.length+8<=100000 ->
  ∃ x' y',(cJ gB gA n [some (.tr io (PG.wk st)),some (.sh (.int b)),x,y]).andThen (aS (mC (.bl false)))=.rt [some (.tr io (PG.wk (gon st b).1)),some (.sh (.int b)),x',y'] (.sh (.bl (gon st b).2)):=by
 induction st with
 | nil=>
   intro n x y hn hl
   obtain⟨m,rfl⟩:∃ m,n=m+1:=⟨n - 1,by simp at hn;omega⟩
   refine⟨x,y,?_⟩
   have hc:gB [some (.tr io (PG.wk [])),some (.sh (.int b)),x,y]=.ok false:=wz (i:=0) (ρ:=[some (.tr io (PG.wk [])),some (.sh (.int b)),x,y]) (io:=io) (st:=[]) rfl
   simp[cJ,hc,gon]
 | cons it st ih=>
   intro n x y hn hl
   obtain⟨m,rfl⟩:∃ m,n=m+1:=⟨n - 1,by simp at hn;omega⟩
   have hc:gB [some (.tr io (PG.wk (it ::st))),some (.sh (.int b)),x,y]=.ok true:=wz (i:=0) (ρ:=[some (.tr io (PG.wk (it ::st))),some (.sh (.int b)),x,y]) (io:=io) (st:=it ::st) rfl
   have ht:=zt b it st io x y (by simp at hl;omega);unfold gon
   cases e:bh it b with
   | some l=>
     rw[e]at ht
     exact⟨some (.sh (bC it)),some (.ow (l.map bC)),by simp only[cJ,hc,mf,if_true,ht,yu,rZ]⟩
   | none=>
     rw[e]at ht
     dsimp only at ht ⊢
     cases e2:PG.loose it with
     | false=>
       rw[e2]at ht
       exact⟨some (.sh (bC it)),some (.sh .non),by simp only[cJ,hc,mf,if_true,ht,yu,rZ,Bool.false_eq_true,if_false]⟩
     | true=>
       rw[e2]at ht;obtain⟨x',y',h⟩:=ih m (some (.sh (bC it))) (some (.sh .non)) (by simp at hn;omega) (by simp at hl;omega)
       exact⟨x',y',by simp only[cJ,hc,mf,if_true,ht,yC,h]⟩
theorem yY(b:Int)(st:List PG.It)(hl:st.length+8<100000):dO [.tr true (PG.wk st),.sh (.int b)]=.ok (.bl (gon st b).2) [some (PG.wk (gon st b).1),none]:=by
 obtain⟨x',y',h⟩:=yM b true st fuel none none (by unfold fuel;omega) (by omega)
 have e:iK [some (.tr true (PG.wk st)),some (.sh (.int b)),none,none]=_:=h
 show fnI 2 4 iK _=_;unfold fnI;rw[if_pos (by rfl)];show xc 2 (iK [some (.tr true (PG.wk st)),some (.sh (.int b)),none,none])=_;rw[e];rfl
theorem zi(io:Bool)(rw:PV)(row:List Int):∀(k:Nat) (st:List PG.It) (x y:Option Sl),st.length+8*row.length+8<100000 ->
  ∃ x' y',lX 2 3 jj (qL k (row.map .int)) [some (.tr io (PG.wk st)),some (.sh rw),x,y]=if(PG.tk st row).2=row.length then .nx [some (.tr io (PG.wk (PG.tk st row).1)),some (.sh rw),x',y']else .rt [some (.tr io (PG.wk (PG.tk st row).1)),some (.sh rw),x',y'] (.sh (.int ((k+(PG.tk st row).2:Nat):Int))):=by
 induction row with
 |nil=>intro k st x y hl;exact⟨x,y,by simp[qL,lX,PG.tk]⟩
 | cons b row ih=>
   intro k st x y hl;simp only[List.length_cons]at hl;have hg:=yY b st (by omega);have hlen:=ya st b
   have ht:jj [some (.tr io (PG.wk st)),some (.sh rw),some (.sh (.int k)),some (.sh (.int b))]=if(gon st b).2 then .nx [some (.tr io (PG.wk (gon st b).1)),some (.sh rw),some (.sh (.int k)),some (.sh (.int b))]else .rt [some (.tr io (PG.wk (gon st b).1)),some (.sh rw),some (.sh (.int k)),some (.sh (.int b))] (.sh (.int k)):=by
    have ha:ku (.t 0 bX) [some (.tr io (PG.wk st)),some (.sh rw),some (.sh (.int k)),some (.sh (.int b))]=some (.tr true (PG.wk st)):=by simp[ku,bX]
    have ha2:ku (.e (ak 3)) [some (.tr io (PG.wk st)),some (.sh rw),some (.sh (.int k)),some (.sh (.int b))]=some (.sh (.int b)):=by simp[ku]
    have hr:recv "Walk" "goes_on" (some (.tr true (PG.wk st)))=true:=by rw[vN];simp[recv,aG]
    have hx:nO "Walk" "goes_on" dO [.t 0 bX,.e (ak 3)] [some (.tr io (PG.wk st)),some (.sh rw),some (.sh (.int k)),some (.sh (.int b))]=.ok [some (.tr io (PG.wk (gon st b).1)),some (.sh rw),some (.sh (.int k)),some (.sh (.int b))] (.sh (.bl (gon st b).2)):=by
     simp only[nO,ha,hr,if_true,jz,gZ,ha2,Option.bind_some,Option.map_some,hg];simp[fU,lj,bX]
    unfold jj BK;rw[hx]
    cases(gon st b).2<;>simp
   unfold PG.tk;simp only[List.map_cons,qL,lX,List.set_cons_succ,List.set_cons_zero,ht]
   cases e:(gon st b).2 with
   |false=>exact⟨some (.sh (.int k)),some (.sh (.int b)),by simp⟩
   | true=>
     obtain⟨x',y',h⟩:=ih (k+1) (gon st b).1 (some (.sh (.int k))) (some (.sh (.int b))) (by omega)
     refine⟨x',y',?_⟩
     simp only[if_true,yC,h,List.length_cons,Nat.add_right_cancel_iff]
     have:k+1+(PG.tk (gon st b).1 row).2=k+((PG.tk (gon st b).1 row).2+1):=by omega
     rw[this]
theorem EI(st:List PG.It)(row:List Int)(hl:st.length+8*row.length+8<100000):fo [.tr true (PG.wk st),.sh (.lst (row.map .int))]=.ok (.int (PG.tk st row).2) [some (PG.wk (PG.tk st row).1),none]:=by
 obtain⟨x',y',h⟩:=zi true (.lst (row.map .int)) row 0 st none none hl;show fnI 2 4 kL _=_;unfold fnI;rw[if_pos (by rfl)];show xc 2 (kL [some (.tr true (PG.wk st)),some (.sh (.lst (row.map .int))),none,none])=_;unfold kL yl;simp only[wZ,sQ,List.getElem?_cons_succ,List.getElem?_cons_zero,i0,FD,h]
 by_cases e:(PG.tk st row).2=row.length
 . simp[e,xc,uf]
 . simp[e,xc,uf]
theorem wN(st:List PG.It)(hl:st.length<=100000):cV [.bo (PG.wk st)]=.ok (.bl (st.all PG.loose)) [none]:=by
 have hp:iM 0 (pFd 0 bX "coming" mW) [some (.bo (PG.wk st))]=.ok (.al (cm st)):=by
  unfold iM;rw[ur (s:=.bo (PG.wk st)) rfl rfl];simp only[uc]
 have hn:st.length<=lim:=cf (by omega)
 have he:fu iL [] (cm st)=.ok ((st.reverse.map PG.loose).map .bl):=by
  rw[List.map_map]
  refine zb _ fun it _=>?_
  simp[iL,AV]
 have hb:CM (.lst ((st.reverse.map PG.loose).map .bl))=some (.sh (.bl (st.all PG.loose))):=by
  simp only[CM,vw,Option.map_some]
  congr 3
  rw[List.all_map,List.all_reverse];rfl
 simp -implicitDefEqProofs only[cV,mP,fnI,jM,Be,hp,e6,List.map_nil,he,zE,zR,List.map_cons,List.length_cons,List.length_nil,List.replicate,List.append_nil,lI,C7,Bu,List.length_map,List.length_reverse,hn,if_true,hb,yw,i0,DA,Nat.sub_self,xc]
 rfl
theorem Ey:cU [.tr true (.ob "Walk" [] [])]=.ok .non [some (PG.wk st0)]:=by
 rfl
theorem E0(row:List Int):∀ st,(PG.tk st row).1.length<=st.length+8*row.length+8:=by
 induction row with
 |nil=>intro st;simp[PG.tk]
 | cons b row ih=>
   intro st;have:=ya st b;have h2:=ih (gon st b).1;unfold PG.tk
   split<;>simp only[List.length_cons]<;>omega
noncomputable def ofO:Option Nat->PV
 |some k=>.int k
 |none=>.non
theorem qX(row:List Int)(hl:8*row.length+20<100000):kN [.lst (row.map .int)]=.ok (.sh (ofO (PG.flt row))):=by
 have ht:=EI st0 row (by simp[st0];omega);have hlen:=E0 row st0;have hw:=wN (PG.tk st0 row).1 (by have:st0.length=3:=rfl;omega)
 have h0:tL "Walk" cU [some (.sh (.lst (row.map .int))),none,none]=.ok (PG.wk st0):=by unfold tL;rw[Ey]
 have h1:kQ 2 (nO "Walk" "take" fo [.t 1 bX,.e (ak 0)]) [some (.sh (.lst (row.map .int))),some (.tr false (PG.wk st0)),none]=.nx [some (.sh (.lst (row.map .int))),some (.tr false (PG.wk (PG.tk st0 row).1)),some (.sh (.int (PG.tk st0 row).2))]:=by
  have ha:ku (.t 1 bX) [some (.sh (.lst (row.map .int))),some (.tr false (PG.wk st0)),none]=some (.tr true (PG.wk st0)):=by simp[ku,bX]
  have ha2:ku (.e (ak 0)) [some (.sh (.lst (row.map .int))),some (.tr false (PG.wk st0)),none]=some (.sh (.lst (row.map .int))):=by simp[ku]
  have hr:recv "Walk" "take" (some (.tr true (PG.wk st0)))=true:=by rw[vN];simp[recv,aG]
  unfold kQ;simp only[nO,ha,hr,if_true,jz,gZ,ha2,Option.bind_some,Option.map_some,ht];simp[fU,lj,bX,nio]
 have h2:lW "Walk" "is_whole" cV [.b 1 bX] [some (.sh (.lst (row.map .int))),some (.tr false (PG.wk (PG.tk st0 row).1)),some (.sh (.int (PG.tk st0 row).2))]=.ok (.sh (.bl ((PG.tk st0 row).1.all PG.loose))):=by
  have ha:ku (.b 1 bX) [some (.sh (.lst (row.map .int))),some (.tr false (PG.wk (PG.tk st0 row).1)),some (.sh (.int (PG.tk st0 row).2))]=some (.bo (PG.wk (PG.tk st0 row).1)):=by
   simp only[ku];rw[wL (s:=.tr false (PG.wk (PG.tk st0 row).1)) rfl rfl];rfl
  have hr:recv "Walk" "is_whole" (some (.bo (PG.wk (PG.tk st0 row).1)))=true:=by rw[vN];simp[recv,aG]
  simp only[lW,ha,hr,if_true,mz,gZ,Option.bind_some,Option.map_some,hw]
 unfold PG.flt
 have hd:pj 1 (tL "Walk" cU) [some (.sh (.lst (row.map .int))),none,none]=.nx [some (.sh (.lst (row.map .int))),some (.tr false (PG.wk st0)),none]:=by
  unfold pj;rw[h0];rfl
 simp -implicitDefEqProofs only[kN,Gq,zT,yx,List.map_cons,List.map_nil,List.length_cons,List.length_nil,List.cons_append,List.nil_append,List.replicate,wZ,hd,rW,tX,h1,tD,Es,BR,Cn,F8,sQ,List.getElem?_cons_succ,List.getElem?_cons_zero,zR,lI,AQ,h2]
 by_cases e:(PG.tk st0 row).2=row.length
 . cases e2:(PG.tk st0 row).1.all PG.loose<;>simp[e,p6,ofO]
 . have e3:¬ ((PG.tk st0 row).2:Int)=(row.length:Int):=by omega
   simp[e,e3,p6,ofO]
theorem at_of{row pre X:List Int}(h:row=pre++X)(j:Nat):atP (row.map PV.int) ((pre.length:Int)+j)=(X[j]?).map .int:=by
 rw[show((pre.length:Int)+j)=((pre.length+j:Nat):Int) by omega,nZ,List.getElem?_map,h,List.getElem?_append_right (by omega),Nat.add_sub_cancel_left]
theorem iI{row pre Q:List Int}{b:Int}(h:row=pre++b ::Q):atP (row.map PV.int) (pre.length:Int)=some (.int b):=by
 have:=at_of h 0
 simpa using this
theorem xT{row pre Q:List Int}{b:Int}(hrow:row=pre++b ::Q)(x2 x3:Option Sl):∀(j k:Nat) (lo hi:Int) (o:Option Sl),k<=Q.length ->
  (∃ a4 a5 a6,eM 6 bT ((List.range' k j).map fun i:Nat=>PV.int i) [some (.sh (.lst (row.map .int))),some (.sh (.int pre.length)),x2,x3,some (.sh (.int lo)),some (.sh (.int hi)),o]=.nx [some (.sh (.lst (row.map .int))),some (.sh (.int pre.length)),x2,x3,a4,a5,a6] /\ j<=(Q.drop k).length /\ ∀ T,PG.cnt T<=64->PG.Goes (sps lo hi j++T) ((Q.drop k).take j) T) \/
  (∃ ρ m,eM 6 bT ((List.range' k j).map fun i:Nat=>PV.int i) [some (.sh (.lst (row.map .int))),some (.sh (.int pre.length)),x2,x3,some (.sh (.int lo)),some (.sh (.int hi)),o]=.rt ρ (.sh (.int (-(pre.length:Int) - 2 - ((k+m:Nat):Int)))) /\ ∀ T,PG.cnt T<=64->dv (sps lo hi j++T) (Q.drop k) m)
 |0,k,lo,hi,o,hk=>.inl ⟨some (.sh (.int lo)),some (.sh (.int hi)),o,rfl,Nat.zero_le _,fun T _=>by rw[List.take_zero];exact PG.Goes.nil _⟩
 | j+1,k,lo,hi,o,hk=>by
   have hlen:row.length=pre.length+(Q.length+1):=by rw[hrow];simp
   have hat:=at_of hrow (1+k);rw[show 1+k=k+1 by omega,List.getElem?_cons_succ]at hat;rw[List.range'_succ,List.map_cons]
   have ret:∀ ρ0:aj,ρ0=[some (.sh (.lst (row.map .int))),some (.sh (.int pre.length)),x2,x3,some (.sh (.int lo)),some (.sh (.int hi)),some (.sh (.int k))]->aS (mOp nk (mOp nk (mUn lg (ak 1)) (mC (.int 2))) (ak 6)) ρ0=.rt ρ0 (.sh (.int (-(pre.length:Int) - 2 - ((k+0:Nat):Int)))):=fun ρ0 h=>by subst h;simp
   by_cases hke:k=Q.length
   . refine .inr ⟨[some (.sh (.lst (row.map .int))),some (.sh (.int pre.length)),x2,x3,some (.sh (.int lo)),some (.sh (.int hi)),some (.sh (.int k))],0,?_,fun T _=>?_⟩
     . rw[eI]
       show(bT [some (.sh (.lst (row.map .int))),some (.sh (.int pre.length)),x2,x3,some (.sh (.int lo)),some (.sh (.int hi)),some (.sh (.int k))]).turn _=_
       unfold bT
       rw[iS ((mI (by
        have:(pre.length:Int)+1+k=row.length:=by omega
        simp -implicitDefEqProofs [au,this])).trans (ret _ rfl))]
       rfl
     . rw[hke,List.drop_length];exact dA rfl
   . have hkl:k<Q.length:=by omega
     have hd:Q.drop k=Q[k] ::Q.drop (k+1):=List.drop_eq_getElem_cons hkl
     rw[List.getElem?_eq_getElem hkl]at hat;rw[show((pre.length:Int)+((k+1:Nat):Int))=(pre.length:Int)+1+k by omega]at hat
     have hne:¬ (pre.length:Int)+1+k=row.length:=by omega
     have hcond:lH (au (mOp gEq (mOp cu (mOp cu (ak 1) (mC (.int 1))) (ak 6)) (mUn gF (ak 0)))) (kE (au (bL gLe gLe (ak 4) (mOp bc (ak 0) (mOp cu (mOp cu (ak 1) (mC (.int 1))) (ak 6))) (ak 5)))) [some (.sh (.lst (row.map .int))),some (.sh (.int pre.length)),x2,x3,some (.sh (.int lo)),some (.sh (.int hi)),some (.sh (.int k))]=.ok (!decide (lo<=Q[k] /\ Q[k]<=hi)):=by
      by_cases z1:lo<=Q[k]
      . by_cases z2:Q[k]<=hi
        . simp -implicitDefEqProofs [au,bL,bc,hat,hne,z1,z2]
        . simp -implicitDefEqProofs [au,bL,bc,hat,hne,z1,z2]
      . simp -implicitDefEqProofs [au,bL,bc,hat,hne,z1]
     by_cases hin:lo<=Q[k] /\ Q[k]<=hi
     . rw[decide_eq_true hin]at hcond
       have hs:bT [some (.sh (.lst (row.map .int))),some (.sh (.int pre.length)),x2,x3,some (.sh (.int lo)),some (.sh (.int hi)),some (.sh (.int k))]=.nx [some (.sh (.lst (row.map .int))),some (.sh (.int pre.length)),x2,x3,some (.sh (.int 128)),some (.sh (.int 191)),some (.sh (.int k))]:=by
        unfold bT;rw[sk hcond];simp[aU]
       rw[iH hs]
       have g1:∀ T,PG.cnt T<=64->PG.Goes (sps lo hi (j+1)++T) [Q[k]] (sps 128 191 j++T):=fun T hT=>by
        rw[vJ];exact cN (l:=[]) (by simp only[bh];rw[if_pos hin]) rfl (show PG.cnt (List.replicate j (PG.It.sp 128 191)++T)<=64 by rw[ji,<- vJ,xX];omega)
       rcases xT hrow x2 x3 j (k+1) 128 191 (some (.sh (.int k))) (by omega)with⟨a4,a5,a6,e1,e2,e3⟩|⟨ρ,m,e1,e2⟩
       . refine .inl ⟨a4,a5,a6,e1,by rw[hd,List.length_cons];omega,fun T hT=>?_⟩;rw[hd,List.take_succ_cons]
         exact(g1 T hT).trans (e3 T hT)
       . refine .inr ⟨ρ,m+1,by rw[e1];congr 4;omega,fun T hT=>?_⟩;rw[hd]
         exact(e2 T hT).cons (g1 T hT)
     . rw[decide_eq_false hin]at hcond;refine .inr ⟨[some (.sh (.lst (row.map .int))),some (.sh (.int pre.length)),x2,x3,some (.sh (.int lo)),some (.sh (.int hi)),some (.sh (.int k))],0,?_,fun T _=>?_⟩
       . rw[eI]
         show(bT [some (.sh (.lst (row.map .int))),some (.sh (.int pre.length)),x2,x3,some (.sh (.int lo)),some (.sh (.int hi)),some (.sh (.int k))]).turn _=_
         unfold bT;rw[iS ((mI hcond).trans (ret _ rfl))];rfl
       . rw[hd];exact bR (by simp only[bh];rw[if_neg hin]) rfl
theorem wH{row pre Q:List Int}{b:Int}(hrow:row=pre++b ::Q)(h34:b≠34)(h92:b≠92)(h32:¬ b<32):
  (∃ n:Nat,1<=n /\ n<=Q.length+1 /\ bS [.lst (row.map .int),.int pre.length]=.ok (.sh (.int n)) /\ ∀ T,PG.cnt T<=64->PG.Goes (.text ::T) ((b ::Q).take n) (.text ::T)) \/
  (∃ m:Nat,bS [.lst (row.map .int),.int pre.length]=.ok (.sh (.int (-(pre.length:Int) - 1 - m))) /\ ∀ T,PG.cnt T<=64->dv (.text ::T) (b ::Q) m):=by
 have hat:=iI hrow
 have hfn:bS [.lst (row.map .int),.int pre.length]=fin (fR [some (.sh (.lst (row.map .int))),some (.sh (.int pre.length)),some (.sh (.int b)),none,none,none,none]):=by
  unfold bS fnP;rw[if_pos (show List.length [PV.lst (row.map .int),.int pre.length]=2 from rfl),show ft 7 [PV.lst (row.map .int),.int pre.length]=[some (.sh (.lst (row.map .int))),some (.sh (.int pre.length)),none,none,none,none,none] from rfl];unfold jy;rw[aP (ρ':=[some (.sh (.lst (row.map .int))),some (.sh (.int pre.length)),some (.sh (.int b)),none,none,none,none]) (by simp -implicitDefEqProofs [aU,bc,hat])]
 rw[hfn];unfold fR
 by_cases h128:b<128
 . refine .inl ⟨1,by omega,by omega,?_,fun T hT=>?_⟩
   . exact ib (ρ:=[some (.sh (.lst (row.map .int))),some (.sh (.int pre.length)),some (.sh (.int b)),none,none,none,none]) (st (by simp[au,h128]) (by simp))
   . show PG.Goes _ [b] _;exact cN (l:=[.text]) (by rw[uS h34 h92 h32];unfold tls;rw[if_pos ⟨by omega,h128⟩];rfl) rfl hT
 rw[sk (by simp[au,h128])];unfold kC
 rw[aP (ρ':=[some (.sh (.lst (row.map .int))),some (.sh (.int pre.length)),some (.sh (.int b)),some (.sh (.int (gf b))),none,none,none]) (by
  have:(1:Int)+(if 224<=b then 1 else 0)+(if 240<=b then 1 else 0)=(gf b:Int):=by unfold gf;split<;>split<;>rfl
  simp[aU]
  exact this)]
 unfold kM
 by_cases hbad:b<194 \/ 244<b
 . refine .inr ⟨0,?_,fun T _=>bR (by rw[uS h34 h92 h32,BD (by omega) hbad];rfl) rfl⟩
   exact ib (ρ:=[some (.sh (.lst (row.map .int))),some (.sh (.int pre.length)),some (.sh (.int b)),some (.sh (.int (gf b))),none,none,none]) (st (by
    rcases hbad with z|z
    . simp[au,z]
    . by_cases y:b<194<;>simp[au,z,y]) (by simp))
 have hb1:¬ b<194:=fun z=>hbad (.inl z)
 have hb2:¬ 244<b:=fun z=>hbad (.inr z)
 rw[sk (by simp[au,hb1,hb2])];unfold kK
 have look:∀(p q x y d:Int),p≠q->((List.map (fun p:Int×Int=>(p.1,PV.int p.2)) [(p,x),(q,y)]).lookup b).getD (.int d)=.int (if b=p then x else if b=q then y else d):=fun p q x y d hpq=>by
  by_cases z1:b=p
  . subst z1;simp[List.lookup]
  . by_cases z2:b=q
    . subst z2
      have y1:(b==p)=false:=by simpa using z1
      simp[List.lookup,y1,z1]
    . have y1:(b==p)=false:=by simpa using z1
      have y2:(b==q)=false:=by simpa using z2
      simp[List.lookup,y1,y2,z1,z2]
 rw[aP (ρ':=[some (.sh (.lst (row.map .int))),some (.sh (.int pre.length)),some (.sh (.int b)),some (.sh (.int (gf b))),some (.sh (.int (tLo b))),none,none]) (by
  have:=look 224 240 160 144 128 (by decide);unfold aU nY
  simp -implicitDefEqProofs only[sQ,List.getElem?_cons_succ,List.getElem?_cons_zero,lI,Gu,kD,RV.pv,this]
  rfl)]
 unfold kH
 rw[aP (ρ':=[some (.sh (.lst (row.map .int))),some (.sh (.int pre.length)),some (.sh (.int b)),some (.sh (.int (gf b))),some (.sh (.int (tLo b))),some (.sh (.int (tHi b))),none]) (by
  have:=look 237 244 159 143 191 (by decide);unfold aU nY
  simp -implicitDefEqProofs only[sQ,List.getElem?_cons_succ,List.getElem?_cons_zero,lI,Gu,kD,RV.pv,this]
  rfl)]
 unfold kO
 have hfor:ka 6 (ak 3) bT [some (.sh (.lst (row.map .int))),some (.sh (.int pre.length)),some (.sh (.int b)),some (.sh (.int (gf b))),some (.sh (.int (tLo b))),some (.sh (.int (tHi b))),none]=eM 6 bT ((List.range' 0 (gf b)).map fun i:Nat=>PV.int i) [some (.sh (.lst (row.map .int))),some (.sh (.int pre.length)),some (.sh (.int b)),some (.sh (.int (gf b))),some (.sh (.int (tLo b))),some (.sh (.int (tHi b))),none]:=by
  have hm:gf b<=3:=by unfold gf;split<;>split<;>omega
  have r1:-4611686018427387904<=(gf b:Int):=by omega
  have r2:(gf b:Int)<4611686018427387904:=by omega
  unfold ka
  have e0:gL (gf b)=(List.range' 0 (gf b)).map fun k:Nat=>PV.int k:=by
   unfold gL;rw[List.range_eq_range']
  simp -implicitDefEqProofs only[sQ,List.getElem?_cons_succ,List.getElem?_cons_zero,i0,RV.pv]
  simp -implicitDefEqProofs [r1,r2,e0]
 have ht:bh .text b=some (sps (tLo b) (tHi b) (gf b)++[.text]):=by
  rw[uS h34 h92 h32,BB (by omega) (by omega)];rfl
 have g0:∀ T,PG.cnt T<=64->PG.Goes (.text ::T) [b] (sps (tLo b) (tHi b) (gf b)++(.text ::T)):=fun T hT=>by
  have:=cN (s:=T) ht (by rw[ji,xX];rfl) hT;rw[List.append_assoc]at this;exact this
 have hT1:∀ T,PG.cnt T<=64->PG.cnt (.text ::T)<=64:=fun T hT=>by rw[PG.cnt_cons];simpa [opn]using hT
 rcases xT hrow (some (.sh (.int b))) (some (.sh (.int (gf b)))) (gf b) 0 (tLo b) (tHi b) none (Nat.zero_le _)with⟨a4,a5,a6,e1,e2,e3⟩|⟨ρ,m,e1,e2⟩
 . refine .inl ⟨gf b+1,by omega,by simpa using e2,?_,fun T hT=>?_⟩
   . rw[aP (hfor.trans e1)];exact ib (ρ:=[some (.sh (.lst (row.map .int))),some (.sh (.int pre.length)),some (.sh (.int b)),some (.sh (.int (gf b))),a4,a5,a6]) (by simp[kG];omega)
   . rw[List.take_succ_cons]
     exact(g0 T hT).trans (e3 _ (hT1 T hT))
 . refine .inr ⟨m+1,?_,fun T hT=>(e2 _ (hT1 T hT)).cons (g0 T hT)⟩;rw[iS (hfor.trans e1),show(-(pre.length:Int) - 2 - ((0+m:Nat):Int))=-(pre.length:Int) - 1 - ((m+1:Nat):Int) by omega];rfl
theorem AK{row pre X:List Int}(hrow:row=pre++X)(low:Bool)(num:Int)(k:Nat)(c:Int)(o5 o6 o7:Option Sl)(hc:X[k]?=some c):
  ∃ y5 y6 y7,cz [some (.sh (.lst (row.map .int))),some (.sh (.int pre.length)),some (.sh (.bl low)),some (.sh (.int num)),some (.sh (.int k)),o5,o6,o7]=if okh low k num c=true then .nx [some (.sh (.lst (row.map .int))),some (.sh (.int pre.length)),some (.sh (.bl low)),some (.sh (.int (num*16+wor c))),some (.sh (.int k)),y5,y6,y7]else .rt [some (.sh (.lst (row.map .int))),some (.sh (.int pre.length)),some (.sh (.bl low)),some (.sh (.int (num*16+wor c))),some (.sh (.int k)),y5,y6,y7] (.sh (.tup [.int (-1),.int ((pre.length:Int)+k)])):=by
 have hat:=at_of hrow k;rw[hc]at hat
 have hk:k<X.length:=(List.getElem?_eq_some_iff.mp hc).1
 have hne:¬ (pre.length:Int)+k=row.length:=by rw[hrow,List.length_append];omega
 have l2:(2:Nat)<=lim:=cf (by omega)
 generalize hr:some (Sl.sh (PV.lst (row.map .int)))=R
 have e0:au (mOp gEq (mOp cu (ak 1) (ak 4)) (mUn gF (ak 0))) [R,some (.sh (.int pre.length)),some (.sh (.bl low)),some (.sh (.int num)),some (.sh (.int k)),o5,o6,o7]=.ok false:=by rw[<- hr];simp[au,hne]
 have e1:aU 5 (mOp bc (ak 0) (mOp cu (ak 1) (ak 4))) [R,some (.sh (.int pre.length)),some (.sh (.bl low)),some (.sh (.int num)),some (.sh (.int k)),o5,o6,o7]=.nx [R,some (.sh (.int pre.length)),some (.sh (.bl low)),some (.sh (.int num)),some (.sh (.int k)),some (.sh (.int c)),o6,o7]:=by
  rw[<- hr];simp -implicitDefEqProofs [aU,bc,hat]
 refine⟨some (.sh (.int c)),some (.sh (.int (wor c))),some (.sh (.bl (decide (k=1)&&decide (220<=num*16+wor c /\ num*16+wor c<=223)))),?_⟩
 unfold cz;rw[sk e0,aP e1]
 obtain⟨w1,h1,h1'⟩:∃ w1:Int,aU 6 (fi (au (bL gLe gLe (mC (.int 48)) (ak 5) (mC (.int 57)))) (mOp nk (ak 5) (mC (.int 48))) (mUn lg (mC (.int 1)))) [R,some (.sh (.int pre.length)),some (.sh (.bl low)),some (.sh (.int num)),some (.sh (.int k)),some (.sh (.int c)),o6,o7]=.nx [R,some (.sh (.int pre.length)),some (.sh (.bl low)),some (.sh (.int num)),some (.sh (.int k)),some (.sh (.int c)),some (.sh (.int w1)),o7] /\ w1=if 48<=c /\ c<=57 then c - 48 else -1:=by
  refine⟨_,?_,rfl⟩
  by_cases z1:48<=c
  . by_cases z2:c<=57<;>simp -implicitDefEqProofs [aU,fi,au,bL,z1,z2]
  . simp -implicitDefEqProofs [aU,fi,au,bL,z1]
 rw[aP h1]
 have h2:bp (au (bL gLe gLe (mC (.int 97)) (ak 5) (mC (.int 102)))) (aU 6 (mOp nk (ak 5) (mC (.int 87)))) aO [R,some (.sh (.int pre.length)),some (.sh (.bl low)),some (.sh (.int num)),some (.sh (.int k)),some (.sh (.int c)),some (.sh (.int w1)),o7]=.nx [R,some (.sh (.int pre.length)),some (.sh (.bl low)),some (.sh (.int num)),some (.sh (.int k)),some (.sh (.int c)),some (.sh (.int (if 97<=c /\ c<=102 then c - 87 else w1))),o7]:=by
  by_cases z1:97<=c
  . by_cases z2:c<=102<;>simp -implicitDefEqProofs [bp,aU,au,bL,z1,z2,aO]
  . simp -implicitDefEqProofs [bp,au,bL,z1,aO]
 rw[aP h2]
 have h3:bp (au (bL gLe gLe (mC (.int 65)) (ak 5) (mC (.int 70)))) (aU 6 (mOp nk (ak 5) (mC (.int 55)))) aO [R,some (.sh (.int pre.length)),some (.sh (.bl low)),some (.sh (.int num)),some (.sh (.int k)),some (.sh (.int c)),some (.sh (.int (if 97<=c /\ c<=102 then c - 87 else w1))),o7]=.nx [R,some (.sh (.int pre.length)),some (.sh (.bl low)),some (.sh (.int num)),some (.sh (.int k)),some (.sh (.int c)),some (.sh (.int (wor c))),o7]:=by
  have hw:wor c=if 65<=c /\ c<=70 then c - 55 else if 97<=c /\ c<=102 then c - 87 else w1:=by
   rw[h1'];unfold wor ko
   by_cases a1:48<=c /\ c<=57
   . rw[if_pos a1,if_neg (by omega),if_neg (by omega),if_pos a1];rfl
   . rw[if_neg a1]
     by_cases a2:65<=c /\ c<=70
     . rw[if_pos a2,if_pos a2];rfl
     . rw[if_neg a2,if_neg a2]
       by_cases a3:97<=c /\ c<=102
       . rw[if_pos a3,if_pos a3];rfl
       . rw[if_neg a3,if_neg a3,if_neg a1];rfl
  rw[hw]
  by_cases z1:65<=c
  . by_cases z2:c<=70<;>simp -implicitDefEqProofs [bp,aU,au,bL,z1,z2,aO]
  . simp -implicitDefEqProofs [bp,au,bL,z1,aO]
 rw[aP h3];rw[aP (ρ':=[R,some (.sh (.int pre.length)),some (.sh (.bl low)),some (.sh (.int (num*16+wor c))),some (.sh (.int k)),some (.sh (.int c)),some (.sh (.int (wor c))),o7]) (by simp[aU])];unfold okh;generalize num*16+wor c=n2
 have h4:aU 7 (oA (mOp gEq (ak 4) (mC (.int 1))) (bL gLe gLe (mC (.int 220)) (ak 3) (mC (.int 223)))) [R,some (.sh (.int pre.length)),some (.sh (.bl low)),some (.sh (.int n2)),some (.sh (.int k)),some (.sh (.int c)),some (.sh (.int (wor c))),o7]=.nx [R,some (.sh (.int pre.length)),some (.sh (.bl low)),some (.sh (.int n2)),some (.sh (.int k)),some (.sh (.int c)),some (.sh (.int (wor c))),some (.sh (.bl (decide (k=1)&&decide (220<=n2 /\ n2<=223))))]:=by
  by_cases z0:k=1
  . subst z0
    by_cases z1:220<=n2
    . by_cases z2:n2<=223<;>simp -implicitDefEqProofs [aU,oA,bL,z1,z2,jv]
    . simp -implicitDefEqProofs [aU,oA,bL,z1,jv]
  . have z0':¬ (k:Int)=1:=by omega
    simp -implicitDefEqProofs [aU,oA,z0',jv,z0]
 rw[aP h4]
 have hcond:lH (au (mOp gLt (ak 6) (mC (.int 0)))) (lH (cQ (au (mOp gEq (ak 4) (mC (.int 1)))) (au (mOp gNe (ak 7) (ak 2)))) (cQ (au (mOp gEq (ak 4) (mC (.int 0)))) (cQ (dn (ak 2)) (au (mOp gNe (ak 6) (mC (.int 13))))))) [R,some (.sh (.int pre.length)),some (.sh (.bl low)),some (.sh (.int n2)),some (.sh (.int k)),some (.sh (.int c)),some (.sh (.int (wor c))),some (.sh (.bl (decide (k=1)&&decide (220<=n2 /\ n2<=223))))]=.ok (!(decide (0<=wor c)&&((!decide (k=1)||(decide (220<=n2 /\ n2<=223)==low))&&(!decide (k=0)||(!low||decide (wor c=13)))))):=by
  generalize wor c=w at *;generalize decide (220<=n2 /\ n2<=223)=half
  have t1:au (mOp gLt (ak 6) (mC (.int 0))) [R,some (.sh (.int pre.length)),some (.sh (.bl low)),some (.sh (.int n2)),some (.sh (.int k)),some (.sh (.int c)),some (.sh (.int w)),some (.sh (.bl (decide (k=1)&&half)))]=.ok (decide (w<0)):=by simp[au]
  have t2:au (mOp gEq (ak 4) (mC (.int 1))) [R,some (.sh (.int pre.length)),some (.sh (.bl low)),some (.sh (.int n2)),some (.sh (.int k)),some (.sh (.int c)),some (.sh (.int w)),some (.sh (.bl (decide (k=1)&&half)))]=.ok (decide (k=1)):=by
   have:decide ((k:Int)=1)=decide (k=1):=decide_eq_decide.mpr (by omega)
   simp -implicitDefEqProofs [au,this]
  have t3:au (mOp gNe (ak 7) (ak 2)) [R,some (.sh (.int pre.length)),some (.sh (.bl low)),some (.sh (.int n2)),some (.sh (.int k)),some (.sh (.int c)),some (.sh (.int w)),some (.sh (.bl (decide (k=1)&&half)))]=.ok (!((decide (k=1)&&half)==low)):=by
   generalize (decide (k=1)&&half)=hh
   cases hh<;>cases low<;>simp -implicitDefEqProofs [au,gNe,eqS]
  have t4:au (mOp gEq (ak 4) (mC (.int 0))) [R,some (.sh (.int pre.length)),some (.sh (.bl low)),some (.sh (.int n2)),some (.sh (.int k)),some (.sh (.int c)),some (.sh (.int w)),some (.sh (.bl (decide (k=1)&&half)))]=.ok (decide (k=0)):=by
   have:decide ((k:Int)=0)=decide (k=0):=decide_eq_decide.mpr (by omega)
   simp -implicitDefEqProofs [au,this]
  have t5:dn (ak 2) [R,some (.sh (.int pre.length)),some (.sh (.bl low)),some (.sh (.int n2)),some (.sh (.int k)),some (.sh (.int c)),some (.sh (.int w)),some (.sh (.bl (decide (k=1)&&half)))]=.ok low:=by simp[dn,jv]
  have t6:au (mOp gNe (ak 6) (mC (.int 13))) [R,some (.sh (.int pre.length)),some (.sh (.bl low)),some (.sh (.int n2)),some (.sh (.int k)),some (.sh (.int c)),some (.sh (.int w)),some (.sh (.bl (decide (k=1)&&half)))]=.ok (!decide (w=13)):=by
   by_cases z:w=13<;>simp -implicitDefEqProofs [au,z]
  unfold lH cQ;rw[t1,t2,t3,t4,t5,t6]
  have hw0:decide (0<=w)=!decide (w<0):=by
   by_cases z:w<0
   . have:¬ 0<=w:=by omega
     simp[z,this]
   . have:0<=w:=by omega
     simp[z,this]
  rw[hw0]
  have hk01:¬ (k=1 /\ k=0):=by omega
  generalize decide (w<0)=q1;generalize decide (w=13)=q2
  by_cases k1:k=1
  . subst k1
    cases q1<;>cases q2<;>cases half<;>cases low<;>rfl
  . by_cases k0:k=0
    . subst k0
      cases q1<;>cases q2<;>cases half<;>cases low<;>rfl
    . simp only[k1,k0,decide_false]
      cases q1<;>cases q2<;>cases half<;>cases low<;>rfl
 cases hq:(decide (0<=wor c)&&((!decide (k=1)||(decide (220<=n2 /\ n2<=223)==low))&&(!decide (k=0)||(!low||decide (wor c=13)))))with
 | true=>
   rw[hq]at hcond;rw[qb hcond,vb,if_pos rfl]
 | false=>
   rw[hq]at hcond;rw[mI hcond,if_neg (by decide)];simp[l2]
theorem vf{row pre X:List Int}(hrow:row=pre++X){low:Bool}{sf:Nat->Int->List PG.It}(hs:HS low sf):∀(j k:Nat) (num:Int) (o4 o5 o6 o7:Option Sl),k+j=4->k<=X.length->PG.hIn low k num ->
  (∃ n4 a4 a5 a6 a7,eM 4 cz ((List.range' k j).map fun i:Nat=>PV.int i) [some (.sh (.lst (row.map .int))),some (.sh (.int pre.length)),some (.sh (.bl low)),some (.sh (.int num)),o4,o5,o6,o7]=.nx [some (.sh (.lst (row.map .int))),some (.sh (.int pre.length)),some (.sh (.bl low)),some (.sh (.int n4)),a4,a5,a6,a7] /\ j<=(X.drop k).length /\ 0<=n4 /\ PG.Goes (sf k num) ((X.drop k).take j) (sf 4 n4)) \/
  (∃ ρ m,eM 4 cz ((List.range' k j).map fun i:Nat=>PV.int i) [some (.sh (.lst (row.map .int))),some (.sh (.int pre.length)),some (.sh (.bl low)),some (.sh (.int num)),o4,o5,o6,o7]=.rt ρ (.sh (.tup [.int (-1),.int ((pre.length:Int)+((k+m:Nat):Int))])) /\ dv (sf k num) (X.drop k) m)
 | 0,k,num,o4,o5,o6,o7,hk,hkl,hi=>by
   have:k=4:=by omega
   subst this;exact .inl ⟨num,o4,o5,o6,o7,rfl,Nat.zero_le _,hi.1,by rw[List.take_zero];exact PG.Goes.nil _⟩
 | j+1,k,num,o4,o5,o6,o7,hk,hkl,hi=>by
   have l2:(2:Nat)<=lim:=cf (by omega)
   rw[List.range'_succ,List.map_cons,eI];show _ \/ _
   by_cases hke:k=X.length
   . have hb:cz [some (.sh (.lst (row.map .int))),some (.sh (.int pre.length)),some (.sh (.bl low)),some (.sh (.int num)),some (.sh (.int k)),o5,o6,o7] = .rt [some (.sh (.lst (row.map .int))),some (.sh (.int pre.length)),some (.sh (.bl low)),some (.sh (.int num)),some (.sh (.int k)),o5,o6,o7] (.sh (.tup [.int (-1),.int ((pre.length:Int) + k)])):=by
      have he:(pre.length:Int)+k=row.length:=by rw[hrow,List.length_append];omega
      unfold cz;refine st (by simp -implicitDefEqProofs [au,he]) (by simp[l2])
     refine .inr ⟨[some (.sh (.lst (row.map .int))),some (.sh (.int pre.length)),some (.sh (.bl low)),some (.sh (.int num)),some (.sh (.int k)),o5,o6,o7],0,?_,by rw[hke,List.drop_length];exact hs.en _ _ (by omega)⟩
     show(cz [some (.sh (.lst (row.map .int))),some (.sh (.int pre.length)),some (.sh (.bl low)),some (.sh (.int num)),some (.sh (.int k)),o5,o6,o7]).turn _=_
     rw[hb];rfl
   . have hkl':k<X.length:=by omega
     have hd:X.drop k=X[k] ::X.drop (k+1):=List.drop_eq_getElem_cons hkl'
     obtain⟨y5,y6,y7,hb⟩:=AK hrow low num k X[k] o5 o6 o7 (List.getElem?_eq_getElem hkl')
     show(∃ n4 a4 a5 a6 a7,(cz [some (.sh (.lst (row.map .int))),some (.sh (.int pre.length)),some (.sh (.bl low)),some (.sh (.int num)),some (.sh (.int k)),o5,o6,o7]).turn _=_ /\ _) \/ (∃ ρ m,(cz [some (.sh (.lst (row.map .int))),some (.sh (.int pre.length)),some (.sh (.bl low)),some (.sh (.int num)),some (.sh (.int k)),o5,o6,o7]).turn _=_ /\ _)
     rw[hb]
     cases ho:okh low k num X[k]with
     | true=>
       rw[if_pos rfl];have g1:=hs.go k num X[k] (by omega) hi ho
       rcases vf hrow hs j (k+1) (num*16+wor X[k]) (some (.sh (.int k))) y5 y6 y7 (by omega) (by omega) (A3 (by omega) hi ho)with⟨n4,a4,a5,a6,a7,e1,e2,e3,e4⟩|⟨ρ,m,e1,e2⟩
       . refine .inl ⟨n4,a4,a5,a6,a7,e1,by rw[hd,List.length_cons];omega,e3,?_⟩;rw[hd,List.take_succ_cons];exact g1.trans e4
       . refine .inr ⟨ρ,m+1,?_,?_⟩
         . have:(k+(m+1))=(k+1+m):=by omega
           rw[this];exact e1
         . rw[hd];exact e2.cons g1
     | false=>
       rw[if_neg (by decide)];exact .inr ⟨_,0,rfl,by rw[hd];exact hs.no k num X[k] _ (by omega) hi ho⟩
theorem yz{row pre X:List Int}(hrow:row=pre++X){low:Bool}{sf:Nat->Int->List PG.It}(hs:HS low sf):
  (∃ n4:Int,cO [.lst (row.map .int),.int pre.length,.bl low]=.ok (.sh (.tup [.int n4,.int ((pre.length:Int)+4)])) /\ 4<=X.length /\ 0<=n4 /\ PG.Goes (sf 0 0) (X.take 4) (sf 4 n4)) \/
  (∃ m:Nat,cO [.lst (row.map .int),.int pre.length,.bl low]=.ok (.sh (.tup [.int (-1),.int ((pre.length:Int)+m)])) /\ dv (sf 0 0) X m):=by
 have l2:(2:Nat)<=lim:=cf (by omega)
 have hfn:cO [.lst (row.map .int),.int pre.length,.bl low]=fin (kX [some (.sh (.lst (row.map .int))),some (.sh (.int pre.length)),some (.sh (.bl low)),some (.sh (.int 0)),none,none,none,none]):=by
  unfold cO fnP;rw[if_pos (show List.length [PV.lst (row.map .int),.int pre.length,.bl low]=3 from rfl),show ft 8 [PV.lst (row.map .int),.int pre.length,.bl low]=[some (.sh (.lst (row.map .int))),some (.sh (.int pre.length)),some (.sh (.bl low)),none,none,none,none,none] from rfl];unfold qr;rw[aP (ρ':=[some (.sh (.lst (row.map .int))),some (.sh (.int pre.length)),some (.sh (.bl low)),some (.sh (.int 0)),none,none,none,none]) (by simp[aU])]
 rw[hfn];unfold kX
 have hfor:ka 4 (mC (.int 4)) cz [some (.sh (.lst (row.map .int))),some (.sh (.int pre.length)),some (.sh (.bl low)),some (.sh (.int 0)),none,none,none,none]=eM 4 cz ((List.range' 0 4).map fun i:Nat=>PV.int i) [some (.sh (.lst (row.map .int))),some (.sh (.int pre.length)),some (.sh (.bl low)),some (.sh (.int 0)),none,none,none,none]:=rfl
 rcases vf hrow hs 4 0 0 none none none none rfl (Nat.zero_le _) ⟨by omega,fun _=>rfl,fun z=>by omega,fun z=>by omega,fun z=>by omega,fun _ z=>by omega⟩with⟨n4,a4,a5,a6,a7,e1,e2,e3,e4⟩|⟨ρ,m,e1,e2⟩
 . refine .inl ⟨n4,?_,by simpa using e2,e3,by simpa using e4⟩;rw[aP (hfor.trans e1)];exact ib (ρ:=[some (.sh (.lst (row.map .int))),some (.sh (.int pre.length)),some (.sh (.bl low)),some (.sh (.int n4)),a4,a5,a6,a7]) (by simp[oN,l2])
 . refine .inr ⟨m,?_,by simpa using e2⟩;rw[iS (hfor.trans e1),Nat.zero_add];rfl
theorem Al{row pre Q:List Int}(hrow:row=pre++92 ::Q):∃(ok:Bool) (n:Nat),eX [.lst (row.map .int),.int pre.length]=.ok (.sh (.tup [.bl ok,.int ((pre.length:Int)+n)])) /\ 1<=n /\ ∀ T,PG.cnt T<=64->PG.Tells (.text ::T) (.text ::T) (92 ::Q) ok n:=by
 have l2:(2:Nat)<=lim:=cf (by omega)
 have l8:(8:Nat)<=lim:=cf (by omega)
 have hT1:∀ T,PG.cnt T<=64->PG.cnt (.text ::T)<=64:=fun T hT=>by rw[PG.cnt_cons];simpa [opn]using hT
 have g1:∀ T,PG.cnt T<=64->PG.Goes (.text ::T) [92] (.escape ::.text ::T):=fun T hT=>cN (l:=[.escape,.text]) rfl rfl hT
 have hfn:eX [.lst (row.map .int),.int pre.length]=fin (mE [some (.sh (.lst (row.map .int))),some (.sh (.int pre.length)),none,none,none]):=rfl
 rw[hfn];unfold mE
 cases Q with
 | nil=>
   refine⟨false,1,?_,Nat.le_refl _,fun T hT=>.no ((dA rfl).cons (g1 T hT))⟩
   have:(pre.length:Int)+1=row.length:=by rw[hrow,List.length_append];simp
   exact ib (ρ:=[some (.sh (.lst (row.map .int))),some (.sh (.int pre.length)),none,none,none]) (st (by simp[au,this]) (by simp[l2]))
 | cons c Q=>
   have hne:¬ (pre.length:Int)+1=row.length:=by rw[hrow,List.length_append];simp;omega
   rw[sk (by simp[au,hne])];have hat:=at_of hrow 1;simp only[List.getElem?_cons_succ,List.getElem?_cons_zero,Option.map_some]at hat;rw[show((pre.length:Int)+((1:Nat):Int))=(pre.length:Int)+1 from rfl]at hat;unfold nu
   have hsh:au (mOp gIn (mOp bc (ak 0) (mOp cu (ak 1) (mC (.int 1)))) (cB (af (mC (.int 34)) (af (mC (.int 92)) (af (mC (.int 47)) (af (mC (.int 98)) (af (mC (.int 102)) (af (mC (.int 110)) (af (mC (.int 114)) (af (mC (.int 116)) aB)))))))))) [some (.sh (.lst (row.map .int))),some (.sh (.int pre.length)),none,none,none]=.ok (oR c):=by
    simp -implicitDefEqProofs [au,bc,hat,gIn,gE,cM,fj,l8,oR]
    grind
   cases hs:oR c with
   | true=>
     rw[hs]at hsh
     have h117:c≠117:=by intro z;subst z;cases hs
     refine⟨true,2,?_,by omega,fun T hT=>?_⟩
     . exact ib (ρ:=[some (.sh (.lst (row.map .int))),some (.sh (.int pre.length)),none,none,none]) (st hsh (by simp[l2]))
     . exact PG.Tells.yes (P:=[92,c]) ((g1 T hT).trans (cN (l:=[]) (by simp[bh,xJ,h117,hs]) rfl (hT1 T hT)))
   | false=>
     rw[hs]at hsh;rw[sk hsh];unfold nL
     by_cases h117:c=117
     case neg=>
      refine⟨false,1,?_,Nat.le_refl _,fun T hT=>.no ((bR (by simp[bh,xJ,h117,hs]) rfl).cons (g1 T hT))⟩
      exact ib (ρ:=[some (.sh (.lst (row.map .int))),some (.sh (.int pre.length)),none,none,none]) (st (by simp -implicitDefEqProofs [au,bc,hat,h117]) (by simp[l2]))
     subst h117;rw[sk (by simp -implicitDefEqProofs [au,bc,hat])]
     have g2:∀ T,PG.cnt T<=64->PG.Goes (.text ::T) [92,117] (.code ::.text ::T):=fun T hT=>(g1 T hT).trans (cN (l:=[.code]) rfl rfl (hT1 T hT))
     have hrow2:row=(pre++[92,117])++Q:=by rw[hrow];simp
     have hl2:((pre++[92,117]).length:Int)=(pre.length:Int)+2:=by simp
     unfold m4
     have hex1:∀ T,PG.cnt T<=64->_:=fun T hT=>yz hrow2 (Bi (hT1 T hT))
     have h0:=hex1 [] (by decide);rw[hl2]at h0
     have setS:∀(x:PV),cO [.lst (row.map .int),.int ((pre.length:Int)+2),.bl false]=.ok (.sh x)->aU 2 (bU cO (af (ak 0) (af (mOp cu (ak 1) (mC (.int 2))) (af (mC (.bl false)) aB)))) [some (.sh (.lst (row.map .int))),some (.sh (.int pre.length)),none,none,none]=.nx [some (.sh (.lst (row.map .int))),some (.sh (.int pre.length)),some (.sh x),none,none]:=fun x hx=>by simp[aU,hx]
     rcases h0 with⟨n4,e1,e2,e3,_⟩|⟨m,e1,_⟩
     case inr=>
      rw[aP (setS _ e1)];unfold j5
      refine⟨false,2+m,?_,by omega,fun T hT=>?_⟩
      . refine ib (ρ:=[some (.sh (.lst (row.map .int))),some (.sh (.int pre.length)),some (.sh (.tup [.int (-1),.int ((pre.length:Int)+2+m)])),none,none]) (st (by simp[au,fH,atP,ixP]) ?_);simp[fH,atP,ixP,l2];omega
      . have:=hex1 T hT;rw[hl2]at this
        rcases this with⟨n4,e1',_,e3',_⟩|⟨m',e1',hf⟩
        . rw[e1]at e1';simp at e1';omega
        . have hm:m'=m:=by rw[e1]at e1';simp at e1';omega
          subst hm;exact .no (hf.after (P:=[92,117]) (g2 T hT))
     case inl=>
      have gg:∀ T,PG.cnt T<=64->PG.Goes (.text ::T) ([92,117]++Q.take 4) ((if 216<=n4/256 /\ n4/256<=219 then nc else[])++(.text ::T)):=fun T hT=>by
       have:=hex1 T hT;rw[hl2]at this
       rcases this with⟨n4',e1',_,_,hg⟩|⟨m',e1',hf⟩
       . have hm:n4'=n4:=by rw[e1]at e1';simp at e1';omega
         subst hm
         exact(g2 T hT).trans hg
       . rw[e1]at e1';simp at e1';omega
      rw[aP (setS _ e1)]
      obtain⟨q0,q1,q2,q3,Q4,rfl⟩:∃ q0 q1 q2 q3 Q4,Q=q0 ::q1 ::q2 ::q3 ::Q4:=by
       match Q,e2 with
       |a ::b ::c ::d ::r,_=>exact⟨a,b,c,d,r,rfl⟩
      unfold j5
      by_cases hsur:55296<=n4 /\ n4<=56319
      case neg=>
       refine⟨true,6,?_,by omega,fun T hT=>?_⟩
       . have hn0:¬ n4<0:=by omega
         refine ib (ρ:=[some (.sh (.lst (row.map .int))),some (.sh (.int pre.length)),some (.sh (.tup [.int n4,.int ((pre.length:Int)+2+4)])),none,none]) (st (b:=aO) ?_ ?_)
         . by_cases z1:55296<=n4
           . have z2:¬ n4<=56319:=fun z=>hsur ⟨z1,z⟩
             simp -implicitDefEqProofs [au,bL,fH,atP,ixP,hn0,z1,z2]
           . simp -implicitDefEqProofs [au,bL,fH,atP,ixP,hn0,z1]
         . have:0<=n4:=e3
           simp[fH,atP,ixP,l2,this];omega
       . have:=gg T hT;rw[if_neg (by omega)]at this;exact PG.Tells.yes (P:=[92,117,q0,q1,q2,q3]) this
      have gp:∀ T,PG.cnt T<=64->PG.Goes (.text ::T) [92,117,q0,q1,q2,q3] (.sp 92 92 ::.sp 117 117 ::.hexd ::.hexcf ::.hex ::.hex ::.text ::T):=fun T hT=>by
       have:=gg T hT;rw[if_pos (by omega)]at this;exact this
      have cn:∀(l T:List PG.It),PG.cnt T<=64->PG.cnt l=0->PG.cnt (l ++ .text ::T)<=64:=fun l T hT hl=>by rw[ji,hl];have:=hT1 T hT;omega
      rw[sk (by
       have hn0:¬ n4<0:=by omega
       simp -implicitDefEqProofs [au,bL,fH,atP,ixP,hn0,hsur.1,hsur.2])]
      generalize hx2:some (Sl.sh (.tup [.int n4,.int ((pre.length:Int)+2+4)]))=x2;unfold nG
      have hfor:ka 3 (mC (.int 2)) cg [some (.sh (.lst (row.map .int))),some (.sh (.int pre.length)),x2,none,none]=(cg [some (.sh (.lst (row.map .int))),some (.sh (.int pre.length)),x2,some (.sh (.int ((0:Nat):Int))),none]).turn (eM 3 cg [.int 1]):=rfl
      have hlen:row.length=pre.length+(6+Q4.length):=by rw[hrow];simp;omega
      have stp:∀(k:Nat) (w:Int),(k=0 /\ w=92 \/ k=1 /\ w=117)->(Q4[k]?=some w->cg [some (.sh (.lst (row.map .int))),some (.sh (.int pre.length)),x2,some (.sh (.int k)),none]=.nx [some (.sh (.lst (row.map .int))),some (.sh (.int pre.length)),x2,some (.sh (.int k)),none]) /\ (k<=Q4.length->Q4[k]?≠some w->cg [some (.sh (.lst (row.map .int))),some (.sh (.int pre.length)),x2,some (.sh (.int k)),none]=.rt [some (.sh (.lst (row.map .int))),some (.sh (.int pre.length)),x2,some (.sh (.int k)),none] (.sh (.tup [.bl false,.int ((pre.length:Int)+((6+k:Nat):Int))]))):=by
       intro k w hkw;have hat6:=at_of hrow (6+k);rw[show(92 ::117 ::q0 ::q1 ::q2 ::q3 ::Q4)[6+k]?=Q4[k]? by rw[show 6+k=k+1+1+1+1+1+1 by omega];simp only[List.getElem?_cons_succ]]at hat6
       rw[show((pre.length:Int)+((6+k:Nat):Int))=(pre.length:Int)+6+k by omega]at hat6 ⊢
       have hww:bc (.lst [.int 92,.int 117]) (.int k)=some (.sh (.int w)):=by
        rcases hkw with⟨rfl,rfl⟩|⟨rfl,rfl⟩<;>rfl
       constructor
       . intro hq;rw[hq]at hat6
         have hkl:k<Q4.length:=(List.getElem?_eq_some_iff.mp hq).1
         have hne:¬ (pre.length:Int)+6+k=row.length:=by omega
         unfold cg
         refine(qb ?_).trans (vb _)
         have hg:bc (.lst (row.map .int)) (.int ((pre.length:Int)+6+k))=some (.sh (.int w)):=by simp only[bc,hat6];rfl
         simp -implicitDefEqProofs [au,hne,hg,l2,hww]
       . intro hkl hq;unfold cg
         refine(mI ?_).trans (by simp[l2])
         by_cases he:(pre.length:Int)+6+k=row.length
         . simp -implicitDefEqProofs [au,he]
         . have hkl':k<Q4.length:=by omega
           rw[List.getElem?_eq_getElem hkl']at hat6 hq
           have hg:bc (.lst (row.map .int)) (.int ((pre.length:Int)+6+k))=some (.sh (.int Q4[k])):=by simp only[bc,hat6];rfl
           have hne:¬ Q4[k]=w:=fun z=>hq (by rw[z])
           simp -implicitDefEqProofs [au,he,hg,l2,hww,hne]
      by_cases h0:Q4[0]?=some 92
      case neg=>
       refine⟨false,6,?_,by omega,fun T hT=>.no ?_⟩
       . rw[iS (hfor.trans (by rw[(stp 0 92 (.inl ⟨rfl,rfl⟩)).2 (Nat.zero_le _) h0];rfl))];rfl
       . refine dv.after (P:=[92,117,q0,q1,q2,q3]) (n:=0) (gp T hT) ?_
         cases Q4 with
         |nil=>exact dA rfl
         | cons c r=>
           have:¬ c=92:=fun z=>h0 (by rw[z];rfl)
           exact bR (by simp only[bh];rw[if_neg (by omega)]) rfl
      obtain⟨Q5,rfl⟩:∃ Q5,Q4=92 ::Q5:=by
       cases Q4 with
       |nil=>cases h0
       |cons c r=>simp at h0;exact⟨r,by rw[h0]⟩
      have gp7:∀ T,PG.cnt T<=64->PG.Goes (.text ::T) [92,117,q0,q1,q2,q3,92] (.sp 117 117 ::.hexd ::.hexcf ::.hex ::.hex ::.text ::T):=fun T hT=>PG.Goes.trans (xs:=[92,117,q0,q1,q2,q3]) (gp T hT) (cN (l:=[]) rfl rfl (cn [.sp 117 117,.hexd,.hexcf,.hex,.hex] T hT rfl))
      by_cases h1:Q5[0]?=some 117
      case neg=>
       refine⟨false,7,?_,by omega,fun T hT=>.no ?_⟩
       . rw [iS (hfor.trans (by
          rw[(stp 0 92 (.inl ⟨rfl,rfl⟩)).1 rfl];show eM 3 cg [.int 1] _=_;rw[eI]
          show(cg [some (.sh (.lst (row.map .int))),some (.sh (.int pre.length)),x2,some (.sh (.int ((1:Nat):Int))),none]).turn _=_
          rw[(stp 1 117 (.inr ⟨rfl,rfl⟩)).2 (by simp) (by simpa using h1)]
          rfl))]
         rfl
       . refine dv.after (P:=[92,117,q0,q1,q2,q3,92]) (n:=0) (gp7 T hT) ?_
         cases Q5 with
         |nil=>exact dA rfl
         | cons c r=>
           have:¬ c=117:=fun z=>h1 (by rw[z];rfl)
           exact bR (by simp only[bh];rw[if_neg (by omega)]) rfl
      obtain⟨Q6,rfl⟩:∃ Q6,Q5=117 ::Q6:=by
       cases Q5 with
       |nil=>cases h1
       |cons c r=>simp at h1;exact⟨r,by rw[h1]⟩
      have gp8:∀ T,PG.cnt T<=64->PG.Goes (.text ::T) [92,117,q0,q1,q2,q3,92,117] (.hexd ::.hexcf ::.hex ::.hex ::.text ::T):=fun T hT=>PG.Goes.trans (xs:=[92,117,q0,q1,q2,q3,92]) (gp7 T hT) (cN (l:=[]) rfl rfl (cn [.hexd,.hexcf,.hex,.hex] T hT rfl))
      rw[aP (hfor.trans (by
       rw[(stp 0 92 (.inl ⟨rfl,rfl⟩)).1 rfl];show eM 3 cg [.int 1] _=.nx [some (.sh (.lst (row.map .int))),some (.sh (.int pre.length)),x2,some (.sh (.int ((1:Nat):Int))),none];rw[eI]
       show(cg [some (.sh (.lst (row.map .int))),some (.sh (.int pre.length)),x2,some (.sh (.int ((1:Nat):Int))),none]).turn _=_
       rw[(stp 1 117 (.inr ⟨rfl,rfl⟩)).1 rfl]
       rfl))]
      have hrow8:row=(pre++[92,117,q0,q1,q2,q3,92,117])++Q6:=by rw[hrow];simp
      have hl8:((pre++[92,117,q0,q1,q2,q3,92,117]).length:Int)=(pre.length:Int)+8:=by simp
      have hex2:∀ T,PG.cnt T<=64->_:=fun T hT=>yz hrow8 (Fi (hT1 T hT))
      have h00:=hex2 [] (by decide);rw[hl8]at h00;unfold nQ
      have setS2:∀(x:PV),cO [.lst (row.map .int),.int ((pre.length:Int)+8),.bl true]=.ok (.sh x)->aU 4 (bU cO (af (ak 0) (af (mOp cu (ak 1) (mC (.int 8))) (af (mC (.bl true)) aB)))) [some (.sh (.lst (row.map .int))),some (.sh (.int pre.length)),x2,some (.sh (.int ((1:Nat):Int))),none]=.nx [some (.sh (.lst (row.map .int))),some (.sh (.int pre.length)),x2,some (.sh (.int ((1:Nat):Int))),some (.sh x)]:=fun x hx=>by simp[aU,hx]
      rcases h00 with⟨k4,f1,f2,f3,_⟩|⟨m,f1,_⟩
      . rw[aP (setS2 _ f1)]
        refine⟨true,12,?_,by omega,fun T hT=>?_⟩
        . refine ib (ρ:=[some (.sh (.lst (row.map .int))),some (.sh (.int pre.length)),x2,some (.sh (.int ((1:Nat):Int))),some (.sh (.tup [.int k4,.int ((pre.length:Int)+8+4)]))]) ?_;simp[kb,fH,atP,ixP,l2,f3];omega
        . have:=hex2 T hT;rw[hl8]at this
          rcases this with⟨k4',e1',e2',_,hg⟩|⟨m',e1',hf⟩
          . obtain ⟨r0,r1,r2,r3,Q7,rfl⟩:∃ q0 q1 q2 q3 Q4,Q6 = q0 ::q1 ::q2 ::q3 ::Q4:=by
             match Q6,e2' with
             |a ::b ::c ::d ::r,_=>exact⟨a,b,c,d,r,rfl⟩
            exact PG.Tells.yes (P:=[92,117,q0,q1,q2,q3,92,117,r0,r1,r2,r3]) (PG.Goes.trans (xs:=[92,117,q0,q1,q2,q3,92,117]) (gp8 T hT) hg)
          . rw[f1]at e1';simp at e1';omega
      . rw[aP (setS2 _ f1)]
        refine⟨false,8+m,?_,by omega,fun T hT=>?_⟩
        . refine ib (ρ:=[some (.sh (.lst (row.map .int))),some (.sh (.int pre.length)),x2,some (.sh (.int ((1:Nat):Int))),some (.sh (.tup [.int (-1),.int ((pre.length:Int)+8+m)]))]) ?_;simp[kb,fH,atP,ixP,l2];omega
        . have:=hex2 T hT;rw[hl8]at this
          rcases this with⟨k4',e1',_⟩|⟨m',e1',hf⟩
          . rw[f1]at e1';simp at e1';omega
          . have hm:m'=m:=by rw[f1]at e1';simp at e1';omega
            subst hm;exact .no (hf.after (P:=[92,117,q0,q1,q2,q3,92,117]) (gp8 T hT))
theorem xE{row pre Q:List Int}{b:Int}(hrow:row=pre++b ::Q)(h:b<128):bS [.lst (row.map .int),.int pre.length]=.ok (.sh (.int 1)):=by
 have hat:=iI hrow;unfold bS fnP;rw[if_pos (show List.length [PV.lst (row.map .int),.int pre.length]=2 from rfl),show ft 7 [PV.lst (row.map .int),.int pre.length]=[some (.sh (.lst (row.map .int))),some (.sh (.int pre.length)),none,none,none,none,none] from rfl];unfold jy;rw[aP (ρ':=[some (.sh (.lst (row.map .int))),some (.sh (.int pre.length)),some (.sh (.int b)),none,none,none,none]) (by simp -implicitDefEqProofs [aU,bc,hat])];unfold fR;exact ib (ρ:=[some (.sh (.lst (row.map .int))),some (.sh (.int pre.length)),some (.sh (.int b)),none,none,none,none]) (st (by simp[au,h]) (by simp))
theorem tP{row:List Int}:∀(m:Nat) (pre Q:List Int) (f:Nat) (x2 x3:Option Sl),row=pre++Q->Q.length<m->m<=f ->
  ∃(ok:Bool) (n:Nat) (ρ:aj),aN (cJ bg aW f) b0 [some (.sh (.lst (row.map .int))),some (.sh (.int pre.length)),x2,x3]=.rt ρ (.sh (.tup [.bl ok,.int ((pre.length:Int)+n)])) /\ ∀ T,PG.cnt T<=64->PG.Tells (.text ::T) T Q ok n
 |0,pre,Q,f,x2,x3,hrow,hq,hf=>by omega
 | m+1,pre,Q,f,x2,x3,hrow,hq,hf=>by
   obtain⟨f,rfl⟩:∃ k,f=k+1:=⟨f - 1,by omega⟩
   have l2:(2:Nat)<=lim:=cf (by omega)
   have hlen:row.length=pre.length+Q.length:=by rw[hrow];simp
   have stop:bg [some (.sh (.lst (row.map .int))),some (.sh (.int pre.length)),x2,x3]=.ok false->aN (cJ bg aW (f+1)) b0 [some (.sh (.lst (row.map .int))),some (.sh (.int pre.length)),x2,x3]=b0 [some (.sh (.lst (row.map .int))),some (.sh (.int pre.length)),x2,x3]:=fun h=>by
    refine aP ?_;unfold cJ;rw[h];rfl
   have turn:bg [some (.sh (.lst (row.map .int))),some (.sh (.int pre.length)),x2,x3]=.ok true->cJ bg aW (f+1) [some (.sh (.lst (row.map .int))),some (.sh (.int pre.length)),x2,x3]=(aW [some (.sh (.lst (row.map .int))),some (.sh (.int pre.length)),x2,x3]).turn (cJ bg aW f):=fun h=>by
    conv=>lhs;unfold cJ
    rw[h];rfl
   cases Q with
   | nil=>
     have hnl:¬ (pre.length:Int)<row.length:=by rw[hlen];simp
     refine⟨false,0,[some (.sh (.lst (row.map .int))),some (.sh (.int pre.length)),x2,x3],?_,fun T _=>.no (dA rfl)⟩
     rw[stop (by simp -implicitDefEqProofs [bg,au,hnl])];simp -implicitDefEqProofs [b0,hnl,l2]
   | cons b Q=>
     have hat:=iI hrow
     have hll:(pre.length:Int)<row.length:=by rw[hlen];simp;omega
     by_cases h34:b=34
     . subst h34
       refine⟨true,1,[some (.sh (.lst (row.map .int))),some (.sh (.int pre.length)),x2,x3],?_,fun T hT=>PG.Tells.yes (P:=[34]) (cN (l:=[]) rfl rfl hT)⟩
       rw[stop (by simp -implicitDefEqProofs [bg,au,hll,bc,hat])];simp -implicitDefEqProofs [b0,hll,l2]
     have hct:bg [some (.sh (.lst (row.map .int))),some (.sh (.int pre.length)),x2,x3]=.ok true:=by simp -implicitDefEqProofs [bg,au,hll,bc,hat,h34]
     have goon:∀(k:Nat) (y2 y3:Option Sl),1<=k->k<=Q.length+1->aW [some (.sh (.lst (row.map .int))),some (.sh (.int pre.length)),x2,x3]=.nx [some (.sh (.lst (row.map .int))),some (.sh (.int ((pre.length:Int)+k))),y2,y3]->(∀ T,PG.cnt T<=64->PG.Goes (.text ::T) ((b ::Q).take k) (.text ::T)) ->
       ∃(ok:Bool) (n:Nat) (ρ:aj),aN (cJ bg aW (f+1)) b0 [some (.sh (.lst (row.map .int))),some (.sh (.int pre.length)),x2,x3]=.rt ρ (.sh (.tup [.bl ok,.int ((pre.length:Int)+n)])) /\ ∀ T,PG.cnt T<=64->PG.Tells (.text ::T) T (b ::Q) ok n:=by
      intro k y2 y3 hk1 hk2 hb hg
      have hpl:((pre++(b ::Q).take k).length:Int)=(pre.length:Int)+k:=by simp;omega
      obtain⟨ok,n,ρ,e1,e2⟩:=tP (row:=row) m (pre++(b ::Q).take k) ((b ::Q).drop k) f y2 y3 (by rw[hrow,List.append_assoc,List.take_append_drop]) (by simp at hq ⊢;omega) (by omega)
      refine⟨ok,k+n,ρ,?_,fun T hT=>?_⟩
      . have:aN (cJ bg aW (f + 1)) b0 [some (.sh (.lst (row.map .int))),some (.sh (.int pre.length)),x2,x3] = aN (cJ bg aW f) b0 [some (.sh (.lst (row.map .int))),some (.sh (.int ((pre.length:Int) + k))),y2,y3]:=by
         unfold aN;rw[turn hct,hb];rfl
        rw[hpl]at e1;rw[this,e1,show(pre.length:Int)+k+n=(pre.length:Int)+((k+n:Nat):Int) by omega]
      . have:=(e2 T hT).go (hg T hT);rw[List.take_append_drop,List.length_take,Nat.min_eq_left (by simp;omega)]at this;exact this
     have stopNo:∀(n:Nat) (ρ:aj),aW [some (.sh (.lst (row.map .int))),some (.sh (.int pre.length)),x2,x3]=.rt ρ (.sh (.tup [.bl false,.int ((pre.length:Int)+n)]))->(∀ T,PG.cnt T<=64->dv (.text ::T) (b ::Q) n)->∃(ok:Bool) (n:Nat) (ρ:aj),aN (cJ bg aW (f+1)) b0 [some (.sh (.lst (row.map .int))),some (.sh (.int pre.length)),x2,x3]=.rt ρ (.sh (.tup [.bl ok,.int ((pre.length:Int)+n)])) /\ ∀ T,PG.cnt T<=64->PG.Tells (.text ::T) T (b ::Q) ok n:=by
      intro n ρ hb hf
      refine⟨false,n,ρ,?_,fun T hT=>.no (hf T hT)⟩
      rw[iS (by rw[turn hct,hb];rfl)]
     by_cases h92:b=92
     . subst h92;obtain⟨ok,n,e1,hn1,e2⟩:=Al hrow
       have hc:au (mOp gEq (mOp bc (ak 0) (ak 1)) (mC (.int 92))) [some (.sh (.lst (row.map .int))),some (.sh (.int pre.length)),x2,x3]=.ok true:=by simp -implicitDefEqProofs [au,bc,hat]
       have hset:aU 2 (bU eX (af (ak 0) (af (ak 1) aB))) [some (.sh (.lst (row.map .int))),some (.sh (.int pre.length)),x2,x3]=.nx [some (.sh (.lst (row.map .int))),some (.sh (.int pre.length)),some (.sh (.tup [.bl ok,.int ((pre.length:Int)+n)])),x3]:=by simp[aU,e1]
       cases ok with
       | true=>
         have hle:=(e2 [] (by decide)).1
         refine goon n (some (.sh (.tup [.bl true,.int ((pre.length:Int)+n)]))) x3 hn1 (by simpa using hle) ?_ fun T hT=>(e2 T hT).2.1 rfl
         unfold aW;rw[mI hc,aP hset,sk (by simp[dn,fH,atP,ixP,jv])];simp[aU,fH,atP,ixP]
       | false=>
         refine stopNo n [some (.sh (.lst (row.map .int))),some (.sh (.int pre.length)),some (.sh (.tup [.bl false,.int ((pre.length:Int)+n)])),x3] ?_ fun T hT=>(e2 T hT).2.2 rfl
         unfold aW;rw[mI hc,aP hset];exact st (by simp[dn,fH,atP,ixP,jv]) (by simp[fH,atP,ixP,l2])
     . have hc:au (mOp gEq (mOp bc (ak 0) (ak 1)) (mC (.int 92))) [some (.sh (.lst (row.map .int))),some (.sh (.int pre.length)),x2,x3]=.ok false:=by simp -implicitDefEqProofs [au,bc,hat,h92]
       have hset:∀ z:Int,bS [.lst (row.map .int),.int pre.length]=.ok (.sh (.int z))->aU 3 (bU bS (af (ak 0) (af (ak 1) aB))) [some (.sh (.lst (row.map .int))),some (.sh (.int pre.length)),x2,x3]=.nx [some (.sh (.lst (row.map .int))),some (.sh (.int pre.length)),x2,some (.sh (.int z))]:=fun z hz=>by simp[aU,hz]
       by_cases h32:b<32
       . refine stopNo 0 [some (.sh (.lst (row.map .int))),some (.sh (.int pre.length)),x2,some (.sh (.int 1))] ?_ fun T hT=>bR (DX h34 h92 h32) rfl
         unfold aW;rw[qb hc,aP (hset 1 (xE hrow (by omega)))];exact st (by simp -implicitDefEqProofs [au,bc,hat,h32]) (by simp -implicitDefEqProofs [fi,au,bc,hat,h32,l2])
       . rcases wH hrow h34 h92 h32 with⟨n,h1,h2,e1,e2⟩|⟨k,e1,e2⟩
         . refine goon n x2 (some (.sh (.int n))) h1 h2 ?_ e2;unfold aW
           have hn0:¬ (n:Int)<0:=by omega
           rw[qb hc,aP (hset n e1),sk (by simp -implicitDefEqProofs [au,bc,hat,h32,hn0])];simp[aU]
         . refine stopNo k [some (.sh (.lst (row.map .int))),some (.sh (.int pre.length)),x2,some (.sh (.int (-(pre.length:Int) - 1 - k)))] ?_ e2;unfold aW
           have hn0:(-(pre.length:Int) - 1 - k)<0:=by omega
           rw[qb hc,aP (hset _ e1)];refine st (by simp -implicitDefEqProofs [au,bc,hat,h32,hn0]) ?_;simp -implicitDefEqProofs [fi,au,bc,hat,h32,l2];omega
theorem nT{row pre Q:List Int}{q:Int}(hrow:row=pre++q ::Q)(hl:Q.length<90000):∃(ok:Bool) (n:Nat),cy [.lst (row.map .int),.int pre.length]=.ok (.sh (.tup [.bl ok,.int ((pre.length:Int)+1+n)])) /\ ∀ T,PG.cnt T<=64->PG.Tells (.text ::T) T Q ok n:=by
 obtain⟨ok,n,ρ,e1,e2⟩:=tP (row:=row) (Q.length+1) (pre++[q]) Q fuel none none (by rw[hrow];simp) (by omega) (by unfold fuel;omega)
 refine⟨ok,n,?_,e2⟩
 have hpl:((pre++[q]).length:Int)=(pre.length:Int)+1:=by simp
 rw[hpl]at e1;unfold cy fnP;rw[if_pos (show List.length [PV.lst (row.map .int),.int pre.length]=2 from rfl),show ft 4 [PV.lst (row.map .int),.int pre.length]=[some (.sh (.lst (row.map .int))),some (.sh (.int pre.length)),none,none] from rfl];unfold mO;rw[aP (ρ':=[some (.sh (.lst (row.map .int))),some (.sh (.int ((pre.length:Int)+1))),none,none]) (by simp[aU])];unfold kP;rw[e1];rfl
theorem tB{row:List Int}:∀(Q pre:List Int) (f:Nat),row=pre++Q->Q.length<f->cJ dD hU f [some (.sh (.lst (row.map .int))),some (.sh (.int pre.length))]=.nx [some (.sh (.lst (row.map .int))),some (.sh (.int ((pre.length:Int)+dgs Q)))]
 | [],pre,f,hrow,hf=>by
   obtain⟨f,rfl⟩:∃ k,f=k+1:=⟨f - 1,by simp at hf;omega⟩
   have hlen:row.length=pre.length:=by rw[hrow];simp
   have hnl:¬ (pre.length:Int)<row.length:=by rw[hlen];omega
   unfold cJ;rw[show dD [some (.sh (.lst (row.map .int))),some (.sh (.int pre.length))]=.ok false by simp -implicitDefEqProofs [dD,au,hnl]];simp[dgs]
 | b ::Q,pre,f,hrow,hf=>by
   obtain⟨f,rfl⟩:∃ k,f=k+1:=⟨f - 1,by simp at hf;omega⟩
   have hlen:row.length=pre.length+(Q.length+1):=by rw[hrow];simp
   have hll:(pre.length:Int)<row.length:=by rw[hlen];omega
   have hat:=iI hrow
   have hc:dD [some (.sh (.lst (row.map .int))),some (.sh (.int pre.length))]=.ok (decide (48<=b /\ b<=57)):=by
    by_cases z1:48<=b
    . by_cases z2:b<=57
      . simp -implicitDefEqProofs [dD,au,bL,bc,hll,hat,z1,z2]
      . simp -implicitDefEqProofs [dD,au,bL,bc,hll,hat,z1,z2]
    . simp -implicitDefEqProofs [dD,au,bL,bc,hll,hat,z1]
   unfold cJ;rw[hc]
   by_cases h:48<=b /\ b<=57
   . rw[decide_eq_true h]
     have hb:hU [some (.sh (.lst (row.map .int))),some (.sh (.int pre.length))]=.nx [some (.sh (.lst (row.map .int))),some (.sh (.int ((pre++[b]).length:Int)))]:=by simp[hU,aU]
     have ih:=tB (row:=row) Q (pre++[b]) f (by rw[hrow];simp) (by simp at hf;omega)
     have e:((pre++[b]).length:Int)+dgs Q=(pre.length:Int)+dgs (b ::Q):=by simp[dgs,h];omega
     rw[e]at ih;rw[mf,if_pos rfl,hb];exact ih
   . rw[decide_eq_false h];simp[dgs,h]
theorem qm{row pre Q:List Int}(hrow:row=pre++Q)(hl:Q.length<90000){z:Int}(hz:z=pre.length):cT [.lst (row.map .int),.int z]=.ok (.sh (.int ((pre.length:Int)+dgs Q))):=by
 subst hz;unfold cT fnP;rw[if_pos (show List.length [PV.lst (row.map .int),.int pre.length]=2 from rfl),show ft 2 [PV.lst (row.map .int),.int pre.length]=[some (.sh (.lst (row.map .int))),some (.sh (.int pre.length))] from rfl];unfold oG;rw[aP (tB Q pre fuel hrow (by unfold fuel;omega))];rfl
noncomputable abbrev rN(row:List Int)(z:Int)(o:Option Sl):aj:=[some (.sh (.lst (row.map .int))),some (.sh (.int z)),o]
theorem xK{row pre X:List Int}(hrow:row=pre++X)(hl:X.length<90000)(o:Option Sl):∃ ρ,gR (rN row pre.length o)=.rt ρ (.sh (.tup [.bl (lP X).1,.int ((pre.length:Int)+(lP X).2)])):=by
 have l2:(2:Nat)<=lim:=cf (by omega)
 unfold gR
 cases X with
 | nil=>
   have hnl:¬ (pre.length:Int)<row.length:=by rw[hrow];simp
   refine⟨rN row pre.length o,?_⟩
   rw[sk (by simp -implicitDefEqProofs [au,hnl])];simp[gN,lP,l2]
 | cons c X=>
   have hat:=iI hrow
   have hlen:row.length=pre.length+(X.length+1):=by rw[hrow];simp
   have hll:(pre.length:Int)<row.length:=by rw[hlen];omega
   by_cases he:c=101 \/ c=69
   . rw[zM he]
     have h1:cQ (au (mOp gLt (ak 1) (mUn gF (ak 0)))) (au (mOp gIn (mOp bc (ak 0) (ak 1)) (cB (af (mC (.int 101)) (af (mC (.int 69)) aB))))) (rN row pre.length o)=.ok true:=by
      rcases he with z|z<;>simp -implicitDefEqProofs [au,bc,hll,hat,z,l2,gIn,gE,cM,fj]
     have hs1:aU 1 (mOp cu (ak 1) (mC (.int 1))) (rN row pre.length o)=.nx (rN row ((pre.length:Int)+1) o):=by simp[aU]
     have fin1:∀(P Y:List Int) (z:Int),row=P++Y->z=P.length->Y.length<90000->∃ ρ,aN (aU 2 (bU cT (af (ak 0) (af (ak 1) aB)))) (aS (cB (af (mOp gGt (ak 2) (ak 1)) (af (ak 2) aB)))) (rN row z o)=.rt ρ (.sh (.tup [.bl (decide (0<dgs Y)),.int (z+dgs Y)])):=fun P Y z hr hz hy=>by
      have ef:=qm hr hy hz
      refine⟨rN row z (some (.sh (.int (z+dgs Y)))),?_⟩
      rw[aP (ρ':=rN row z (some (.sh (.int (z+dgs Y))))) (by simp[aU,ef];exact hz.symm)]
      have hd:decide (z<z+(dgs Y:Int))=decide (0<dgs Y):=by
       by_cases y:0<dgs Y
       . rw[decide_eq_true y,decide_eq_true (by omega)]
       . rw[decide_eq_false y,decide_eq_false (by omega)]
      simp[l2,hd]
     cases X with
     | nil=>
       have hnl:¬ (pre.length:Int)+1<row.length:=by rw[hlen];simp
       obtain⟨ρ,e⟩:=fin1 (pre++[c]) [] ((pre.length:Int)+1) (by rw[hrow];simp) (by simp) (by simp)
       refine⟨ρ,?_⟩
       refine st h1 ?_;rw[aP hs1,sk (by simp -implicitDefEqProofs [au,hnl]),e];simp[dgs]
     | cons s Y=>
       have hat2:=iI (row:=row) (pre:=pre++[c]) (b:=s) (Q:=Y) (by rw[hrow];simp)
       have hpl:((pre++[c]).length:Int)=(pre.length:Int)+1:=by simp
       rw[hpl]at hat2
       have hll2:(pre.length:Int)+1<row.length:=by rw[hlen];simp;omega
       by_cases hs:s=43 \/ s=45
       . obtain⟨ρ,e⟩:=fin1 (pre++[c,s]) Y ((pre.length:Int)+1+1) (by rw[hrow];simp) (by simp;omega) (by simp at hl;omega)
         refine⟨ρ,?_⟩
         refine st h1 ?_
         have hi:bp (cQ (au (mOp gLt (ak 1) (mUn gF (ak 0)))) (au (mOp gIn (mOp bc (ak 0) (ak 1)) (cB (af (mC (.int 43)) (af (mC (.int 45)) aB)))))) (aU 1 (mOp cu (ak 1) (mC (.int 1)))) aO (rN row ((pre.length:Int)+1) o)=.nx (rN row ((pre.length:Int)+1+1) o):=
          (mI (by rcases hs with z|z<;>simp -implicitDefEqProofs [au,bc,hll2,hat2,z,l2,gIn,gE,cM,fj])).trans (by simp[aU])
         rw[aP hs1,aP hi,e];simp only[if_pos hs];rw[show(pre.length:Int)+1+1+dgs Y=(pre.length:Int)+((2+dgs Y:Nat):Int) by omega]
       . obtain⟨ρ,e⟩:=fin1 (pre++[c]) (s ::Y) ((pre.length:Int)+1) (by rw[hrow];simp) (by simp) (by simp at hl ⊢;omega)
         refine⟨ρ,?_⟩
         refine st h1 ?_
         have z1:¬ s=43:=fun z=>hs (.inl z)
         have z2:¬ s=45:=fun z=>hs (.inr z)
         rw[aP hs1,sk (by simp -implicitDefEqProofs [au,bc,hll2,hat2,z1,z2,l2,gIn,gE,cM,fj];omega),e];simp only[if_neg hs];rw[show(pre.length:Int)+1+dgs (s ::Y)=(pre.length:Int)+((1+dgs (s ::Y):Nat):Int) by omega]
   . rw[Bl he]
     have z1:¬ c=101:=fun z=>he (.inl z)
     have z2:¬ c=69:=fun z=>he (.inr z)
     refine⟨rN row pre.length o,?_⟩
     rw[sk (by simp -implicitDefEqProofs [au,bc,hll,hat,z1,z2,l2,gIn,gE,cM,fj];omega)];simp[gN,l2]
theorem xN{row pre X:List Int}(hrow:row=pre++X)(hl:X.length<90000)(o:Option Sl):∃ ρ,gV (rN row pre.length o)=.rt ρ (.sh (.tup [.bl (iX X).1,.int ((pre.length:Int)+(iX X).2)])):=by
 have l2:(2:Nat)<=lim:=cf (by omega)
 unfold gV
 cases X with
 | nil=>
   have hnl:¬ (pre.length:Int)<row.length:=by rw[hrow];simp
   rw[sk (by simp -implicitDefEqProofs [au,hnl])];exact xK hrow hl o
 | cons c X=>
   have hat:=iI hrow
   have hlen:row.length=pre.length+(X.length+1):=by rw[hrow];simp
   have hll:(pre.length:Int)<row.length:=by rw[hlen];omega
   by_cases h46:c=46
   . subst h46;rw[xZ]
     have h1:cQ (au (mOp gLt (ak 1) (mUn gF (ak 0)))) (au (mOp gEq (mOp bc (ak 0) (ak 1)) (mC (.int 46)))) (rN row pre.length o)=.ok true:=by simp -implicitDefEqProofs [au,bc,hll,hat]
     have ef:=qm (row:=row) (pre:=pre++[46]) (Q:=X) (by rw[hrow];simp) (by simp at hl;omega) (z:=(pre.length:Int)+1) (by simp)
     have hpl:((pre++[46]).length:Int)+dgs X=(pre.length:Int)+1+dgs X:=by simp
     rw[hpl]at ef
     have hs:aU 2 (bU cT (af (ak 0) (af (mOp cu (ak 1) (mC (.int 1))) aB))) (rN row pre.length o)=.nx (rN row pre.length (some (.sh (.int ((pre.length:Int)+1+dgs X))))):=by simp[aU,ef]
     by_cases h0:dgs X=0
     . rw[if_pos h0]
       refine⟨rN row pre.length (some (.sh (.int ((pre.length:Int)+1+dgs X)))),?_⟩
       refine iS ((mI h1).trans ?_);rw[aP hs];refine st (by simp[au,h0]) ?_;simp[l2,h0]
     . rw[if_neg h0];have hle:=qp X;obtain⟨ρ,e⟩:=xK (row:=row) (pre:=pre++46 ::X.take (dgs X)) (X:=X.drop (dgs X)) (by rw[hrow];simp) (by simp at hl ⊢;omega) (some (.sh (.int ((pre.length:Int)+1+dgs X))))
       have hpl2:((pre++46 ::X.take (dgs X)).length:Int)=(pre.length:Int)+1+dgs X:=by simp;omega
       rw[hpl2]at e
       refine⟨ρ,?_⟩
       rw[aP (ρ':=rN row ((pre.length:Int)+1+dgs X) (some (.sh (.int ((pre.length:Int)+1+dgs X))))) ((mI h1).trans (by
        rw[aP hs]
        have:¬ (pre.length:Int)+1+dgs X=(pre.length:Int)+1:=by omega
        rw[sk (by simp[au,this,h0])]
        simp[aU])),e]
       rw[show(pre.length:Int)+((1+dgs X+(lP (X.drop (dgs X))).2:Nat):Int)=(pre.length:Int)+1+dgs X+(lP (X.drop (dgs X))).2 by omega]
   . rw[xV h46,sk (by simp -implicitDefEqProofs [au,bc,hll,hat,h46])];exact xK hrow hl o
theorem dI{row pre X:List Int}(hrow:row=pre++X)(hl:X.length<90000):∃ ρ,gK (rN row pre.length none)=.rt ρ (.sh (.tup [.bl (mX X).1,.int ((pre.length:Int)+(mX X).2)])):=by
 have l2:(2:Nat)<=lim:=cf (by omega)
 unfold gK
 cases X with
 | nil=>
   have hnl:(pre.length:Int)=row.length:=by rw[hrow];simp
   refine⟨rN row pre.length none,?_⟩
   refine st (by simp -implicitDefEqProofs [au,hnl]) ?_;simp[mX,l2]
 | cons d r=>
   have hat:=iI hrow
   have hlen:row.length=pre.length+(r.length+1):=by rw[hrow];simp
   have hne:¬ (pre.length:Int)=row.length:=by rw[hlen];omega
   have hc:lH (au (mOp gEq (ak 1) (mUn gF (ak 0)))) (kE (au (bL gLe gLe (mC (.int 48)) (mOp bc (ak 0) (ak 1)) (mC (.int 57))))) (rN row pre.length none)=.ok (!decide (48<=d /\ d<=57)):=by
    by_cases z1:48<=d
    . by_cases z2:d<=57
      . simp -implicitDefEqProofs [au,bL,bc,hne,hat,z1,z2]
      . simp -implicitDefEqProofs [au,bL,bc,hne,hat,z1,z2]
    . simp -implicitDefEqProofs [au,bL,bc,hne,hat,z1]
   by_cases h:48<=d /\ d<=57
   . rw[decide_eq_true h]at hc;rw[sk hc];unfold jS
     by_cases h48:d=48
     . subst h48;rw[xg];obtain⟨ρ,e⟩:=xN (row:=row) (pre:=pre++[48]) (X:=r) (by rw[hrow];simp) (by simp at hl;omega) none
       have hpl:((pre++[48]).length:Int)=(pre.length:Int)+1:=by simp
       rw[hpl]at e
       refine⟨ρ,?_⟩
       rw[aP (ρ':=rN row ((pre.length:Int)+1) none) (by simp -implicitDefEqProofs [aU,fi,au,bc,hat]),e];rw[show(pre.length:Int)+1+(iX r).2=(pre.length:Int)+((1+(iX r).2:Nat):Int) by omega]
     . rw[xo h h48];have hle:=qp r
       have hdg:dgs (d ::r)=dgs r+1:=by simp[dgs,h]
       have ef:=qm hrow hl rfl;obtain⟨ρ,e⟩:=xN (row:=row) (pre:=pre++d ::r.take (dgs r)) (X:=r.drop (dgs r)) (by rw[hrow];simp) (by simp at hl ⊢;omega) none
       have hpl:((pre++d ::r.take (dgs r)).length:Int)=(pre.length:Int)+dgs (d ::r):=by rw[hdg];simp;omega
       rw[hpl]at e
       refine⟨ρ,?_⟩
       rw[aP (ρ':=rN row ((pre.length:Int)+dgs (d ::r)) none) (by simp -implicitDefEqProofs [aU,fi,au,bc,hat,h48,ef]),e];rw[show(pre.length:Int)+dgs (d ::r)+(iX (r.drop (dgs r))).2=(pre.length:Int)+((dgs r+1+(iX (r.drop (dgs r))).2:Nat):Int) by omega]
   . rw[decide_eq_false h]at hc;rw[xD h]
     refine⟨rN row pre.length none,st hc ?_⟩
     simp[l2]
theorem sY{row pre Q:List Int}{b:Int}(hrow:row=pre++b ::Q)(hl:Q.length<80000):dw [.lst (row.map .int),.int pre.length]=.ok (.sh (.tup [.bl (rL (b ::Q)).1,.int ((pre.length:Int)+(rL (b ::Q)).2)])):=by
 have hat:=iI hrow;unfold dw fnP;rw[if_pos (show List.length [PV.lst (row.map .int),.int pre.length]=2 from rfl),show ft 3 [PV.lst (row.map .int),.int pre.length]=rN row pre.length none from rfl];unfold kR
 by_cases h:b=45
 . subst h;obtain⟨ρ,e⟩:=dI (row:=row) (pre:=pre++[45]) (X:=Q) (by rw[hrow];simp) (by omega)
   have hpl:((pre++[45]).length:Int)=(pre.length:Int)+1:=by simp
   rw[hpl]at e;rw[aP (ρ':=rN row ((pre.length:Int)+1) none) (by simp -implicitDefEqProofs [aU,bc,hat]),e];show OE.ok _=_;rw[show(pre.length:Int)+1+(mX Q).2=(pre.length:Int)+((1+(mX Q).2:Nat):Int) by omega];rfl
 . obtain⟨ρ,e⟩:=dI (row:=row) (pre:=pre) (X:=b ::Q) hrow (by simp;omega)
   have en:rL (b ::Q)=mX (b ::Q):=by
    unfold rL;simp only[if_neg h]
   rw[aP (ρ':=rN row pre.length none) (by simp -implicitDefEqProofs [aU,bc,hat,h]),e,en];rfl
noncomputable def dj:List Int->List Int->Bool×Nat
 |[],_=>(true,0)
 |_ ::_,[]=>(false,0)
 |w ::W,x ::X=>if x=w then((dj W X).1,(dj W X).2+1)else(false,0)
theorem Af:∀ W X:List Int,(dj W X).2<=X.length
 |[],_=>Nat.zero_le _
 |_ ::_,[]=>Nat.le_refl _
 | w ::W,x ::X=>by
   unfold dj;have:=Af W X
   split<;>simp<;>omega
theorem rn{T:List PG.It}(hT:PG.cnt T<=64):∀ W X:List Int,PG.Tells (W.map (fun x=>.sp x x)++T) T X (dj W X).1 (dj W X).2
 |[],X=>PG.Tells.yes (P:=[]) (PG.Goes.nil T)
 |w ::W,[]=>.no (dA rfl)
 | w ::W,x ::X=>by
   have hc:∀ W:List Int,PG.cnt (W.map (fun x=>PG.It.sp x x)++T)<=64:=fun W=>by
    rw[ji]
    have:PG.cnt (W.map (fun x=>PG.It.sp x x))=0:=by
     induction W with
     |nil=>rfl
     |cons w W ih=>rw[List.map_cons,PG.cnt_cons,ih];rfl
    omega
   unfold dj
   by_cases h:x=w
   . rw[if_pos h]
     have g:PG.Goes ((w ::W).map (fun x=>.sp x x)++T) [x] (W.map (fun x=>.sp x x)++T):=cN (l:=[]) (by simp only[bh];rw[if_pos (by omega)]) rfl (hc W)
     have:=(rn hT W X).go g;rw[List.length_singleton,Nat.add_comm]at this;exact this
   . rw[if_neg h];exact .no (bR (by simp only[bh];rw[if_neg (by omega)]) rfl)
theorem ua{row pre w:List Int}:∀(W w0 P X:List Int) (o:Option Sl),w=w0++W->row=pre++(P++X)->P.length=w0.length ->
  ((dj W X).1=true->∃ a3,eM 3 b3 ((List.range' w0.length W.length).map fun i:Nat=>PV.int i) [some (.sh (.lst (row.map .int))),some (.sh (.int pre.length)),some (.sh (.lst (w.map .int))),o]=.nx [some (.sh (.lst (row.map .int))),some (.sh (.int pre.length)),some (.sh (.lst (w.map .int))),a3]) /\
  ((dj W X).1=false->∃ ρ,eM 3 b3 ((List.range' w0.length W.length).map fun i:Nat=>PV.int i) [some (.sh (.lst (row.map .int))),some (.sh (.int pre.length)),some (.sh (.lst (w.map .int))),o]=.rt ρ (.sh (.tup [.bl false,.int ((pre.length:Int)+((w0.length+(dj W X).2:Nat):Int))])))
 |[],w0,P,X,o,hw,hrow,hp=>⟨fun _=>⟨o,rfl⟩,fun z=>(by cases z)⟩
 | c ::W,w0,P,X,o,hw,hrow,hp=>by
   have l2:(2:Nat)<=lim:=cf (by omega)
   have hlen:row.length=pre.length+(P.length+X.length):=by rw[hrow];simp
   have haw:=iI hw;rw[List.length_cons,List.range'_succ,List.map_cons]
   have ret:aS (cB (af (mC (.bl false)) (af (mOp cu (ak 1) (ak 3)) aB))) [some (.sh (.lst (row.map .int))),some (.sh (.int pre.length)),some (.sh (.lst (w.map .int))),some (.sh (.int w0.length))]=.rt [some (.sh (.lst (row.map .int))),some (.sh (.int pre.length)),some (.sh (.lst (w.map .int))),some (.sh (.int w0.length))] (.sh (.tup [.bl false,.int ((pre.length:Int)+w0.length)])):=by simp[l2]
   have stop:lH (au (mOp gEq (mOp cu (ak 1) (ak 3)) (mUn gF (ak 0)))) (au (mOp gNe (mOp bc (ak 0) (mOp cu (ak 1) (ak 3))) (mOp bc (ak 2) (ak 3)))) [some (.sh (.lst (row.map .int))),some (.sh (.int pre.length)),some (.sh (.lst (w.map .int))),some (.sh (.int w0.length))]=.ok true->∀ xs,eM 3 b3 (.int w0.length ::xs) [some (.sh (.lst (row.map .int))),some (.sh (.int pre.length)),some (.sh (.lst (w.map .int))),o]=.rt [some (.sh (.lst (row.map .int))),some (.sh (.int pre.length)),some (.sh (.lst (w.map .int))),some (.sh (.int w0.length))] (.sh (.tup [.bl false,.int ((pre.length:Int)+w0.length)])):=fun h xs=>by
    rw[eI]
    show(b3 [some (.sh (.lst (row.map .int))),some (.sh (.int pre.length)),some (.sh (.lst (w.map .int))),some (.sh (.int w0.length))]).turn _=_
    unfold b3;rw[mI h,ret];rfl
   cases X with
   | nil=>
     have he:(pre.length:Int)+w0.length=row.length:=by rw[hlen];simp;omega
     refine⟨fun z=>(by cases z),fun _=>⟨_,stop (by simp -implicitDefEqProofs [au,he]) _⟩⟩
   | cons x X=>
     have hne:¬ (pre.length:Int)+w0.length=row.length:=by rw[hlen];simp;omega
     have hat:=iI (row:=row) (pre:=pre++P) (b:=x) (Q:=X) (by rw[hrow];simp);rw[show((pre++P).length:Int)=(pre.length:Int)+w0.length by simp;omega]at hat
     by_cases h:x=c
     . subst h
       have hs:b3 [some (.sh (.lst (row.map .int))),some (.sh (.int pre.length)),some (.sh (.lst (w.map .int))),some (.sh (.int w0.length))]=.nx [some (.sh (.lst (row.map .int))),some (.sh (.int pre.length)),some (.sh (.lst (w.map .int))),some (.sh (.int w0.length))]:=by
        unfold b3;rw[qb (by simp -implicitDefEqProofs [au,hne,bc,hat,haw])];rfl
       have ih:=ua (row:=row) (pre:=pre) (w:=w) W (w0++[x]) (P++[x]) X (some (.sh (.int w0.length))) (by rw[hw];simp) (by rw[hrow];simp) (by simp[hp]);rw[show(w0++[x]).length=w0.length+1 by simp]at ih
       have e1:(dj (x ::W) (x ::X)).1=(dj W X).1:=by simp[dj]
       have e2:(dj (x ::W) (x ::X)).2=(dj W X).2+1:=by simp[dj]
       rw[e1,e2,iH hs]
       refine⟨ih.1,fun z=>?_⟩
       obtain⟨ρ,e⟩:=ih.2 z
       exact⟨ρ,by rw[e,show w0.length+1+(dj W X).2=w0.length+((dj W X).2+1) by omega]⟩
     . have e1:dj (c ::W) (x ::X)=(false,0):=by simp[dj,h]
       rw[e1]
       refine⟨fun z=>(by cases z),fun _=>⟨_,stop (by simp -implicitDefEqProofs [au,hne,bc,hat,haw,h]) _⟩⟩
theorem sM{row pre Q W:List Int}{b:Int}(hrow:row=pre++b ::Q)(hW:W.length<90)(o:Option Sl):∃ ρ,dW [some (.sh (.lst (row.map .int))),some (.sh (.int pre.length)),some (.sh (.lst ((b ::W).map .int))),o]=.rt ρ (.sh (.tup [.bl (dj W Q).1,.int ((pre.length:Int)+(((if(dj W Q).1 then W.length else(dj W Q).2)+1:Nat):Int))])):=by
 have l2:(2:Nat)<=lim:=cf (by omega)
 have hat:=iI hrow;have haw:=iI (row:=b ::W) (pre:=[]) (b:=b) (Q:=W) rfl;rw[show((([]:List Int).length:Nat):Int)=0 from rfl]at haw
 have hfor:ka 3 (mUn gF (ak 2)) b3 [some (.sh (.lst (row.map .int))),some (.sh (.int pre.length)),some (.sh (.lst ((b ::W).map .int))),o]=eM 3 b3 ((List.range' 0 (W.length+1)).map fun i:Nat=>PV.int i) [some (.sh (.lst (row.map .int))),some (.sh (.int pre.length)),some (.sh (.lst ((b ::W).map .int))),o]:=by
  have r1:-4611686018427387904<=(W.length:Int)+1:=by omega
  have r2:(W.length:Int)+1<4611686018427387904:=by omega
  unfold ka
  have e0:gL (W.length+1)=(List.range' 0 (W.length+1)).map fun k:Nat=>PV.int k:=by
   unfold gL;rw[List.range_eq_range']
  have e1:((W.length:Int)+1).toNat=W.length+1:=by omega
  simp -implicitDefEqProofs [r1,r2,e0,e1,RV.pv]
 have hl:=ua (row:=row) (pre:=pre) (w:=b ::W) (b ::W) [] [] (b ::Q) o rfl (by rw[hrow];rfl) rfl
 have e1:(dj (b ::W) (b ::Q)).1=(dj W Q).1:=by simp[dj]
 have e2:(dj (b ::W) (b ::Q)).2=(dj W Q).2+1:=by simp[dj]
 rw[e1,e2]at hl;unfold dW;rw[mI (by simp -implicitDefEqProofs [au,bc,hat,haw])]
 cases h:(dj W Q).1 with
 | true=>
   obtain⟨a3,e⟩:=hl.1 h
   refine⟨[some (.sh (.lst (row.map .int))),some (.sh (.int pre.length)),some (.sh (.lst ((b ::W).map .int))),a3],?_⟩
   rw[aP (hfor.trans e)];simp[l2]
 | false=>
   obtain⟨ρ,e⟩:=hl.2 h
   refine⟨ρ,?_⟩
   rw[iS (hfor.trans e)];simp
theorem sd:∀ W X:List Int,(dj W X).1=true->(dj W X).2=W.length
 |[],_,_=>rfl
 |_ ::_,[],h=>by cases h
 | w ::W,x ::X,h=>by
   unfold dj at h ⊢
   by_cases z:x=w
   . rw[if_pos z]at h ⊢
     simp[sd W X h]
   . rw[if_neg z]at h;cases h
theorem j1{row pre Q W:List Int}{b c:Int}(hrow:row=pre++b ::Q)(h:b≠c)(o:Option Sl):dW [some (.sh (.lst (row.map .int))),some (.sh (.int pre.length)),some (.sh (.lst ((c ::W).map .int))),o]=.nx [some (.sh (.lst (row.map .int))),some (.sh (.int pre.length)),some (.sh (.lst ((c ::W).map .int))),o]:=by
 have hat:=iI hrow;have haw:=iI (row:=c ::W) (pre:=[]) (b:=c) (Q:=W) rfl;rw[show((([]:List Int).length:Nat):Int)=0 from rfl]at haw;unfold dW;rw[qb (by simp -implicitDefEqProofs [au,bc,hat,haw,h])];rfl
theorem wq{row pre Q:List Int}{b:Int}(hrow:row=pre++b ::Q)(h1:b≠91)(h2:b≠123)(h3:b≠34)(h4:b≠45)(h5:¬ (48<=b /\ b<=57)):
  ∃(ok:Bool) (n:Nat),dC [.lst (row.map .int),.int pre.length]=.ok (.sh (.tup [.bl ok,.int ((pre.length:Int)+n)])) /\ (ok=true->1<=n) /\ ∀ T,PG.cnt T<=64->PG.Tells (.value ::T) T (b ::Q) ok n:=by
 have l2:(2:Nat)<=lim:=cf (by omega)
 have l5:(5:Nat)<=lim:=cf (by omega)
 have hit:∀(W:List Int),kF b=some (W.map (fun x=>.sp x x))->W.length<90->(∃ ρ,fin (aN (rC 2 (ba (af (ba (af (mC (.int 110)) (af (mC (.int 117)) (af (mC (.int 108)) (af (mC (.int 108)) aB))))) (af (ba (af (mC (.int 116)) (af (mC (.int 114)) (af (mC (.int 117)) (af (mC (.int 101)) aB))))) (af (ba (af (mC (.int 102)) (af (mC (.int 97)) (af (mC (.int 108)) (af (mC (.int 115)) (af (mC (.int 101)) aB)))))) aB)))) dW) (aS (cB (af (mC (.bl false)) (af (ak 1) aB)))) [some (.sh (.lst (row.map .int))),some (.sh (.int pre.length)),none,none])=fin (.rt ρ (.sh (.tup [.bl (dj W Q).1,.int ((pre.length:Int)+(((if(dj W Q).1 then W.length else(dj W Q).2)+1:Nat):Int))])))) ->
   ∃(ok:Bool) (n:Nat),dC [.lst (row.map .int),.int pre.length]=.ok (.sh (.tup [.bl ok,.int ((pre.length:Int)+n)])) /\ (ok=true->1<=n) /\ ∀ T,PG.cnt T<=64->PG.Tells (.value ::T) T (b ::Q) ok n:=by
  intro W hv hW ⟨ρ,e⟩
  refine⟨(dj W Q).1,(dj W Q).2+1,?_,fun _=>by omega,fun T hT=>?_⟩
  . have hn:(if (dj W Q).1 then W.length else (dj W Q).2) = (dj W Q).2:=by
     split
     . rename_i z;exact(sd W Q z).symm
     . rfl
    rw[hn]at e;exact e
  . have hc:PG.cnt (W.map (fun x=>PG.It.sp x x)) = 0:=by
     clear e hv hW
     induction W with
     |nil=>rfl
     |cons w W ih=>rw[List.map_cons,PG.cnt_cons,ih];rfl
    have g:PG.Goes (.value ::T) [b] (W.map (fun x=>.sp x x)++T):=cN hv hc hT
    have:=(rn hT W Q).go g;rw[List.length_singleton,Nat.add_comm]at this;exact this
 have hL:∀(m:aj->OS),rC 2 (ba (af (ba (af (mC (.int 110)) (af (mC (.int 117)) (af (mC (.int 108)) (af (mC (.int 108)) aB))))) (af (ba (af (mC (.int 116)) (af (mC (.int 114)) (af (mC (.int 117)) (af (mC (.int 101)) aB))))) (af (ba (af (mC (.int 102)) (af (mC (.int 97)) (af (mC (.int 108)) (af (mC (.int 115)) (af (mC (.int 101)) aB)))))) aB)))) m [some (.sh (.lst (row.map .int))),some (.sh (.int pre.length)),none,none]=eM 2 m [.lst ([110,117,108,108].map .int),.lst ([116,114,117,101].map .int),.lst ([102,97,108,115,101].map .int)] [some (.sh (.lst (row.map .int))),some (.sh (.int pre.length)),none,none]:=fun m=>by
  unfold rC;simp[wb,l5]
 by_cases z1:b=110
 . subst z1;refine hit [117,108,108] rfl (by simp) ?_;obtain⟨ρ,e⟩:=sM (W:=[117,108,108]) hrow (by simp) none
   exact⟨ρ,by rw[iS ((hL _).trans (by rw[eI];exact congrArg (fun x=>OS.turn x _) e))]⟩
 by_cases z2:b=116
 . subst z2;refine hit [114,117,101] rfl (by simp) ?_;obtain⟨ρ,e⟩:=sM (W:=[114,117,101]) hrow (by simp) none
   exact⟨ρ,by rw[iS ((hL _).trans (by
    rw[iH (j1 (W:=[117,108,108]) hrow z1 none),eI]
    exact congrArg (fun x=>OS.turn x _) e))]⟩
 by_cases z3:b=102
 . subst z3;refine hit [97,108,115,101] rfl (by simp) ?_;obtain⟨ρ,e⟩:=sM (W:=[97,108,115,101]) hrow (by simp) none
   exact⟨ρ,by rw[iS ((hL _).trans (by
    rw[iH (j1 (W:=[117,108,108]) hrow z1 none),iH (j1 (W:=[114,117,101]) hrow z2 none),eI]
    exact congrArg (fun x=>OS.turn x _) e))]⟩
 refine⟨false,0,?_,fun z=>(by cases z),fun T hT=>.no (bR ?_ rfl)⟩
 . unfold dC fnP;rw[if_pos (show List.length [PV.lst (row.map .int),.int pre.length]=2 from rfl),show ft 4 [PV.lst (row.map .int),.int pre.length]=[some (.sh (.lst (row.map .int))),some (.sh (.int pre.length)),none,none] from rfl];unfold mL
   rw[aP ((hL _).trans (by
    rw[iH (j1 (W:=[117,108,108]) hrow z1 none),iH (j1 (W:=[114,117,101]) hrow z2 none),iH (j1 (W:=[97,108,115,101]) hrow z3 none)]
    rfl))]
   simp[l2]
 . simp only[bh,kF,i5];rw[if_neg h1,if_neg h2,if_neg h3,if_neg h4,if_neg z1,if_neg z2,if_neg z3,if_neg (by omega),if_neg h5]
theorem Br:∀ X:List Int,(mX X).1=true->1<=(mX X).2
 |[],h=>by cases h
 | d ::r,h=>by
   by_cases z:48<=d /\ d<=57
   . by_cases z0:d=48
     . subst z0;rw[xg];simp only;omega
     . rw[xo z z0];simp only;omega
   . rw[xD z]at h;cases h
theorem Bw:∀ X:List Int,(rL X).1=true->1<=(rL X).2
 |[],h=>by cases h
 | d ::r,h=>by
   unfold rL at h ⊢
   by_cases z:d=45
   . simp only[if_pos z];omega
   . simp only[if_neg z]at h ⊢
     exact Br _ h
theorem ux{row pre Q:List Int}{b:Int}(hrow:row=pre++b ::Q)(hl:Q.length<80000)(h1:b≠91)(h2:b≠123):
  ∃(ok:Bool) (n:Nat),dh [.lst (row.map .int),.int pre.length]=.ok (.sh (.tup [.bl ok,.int ((pre.length:Int)+n)])) /\ (ok=true->1<=n) /\ ∀ T,PG.cnt T<=64->gy (.value ::T) T (b ::Q) ok n:=by
 have hat:=iI hrow;unfold dh fnP;rw[if_pos (show List.length [PV.lst (row.map .int),.int pre.length]=2 from rfl),show ft 2 [PV.lst (row.map .int),.int pre.length]=[some (.sh (.lst (row.map .int))),some (.sh (.int pre.length))] from rfl];unfold lK
 by_cases h3:b=34
 . subst h3;obtain⟨ok,n,e1,e2⟩:=nT hrow (by omega)
   refine⟨ok,n+1,ib (ρ:=[some (.sh (.lst (row.map .int))),some (.sh (.int pre.length))]) (st (by simp -implicitDefEqProofs [au,bc,hat]) ?_),fun _=>by omega,fun T hT=>?_⟩
   . rw[show(pre.length:Int)+1+n=(pre.length:Int)+((n+1:Nat):Int) by omega]at e1;simp[e1]
   . have g:PG.Goes (.value ::T) [34] (.text ::T):=cN (l:=[.text]) rfl rfl hT
     have:=(e2 T hT).says.go g;rw[List.length_singleton,Nat.add_comm]at this;exact this
 rw[sk (by simp -implicitDefEqProofs [au,bc,hat,h3])];unfold kn
 by_cases h45:b=45 \/ (48<=b /\ b<=57)
 . have e1:=sY hrow hl
   refine⟨_,_,ib (ρ:=[some (.sh (.lst (row.map .int))),some (.sh (.int pre.length))]) (st ?_ (by simp[e1])),Bw _,fun T hT=>Bv hT h45⟩
   by_cases z:b=45
   . simp -implicitDefEqProofs [au,bc,hat,z]
   . have z2:48<=b /\ b<=57:=h45.resolve_left z
     simp -implicitDefEqProofs [au,bL,bc,hat,z,z2.1,z2.2]
 . have z:b≠45:=fun z=>h45 (.inl z)
   have z2:¬ (48<=b /\ b<=57):=fun z=>h45 (.inr z)
   obtain⟨ok,n,e1,hp,e2⟩:=wq hrow h1 h2 h3 z z2
   refine⟨ok,n,?_,hp,fun T hT=>(e2 T hT).says⟩
   rw[sk (by
    by_cases y:48<=b
    . have y2:¬ b<=57:=fun q=>z2 ⟨y,q⟩
      simp -implicitDefEqProofs [au,bL,bc,hat,z,y,y2]
    . simp -implicitDefEqProofs [au,bL,bc,hat,z,y])]
   simp[ki,e1]
theorem yp{s t u:List PG.It}{Q X:List Int}{n m:Nat}(h:PG.Runs s t Q n)(hX:Q.drop n=X)(hne:X≠[])(k:PG.Runs t u X m):PG.Runs s u Q (n+m):=by
 obtain⟨h1,ls,h2,h3,h4⟩:=h;obtain⟨k1,ls',k2,k3,k4⟩:=k;subst hX
 have hd:Q.drop (n+m)=(Q.drop n).drop m:=by rw[List.drop_drop]
 refine⟨by rw[List.length_drop]at k1;omega,ls',k2,?_,by rw[hd];exact k4⟩
 rw[hd,h3,h4 hne,k3];simp only[Prod.mk.injEq,true_and];omega
theorem Cp{s t:List PG.It}{Q X:List Int}{n m:Nat}(h:PG.Runs s t Q n)(hX:Q.drop n=X)(hne:X≠[])(k:dv t X m):dv s Q (n+m):=by
 obtain⟨h1,ls,h2,h3,h4⟩:=h;obtain⟨k1,k2⟩:=k;subst hX;rw[h4 hne]at h3
 refine⟨by rw[h3];simp only[k1];omega,fun z=>?_⟩
 rw[h3];exact k2 (by rw[List.length_drop];omega)
inductive Wt where
 |value|valueF|nameF|name|colon|behind
noncomputable def wS:Wt->Str
 |.value=>"value" | .valueF=>"value first" | .nameF=>"name first" | .name=>"name" | .colon=>"colon" | .behind=>"behind"
noncomputable def stW:Wt->List Bool->List PG.It
 |.value,fs=>.white ::.value ::PG.out fs
 |.valueF,fs=>.white ::.row ::PG.out fs.tail
 |.nameF,fs=>.white ::.fields ::PG.out fs.tail
 |.name,fs=>.white ::.name ::.white ::.sp 58 58 ::.white ::.value ::PG.out fs
 |.colon,fs=>.white ::.sp 58 58 ::.white ::.value ::PG.out fs
 |.behind,fs=>PG.out fs
noncomputable def okW:Wt->List Bool->Prop
 |.valueF,fs=>∃ gs,fs=true ::gs
 |.nameF,fs=>∃ gs,fs=false ::gs
 |.name,fs=>∃ gs,fs=false ::gs
 |.colon,fs=>∃ gs,fs=false ::gs
 |_,_=>True
noncomputable def kd(r:Bool):Int:=if r then 0 else 1
noncomputable def skO(fs:List Bool):OV:=.ol ((fs.map fun r=>OV.sh (.int (kd r))).reverse)
theorem pG(r:Bool)(fs:List Bool):skO (r ::fs)=.ol ((fs.map fun r=>OV.sh (.int (kd r))).reverse++[.sh (.int (kd r))]):=by simp[skO]
theorem Fv{ρ:aj}{i:Nat}{io:Bool}{fs:List Bool}(h:ρ[i]?=some (some (.tr io (skO fs)))):eK i bX ρ=.ok (!fs.isEmpty):=by
 rw[sg (lu (gz h rfl))]
 cases fs<;>simp
theorem C3{ρ:aj}{i:Nat}{io:Bool}{r:Bool}{fs:List Bool}(h:ρ[i]?=some (some (.tr io (skO (r ::fs))))):iM i (pIx i bX (mUn lg (mC (.int 1)))) ρ=.ok (.sh (.int (kd r))):=by
 rw[pG]at h;refine yj (subAt_one (j:=fs.length) (gz h rfl) (xW (gz h rfl) (r:=.sh (.int (-1))) (by simp) rfl (by simp[ixP];omega)) (by simp))
theorem ET{ρ:aj}{i:Nat}{io:Bool}{r:Bool}{fs:List Bool}(h:ρ[i]?=some (some (.tr io (skO (r ::fs))))):mZ (mQ i bX) ρ=.nx (ρ.set i (some (.tr io (skO fs)))):=by
 rw[pG]at h;unfold mZ;rw[x8 h];rfl
theorem Ek{ρ:aj}{i:Nat}{io:Bool}{r:Bool}{fs:List Bool}{md:aj->OD}(h:ρ[i]?=some (some (.tr io (skO fs))))(hd:md ρ=.ok (.sh (.int (kd r))))(hl:fs.length<90000):j8 i bX md ρ=.nx (ρ.set i (some (.tr io (skO (r ::fs))))):=by
 rw[xR (ts:=(fs.map fun r=>OV.sh (.int (kd r))).reverse) h hd (by rw[List.length_reverse,List.length_map];exact cf (n:=fs.length+1) (by omega)),pG]
noncomputable abbrev tE(row:List Int)(z:Int)(w:Wt)(fs:List Bool)(b:Int)(c s:Option Sl):aj:=[some (.sh (.lst (row.map .int))),some (.sh (.int z)),some (.sh (.str (wS w))),some (.tr true (skO fs)),some (.sh (.int b)),c,s]
noncomputable def clo:List Bool->Int->Bool
 |[],_=>false
 |r ::_,b=>decide (b=if r then 93 else 125)
theorem BG{row:List Int}{z:Int}{w:Wt}{fs:List Bool}{b:Int}(C:aj->OT)(A:aj->OS):∃ c,rR 5 3 bX (mOp gEq (ak 4) (mOp bc (ba (af (mC (.int 93)) (af (mC (.int 125)) aB))) (iM 3 (pIx 3 bX (mUn lg (mC (.int 1))))))) C A aO (tE row z w fs b none none)=if clo fs b then bp C A aO (tE row z w fs b c none)else .nx (tE row z w fs b c none):=by
 have l2:(2:Nat)<=lim:=cf (by omega)
 unfold rR;rw[if_pos (show 5<List.length (tE row z w fs b none none) by simp),lu (t:=skO fs) (gz (s:=.tr true (skO fs)) rfl rfl)]
 cases fs with
 |nil=>exact⟨none,rfl⟩
 | cons r fs=>
   have hp:=C3 (ρ:=tE row z w (r ::fs) b none none) (i:=3) (io:=true) (r:=r) (fs:=fs) rfl
   have he:mOp gEq (ak 4) (mOp bc (ba (af (mC (.int 93)) (af (mC (.int 125)) aB))) (iM 3 (pIx 3 bX (mUn lg (mC (.int 1)))))) (tE row z w (r ::fs) b none none)=.ok (.sh (.bl (clo (r ::fs) b))):=by
    cases r<;>simp -implicitDefEqProofs [hp,kd,bc,atP,ixP,clo,l2]
   refine⟨some (.sh (.bl (clo (r ::fs) b))),?_⟩
   rw[he];rw[pG]
   have hne:(((fs.map fun r=>OV.sh (.int (kd r))).reverse++[OV.sh (.int (kd r))]).isEmpty=true)=False:=by simp
   simp only[hne,if_false,i0];rfl
theorem jg{row pre Q:List Int}{b:Int}(hrow:row=pre++b ::Q){w:Wt}{fs fs':List Bool}{c s:Option Sl}{x:PV}(h:dJ (tE row pre.length w fs b none none)=.rt (tE row pre.length w fs' b c s) (.sh x)):eP [.sh (.lst (row.map .int)),.sh (.int pre.length),.sh (.str (wS w)),.tr true (skO fs)]=.ok x [none,none,none,some (skO fs')]:=by
 have hat:=iI hrow;unfold eP fnI;rw[if_pos (show List.length [Sl.sh (.lst (row.map .int)),.sh (.int pre.length),.sh (.str (wS w)),.tr true (skO fs)]=4 from rfl),show jM 7 [Sl.sh (.lst (row.map .int)),.sh (.int pre.length),.sh (.str (wS w)),.tr true (skO fs)]=[some (.sh (.lst (row.map .int))),some (.sh (.int pre.length)),some (.sh (.str (wS w))),some (.tr true (skO fs)),none,none,none] from rfl];unfold qO;rw[aP (ρ':=tE row pre.length w fs b none none) (by simp -implicitDefEqProofs [aU,bc,hat]),h];rfl
theorem vn(row:List Int)(z:Int)(w:Wt)(fs:List Bool)(b:Int)(c s:Option Sl):au (mOp gIn (ak 2) (cB (af (mC (.str "behind")) (af (mC (.str "value first")) (af (mC (.str "name first")) aB))))) (tE row z w fs b c s)=.ok (match w with|.behind=>true|.valueF=>true|.nameF=>true|_=>false):=by
 have l3:(3:Nat)<=lim:=cf (by omega)
 cases w<;>simp -implicitDefEqProofs [au,gIn,gE,cM,fj,wS,aG,l3]
theorem w6(row:List Int)(z:Int)(w:Wt)(fs:List Bool)(b:Int)(c s:Option Sl):au (mOp gIn (ak 2) (cB (af (mC (.str "value")) (af (mC (.str "value first")) aB)))) (tE row z w fs b c s)=.ok (match w with|.value=>true|.valueF=>true|_=>false):=by
 have l2:(2:Nat)<=lim:=cf (by omega)
 cases w<;>simp -implicitDefEqProofs [au,gIn,gE,cM,fj,wS,aG,l2]
theorem xP(row:List Int)(z:Int)(w:Wt)(fs:List Bool)(b:Int)(c s:Option Sl):au (mOp gIn (ak 2) (cB (af (mC (.str "name")) (af (mC (.str "name first")) aB)))) (tE row z w fs b c s)=.ok (match w with|.name=>true|.nameF=>true|_=>false):=by
 have l2:(2:Nat)<=lim:=cf (by omega)
 cases w<;>simp -implicitDefEqProofs [au,gIn,gE,cM,fj,wS,aG,l2]
theorem An{row:List Int}{z b:Int}{w:Wt}{fs:List Bool}{c:Option Sl}(hw:w=.value \/ w=.valueF)(hb:b=91 \/ b=123)(hl:fs.length<90000):bJ (tE row z w fs b c none)=.rt (tE row z w (decide (b=91) ::fs) b c none) (.sh (.tup [.bl true,.int (z+1),.str (wS (if b=91 then .valueF else .nameF))])):=by
 have l3:(3:Nat)<=lim:=cf (by omega)
 have l2:(2:Nat)<=lim:=cf (by omega)
 have hv:au (mOp gIn (ak 2) (cB (af (mC (.str "value")) (af (mC (.str "value first")) aB)))) (tE row z w fs b c none)=.ok true:=by
  rw[w6];rcases hw with h|h<;>rw[h]
 unfold bJ;refine st hv ?_;refine st (by rcases hb with h|h<;>simp -implicitDefEqProofs [au,gIn,gE,cM,fj,h,l2]) ?_;rw[aP (Ek (r:=decide (b=91)) (fs:=fs) (io:=true) rfl (by rcases hb with h|h<;>simp -implicitDefEqProofs [mD,h,kd]) hl)]
 rcases hb with h|h<;>subst h<;>simp -implicitDefEqProofs [fi,au,l3,wS]
theorem zm{row pre Q:List Int}{b:Int}{w:Wt}{fs:List Bool}{c:Option Sl}{ok:Bool}{n:Nat}(hw:w=.value \/ w=.valueF)(h1:b≠91)(h2:b≠123)(he:dh [.lst (row.map .int),.int pre.length]=.ok (.sh (.tup [.bl ok,.int ((pre.length:Int)+n)]))):bJ (tE row pre.length w fs b c none)=.rt (tE row pre.length w fs b c (some (.sh (.tup [.bl ok,.int ((pre.length:Int)+n)])))) (.sh (.tup [.bl ok,.int ((pre.length:Int)+n),.str (wS .behind)])):=by
 have l3:(3:Nat)<=lim:=cf (by omega)
 have l2:(2:Nat)<=lim:=cf (by omega)
 have hv:au (mOp gIn (ak 2) (cB (af (mC (.str "value")) (af (mC (.str "value first")) aB)))) (tE row pre.length w fs b c none)=.ok true:=by
  rw[w6];rcases hw with h|h<;>rw[h]
 have g1:¬ 91=b:=fun z=>h1 z.symm
 have g2:¬ 123=b:=fun z=>h2 z.symm
 unfold bJ;refine st hv ?_;rw[sk (by simp -implicitDefEqProofs [au,gIn,gE,cM,fj,g1,g2,l2]),aP (ρ':=tE row pre.length w fs b c (some (.sh (.tup [.bl ok,.int ((pre.length:Int)+n)])))) (by simp[aU,he])];simp[fH,atP,ixP,l3,wS]
theorem C1{row:List Int}{z b:Int}{w:Wt}{fs:List Bool}{c:Option Sl}(h1:w≠.value)(h2:w≠.valueF):bJ (tE row z w fs b c none)=jh (tE row z w fs b c none):=by
 unfold bJ;refine sk ?_;rw[w6]
 cases w<;>simp at h1 h2 ⊢
theorem vD{row pre Q:List Int}{b:Int}{w:Wt}{fs:List Bool}{c:Option Sl}{ok:Bool}{n:Nat}(hw:w=.name \/ w=.nameF)(h34:b=34)(he:cy [.lst (row.map .int),.int pre.length]=.ok (.sh (.tup [.bl ok,.int ((pre.length:Int)+n)]))):bJ (tE row pre.length w fs b c none)=.rt (tE row pre.length w fs b c (some (.sh (.tup [.bl ok,.int ((pre.length:Int)+n)])))) (.sh (.tup [.bl ok,.int ((pre.length:Int)+n),.str (wS .colon)])):=by
 have l3:(3:Nat)<=lim:=cf (by omega)
 rw[C1 (by rcases hw with h|h<;>rw[h]<;>simp) (by rcases hw with h|h<;>rw[h]<;>simp)];unfold jh
 refine st (by
  unfold cQ;rw[xP]
  rcases hw with h|h<;>simp[h,h34,au]) ?_
 rw[aP (ρ':=tE row pre.length w fs b c (some (.sh (.tup [.bl ok,.int ((pre.length:Int)+n)])))) (by simp[aU,he])];simp[fH,atP,ixP,l3,wS]
theorem DH{row:List Int}{z b:Int}{w:Wt}{fs:List Bool}{c:Option Sl}(h1:w≠.value)(h2:w≠.valueF)(h3:(w≠.name /\ w≠.nameF) \/ b≠34):bJ (tE row z w fs b c none)=jk (tE row z w fs b c none):=by
 rw[C1 h1 h2];unfold jh;refine sk ?_;unfold cQ;rw[xP]
 rcases h3 with h|h
 . cases w<;>simp at h ⊢
 . cases w<;>simp[au,h]
theorem zu{row:List Int}{z:Int}{fs:List Bool}{c:Option Sl}:bJ (tE row z .colon fs 58 c none)=.rt (tE row z .colon fs 58 c none) (.sh (.tup [.bl true,.int (z+1),.str (wS .value)])):=by
 have l3:(3:Nat)<=lim:=cf (by omega)
 rw[DH (by simp) (by simp) (.inr (by omega))];unfold jk;exact st (by simp[au,wS,gEq,eqS,aG]) (by simp[l3,wS])
theorem C5{row:List Int}{z b:Int}{w:Wt}{fs:List Bool}{c:Option Sl}(h1:w≠.value)(h2:w≠.valueF)(h3:(w≠.name /\ w≠.nameF) \/ b≠34)(h4:w≠.colon \/ b≠58):bJ (tE row z w fs b c none)=js (tE row z w fs b c none):=by
 rw[DH h1 h2 h3];unfold jk;refine sk ?_
 by_cases hw:w=.colon
 . subst hw
   have h:b≠58:=h4.resolve_left (fun z=>z rfl)
   simp[au,wS,gEq,eqS,aG,h]
 . cases w<;>simp[au,wS,gEq,eqS,aG]at hw ⊢
theorem yT{row:List Int}{z:Int}{r:Bool}{fs:List Bool}{c:Option Sl}:bJ (tE row z .behind (r ::fs) 44 c none)=.rt (tE row z .behind (r ::fs) 44 c none) (.sh (.tup [.bl true,.int (z+1),.str (wS (if r then .value else .name))])):=by
 have l3:(3:Nat)<=lim:=cf (by omega)
 have hp:=C3 (ρ:=tE row z .behind (r ::fs) 44 c none) (i:=3) (io:=true) (r:=r) (fs:=fs) rfl;have ht:=Fv (ρ:=tE row z .behind (r ::fs) 44 c none) (i:=3) (io:=true) (fs:=r ::fs) rfl;rw[C5 (by simp) (by simp) (.inl (by simp)) (.inl (by simp))];unfold js;refine st (by simp[cQ,ht,au,wS,gEq,eqS,aG]) ?_
 cases r<;>simp[fi,au,hp,kd,l3,wS]
theorem DU{row:List Int}{z b:Int}{w:Wt}{fs:List Bool}{c:Option Sl}(h1:w≠.value)(h2:w≠.valueF)(h3:(w≠.name /\ w≠.nameF) \/ b≠34)(h4:w≠.colon \/ b≠58)(h5:w≠.behind \/ fs=[] \/ b≠44):bJ (tE row z w fs b c none)=.rt (tE row z w fs b c none) (.sh (.tup [.bl false,.int z,.str (wS w)])):=by
 have l3:(3:Nat)<=lim:=cf (by omega)
 have ht:=Fv (ρ:=tE row z w fs b c none) (i:=3) (io:=true) (fs:=fs) rfl;rw[C5 h1 h2 h3 h4];unfold js
 rw[sk (by
  by_cases hw:w=.behind
  . subst hw
    rcases h5.resolve_left (fun z=>z rfl)with h|h
    . subst h;simp[cQ,ht,au,wS,gEq,eqS,aG]
    . cases fs<;>simp[cQ,ht,au,wS,gEq,eqS,aG,h]
  . cases w<;>simp[cQ,au,wS,gEq,eqS,aG]at hw ⊢)]
 simp[ot,l3]
noncomputable def opq(X:List Int):Nat:=X.countP fun b=>decide (b=91 \/ b=123)
theorem nF(X:List Int)(n:Nat):opq (X.drop n)<=opq X:=by
 unfold opq
 have:X.countP (fun b=>decide (b=91 \/ b=123))=(X.take n++X.drop n).countP (fun b=>decide (b=91 \/ b=123)):=by rw[List.take_append_drop]
 rw[this,List.countP_append];omega
noncomputable def Tok(row pre Q:List Int)(b:Int)(w:Wt)(fs:List Bool):Prop:=∃(ok:Bool) (n:Nat) (w':Wt) (fs':List Bool),eP [.sh (.lst (row.map .int)),.sh (.int pre.length),.sh (.str (wS w)),.tr true (skO fs)]=.ok (.tup [.bl ok,.int ((pre.length:Int)+n),.str (wS w')]) [none,none,none,some (skO fs')] /\ (ok=true->okW w' fs' /\ 1<=n /\ fs'.length+opq ((b ::Q).drop n)<=fs.length+opq (b ::Q)) /\ gy (stW w fs) (stW w' fs') (b ::Q) ok n
theorem dZ{s t:List PG.It}{b:Int}{Q:List Int}{ok:Bool}{n:Nat}(hb:wht b=false)(h:gy s t (b ::Q) ok n):gy (.white ::s) t (b ::Q) ok n:=
 h.same (qZ (by simp only[bh];rw[hb];rfl) rfl)
theorem fW{it:PG.It}{T l:List PG.It}{b:Int}{Q:List Int}(h:bh it b=some l)(hc:PG.cnt (l++T)<=64):gy (it ::T) (l++T) (b ::Q) true 1:=
 (PG.Tells.yes (P:=[b]) (Q:=Q) (PG.Goes.one h hc)).says
theorem GV{it:PG.It}{T t:List PG.It}{b:Int}{Q:List Int}(h:bh it b=none)(hl:PG.loose it=false):gy (it ::T) t (b ::Q) false 0:=
 ⟨fun z=>(by cases z),fun _=>bR h hl⟩
theorem wB{T t:List PG.It}{b:Int}{Q:List Int}{ok:Bool}{n:Nat}(h93:b≠93)(hn:ok=true->1<=n)(h:gy (.value ::.white ::.mrow ::T) t (b ::Q) ok n):gy (.row ::T) t (b ::Q) ok n:=by
 cases hv:kF b with
 | some l=>
   refine h.same ?_
   have e1:gon (.row ::T) b=gon (.value ::.white ::.mrow ::T) b:=by
    unfold gon;simp only[bh,hv,if_neg h93,Option.map_some,List.append_assoc,List.cons_append,List.nil_append]
   unfold PG.tk;rw[e1]
 | none=>
   have hz:(PG.tk (.value ::.white ::.mrow ::T) (b ::Q)).2=0:=(bR (s:=.white ::.mrow ::T) (Q:=Q) (it:=.value) hv rfl).1
   have hb:bh .row b=none:=by simp only[bh,hv,if_neg h93,Option.map_none]
   refine⟨fun z=>?_,fun z=>?_⟩
   . obtain⟨_,ls,_,h3,_⟩:=h.1 z;rw[h3]at hz;have:=hn z;simp only at hz;omega
   . have:=(h.2 z).1;rw[hz]at this;subst this;exact bR hb rfl
theorem B9{row pre Q:List Int}{b:Int}(hrow:row=pre++b ::Q)(hl:Q.length<80000)(hb:wht b=false){w:Wt}{fs:List Bool}(hw:okW w fs)(hd:fs.length<64):Tok row pre Q b w fs:=by
 obtain⟨c,hand⟩:=BG (row:=row) (z:=pre.length) (w:=w) (fs:=fs) (b:=b) (au (mOp gIn (ak 2) (cB (af (mC (.str "behind")) (af (mC (.str "value first")) (af (mC (.str "name first")) aB)))))) (aN (mZ (mQ 3 bX)) (aS (cB (af (mC (.bl true)) (af (mOp cu (ak 1) (mC (.int 1))) (af (mC (.str "behind")) aB))))))
 have l3:(3:Nat)<=lim:=cf (by omega)
 have hout:∀ gs:List Bool,PG.cnt (PG.out gs)=gs.length:=uD
 have opq1:opq Q<=opq (b ::Q):=nF (b ::Q) 1
 have pass:(clo fs b=false \/ (w≠.behind /\ w≠.valueF /\ w≠.nameF))->dJ (tE row pre.length w fs b none none)=bJ (tE row pre.length w fs b c none):=fun h=>by
  unfold dJ;refine aP ?_;rw[hand]
  by_cases hc:clo fs b=true
  . rw [if_pos hc,qb (by
     rw[vn]
     rcases h with h|h
     . rw[hc]at h;cases h
     . cases w<;>simp at h ⊢)]
    rfl
  . rw[if_neg hc]
 have close:∀(r:Bool) (gs:List Bool),fs=r ::gs->clo fs b=true->(w=.behind \/ w=.valueF \/ w=.nameF)->dJ (tE row pre.length w fs b none none)=.rt (tE row pre.length w gs b c none) (.sh (.tup [.bl true,.int ((pre.length:Int)+(1:Nat)),.str (wS .behind)])):=fun r gs hfs hc h=>by
  unfold dJ;refine iS ?_;rw[hand,if_pos hc,mI (by rw[vn];rcases h with h|h|h<;>rw[h])];subst hfs;rw[aP (ET (io:=true) (r:=r) (fs:=gs) rfl)];simp[l3,wS]
 have valOpen:∀ T:List PG.It,(w=.value \/ w=.valueF)->dJ (tE row pre.length w fs b none none)=bJ (tE row pre.length w fs b c none)->b=91 \/ b=123->(gy (stW w fs) ((if b=91 then[.white,.row]else[.white,.fields])++PG.out fs) (b ::Q) true 1)->Tok row pre Q b w fs:=fun T hw' hp hbb hs=>by
  refine⟨true,1,if b=91 then .valueF else .nameF,decide (b=91) ::fs,jg hrow (hp.trans (An hw' hbb (by omega))),fun _=>⟨?_,Nat.le_refl _,?_⟩,?_⟩
  . rcases hbb with z|z<;>subst z
    . exact⟨fs,rfl⟩
    . exact⟨fs,rfl⟩
  . have:opq (b ::Q) = opq Q + 1:=by
     unfold opq;rw[List.countP_cons_of_pos (by simpa using hbb)]
    rw[this,List.drop_succ_cons,List.drop_zero,List.length_cons];omega
  . rcases hbb with z|z<;>subst z<;>exact hs
 have valPlain:(w=.value \/ w=.valueF)->dJ (tE row pre.length w fs b none none)=bJ (tE row pre.length w fs b c none)->b≠91->b≠123->(∀(ok:Bool) (n:Nat),(ok=true->1<=n)->(∀ T,PG.cnt T<=64->gy (.value ::T) T (b ::Q) ok n)->gy (stW w fs) (PG.out fs) (b ::Q) ok n)->Tok row pre Q b w fs:=fun hw' hp h1 h2 hs=>by
  obtain⟨ok,n,e1,e2,e3⟩:=ux hrow hl h1 h2
  exact⟨ok,n,.behind,fs,jg hrow (hp.trans (zm (Q:=Q) hw' h1 h2 e1)),fun z=>⟨trivial,e2 z,by have:=nF (b ::Q) n;omega⟩,hs ok n e2 e3⟩
 have no:dJ (tE row pre.length w fs b none none)=bJ (tE row pre.length w fs b c none)->w≠.value->w≠.valueF->((w≠.name /\ w≠.nameF) \/ b≠34)->(w≠.colon \/ b≠58)->(w≠.behind \/ fs=[] \/ b≠44)->dv (stW w fs) (b ::Q) 0->Tok row pre Q b w fs:=fun hp h1 h2 h3 h4 h5 hf=>by
  refine⟨false,0,w,fs,jg (c:=c) (s:=none) hrow (hp.trans ?_),fun z=>(by cases z),fun z=>(by cases z),fun _=>hf⟩
  rw[DU h1 h2 h3 h4 h5];simp
 have fw:∀{s:List PG.It},dv s (b ::Q) 0->dv (.white ::s) (b ::Q) 0:=fun h=>(dZ (t:=[]) hb ⟨fun z=>(by cases z),fun _=>h⟩).2 rfl
 have text:∀ T:List PG.It,PG.cnt T<=64->b=34->∃(ok:Bool) (n:Nat),cy [.lst (row.map .int),.int pre.length]=.ok (.sh (.tup [.bl ok,.int ((pre.length:Int)+((n+1:Nat):Int))])) /\ ∀ it,bh it 34=some [.text]->gy (it ::T) T (b ::Q) ok (n+1):=fun T hT h34=>by
  subst h34;obtain⟨ok,n,e1,e2⟩:=nT hrow (by omega)
  refine⟨ok,n,by rw[e1,show(pre.length:Int)+1+n=(pre.length:Int)+((n+1:Nat):Int) by omega],fun it hit=>?_⟩
  have g:PG.Goes (it ::T) [34] (.text ::T):=cN (l:=[.text]) hit rfl hT
  have:=(e2 T hT).says.go g;rw[List.length_singleton,Nat.add_comm]at this;exact this
 match w,fs,hw,hd,hand,pass,close,valOpen,valPlain,no with
 | .value,fs,hw,hd,hand,pass,close,valOpen,valPlain,no=>
   have hp:=pass (.inr (by simp))
   by_cases hbb:b=91 \/ b=123
   . refine valOpen [] (.inl rfl) hp hbb (dZ hb ?_)
     rcases hbb with z|z<;>subst z
     . exact fW (l:=[.white,.row]) rfl (by simp only[List.cons_append,List.nil_append,PG.cnt_cons,hout,opn];simp;omega)
     . exact fW (l:=[.white,.fields]) rfl (by simp only[List.cons_append,List.nil_append,PG.cnt_cons,hout,opn];simp;omega)
   . exact valPlain (.inl rfl) hp (fun z=>hbb (.inl z)) (fun z=>hbb (.inr z)) fun ok n h1 h2=>dZ hb (h2 _ (by rw[hout];omega))
 | .valueF,fs,hw,hd,hand,pass,close,valOpen,valPlain,no=>
   obtain⟨gs,rfl⟩:=hw;rw[List.length_cons]at hd
   by_cases h93:b=93
   . refine⟨true,1,.behind,gs,jg hrow (close true gs rfl (by simp[clo,h93]) (.inr (.inl rfl))),fun _=>⟨trivial,Nat.le_refl _,?_⟩,dZ hb ?_⟩
     . rw[List.drop_succ_cons,List.drop_zero,List.length_cons];omega
     . subst h93;exact fW (l:=[]) rfl (by rw[List.nil_append];show PG.cnt (PG.out gs)<=64;rw[hout];omega)
   . have hp:=pass (.inl (by simp[clo,h93]))
     by_cases hbb:b=91 \/ b=123
     . refine valOpen [] (.inr rfl) hp hbb (dZ hb ?_);refine wB h93 (fun _=>Nat.le_refl _) ?_
       rcases hbb with z|z<;>subst z
       . exact fW (T:=.white ::.mrow ::PG.out gs) (l:=[.white,.row]) rfl (by simp only[List.cons_append,List.nil_append,PG.cnt_cons,hout,opn];simp;omega)
       . exact fW (T:=.white ::.mrow ::PG.out gs) (l:=[.white,.fields]) rfl (by simp only[List.cons_append,List.nil_append,PG.cnt_cons,hout,opn];simp;omega)
     . exact valPlain (.inr rfl) hp (fun z=>hbb (.inl z)) (fun z=>hbb (.inr z)) fun ok n h1 h2=>dZ hb (wB h93 h1 (h2 (.white ::.mrow ::PG.out gs) (by simp only[PG.cnt_cons,hout,opn];simp;omega)))
 | .nameF,fs,hw,hd,hand,pass,close,valOpen,valPlain,no=>
   obtain⟨gs,rfl⟩:=hw;rw[List.length_cons]at hd
   by_cases h125:b=125
   . refine⟨true,1,.behind,gs,jg hrow (close false gs rfl (by simp[clo,h125]) (.inr (.inr rfl))),fun _=>⟨trivial,Nat.le_refl _,?_⟩,dZ hb ?_⟩
     . rw[List.drop_succ_cons,List.drop_zero,List.length_cons];omega
     . subst h125;exact fW (l:=[]) rfl (by rw[List.nil_append];show PG.cnt (PG.out gs)<=64;rw[hout];omega)
   . have hp:=pass (.inl (by simp[clo,h125]))
     by_cases h34:b=34
     . obtain⟨ok,n,e1,e2⟩:=nT hrow (by omega)
       have hT:PG.cnt (lA++PG.out gs)<=64:=by
        unfold lA;simp only[List.cons_append,List.nil_append,PG.cnt_cons,hout,opn];simp;omega
       refine⟨ok,n+1,.colon,false ::gs,jg hrow (hp.trans (vD (Q:=Q) (.inr rfl) h34 (by rw[e1,show(pre.length:Int)+1+n=(pre.length:Int)+((n+1:Nat):Int) by omega]))),fun _=>⟨⟨gs,rfl⟩,by omega,by have:=nF (b ::Q) (n+1);omega⟩,dZ hb ?_⟩
       subst h34
       have g:PG.Goes (.fields ::PG.out gs) [34] (.text ::(lA++PG.out gs)):=PG.Goes.one (l:=.text ::lA) rfl (by rw[List.cons_append,PG.cnt_cons];simpa [opn]using hT)
       have:=(e2 _ hT).says.go g;rw[List.length_singleton,Nat.add_comm]at this;exact this
     . exact no hp (by simp) (by simp) (.inr h34) (.inl (by simp)) (.inl (by simp)) (fw (bR (by simp only[bh];rw[if_neg h125,if_neg h34]) rfl))
 | .name,fs,hw,hd,hand,pass,close,valOpen,valPlain,no=>
   obtain⟨gs,rfl⟩:=hw;rw[List.length_cons]at hd;have hp:=pass (.inr (by simp))
   by_cases h34:b=34
   . obtain⟨ok,n,e1,e2⟩:=text (.white ::.sp 58 58 ::.white ::.value ::PG.out (false ::gs)) (by simp only[PG.cnt_cons,hout,opn];simp;omega) h34
     exact⟨ok,n+1,.colon,false ::gs,jg hrow (hp.trans (vD (Q:=Q) (.inl rfl) h34 e1)),fun _=>⟨⟨gs,rfl⟩,by omega,by have:=nF (b ::Q) (n+1);omega⟩,dZ hb (e2 .name rfl)⟩
   . exact no hp (by simp) (by simp) (.inr h34) (.inl (by simp)) (.inl (by simp)) (fw (bR (by simp only[bh];rw[if_neg h34]) rfl))
 | .colon,fs,hw,hd,hand,pass,close,valOpen,valPlain,no=>
   have hp:=pass (.inr (by simp))
   by_cases h58:b=58
   . subst h58
     refine⟨true,1,.value,fs,jg hrow (hp.trans zu),fun _=>⟨trivial,Nat.le_refl _,?_⟩,dZ hb (fW (T:=.white ::.value ::PG.out fs) (l:=[]) rfl ?_)⟩
     . rw[List.drop_succ_cons,List.drop_zero];omega
     . simp only[List.nil_append,PG.cnt_cons,hout,opn];simp;omega
   . exact no hp (by simp) (by simp) (.inl (by simp)) (.inr h58) (.inl (by simp)) (fw (bR (by simp only[bh];rw[if_neg (by omega)]) rfl))
 | .behind,[],hw,hd,hand,pass,close,valOpen,valPlain,no=>
   refine no (pass (.inl rfl)) (by simp) (by simp) (.inl (by simp)) (.inl (by simp)) (.inr (.inl rfl)) (fw ?_);exact dv.now (s':=[]) rfl
 | .behind,r ::gs,hw,hd,hand,pass,close,valOpen,valPlain,no=>
   rw[List.length_cons]at hd
   by_cases hc:clo (r ::gs) b=true
   . refine⟨true,1,.behind,gs,jg hrow (close r gs rfl hc (.inl rfl)),fun _=>⟨trivial,Nat.le_refl _,?_⟩,dZ hb ?_⟩
     . rw[List.drop_succ_cons,List.drop_zero,List.length_cons];omega
     . have hbe:b=if r then 93 else 125:=by simpa [clo]using hc
       subst hbe;cases r
       . exact fW (l:=[]) rfl (by rw[List.nil_append,hout];omega)
       . exact fW (l:=[]) rfl (by rw[List.nil_append,hout];omega)
   . have hcf:clo (r ::gs) b=false:=by simpa using hc
     have hp:=pass (.inl hcf)
     by_cases h44:b=44
     . subst h44
       refine⟨true,1,if r then .value else .name,r ::gs,jg hrow (hp.trans yT),fun _=>⟨?_,Nat.le_refl _,?_⟩,dZ hb ?_⟩
       . cases r
         . exact⟨gs,rfl⟩
         . trivial
       . rw[List.drop_succ_cons,List.drop_zero];omega
       . cases r
         . exact fW (it:=.mfields) (T:=PG.out gs) (l:=.white ::.name ::lA) rfl (by unfold lA;simp only[List.cons_append,List.nil_append,PG.cnt_cons,hout,opn];simp;omega)
         . exact fW (it:=.mrow) (T:=PG.out gs) (l:=[.white,.value,.white,.mrow]) rfl (by simp only[List.cons_append,List.nil_append,PG.cnt_cons,hout,opn];simp;omega)
     . refine no hp (by simp) (by simp) (.inl (by simp)) (.inl (by simp)) (.inr (.inr h44)) (fw ?_)
       have hne:¬ b=if r then 93 else 125:=by simpa [clo]using hcf
       cases r
       . exact bR (it:=.mfields) (by simp only[bh];rw[if_neg h44,if_neg (by simpa using hne)]) rfl
       . exact bR (it:=.mrow) (by simp only[bh];rw[if_neg h44,if_neg (by simpa using hne)]) rfl
noncomputable def Pce(p:List Int):Prop:=p.length<=14 /\ opq p<=1
theorem xS{M:List (List Int)}{j:Int}(h0:0<=j)(h1:j<M.length):∃ p∈M,atP (M.map fun p=>PV.lst (p.map .int)) j=some (.lst (p.map .int)):=by
 obtain⟨k,rfl⟩:∃ k:Nat,j=k:=⟨j.toNat,by omega⟩
 have hk:k<M.length:=by omega
 exact⟨M[k],List.getElem_mem hk,by rw[nZ,List.getElem?_map,List.getElem?_eq_getElem hk];rfl⟩
noncomputable def vh:List (List Int):=[[48],[49],[93],[125],[44],[58],[34],[92],[46],[101],[45],[31],[127],[195,169],[34,31,34],[48,49],[48,48],[44,125],[44,93],[49,46],[34,92,117,68,99],[34,92,117,100,99,48,48,34],[34,9,34],[34,32,34],[48,46,49],[34,92,117,48,68,70,102]]
noncomputable def mx:List (List Int):=[[91],[123],[34,97,34],[48],[45,49,46,48,101,43,50],[110,117,108,108],[91],[32],[34,92,117,100,56,48,48,92,117,100,99,48,48,34],[34,195,164,92,110,34],[123],[116,114,117,101],[34,240,159,152,128,92,34,34]]
noncomputable def rM(c:Int):Wt->List (List Int)
 |.value=>mx
 |.valueF=>mx++[[93]]
 |.nameF=>[[34,97,34],[125],[34,34],[34,98,34]]
 |.name=>[[34,97,34],[32],[34,98,34]]
 |.colon=>[[58],[58],[32]]
 |.behind=>[[44],[c],[10],[c],[44],[93]]
theorem Bz:∀ p∈vh,Pce p:=by
 unfold Pce opq;decide
theorem Ba(c:Bool)(w:Wt):∀ p∈rM (if c then 125 else 93) w,Pce p:=by
 unfold Pce opq
 cases c<;>cases w<;>decide
theorem y9(c:Int)(w:Wt):0<(rM c w).length:=by cases w<;>simp[rM,mx]
theorem Em(n:Int):∃ p,Pce p /\ ia [.int n]=.ok (.sh (.lst (p.map .int))):=by
 have lk:∀ n:Nat,n<=30->n<=lim:=fun n h=>cf (by omega)
 obtain⟨p,hp,ha⟩:=xS (M:=vh) (j:=n%26) (by omega) (by simp[vh];omega)
 refine⟨p,Bz p hp,?_⟩
 unfold ia fnP;rw[if_pos (show List.length [PV.int n]=1 from rfl),show ft 2 [PV.int n]=[some (.sh (.int n)),none] from rfl];unfold rm
 rw[aP (ρ':=[some (.sh (.int n)),some (.ow (vh.map fun p=>.lst (p.map .int)))]) (by
  unfold aU
  simp -implicitDefEqProofs [lk,vh,qc,jx])]
 simp -implicitDefEqProofs [bc,ha,RV.pv]
noncomputable def jV(xs:List Int):OV:=.ol (xs.map fun x=>.sh (.int x))
noncomputable abbrev pE(n:Int)(w:Wt)(xs:List Int)(a b c d:Option Sl):aj:=[some (.sh (.int n)),some (.sh (.str (wS w))),some (.bo (jV xs)),a,b,c,d]
theorem yh{ρ:aj}{i:Nat}{s:Sl}{xs:List Int}(h:ρ[i]?=some (some s))(hs:slT s=some (jV xs)):∃ c:Bool,cQ (eK i bX) (au (mOp gEq (iM i (pIx i bX (mUn lg (mC (.int 1))))) (mC (.int 123)))) ρ=.ok c:=by
 have ht:eK i bX ρ=.ok (!(xs.map fun x=>OV.sh (.int x)).isEmpty):=sg (lu (gz h hs))
 rcases List.eq_nil_or_concat xs with z|⟨ys,y,z⟩
 . subst z
   exact⟨false,by simp[cQ,ht]⟩
 . subst z
   have hs2:slT s=some (.ol ((ys.map fun x=>OV.sh (.int x))++[.sh (.int y)])):=by rw[hs];simp[jV]
   have hp:iM i (pIx i bX (mUn lg (mC (.int 1)))) ρ=.ok (.sh (.int y)):=yj (subAt_one (j:=ys.length) (gz h hs2) (xW (gz h hs2) (r:=.sh (.int (-1))) (by simp) rfl (by simp[ixP];omega)) (by simp))
   exact⟨decide (y=123),by simp[cQ,ht,au,hp]⟩
theorem Ce(n:Int)(w:Wt)(xs:List Int):∃ p outs,Pce p /\ fq [.sh (.int n),.sh (.str (wS w)),.bo (jV xs)]=.ok (.lst (p.map .int)) outs:=by
 have lk:∀ n:Nat,n<=30->n<=lim:=fun n h=>cf (by omega)
 obtain⟨c,hc⟩:=yh (ρ:=pE n w xs (some (.sh (.int 93))) none none none) (i:=2) (xs:=xs) rfl rfl;have hpos:=y9 (if c then 125 else 93) w;obtain⟨p,hp,ha⟩:=xS (M:=rM (if c then 125 else 93) w) (j:=n%(rM (if c then 125 else 93) w).length) (Int.emod_nonneg _ (by omega)) (Int.emod_lt_of_pos _ (by omega))
 refine⟨p,[none,none,none],Ba c w p hp,?_⟩
 unfold fq fnI;rw[if_pos (show List.length [Sl.sh (.int n),.sh (.str (wS w)),.bo (jV xs)]=3 from rfl),show jM 7 [Sl.sh (.int n),.sh (.str (wS w)),.bo (jV xs)]=pE n w xs none none none none from rfl];unfold qN;rw[aP (ρ':=pE n w xs (some (.sh (.int 93))) none none none) (by simp[aU])];unfold oM
 rw[aP (ρ':=pE n w xs (some (.sh (.int (if c then 125 else 93)))) none none none) (by
  cases c with
  |true=>rw[mI hc];simp[aU]
  |false=>rw[qb hc];rfl)]
 generalize hcl:(if c then 125 else 93:Int)=cl at ha hpos;unfold oI
 rw[aP (ρ':=pE n w xs (some (.sh (.int cl))) (some (.ow (mx.map fun p=>.lst (p.map .int)))) none none) (by
  unfold aU
  simp -implicitDefEqProofs [lk,mx,qc,jx])]
 unfold oB;rw[n0,show mB 4 (pE n w xs (some (.sh (.int cl))) (some (.ow (mx.map fun p=>.lst (p.map .int)))) none none)=pE n w xs (some (.sh (.int cl))) (some (.sh (.lst (mx.map fun p=>.lst (p.map .int))))) none none from rfl]
 rw[aP (ρ':=pE n w xs (some (.sh (.int cl))) (some (.sh (.lst (mx.map fun p=>.lst (p.map .int))))) none (some (.sh (.lst ((rM cl w).map fun p=>.lst (p.map .int)))))) (by
  unfold yB
  cases w<;>simp -implicitDefEqProofs [lk,mx,rM,qc,jx,wS,List.lookup,RV.pv,aG])]
 unfold oz;simp -implicitDefEqProofs [bc,ha,RV.pv,hpos];rfl
noncomputable abbrev aE(p:List Int)(w:Wt)(xs:List Int):aj:=[some (.sh (.lst (p.map .int))),some (.sh (.str (wS w))),some (.tr true (jV xs))]
theorem BO(p:List Int)(w:Wt)(xs:List Int)(hl:xs.length<90000):∃ w' xs',xs'.length<=xs.length+1 /\ eY [.sh (.lst (p.map .int)),.sh (.str (wS w)),.tr true (jV xs)]=.ok (.str (wS w')) [none,none,some (jV xs')]:=by
 have l2:(2:Nat)<=lim:=cf (by omega)
 have done:∀ w' xs',xs'.length<=xs.length+1->eS (aE p w xs)=.rt (aE p w xs') (.sh (.str (wS w')))->∃ w' xs',xs'.length<=xs.length+1 /\ eY [.sh (.lst (p.map .int)),.sh (.str (wS w)),.tr true (jV xs)]=.ok (.str (wS w')) [none,none,some (jV xs')]:=fun w' xs' h1 h2=>by
  refine⟨w',xs',h1,?_⟩
  unfold eY fnI;rw[if_pos (show List.length [Sl.sh (.lst (p.map .int)),.sh (.str (wS w)),.tr true (jV xs)]=3 from rfl),show jM 3 [Sl.sh (.lst (p.map .int)),.sh (.str (wS w)),.tr true (jV xs)]=aE p w xs from rfl,h2];rfl
 cases p with
 | nil=>
   refine done w xs (by omega) ?_;unfold eS;exact st (by simp[dn,jv]) rfl
 | cons x r=>
   have hat:=iI (row:=x ::r) (pre:=[]) (b:=x) (Q:=r) rfl;rw[show((([]:List Int).length:Nat):Int)=0 from rfl]at hat
   by_cases h1:x=32 \/ x=10
   . refine done w xs (by omega) ?_;unfold eS;refine st (by rcases h1 with z|z<;>simp -implicitDefEqProofs [dn,jv,au,gIn,gE,cM,fj,bc,hat,l2,z]) rfl
   have n1:¬ 32=x:=fun z=>h1 (.inl z.symm)
   have n2:¬ 10=x:=fun z=>h1 (.inr z.symm)
   have e1:eS (aE (x ::r) w xs)=jo (aE (x ::r) w xs):=by
    unfold eS;exact sk (by simp -implicitDefEqProofs [dn,jv,au,gIn,gE,cM,fj,bc,hat,l2,n1,n2])
   by_cases h2:x=91 \/ x=123
   . refine done (if x=91 then .valueF else .nameF) (xs++[x]) (by simp) ?_;rw[e1];unfold jo;refine st (by rcases h2 with z|z<;>simp -implicitDefEqProofs [au,gIn,gE,cM,fj,bc,hat,l2,z]) ?_
     have ha:j8 2 bX (mD (mOp bc (ak 0) (mC (.int 0)))) (aE (x ::r) w xs)=.nx (aE (x ::r) w (xs++[x])):=by
      rw[xR (ts:=xs.map fun x=>OV.sh (.int x)) (x:=.sh (.int x)) (io:=true) rfl (by simp -implicitDefEqProofs [mD,bc,hat]) (by rw[List.length_map];exact cf (n:=xs.length+1) (by omega))];simp[jV]
     rw[aP ha]
     rcases h2 with z|z
     . subst z;simp -implicitDefEqProofs [fi,au,bc,hat,wS]
     . subst z;simp -implicitDefEqProofs [fi,au,bc,hat,wS]
   have n3:¬ 91=x:=fun z=>h2 (.inl z.symm)
   have n4:¬ 123=x:=fun z=>h2 (.inr z.symm)
   have e2:eS (aE (x ::r) w xs)=g8 (aE (x ::r) w xs):=by
    rw[e1];unfold jo;exact sk (by simp -implicitDefEqProofs [au,gIn,gE,cM,fj,bc,hat,l2,n3,n4])
   by_cases h3:x=93 \/ x=125
   . have hc:au (mOp gIn (mOp bc (ak 0) (mC (.int 0))) (cB (af (mC (.int 93)) (af (mC (.int 125)) aB)))) (aE (x ::r) w xs)=.ok true:=by rcases h3 with z|z<;>simp -implicitDefEqProofs [au,gIn,gE,cM,fj,bc,hat,l2,z]
     have ht:eK 2 bX (aE (x ::r) w xs)=.ok (!(xs.map fun x=>OV.sh (.int x)).isEmpty):=sg (lu (gz (s:=.tr true (jV xs)) rfl rfl))
     rcases List.eq_nil_or_concat xs with z|⟨ys,y,z⟩
     . subst z;refine done .behind [] (by simp) ?_;rw[e2];unfold g8;refine st hc ?_;rw[sk (by rw[ht];rfl)];simp[wS]
     . subst z;refine done .behind ys (by simp;omega) ?_;rw[e2];unfold g8;refine st hc ?_
       rw[aP (ρ':=aE (x ::r) w ys) ((mI (by rw[ht];simp)).trans (by
        unfold mZ;rw[x8 (ts:=ys.map fun x=>OV.sh (.int x)) (x:=.sh (.int y)) (io:=true) (by simp[jV])]
        rfl))]
       simp[wS]
   have n5:¬ 93=x:=fun z=>h3 (.inl z.symm)
   have n6:¬ 125=x:=fun z=>h3 (.inr z.symm)
   have e3:eS (aE (x ::r) w xs)=jr (aE (x ::r) w xs):=by
    rw[e2];unfold g8;exact sk (by simp -implicitDefEqProofs [au,gIn,gE,cM,fj,bc,hat,l2,n5,n6])
   by_cases h4:x=44
   . obtain⟨c,hc⟩:=yh (ρ:=aE (x ::r) w xs) (i:=2) (s:=.tr true (jV xs)) (xs:=xs) rfl rfl;refine done (if c then .name else .value) xs (by omega) ?_;rw[e3];unfold jr;refine st (by simp -implicitDefEqProofs [au,bc,hat,h4]) ?_;show aS (fi _ _ _) (aE (x ::r) w xs)=_;unfold aS fi;rw[hc]
     cases c<;>simp[wS]
   have e4:eS (aE (x ::r) w xs)=jn (aE (x ::r) w xs):=by
    rw[e3];unfold jr;exact sk (by simp -implicitDefEqProofs [au,bc,hat,h4])
   by_cases h5:x=58
   . refine done .value xs (by omega) ?_;rw[e4];unfold jn;exact st (by simp -implicitDefEqProofs [au,bc,hat,h5]) (by simp[wS])
   refine done (match w with|.name=>.colon|.nameF=>.colon|_=>.behind) xs (by omega) ?_;rw[e4];unfold jn;rw[sk (by simp -implicitDefEqProofs [au,bc,hat,h5])];unfold oH
   cases w<;>simp -implicitDefEqProofs [fi,au,gIn,gE,cM,fj,wS,aG,l2]
noncomputable abbrev bE(ns row xs:List Int)(w:Wt)(k n p:Option Sl):aj:=[some (.sh (.lst (ns.map .int))),some (.ow (row.map .int)),some (.tr false (jV xs)),some (.sh (.str (wS w))),k,n,p]
theorem rf(a b:List Int):opq (a++b)=opq a+opq b:=by unfold opq;rw[List.countP_append]
theorem Ad(a:List Int)(n:Nat):opq (a.take n)<=opq a:=by
 have:opq a=opq (a.take n++a.drop n):=by rw[List.take_append_drop]
 rw[this,rf];omega
theorem xn(ns row xs:List Int)(w:Wt)(k:Int)(n p:Option Sl)(hr:row.length<80000)(hx:xs.length<80000):∃ row' xs' w' n' p',fK (bE ns row xs w (some (.sh (.int k))) n p)=.nx (bE ns row' xs' w' (some (.sh (.int k))) n' p') /\ row'.length<=row.length+14 /\ opq row'<=opq row+1 /\ xs'.length<=xs.length+1:=by
 have hm:=jX ns k;obtain⟨m0,-⟩:=As ns k
 have ll:∀ j:Nat,j<=90000->j<=lim:=fun j h=>cf (by omega)
 unfold fK;rw[aP (ρ':=bE ns row xs w (some (.sh (.int k))) (some (.sh (.int (PG.mix ns k)))) p) (by simp[aU,hm])]
 generalize PG.mix ns k=N at m0 ⊢
 by_cases h0:N%12=0
 . refine⟨row++[N/12%256],xs,w,some (.sh (.int N)),p,?_,by simp,?_,by omega⟩
   . rw[mI (by simp[au,h0])]
     have:row.length<lim:=ll (row.length+1) (by omega)
     simp[pA,jx,this]
   . rw[rf]
     have:opq [N/12%256]<=1:=by unfold opq;exact List.countP_le_length
     omega
 rw[qb (by simp[au,h0])]
 by_cases h4:N%12<4
 . obtain⟨q,⟨q1,q2⟩,hq⟩:=Em (N/12)
   refine⟨row++q,xs,w,some (.sh (.int N)),p,?_,by simp;omega,by rw[rf];omega,by omega⟩
   rw[mI (by simp[au,h4])]
   have:row.length+q.length<=lim:=ll _ (by omega)
   simp -implicitDefEqProofs [aU,hq,pH,RV.pv,qc,this]
 rw[qb (by simp[au,h4])];obtain⟨q,outs,⟨q1,q2⟩,hq⟩:=Ce (N/12) w xs
 have hs6:aU 6 (mz fq [.e (mOp sW (ak 5) (mC (.int 12))),.e (ak 3),.b 2 bX]) (bE ns row xs w (some (.sh (.int k))) (some (.sh (.int N))) p)=.nx (bE ns row xs w (some (.sh (.int k))) (some (.sh (.int N))) (some (.sh (.lst (q.map .int))))):=by
  have ha:gZ [.e (mOp sW (ak 5) (mC (.int 12))),.e (ak 3),.b 2 bX] (bE ns row xs w (some (.sh (.int k))) (some (.sh (.int N))) p)=some [.sh (.int (N/12)),.sh (.str (wS w)),.bo (jV xs)]:=by
   simp[gZ,ku,jx,lu (gz (ρ:=bE ns row xs w (some (.sh (.int k))) (some (.sh (.int N))) p) (i:=2) (s:=.tr false (jV xs)) (t:=jV xs) rfl rfl)]
  unfold aU mz;rw[ha];simp only[hq];rfl
 rw[aP hs6]
 have rest:∀(q':List Int) (sl:Sl),(sl=.sh (.lst (q'.map .int)) \/ sl=.ow (q'.map .int))->q'.length<=14->opq q'<=1->∃ row' xs' w' n' p',aN (aU 1 (mOp pH (ak 1) (ak 6))) (jm 6 (kQ 3 (jz eY [.e (ak 6),.e (ak 3),.t 2 bX]))) (bE ns row xs w (some (.sh (.int k))) (some (.sh (.int N))) (some sl))=.nx (bE ns row' xs' w' (some (.sh (.int k))) n' p') /\ row'.length<=row.length+14 /\ opq row'<=opq row+1 /\ xs'.length<=xs.length+1:=by
  intro q' sl hsl z1 z2;obtain⟨w',xs',hx',ha⟩:=BO q' w xs (by omega)
  have hlen:row.length+q'.length<=lim:=ll _ (by omega)
  refine⟨row++q',xs',w',some (.sh (.int N)),some (.sh (.lst (q'.map .int))),?_,by simp;omega,by rw[rf];omega,hx'⟩
  rw[aP (ρ':=bE ns (row++q') xs w (some (.sh (.int k))) (some (.sh (.int N))) (some sl)) (by
   rcases hsl with z|z<;>subst z<;>simp -implicitDefEqProofs [aU,pH,RV.pv,qc,hlen])]
  rw[n0,show mB 6 (bE ns (row++q') xs w (some (.sh (.int k))) (some (.sh (.int N))) (some sl))=bE ns (row++q') xs w (some (.sh (.int k))) (some (.sh (.int N))) (some (.sh (.lst (q'.map .int)))) by rcases hsl with z|z<;>subst z<;>rfl]
  have hv:gZ [.e (ak 6),.e (ak 3),.t 2 bX] (bE ns (row++q') xs w (some (.sh (.int k))) (some (.sh (.int N))) (some (.sh (.lst (q'.map .int)))))=some [.sh (.lst (q'.map .int)),.sh (.str (wS w)),.tr true (jV xs)]:=by
   simp[gZ,ku,jx,bX,OV.get]
  unfold kQ jz;rw[hv];simp only[ha];rfl
 by_cases h12:N%12=4
 . have hq4:aU 6 (CY (ak 6) (mC .non) (vW (mOp oa (mOp sW (ak 5) (mC (.int 120))) (mOp cu (mUn gF (ak 6)) (mC (.int 1)))))) (bE ns row xs w (some (.sh (.int k))) (some (.sh (.int N))) (some (.sh (.lst (q.map .int))))) = .nx (bE ns row xs w (some (.sh (.int k))) (some (.sh (.int N))) (some (.ow ((q.take (N / 120 % ((q.length:Int) + 1)).toNat).map .int)))):=by
    have p1:(0:Int)<(q.length:Int)+1:=by omega
    have p2:0<=N/120%((q.length:Int)+1):=Int.emod_nonneg _ (by omega)
    have p3:N/120%((q.length:Int)+1)<(q.length:Int)+1:=Int.emod_lt_of_pos _ p1
    have p4:¬ N/120%((q.length:Int)+1)<0:=by omega
    have p5:min (N/120%((q.length:Int)+1)).toNat q.length=(N/120%((q.length:Int)+1)).toNat:=by omega
    unfold aU;simp -implicitDefEqProofs [vW,RV.pv,p1,qw,BL,A4,Aa,p4,p5,qc,List.map_take]
   rw[aP ((mI (by simp[au,h12])).trans hq4)];exact rest _ _ (.inr rfl) (by rw[List.length_take];omega) (by have:=Ad q (N/120%((q.length:Int)+1)).toNat;omega)
 . rw[sk (by simp[au,h12])];exact rest q _ (.inl rfl) q1 q2
theorem rO(ns:List Int):∀(ks:List Nat) (row xs:List Int) (w:Wt) (k n p:Option Sl),row.length+14*ks.length<70000->xs.length+ks.length<70000->∃ row' xs' w' k' n' p',eM 4 fK (ks.map fun i:Nat=>PV.int i) (bE ns row xs w k n p)=.nx (bE ns row' xs' w' k' n' p') /\ row'.length<=row.length+14*ks.length /\ opq row'<=opq row+ks.length
 |[],row,xs,w,k,n,p,_,_=>⟨row,xs,w,k,n,p,rfl,by simp,by simp⟩
 | i ::ks,row,xs,w,k,n,p,h1,h2=>by
   rw[List.length_cons]at h1 h2;obtain⟨row1,xs1,w1,n1,p1,e1,a1,a2,a3⟩:=xn ns row xs w i n p (by omega) (by omega);obtain⟨row2,xs2,w2,k2,n2,p2,e2,b1,b2⟩:=rO ns ks row1 xs1 w1 (some (.sh (.int i))) n1 p1 (by omega) (by omega)
   refine⟨row2,xs2,w2,k2,n2,p2,?_,by rw[List.length_cons];omega,by rw[List.length_cons];omega⟩
   rw[List.map_cons,iH (ρ':=bE ns row1 xs1 w1 (some (.sh (.int i))) n1 p1) e1];exact e2
theorem CI(ns:List Int):∃ row:List Int,gd [.lst (ns.map .int)]=.ok (.fr (row.map .int)) /\ row.length<=336 /\ opq row<=24:=by
 have hm:=jX ns 60;obtain⟨m0,-⟩:=As ns 60
 obtain⟨c,hc,hc2⟩:∃ c:Nat,(1:Int)+PG.mix ns 60%24=c /\ c<=24:=⟨(1+PG.mix ns 60%24).toNat,by omega,by omega⟩
 obtain⟨row,xs,w,k,n,p,e,h1,h2⟩:=rO ns (List.range c) [] [] .value none none none (by simp;omega) (by simp;omega)
 refine⟨row,?_,by simp at h1;omega,by rw[List.length_range]at h2;have:opq []=0:=rfl;omega⟩
 unfold gd fnP;rw[if_pos (show List.length [PV.lst (ns.map .int)]=1 from rfl),show ft 7 [PV.lst (ns.map .int)]=[some (.sh (.lst (ns.map .int))),none,none,none,none,none,none] from rfl];unfold qJ;rw[aP (ρ':=[some (.sh (.lst (ns.map .int))),some (.ow []),none,none,none,none,none]) (by simp[aU,qc])];unfold oo;rw[aP (ρ':=[some (.sh (.lst (ns.map .int))),some (.ow []),some (.tr false (jV [])),none,none,none,none]) (by simp[pj,mD,jV])];unfold oK;rw[aP (ρ':=bE ns [] [] .value none none none) (by simp[aU,wS])];unfold oy
 have hfor:ka 4 (mOp cu (mC (.int 1)) (mOp oa (bU gD (af (ak 0) (af (mC (.int 60)) aB))) (mC (.int 24)))) fK (bE ns [] [] .value none none none)=eM 4 fK ((List.range c).map fun i:Nat=>PV.int i) (bE ns [] [] .value none none none):=by
  have r1:-4611686018427387904<=(c:Int):=by omega
  have r2:(c:Int)<4611686018427387904:=by omega
  unfold ka;simp -implicitDefEqProofs [hm,hc,r1,r2,RV.pv,gL]
 rw[aP (hfor.trans e)];rfl
noncomputable abbrev AG(o:Bool)(row:List Int):Sl:=if o then .ow (row.map .int)else .sh (.lst (row.map .int))
noncomputable abbrev lE(s:Option Sl)(o:Bool)(row:List Int)(fs:List Bool)(w:Wt)(z:Int)(g:Bool)(s6:Option Sl):aj:=[s,some (AG o row),some (.tr false (skO fs)),some (.sh (.str (wS w))),some (.sh (.int z)),some (.sh (.bl g)),s6,none]
theorem yU{w:Wt}{fs:List Bool}(h:okW w fs):∃ S,stW w fs=.white ::S /\ PG.cnt S<=fs.length:=by
 have hout:∀ gs:List Bool,PG.cnt (PG.out gs)=gs.length:=uD
 match w,fs,h with
 |.value,fs,_=>exact⟨_,rfl,by simp only[PG.cnt_cons,hout,opn];simp⟩
 |.valueF,_,⟨gs,rfl⟩=>exact⟨_,rfl,by simp only[PG.cnt_cons,List.tail_cons,hout,opn];simp;omega⟩
 |.nameF,_,⟨gs,rfl⟩=>exact⟨_,rfl,by simp only[PG.cnt_cons,List.tail_cons,hout,opn];simp;omega⟩
 |.name,fs,_=>exact⟨_,rfl,by simp only[PG.cnt_cons,hout,opn];simp⟩
 |.colon,fs,_=>exact⟨_,rfl,by simp only[PG.cnt_cons,hout,opn];simp⟩
 |.behind,[],_=>exact⟨[],rfl,Nat.le_refl _⟩
 | .behind,r ::gs,_=>exact ⟨_,rfl,by
    show PG.cnt ((if r then PG.It.mrow else PG.It.mfields) ::PG.out gs)<=gs.length+1;rw[PG.cnt_cons,hout]
    cases r<;>simp[opn]<;>omega⟩
theorem rE{row:List Int}(hlr:row.length<70000)(s:Option Sl):∀(m:Nat) (pre Q:List Int) (f:Nat) (w:Wt) (fs:List Bool) (o:Bool) (s6:Option Sl),row=pre++Q->Q.length<m->m<=f->okW w fs->fs.length+opq Q<60->PG.Runs st0 (stW w fs) row pre.length ->
  ∃(g:Bool) (w':Wt) (fs':List Bool) (z:Nat) (o':Bool) (s6':Option Sl),cJ jW jl f (lE s o row fs w pre.length true s6)=.nx (lE s o' row fs' w' z g s6') /\ ((g=true /\ z=row.length /\ okW w' fs' /\ PG.Runs st0 (stW w' fs') row row.length) \/ (g=false /\ dv st0 row z))
 |0,pre,Q,f,w,fs,o,s6,hrow,hq,hf,hw,hd,hR=>by omega
 | m+1,pre,Q,f,w,fs,o,s6,hrow,hq,hf,hw,hd,hR=>by
   obtain⟨f,rfl⟩:∃ k,f=k+1:=⟨f - 1,by omega⟩
   have hlen:row.length=pre.length+Q.length:=by rw[hrow];simp
   have hcond:jW (lE s o row fs w pre.length true s6)=.ok (decide ((pre.length:Int)<row.length)):=by
    unfold jW
    cases o<;>simp -implicitDefEqProofs [dn,jv,au,RV.pv,AG]
   cases Q with
   | nil=>
     have hz:row.length=pre.length:=by rw[hlen];rfl
     have hnl:¬ (pre.length:Int)<row.length:=by omega
     rw[decide_eq_false hnl]at hcond
     refine⟨true,w,fs,pre.length,o,s6,?_,.inl ⟨rfl,hz.symm,hw,by rw[hz];exact hR⟩⟩
     unfold cJ;rw[hcond];rfl
   | cons b Q=>
     have hat:=iI hrow;rw[List.length_cons]at hlen hq
     have hll:(pre.length:Int)<row.length:=by omega
     rw[decide_eq_true hll]at hcond
     have hdrop:row.drop pre.length=b ::Q:=by rw[hrow,List.drop_left]
     have turn:cJ jW jl (f+1) (lE s o row fs w pre.length true s6)=(jl (lE s o row fs w pre.length true s6)).turn (cJ jW jl f):=by
      conv=>lhs;unfold cJ
      rw[hcond];rfl
     rw[turn]
     have l4:(4:Nat)<=lim:=cf (by omega)
     have hwc:au (mOp gIn (mOp bc (ak 1) (ak 4)) (cB (af (mC (.int 32)) (af (mC (.int 9)) (af (mC (.int 10)) (af (mC (.int 13)) aB)))))) (lE s o row fs w pre.length true s6)=.ok (wht b):=by
      have e:(decide (32=b)||(decide (9=b)||(decide (10=b)||decide (13=b))))=wht b:=by
       unfold wht
       by_cases z1:32=b
       . subst z1;rfl
       . simp[z1]
      rw[<- e]
      cases o<;>simp -implicitDefEqProofs [au,gIn,gE,cM,fj,bc,RV.pv,hat,l4,Bool.beq_eq_decide_eq,AG]
     cases hb:wht b with
     | true=>
       rw[hb]at hwc;obtain⟨S,hS,hcS⟩:=yU hw
       have hr:jl (lE s o row fs w pre.length true s6)=.nx (lE s o row fs w ((pre++[b]).length:Int) true s6):=by
        unfold jl;rw[mI hwc];simp[aU]
       rw[hr]
       have hg:PG.Goes (stW w fs) [b] (stW w fs):=by
        rw[hS];exact cN (l:=[.white]) (by simp only[bh];rw[hb];rfl) rfl (by omega)
       have hR2:PG.Runs st0 (stW w fs) row (pre++[b]).length:=by
        rw[show(pre++[b]).length=pre.length+1 by simp];exact yp hR hdrop (by simp) (PG.Runs.wJ (by simp) (by simpa using hg))
       have ho:opq Q<=opq (b ::Q):=nF (b ::Q) 1
       exact rE hlr s m (pre++[b]) Q f w fs o s6 (by rw[hrow];simp) (by omega) (by omega) hw (by omega) hR2
     | false=>
       rw[hb]at hwc;obtain⟨ok,n,w',fs',e1,e2,e3⟩:=B9 hrow (by omega) hb hw (by omega)
       have hs6:jm 1 (kQ 6 (jz eP [.e (ak 1),.e (ak 4),.e (ak 3),.t 2 bX])) (lE s o row fs w pre.length true s6)=.nx (lE s false row fs' w pre.length true (some (.sh (.tup [.bl ok,.int ((pre.length:Int)+n),.str (wS w')])))):=by
        rw[n0,show mB 1 (lE s o row fs w pre.length true s6)=lE s false row fs w pre.length true s6 by cases o<;>rfl]
        have hv:gZ [.e (ak 1),.e (ak 4),.e (ak 3),.t 2 bX] (lE s false row fs w pre.length true s6)=some [.sh (.lst (row.map .int)),.sh (.int pre.length),.sh (.str (wS w)),.tr true (skO fs)]:=by
         simp[gZ,ku,jx,bX,OV.get,AG]
        unfold kQ jz;rw[hv];simp only[e1];rfl
       have hr:jl (lE s o row fs w pre.length true s6)=.nx (lE s false row fs' w' ((pre.length+n:Nat):Int) ok (some (.sh (.tup [.bl ok,.int ((pre.length:Int)+n),.str (wS w')])))):=by
        unfold jl;rw[qb hwc,aP hs6];rw[aP (ρ':=lE s false row fs' w pre.length ok (some (.sh (.tup [.bl ok,.int ((pre.length:Int)+n),.str (wS w')])))) (by simp[aU,fH,atP,ixP])];rw[aP (ρ':=lE s false row fs' w ((pre.length+n:Nat):Int) ok (some (.sh (.tup [.bl ok,.int ((pre.length:Int)+n),.str (wS w')])))) (by simp[aU,fH,atP,ixP])];simp[aU,fH,atP,ixP]
       rw[hr]
       show ∃(g:Bool) (w'':Wt) (fs'':List Bool) (z:Nat) (o':Bool) (s6':Option Sl),cJ jW jl f (lE s false row fs' w' ((pre.length+n:Nat):Int) ok (some (.sh (.tup [.bl ok,.int ((pre.length:Int)+n),.str (wS w')]))))=_ /\ _
       cases ok with
       | true=>
         obtain⟨ok1,ok2,ok3⟩:=e2 rfl;have hn:=(e3.1 rfl).1
         have hpl:(pre++(b ::Q).take n).length=pre.length+n:=by rw[List.length_append,List.length_take,Nat.min_eq_left hn]
         have:=rE hlr s m (pre++(b ::Q).take n) ((b ::Q).drop n) f w' fs' false (some (.sh (.tup [.bl true,.int ((pre.length:Int)+n),.str (wS w')]))) (by rw[hrow,List.append_assoc,List.take_append_drop]) (by rw[List.length_drop,List.length_cons];omega) (by omega) ok1 (by omega) (by
          rw[hpl]
          exact yp hR hdrop (by simp) (e3.1 rfl))
         rw[hpl]at this;exact this
       | false=>
         refine⟨false,w',fs',pre.length+n,false,some (.sh (.tup [.bl false,.int ((pre.length:Int)+n),.str (wS w')])),?_,.inr ⟨rfl,Cp hR hdrop (by simp) (e3.2 rfl)⟩⟩
         obtain⟨f,rfl⟩:∃ k,f=k+1:=⟨f - 1,by omega⟩
         unfold cJ;rw[show jW (lE s false row fs' w' ((pre.length+n:Nat):Int) false (some (.sh (.tup [.bl false,.int ((pre.length:Int)+n),.str (wS w')]))))=.ok false by unfold jW;simp[dn,jv]];rfl
theorem tU{w:Wt}{fs:List Bool}(h:okW w fs):(stW w fs).all PG.loose=true↔(w=.behind /\ fs=[]):=by
 match w,fs,h with
 |.value,fs,_=>simp[stW,PG.loose]
 |.valueF,fs,_=>simp[stW,PG.loose]
 |.nameF,fs,_=>simp[stW,PG.loose]
 |.name,fs,_=>simp[stW,PG.loose]
 |.colon,fs,_=>simp[stW,PG.loose]
 |.behind,[],_=>simp[stW,PG.out,PG.loose]
 |.behind,r ::gs,_=>cases r<;>simp[stW,PG.out,PG.loose]
theorem rY:∀{ls:List PG.It},ls.all PG.nl=true->ls.all PG.loose=true
 |[],_=>rfl
 | it ::ls,h=>by
   rw[List.all_cons,Bool.and_eq_true]at h ⊢
   refine⟨?_,rY h.2⟩
   have:=h.1
   cases it<;>simp[PG.nl,PG.loose]at this ⊢
theorem Aq(ns:List Int)(_:ns.length<=63):tR [.lst (ns.map .int)]=.ok (.sh (.bl true)):=by
 obtain⟨row,hb,hl,ho⟩:=CI ns;have hf:=qX row (by omega);obtain⟨g,w,fs,z,o,s6,e,hcase⟩:=rE (row:=row) (by omega) (some (.sh (.lst (ns.map .int)))) (row.length+1) [] row fuel .value [] true none rfl (by omega) (by unfold fuel;omega) trivial (by simp;omega) (PG.Runs.wJ (Nat.zero_le _) (PG.Goes.nil _));unfold tR fnP;rw[if_pos (show List.length [PV.lst (ns.map .int)]=1 from rfl),show ft 8 [PV.lst (ns.map .int)]=[some (.sh (.lst (ns.map .int))),none,none,none,none,none,none,none] from rfl];unfold Dp;rw[aP (ρ':=[some (.sh (.lst (ns.map .int))),some (.ow (row.map .int)),none,none,none,none,none,none]) (by simp[aU,hb,qc])];unfold xU;rw[aP (ρ':=[some (.sh (.lst (ns.map .int))),some (.ow (row.map .int)),some (.tr false (skO [])),none,none,none,none,none]) (by simp[pj,mD,skO])];unfold yn;rw[aP (ρ':=[some (.sh (.lst (ns.map .int))),some (.ow (row.map .int)),some (.tr false (skO [])),some (.sh (.str (wS .value))),none,none,none,none]) (by simp[aU,wS])];unfold xO;rw[aP (ρ':=[some (.sh (.lst (ns.map .int))),some (.ow (row.map .int)),some (.tr false (skO [])),some (.sh (.str (wS .value))),some (.sh (.int 0)),none,none,none]) (by simp[aU])];unfold xY;rw[aP (ρ':=lE (some (.sh (.lst (ns.map .int)))) true row [] .value 0 true none) (by simp[aU])];unfold yy;rw[show((List.length ([]:List Int):Nat):Int)=0 from rfl]at e;rw[aP e];unfold yq
 have hset:jm 1 (aU 7 (bU kN (af (ak 1) aB))) (lE (some (.sh (.lst (ns.map .int)))) o row fs w z g s6)=.nx [some (.sh (.lst (ns.map .int))),some (.sh (.lst (row.map .int))),some (.tr false (skO fs)),some (.sh (.str (wS w))),some (.sh (.int z)),some (.sh (.bl g)),s6,some (.sh (ofO (PG.flt row)))]:=by
  rw[n0,show mB 1 (lE (some (.sh (.lst (ns.map .int)))) o row fs w z g s6)=lE (some (.sh (.lst (ns.map .int)))) false row fs w z g s6 by cases o<;>rfl];simp[aU,hf,AG]
 rw[aP hset];unfold yg;have ht:=Fv (ρ:=[some (.sh (.lst (ns.map .int))),some (.sh (.lst (row.map .int))),some (.tr false (skO fs)),some (.sh (.str (wS w))),some (.sh (.int z)),some (.sh (.bl g)),s6,some (.sh (ofO (PG.flt row)))]) (i:=2) (io:=false) (fs:=fs) rfl
 have last:PG.flt row=some z->(g=false \/ w≠.behind \/ fs≠[])->fin (aN (bp (cQ (dn (ak 5)) (cQ (au (mOp gEq (ak 3) (mC (.str "behind")))) (kE (eK 2 bX)))) (aS (mOp rB (ak 7) (mC .non))) aO) uy [some (.sh (.lst (ns.map .int))),some (.sh (.lst (row.map .int))),some (.tr false (skO fs)),some (.sh (.str (wS w))),some (.sh (.int z)),some (.sh (.bl g)),s6,some (.sh (ofO (PG.flt row)))])=.ok (.sh (.bl true)):=fun hz hk=>by
  have hw:=ky (z:Int)
  rw[hz]at ht ⊢
  have hc:cQ (dn (ak 5)) (cQ (au (mOp gEq (ak 3) (mC (.str "behind")))) (kE (eK 2 bX))) [some (.sh (.lst (ns.map .int))),some (.sh (.lst (row.map .int))),some (.tr false (skO fs)),some (.sh (.str (wS w))),some (.sh (.int z)),some (.sh (.bl g)),s6,some (.sh (ofO (some z)))]=.ok false:=by
   rcases hk with h|h|h
   . subst h;simp[dn,jv]
   . cases g<;>cases w<;>simp[cQ,dn,jv,au,wS,gEq,eqS,aG]at h ⊢
   . cases fs with
     |nil=>exact absurd rfl h
     |cons r gs=>cases g<;>cases w<;>simp only[wS]at ht<;>simp[cQ,kE,dn,jv,au,wS,gEq,eqS,aG,ht]
  rw[sk hc];unfold uy;simp[oA,hw,ofO]
 rcases hcase with⟨rfl,hz,hw,hR⟩|⟨rfl,hF⟩
 . obtain⟨_,ls,h2,h3,_⟩:=hR
   have htk:PG.tk st0 row=(ls++stW w fs,row.length):=by
    rw[h3,List.drop_length];simp[PG.tk]
   by_cases hend:w=.behind /\ fs=[]
   . have hfl:PG.flt row = none:=by
      unfold PG.flt;rw[htk,if_pos ⟨rfl,by rw[List.all_append,rY h2,(tU hw).2 hend];rfl⟩]
     obtain⟨rfl,rfl⟩:=hend
     rw[hfl]at ht ⊢
     refine ib (ρ:=[some (.sh (.lst (ns.map .int))),some (.sh (.lst (row.map .int))),some (.tr false (skO [])),some (.sh (.str (wS .behind))),some (.sh (.int z)),some (.sh (.bl true)),s6,some (.sh (ofO none))]) (st ?_ ?_)
     . simp only[wS]at ht;simp[cQ,kE,dn,jv,au,wS,gEq,eqS,aG,ht]
     . simp[ofO,rB,cL]
   . refine last ?_ (.inr ?_)
     . unfold PG.flt
       rw[htk,if_neg (fun h=>hend ((tU hw).1 (by
        have:=h.2;rw[List.all_append,Bool.and_eq_true]at this
        exact this.2))),hz]
     . by_cases y:w=.behind
       . exact .inr fun q=>hend ⟨y,q⟩
       . exact .inl y
 . refine last ?_ (.inl rfl);unfold PG.flt
   rw[hF.1,if_neg (fun h=>by
    have:=hF.2 h.1;rw[h.2]at this
    cases this)]
end L2.plainglass_k07_whole_any_bytes
namespace L2.plainglass_k07_whole_any_bytes
open PySem PySem.Spec PyProof.Rows L2.E L2.P PG
def top(i:Nat):Stmt:=PySem.Challenge.pw_plainglass_k07_whole_any_bytes.main.body.getD i (.Pass ⟨0,0,0,0⟩)
abbrev u4:Stmt:=top 3
abbrev sA:List Str:=["byte"]
theorem Ai:aY ["byte"] sA (aK u4):=eR
abbrev iW:Stmt:=top 4
abbrev hZ:List Str:=["byte"]
theorem oU:aY ["byte"] hZ (aK iW):=eR
abbrev jb:Stmt:=top 5
abbrev iU:List Str:=["byte"]
theorem pC:aY ["byte"] iU (aK jb):=eR
abbrev o3:Stmt:=top 27
abbrev m7:List Str:=["byte"]
theorem vA:aY ["byte"] m7 (aK o3):=eR
abbrev nM:Stmt:=top 28
abbrev mK:List Str:=["byte"]
theorem uV:aY ["byte"] mK (aK nM):=eR
abbrev nN:Stmt:=top 29
abbrev mm:List Str:=["byte"]
theorem va:aY ["byte"] mm (aK nN):=eR
abbrev m9:Stmt:=top 30
abbrev lS:List Str:=["byte"]
theorem uW:aY ["byte"] lS (aK m9):=eR
abbrev kj:Stmt:=top 31
abbrev jA:List Str:=["byte"]
theorem qR:aY ["byte"] jA (aK kj):=eR
abbrev rj:Stmt:=top 37
abbrev qj:List Str:=["item","byte"]
theorem zo:aY ["item","byte"] qj (aK rj):=eR
abbrev j6:Stmt:=top 38
abbrev jI:List Str:=["byte"]
theorem mN:aY ["byte","rest"] jI (aK j6):=eR
abbrev kU:Stmt:=top 39
abbrev kg:List Str:=["byte"]
theorem rV:aY ["byte"] kg (aK kU):=eR
abbrev iq:Stmt:=top 40
abbrev gM:List Str:=["item","byte"]
theorem og:aY ["item","byte"] gM (aK iq):=eR
abbrev jc:Stmt:=top 41
abbrev iQ:List Str:=["item","byte"]
theorem kA:aY ["item","byte","worth"] iQ (aK jc):=eR
abbrev iw:Stmt:=top 42
abbrev gW:List Str:=["byte"]
theorem jU:aY ["byte","spans"] gW (aK iw):=eR
abbrev ie:Stmt:=top 43
abbrev gO:List Str:=["byte"]
theorem oh:aY ["byte"] gO (aK ie):=eR
abbrev jJ:Stmt:=top 44
abbrev ja:List Str:=["worth"]
theorem lL:aY ["worth","second"] ja (aK jJ):=eR
abbrev mi:Stmt:=top 45
abbrev la:List Str:=["item","byte"]
theorem ou:aY ["item","byte","worth"] la (aK mi):=eR
abbrev fY:Stmt:=top 46
abbrev fL:List Str:=["item","byte"]
theorem mY:aY ["item","byte"] fL (aK fY):=eR
abbrev ik:Stmt:=top 47
abbrev gJ:List Str:=["byte"]
theorem jR:aY ["byte","items"] gJ (aK ik):=eR
abbrev fO:Stmt:=top 48
abbrev fz:List Str:=["byte"]
theorem lQ:aY ["byte"] fz (aK fO):=eR
abbrev kW:Stmt:=top 49
abbrev ke:List Str:=[]
theorem sL:aY [] ke (aK kW):=eR
abbrev uA:Stmt:=top 51
abbrev rl:List Str:=["row"]
theorem sm:aY ["row","walk","at"] rl (aK uA):=eR
abbrev oV:Stmt:=top 53
abbrev m5:List Str:=["_law_script","_law_k"]
theorem v8:aY ["_law_script","_law_k"] m5 (aK oV):=eR
abbrev pX:Stmt:=top 54
abbrev oP:List Str:=["_law_script","_law_k"]
theorem o2:aY ["_law_script","_law_k","_law_number"] oP (aK pX):=eR
abbrev nK:Stmt:=top 55
abbrev lN:List Str:=["_law_found"]
theorem uZ:aY ["_law_found"] lN (aK nK):=eR
abbrev m8:Stmt:=top 57
abbrev mH:List Str:=["_law_number","_law_waits","_law_stack"]
theorem gC:aY ["_law_number","_law_waits","_law_stack","_law_closing","_law_plain_here","_law_menus","_law_menu"] mH (aK m8):=eR
abbrev oW:Stmt:=top 58
abbrev nJ:List Str:=["_law_number"]
theorem qB:aY ["_law_number","_law_wild_here"] nJ (aK oW):=eR
abbrev nA:Stmt:=top 59
abbrev lT:List Str:=["_law_piece_here","_law_waits","_law_stack"]
theorem uL:aY ["_law_piece_here","_law_waits","_law_stack"] lT (aK nA):=eR
abbrev nI:Stmt:=top 60
abbrev mJ:List Str:=["_law_script"]
theorem du:aY ["_law_script","_law_row","_law_stack","_law_waits","_law_k","_law_number","_law_piece_here"] mJ (aK nI):=eR
abbrev jN:Stmt:=top 61
abbrev i3:List Str:=["_law_row","_law_at"]
theorem dg:aY ["_law_row","_law_at","_law_lead","_law_many_here","_law_low","_law_high","_law_k"] i3 (aK jN):=eR
abbrev nC:Stmt:=top 62
abbrev mq:List Str:=["_law_row","_law_at","_law_low"]
theorem eh:aY ["_law_row","_law_at","_law_low","_law_number","_law_k","_law_figure","_law_worth","_law_half"] mq (aK nC):=eR
abbrev mv:Stmt:=top 63
abbrev lh:List Str:=["_law_row","_law_at"]
theorem jq:aY ["_law_row","_law_at","_law_first","_law_k","_law_second"] lh (aK mv):=eR
abbrev jE:Stmt:=top 64
abbrev i6:List Str:=["_law_row","_law_at"]
theorem eA:aY ["_law_row","_law_at","_law_step","_law_size_here"] i6 (aK jE):=eR
abbrev kS:Stmt:=top 65
abbrev kf:List Str:=["_law_row","_law_at"]
theorem ny:aY ["_law_row","_law_at"] kf (aK kS):=eR
abbrev iO:Stmt:=top 66
abbrev ig:List Str:=["_law_row","_law_at"]
theorem ck:aY ["_law_row","_law_at","_law_end"] ig (aK iO):=eR
abbrev jH:Stmt:=top 67
abbrev i4:List Str:=["_law_row","_law_at"]
theorem i8:aY ["_law_row","_law_at","_law_word","_law_k"] i4 (aK jH):=eR
abbrev jf:Stmt:=top 68
abbrev iB:List Str:=["_law_row","_law_at"]
theorem ph:aY ["_law_row","_law_at"] iB (aK jf):=eR
abbrev ni:Stmt:=top 69
abbrev lR:List Str:=["_law_row","_law_at","_law_waits","_law_stack"]
theorem iR:aY ["_law_row","_law_at","_law_waits","_law_stack","_law_byte","_law_closing","_law_step"] lR (aK ni):=eR
abbrev vI:Stmt:=top 70
abbrev xj:List Str:=["_law_script"]
theorem jQ:aY ["_law_script","_law_row","_law_stack","_law_waits","_law_at","_law_good","_law_step","_law_found"] xj (aK vI):=eR
abbrev dY:Stmt:=inClass (top 36) 0
abbrev jd:List Str:=["self"]
theorem qa:aY ["self"] jd (aK dY):=eR
abbrev gw:Stmt:=inClass (top 36) 1
abbrev lY:List Str:=["self","row"]
theorem lV:aY ["self","row","at","byte"] lY (aK gw):=eR
abbrev eD:Stmt:=inClass (top 36) 2
abbrev jO:List Str:=["self","byte"]
theorem jG:aY ["self","byte","item","items"] jO (aK eD):=eR
abbrev ee:Stmt:=inClass (top 36) 3
abbrev je:List Str:=["self"]
theorem pT:aY ["self"] je (aK ee):=eR
abbrev dX:Stmt:=inClass (top 36) 5
abbrev i9:List Str:=["self"]
theorem qh:aY ["self"] i9 (aK dX):=eR
set_option genInjectivity false in
set_option genSizeOf false in
structure Adr where
 iN:Addr
 d_tails:FuncData
 cP:Addr
 d_second_of_three:FuncData
 de:Addr
 d_second_of_four:FuncData
 il:Addr
 d_is_white:FuncData
 eU:Addr
 d_is_figure:FuncData
 fk:Addr
 d_hex_worth:FuncData
 eT:Addr
 d_word_rest:FuncData
 bQ:Addr
 d_short_escape:FuncData
 ju:Addr
 d_behind:FuncData
 bP:Addr
 d_behind_value:FuncData
 dM:Addr
 d_behind_lead:FuncData
 aV:Addr
 d_behind_in_number:FuncData
 bM:Addr
 d_behind_in_text:FuncData
 bW:Addr
 d_behind_character:FuncData
 cw:Addr
 d_behind_backslash:FuncData
 dB:Addr
 d_behind_code_d:FuncData
 dy:Addr
 d_behind_hex:FuncData
 aZ:Addr
 d_behind_in_brackets:FuncData
 b4:Addr
 d_behind_row_begin:FuncData
 bY:Addr
 d_behind_fields_begin:FuncData
 ez:Addr
 d_member_rest:FuncData
 kN:Addr
 d_fault:FuncData
 hV:Addr
 d_law_cell:FuncData
 gD:Addr
 d_law_mix:FuncData
 gc:Addr
 d_law_whole:FuncData
 fq:Addr
 d_law_piece:FuncData
 ia:Addr
 d_law_wild:FuncData
 eY:Addr
 d_law_after:FuncData
 gd:Addr
 d_law_bytes:FuncData
 bS:Addr
 d_law_sign_size:FuncData
 cO:Addr
 d_law_hexes:FuncData
 eX:Addr
 d_law_escape:FuncData
 cy:Addr
 d_law_text_read:FuncData
 cT:Addr
 d_law_figures:FuncData
 dw:Addr
 d_law_number_read:FuncData
 dC:Addr
 d_law_word_read:FuncData
 dh:Addr
 d_law_plain_read:FuncData
 eP:Addr
 d_law_token:FuncData
 tR:Addr
 d_law:FuncData
 cU:Addr
 d_Walk___init__:FuncData
 fo:Addr
 d_Walk_take:FuncData
 dO:Addr
 d_Walk_goes_on:FuncData
 cx:Addr
 d_Walk_brackets:FuncData
 cV:Addr
 d_Walk_is_whole:FuncData
 C_Walk:Addr
 v_TAIL:Addr
 v_BLANK:Value
 v_QUOTE:Value
 v_PLUS:Value
 v_COMMA:Value
 v_MINUS:Value
 v_POINT:Value
 v_NOUGHT:Value
 v_NINE:Value
 v_COLON:Value
 v_BIG_E:Value
 v_ROW_BEGIN:Value
 v_BACKSLASH:Value
 v_ROW_END:Value
 v_SMALL_E:Value
 v_SMALL_U:Value
 v_FIELDS_BEGIN:Value
 v_FIELDS_END:Value
 v_WHITE:Addr
 v_WORDS:Addr
 v_SHORT_ESCAPES:Addr
 v_MOST_BRACKETS:Value
 v_LOOSE:Addr
 v_UNENDED:Addr
structure Txt(K:PySem.W.Frag)(mg:Str->Option Value)(t:Adr):Prop where
 e_tails:Ent K mg "tails" u4 t.iN t.d_tails sA
 e_second_of_three:Ent K mg "second_of_three" iW t.cP t.d_second_of_three hZ
 e_second_of_four:Ent K mg "second_of_four" jb t.de t.d_second_of_four iU
 lZ:Ent K mg "is_white" o3 t.il t.d_is_white m7
 fm:Ent K mg "is_figure" nM t.eU t.d_is_figure mK
 iy:Ent K mg "hex_worth" nN t.fk t.d_hex_worth mm
 e_word_rest:Ent K mg "word_rest" m9 t.eT t.d_word_rest lS
 iG:Ent K mg "short_escape" kj t.bQ t.d_short_escape jA
 pD:Ent K mg "behind" rj t.ju t.d_behind qj
 fg:Ent K mg "behind_value" j6 t.bP t.d_behind_value jI
 fJ:Ent K mg "behind_lead" kU t.dM t.d_behind_lead kg
 e_behind_in_number:Ent K mg "behind_in_number" iq t.aV t.d_behind_in_number gM
 e_behind_in_text:Ent K mg "behind_in_text" jc t.bM t.d_behind_in_text iQ
 fE:Ent K mg "behind_character" iw t.bW t.d_behind_character gW
 fC:Ent K mg "behind_backslash" ie t.cw t.d_behind_backslash gO
 hJ:Ent K mg "behind_code_d" jJ t.dB t.d_behind_code_d ja
 e_behind_hex:Ent K mg "behind_hex" mi t.dy t.d_behind_hex la
 e_behind_in_brackets:Ent K mg "behind_in_brackets" fY t.aZ t.d_behind_in_brackets fL
 fD:Ent K mg "behind_row_begin" ik t.b4 t.d_behind_row_begin gJ
 eL:Ent K mg "behind_fields_begin" fO t.bY t.d_behind_fields_begin fz
 dq:Ent K mg "member_rest" kW t.ez t.d_member_rest ke
 qX:Ent K mg "fault" uA t.kN t.d_fault rl
 lU:Ent K mg "_law_cell" oV t.hV t.d_law_cell m5
 jX:Ent K mg "_law_mix" pX t.gD t.d_law_mix oP
 ky:Ent K mg "_law_whole" nK t.gc t.d_law_whole lN
 e_law_piece:Ent K mg "_law_piece" m8 t.fq t.d_law_piece mH
 e_law_wild:Ent K mg "_law_wild" oW t.ia t.d_law_wild nJ
 e_law_after:Ent K mg "_law_after" nA t.eY t.d_law_after lT
 e_law_bytes:Ent K mg "_law_bytes" nI t.gd t.d_law_bytes mJ
 e_law_sign_size:Ent K mg "_law_sign_size" jN t.bS t.d_law_sign_size i3
 e_law_hexes:Ent K mg "_law_hexes" nC t.cO t.d_law_hexes mq
 e_law_escape:Ent K mg "_law_escape" mv t.eX t.d_law_escape lh
 e_law_text_read:Ent K mg "_law_text_read" jE t.cy t.d_law_text_read i6
 e_law_figures:Ent K mg "_law_figures" kS t.cT t.d_law_figures kf
 e_law_number_read:Ent K mg "_law_number_read" iO t.dw t.d_law_number_read ig
 e_law_word_read:Ent K mg "_law_word_read" jH t.dC t.d_law_word_read i4
 e_law_plain_read:Ent K mg "_law_plain_read" jf t.dh t.d_law_plain_read iB
 e_law_token:Ent K mg "_law_token" ni t.eP t.d_law_token lR
 Aq:Ent K mg "law" vI t.tR t.d_law xj
 F_Walk___init__:Fun K "__init__" "Walk.__init__" dY t.cU t.d_Walk___init__
 b_Walk___init__:Binds K t.d_Walk___init__ jd []
 F_Walk_take:Fun K "take" "Walk.take" gw t.fo t.d_Walk_take
 h_Walk_take:Meth K t.C_Walk "take" t.fo
 b_Walk_take:Binds K t.d_Walk_take lY []
 F_Walk_goes_on:Fun K "goes_on" "Walk.goes_on" eD t.dO t.d_Walk_goes_on
 h_Walk_goes_on:Meth K t.C_Walk "goes_on" t.dO
 b_Walk_goes_on:Binds K t.d_Walk_goes_on jO []
 F_Walk_brackets:Fun K "brackets" "Walk.brackets" ee t.cx t.d_Walk_brackets
 h_Walk_brackets:Meth K t.C_Walk "brackets" t.cx
 b_Walk_brackets:Binds K t.d_Walk_brackets je []
 F_Walk_is_whole:Fun K "is_whole" "Walk.is_whole" dX t.cV t.d_Walk_is_whole
 h_Walk_is_whole:Meth K t.C_Walk "is_whole" t.cV
 b_Walk_is_whole:Binds K t.d_Walk_is_whole i9 []
 n_isinstance:mg "isinstance" = none
 n_tuple:mg "tuple" = none
 n_len:mg "len" = none
 n_int:mg "int" = none
 n_bool:mg "bool" = none
 n_range:mg "range" = none
 n_enumerate:mg "enumerate" = none
 n_all:mg "all" = none
 m_Walk:mg "Walk" = some (.ref t.C_Walk)
 c_Walk:Cls K t.C_Walk
 k_Walk:Mk K t.C_Walk t.cU
 na_Walk_coming:kZ K t.C_Walk "coming"
 m_TAIL:mg "TAIL" = some (.ref t.v_TAIL)
 r_TAIL:RelV (.ref t.v_TAIL) (.ref t.v_TAIL)
 q_TAIL:∀ H,SqT K H t.v_TAIL [.int 128,.int 191]
 m_BLANK:mg "BLANK" = some t.v_BLANK
 r_BLANK:RelV (.int 32) t.v_BLANK
 m_QUOTE:mg "QUOTE" = some t.v_QUOTE
 r_QUOTE:RelV (.int 34) t.v_QUOTE
 m_PLUS:mg "PLUS" = some t.v_PLUS
 r_PLUS:RelV (.int 43) t.v_PLUS
 m_COMMA:mg "COMMA" = some t.v_COMMA
 r_COMMA:RelV (.int 44) t.v_COMMA
 m_MINUS:mg "MINUS" = some t.v_MINUS
 r_MINUS:RelV (.int 45) t.v_MINUS
 m_POINT:mg "POINT" = some t.v_POINT
 r_POINT:RelV (.int 46) t.v_POINT
 m_NOUGHT:mg "NOUGHT" = some t.v_NOUGHT
 r_NOUGHT:RelV (.int 48) t.v_NOUGHT
 m_NINE:mg "NINE" = some t.v_NINE
 r_NINE:RelV (.int 57) t.v_NINE
 m_COLON:mg "COLON" = some t.v_COLON
 r_COLON:RelV (.int 58) t.v_COLON
 m_BIG_E:mg "BIG_E" = some t.v_BIG_E
 r_BIG_E:RelV (.int 69) t.v_BIG_E
 m_ROW_BEGIN:mg "ROW_BEGIN" = some t.v_ROW_BEGIN
 r_ROW_BEGIN:RelV (.int 91) t.v_ROW_BEGIN
 m_BACKSLASH:mg "BACKSLASH" = some t.v_BACKSLASH
 r_BACKSLASH:RelV (.int 92) t.v_BACKSLASH
 m_ROW_END:mg "ROW_END" = some t.v_ROW_END
 r_ROW_END:RelV (.int 93) t.v_ROW_END
 m_SMALL_E:mg "SMALL_E" = some t.v_SMALL_E
 r_SMALL_E:RelV (.int 101) t.v_SMALL_E
 m_SMALL_U:mg "SMALL_U" = some t.v_SMALL_U
 r_SMALL_U:RelV (.int 117) t.v_SMALL_U
 m_FIELDS_BEGIN:mg "FIELDS_BEGIN" = some t.v_FIELDS_BEGIN
 r_FIELDS_BEGIN:RelV (.int 123) t.v_FIELDS_BEGIN
 m_FIELDS_END:mg "FIELDS_END" = some t.v_FIELDS_END
 r_FIELDS_END:RelV (.int 125) t.v_FIELDS_END
 m_WHITE:mg "WHITE" = some (.ref t.v_WHITE)
 r_WHITE:RelV (.ref t.v_WHITE) (.ref t.v_WHITE)
 q_WHITE:∀ H,SqT K H t.v_WHITE [.int 9,.int 10,.int 13,.int 32]
 m_WORDS:mg "WORDS" = some (.ref t.v_WORDS)
 r_WORDS:RelV (.ref t.v_WORDS) (.ref t.v_WORDS)
 q_WORDS:DKP K t.v_WORDS [(110,.tup ([117,108,108].map .int)),(116,.tup ([114,117,101].map .int)),(102,.tup ([97,108,115,101].map .int))]
 m_SHORT_ESCAPES:mg "SHORT_ESCAPES" = some (.ref t.v_SHORT_ESCAPES)
 r_SHORT_ESCAPES:RelV (.ref t.v_SHORT_ESCAPES) (.ref t.v_SHORT_ESCAPES)
 q_SHORT_ESCAPES:DKP K t.v_SHORT_ESCAPES [(34,.int 34),(92,.int 92),(47,.int 47),(98,.int 8),(102,.int 12),(110,.int 10),(114,.int 13),(116,.int 9)]
 m_MOST_BRACKETS:mg "MOST_BRACKETS" = some t.v_MOST_BRACKETS
 r_MOST_BRACKETS:RelV (.int 64) t.v_MOST_BRACKETS
 m_LOOSE:mg "LOOSE" = some (.ref t.v_LOOSE)
 r_LOOSE:RelV (.ref t.v_LOOSE) (.ref t.v_LOOSE)
 q_LOOSE:∀ H,SqT K H t.v_LOOSE [.str "white",.str "figures",.str "fraction",.str "exponent",.str "sign"]
 m_UNENDED:mg "UNENDED" = some (.ref t.v_UNENDED)
 r_UNENDED:RelV (.ref t.v_UNENDED) (.ref t.v_UNENDED)
 q_UNENDED:∀ H,SqT K H t.v_UNENDED [.str "row",.str "more row",.str "fields",.str "more fields"]
noncomputable def cC(t:Adr)(c:String):Option Addr:=if c = "Walk" then some t.C_Walk else none
theorem iz{K:PySem.W.Frag}{mg:Str->Option Value}{t:Adr}(T:Txt K mg t):∀ c C,cC t c=some C->mW c=true->Cls K C /\ kZ K C "coming":=by
 intro c C h1 h2;unfold cC at h1;unfold mW at h2
 by_cases e:c = "Walk"
 . subst e;simp at h1;subst h1;exact⟨T.c_Walk,T.na_Walk_coming⟩
 rw[if_neg e]at h1;cases h1
section
variable{P:Program}{w:World}{K:PySem.W.Frag}{mg:Str->Option Value}{base:Heap}{t:Adr}
theorem vG(T:Txt K mg t):cA P w K mg base (CXE P w) 1 t.hV t.d_law_cell m5 (spP K (cC t) hV):=
 fV T.lU.F v8 fun _ _ _ _ _ _ hr=>⟨_,(ao (aQ (df (qv 0) (fun _=>rfl)) (ax (aA (qi bw (qv 0) (aT jL (qv 1) (kq T.n_len (qv 0)))))) aF)
   (ax (aA ai))),
  (az (aR (fG ah) (aC (av cb ah (av jD ah (dE eN ah)))) aD)
    (aC ag))⟩
theorem rH(T:Txt K mg t):cA P w K mg base (CXE P w) 2 t.gD t.d_law_mix oP (spP K (cC t) gD):=
 fV T.jX.F o2 fun _ _ _ _ _ _ hr=>⟨_,(ao (qz 2 o2.nd (aT jL (aT bz (qx (vG T) T.lU hr aX (aa (qv 0) (aa (qv 1) aq))) (aT uu ai (aT bz (qv 1) ai))) ai))
   (ao (qz 2 o2.nd (aT jL (aT uu (qv 2) ai) ai))
   (ax (aA (aT jL (aT bz (aT uu (aT o9 (qv 2) ai) ai) (qv 2)) ai))))),
  (az (bf (av jD (av bA (bj (ae ah (ae ah aw))) (av uq ag (av bA ah ag))) ag))
    (az (bf (av jD (av uq ah ag) ag))
    (aC (av jD (av bA (av uq (av pe ah ag) ag) ah) ag))))⟩
theorem uJ(T:Txt K mg t):cA P w K mg base (CXE P w) 1 t.fq t.d_law_piece mH (spI K (cC t) fq):=
 qM T.e_law_piece.F gC fun _ _ _ _ _ _ hr=>⟨_,(ao (qz 3 gC.nd ai)
   (ao (aQ (fe (fA (df (qv 2) (fun _=>rfl)) (e7 (bB br (qi bw (qv 2) (nE kl ai)) ai)))) (ax (qz 3 gC.nd ai)) aF)
   (ao (qz 4 gC.nd (aH (aa (aH (aa ai aq)) (aa (aH (aa ai aq)) (aa (aH (aa ai (aa ai (aa ai aq)))) (aa (aH (aa ai aq)) (aa (aH (aa ai (aa ai (aa ai (aa ai (aa ai (aa ai (aa ai aq)))))))) (aa (aH (aa ai (aa ai (aa ai (aa ai aq))))) (aa (aH (aa ai aq)) (aa (aH (aa ai aq)) (aa (aH (aa ai (aa ai (aa ai (aa ai (aa ai (aa ai (aa ai (aa ai (aa ai (aa ai (aa ai (aa ai (aa ai (aa ai aq))))))))))))))) (aa (aH (aa ai (aa ai (aa ai (aa ai (aa ai (aa ai aq))))))) (aa (aH (aa ai aq)) (aa (aH (aa ai (aa ai (aa ai (aa ai aq))))) (aa (aH (aa ai (aa ai (aa ai (aa ai (aa ai (aa ai (aa ai (aa ai aq))))))))) aq)))))))))))))))
   (ao (qz 5 gC.nd (u6 (g9 aJ (qv 4) (g9 aJ (aT kB (qv 4) (aH (aa (aH (aa ai aq)) aq))) (g9 aJ (aH (aa (aH (aa ai (aa ai (aa ai aq)))) (aa (aH (aa ai aq)) (aa (aH (aa ai (aa ai aq))) (aa (aH (aa ai (aa ai (aa ai aq)))) aq))))) (g9 aJ (aH (aa (aH (aa ai (aa ai (aa ai aq)))) (aa (aH (aa ai aq)) (aa (aH (aa ai (aa ai (aa ai aq)))) aq)))) (g9 aJ (aH (aa (aH (aa ai aq)) (aa (aH (aa ai aq)) (aa (aH (aa ai aq)) aq)))) (g9 aJ (aH (aa (aH (aa ai aq)) (aa (aH (aa (qv 3) aq)) (aa (aH (aa ai aq)) (aa (aH (aa (qv 3) aq)) (aa (aH (aa ai aq)) (aa (aH (aa ai aq)) aq))))))) uG))))))))
   (ao (qz 6 gC.nd (B4 (AN hr) (qv 5) (qv 1) (fun _ _=>rfl)))
   (ax (aA (qi bw (qv 6) (aT jL (qv 0) (kq T.n_len (qv 6))))))))))),
  (az (bf ag)
    (az (aR (fQ (j3 dG) (ay (av bq (nV (CD dG (nv km ag))) ag))) (bf ag) aD)
    (az (bf (aI (ae (aI (ae ag aw)) (ae (aI (ae ag aw)) (ae (aI (ae ag (ae ag (ae ag aw)))) (ae (aI (ae ag aw)) (ae (aI (ae ag (ae ag (ae ag (ae ag (ae ag (ae ag (ae ag aw)))))))) (ae (aI (ae ag (ae ag (ae ag (ae ag aw))))) (ae (aI (ae ag aw)) (ae (aI (ae ag aw)) (ae (aI (ae ag (ae ag (ae ag (ae ag (ae ag (ae ag (ae ag (ae ag (ae ag (ae ag (ae ag (ae ag (ae ag (ae ag aw))))))))))))))) (ae (aI (ae ag (ae ag (ae ag (ae ag (ae ag (ae ag aw))))))) (ae (aI (ae ag aw)) (ae (aI (ae ag (ae ag (ae ag (ae ag aw))))) (ae (aI (ae ag (ae ag (ae ag (ae ag (ae ag (ae ag (ae ag (ae ag aw))))))))) aw)))))))))))))))
    (nW (i:=4) (BU (ks:=["value","value first","name first","name","colon","behind"]) (lx ah (lx (av m3 ah (aI (ae (aI (ae ag aw)) aw))) (lx (aI (ae (aI (ae ag (ae ag (ae ag aw)))) (ae (aI (ae ag aw)) (ae (aI (ae ag (ae ag aw))) (ae (aI (ae ag (ae ag (ae ag aw)))) aw))))) (lx (aI (ae (aI (ae ag (ae ag (ae ag aw)))) (ae (aI (ae ag aw)) (ae (aI (ae ag (ae ag (ae ag aw)))) aw)))) (lx (aI (ae (aI (ae ag aw)) (ae (aI (ae ag aw)) (ae (aI (ae ag aw)) aw)))) (lx (aI (ae (aI (ae ag aw)) (ae (aI (ae ah aw)) (ae (aI (ae ag aw)) (ae (aI (ae ah aw)) (ae (aI (ae ag aw)) (ae (aI (ae ag aw)) aw))))))) BM)))))) (by decide) (by decide) ah
    (aC (av cb ah (av jD ah (dE eN ah)))))))))⟩
theorem u3(T:Txt K mg t):cA P w K mg base (CXE P w) 1 t.eY t.d_law_after lT (spI K (cC t) eY):=
 qM T.e_law_after.F uL fun _ _ _ _ _ _ hr=>⟨_,(ao (aQ (fe (mS (oZ (df (qv 0) (fun _=>rfl))) (j9 (dN eZ (qi bw (qv 0) ai) (bu (aa ai (aa ai aq))) rfl)))) (ax (aA (qv 1))) aF)
   (ao (aQ (dN eZ (qi bw (qv 0) ai) (bu (aa ai (aa ai aq))) rfl) (ao (qap lM (qv 2) (qi bw (qv 0) ai))
   (ax (aA (cv (by exact(bB br (qi bw (qv 0) ai) ai)) aJ aJ)))) aF)
   (ao (aQ (dN eZ (qi bw (qv 0) ai) (bu (aa ai (aa ai aq))) rfl) (ao (aQ (df (qv 2) (fun _=>rfl)) (ax (qY (xt PySem.F.plainAttrs_list PySem.F.slot_list_pop PySem.F.type_list_pop xv (qv 2)))) aF)
   (ax (aA aJ))) aF)
   (ao (aQ (bB br (qi bw (qv 0) ai) ai) (ax (aA (cv (by exact(fe (fA (df (qv 2) (fun _=>rfl)) (e7 (bB br (qi bw (qv 2) (nE kl ai)) ai))))) aJ aJ))) aF)
   (ao (aQ (bB br (qi bw (qv 0) ai) ai) (ax (aA aJ)) aF)
   (ax (aA (cv (by exact(dN eZ (qv 1) (bu (aa aJ (aa aJ aq))) rfl)) aJ aJ)))))))),
  (az (aR (mR (pS (fG ah)) (ay (av (gY hr.units) (av cb ah ag) (bt (ae ag (ae ag aw)))))) lD aD)
    (az (aR (ay (av (gY hr.units) (av cb ah ag) (bt (ae ag (ae ag aw))))) (az (r6 dG (Bc (av cb ah ag)))
    (aC (gk (ay (av bq (av cb ah ag) ag)) aL aL))) aD)
    (az (aR (ay (av (gY hr.units) (av cb ah ag) (bt (ae ag (ae ag aw))))) (az (aR (j3 dG) (vV (u5 dG)) aD)
    (aC aL)) aD)
    (az (aR (ay (av bq (av cb ah ag) ag)) (xi (i:=2) (aC (gk (fQ (j3 dG) (ay (av bq (nV (CD dG (nv km ag))) ag))) aL aL))) aD)
    (az (aR (ay (av bq (av cb ah ag) ag)) (aC aL) aD)
    (aC (gk (ay (av (gY hr.units) ah (bt (ae aL (ae aL aw))))) aL aL)))))))⟩
theorem vF(T:Txt K mg t):cA P w K mg base (CXE P w) 1 t.ia t.d_law_wild nJ (spP K (cC t) ia):=
 fV T.e_law_wild.F qB fun _ _ _ _ _ _ hr=>⟨_,(ao (qz 1 qB.nd (aH (aa (aH (aa ai aq)) (aa (aH (aa ai aq)) (aa (aH (aa ai aq)) (aa (aH (aa ai aq)) (aa (aH (aa ai aq)) (aa (aH (aa ai aq)) (aa (aH (aa ai aq)) (aa (aH (aa ai aq)) (aa (aH (aa ai aq)) (aa (aH (aa ai aq)) (aa (aH (aa ai aq)) (aa (aH (aa ai aq)) (aa (aH (aa ai aq)) (aa (aH (aa ai (aa ai aq))) (aa (aH (aa ai (aa ai (aa ai aq)))) (aa (aH (aa ai (aa ai aq))) (aa (aH (aa ai (aa ai aq))) (aa (aH (aa ai (aa ai aq))) (aa (aH (aa ai (aa ai aq))) (aa (aH (aa ai (aa ai aq))) (aa (aH (aa ai (aa ai (aa ai (aa ai (aa ai aq)))))) (aa (aH (aa ai (aa ai (aa ai (aa ai (aa ai (aa ai (aa ai (aa ai aq))))))))) (aa (aH (aa ai (aa ai (aa ai aq)))) (aa (aH (aa ai (aa ai (aa ai aq)))) (aa (aH (aa ai (aa ai (aa ai aq)))) (aa (aH (aa ai (aa ai (aa ai (aa ai (aa ai (aa ai (aa ai aq)))))))) aq))))))))))))))))))))))))))))
   (ax (aA (qi bw (qv 1) (aT jL (qv 0) ai))))),
  (az (bf (aI (ae (aI (ae ag aw)) (ae (aI (ae ag aw)) (ae (aI (ae ag aw)) (ae (aI (ae ag aw)) (ae (aI (ae ag aw)) (ae (aI (ae ag aw)) (ae (aI (ae ag aw)) (ae (aI (ae ag aw)) (ae (aI (ae ag aw)) (ae (aI (ae ag aw)) (ae (aI (ae ag aw)) (ae (aI (ae ag aw)) (ae (aI (ae ag aw)) (ae (aI (ae ag (ae ag aw))) (ae (aI (ae ag (ae ag (ae ag aw)))) (ae (aI (ae ag (ae ag aw))) (ae (aI (ae ag (ae ag aw))) (ae (aI (ae ag (ae ag aw))) (ae (aI (ae ag (ae ag aw))) (ae (aI (ae ag (ae ag aw))) (ae (aI (ae ag (ae ag (ae ag (ae ag (ae ag aw)))))) (ae (aI (ae ag (ae ag (ae ag (ae ag (ae ag (ae ag (ae ag (ae ag aw))))))))) (ae (aI (ae ag (ae ag (ae ag aw)))) (ae (aI (ae ag (ae ag (ae ag aw)))) (ae (aI (ae ag (ae ag (ae ag aw)))) (ae (aI (ae ag (ae ag (ae ag (ae ag (ae ag (ae ag (ae ag aw)))))))) aw))))))))))))))))))))))))))))
    (aC (av cb ah (av jD ah ag))))⟩
theorem uh(T:Txt K mg t):cA P w K mg base (CXE P w) 3 t.gd t.d_law_bytes mJ (spP K (cC t) gd):=
 fV T.e_law_bytes.F du fun _ _ _ _ _ _ hr=>⟨_,(ao (qz 1 du.nd (aH aq))
   (ao (qz 2 du.nd (aH aq))
   (ao (qz 3 du.nd aJ)
   (ao (o1 iE rfl (lJ rfl T.n_range (aa (aT bz ai (aT jL (qx (rH T) T.jX hr aX (aa (qv 0) (aa ai aq))) ai)) aq)) (kI (i:=4) du.nd rfl (by first|exact Or.inl rfl|exact Or.inr rfl)) (ao (qz 5 du.nd (qx (rH T) T.jX hr aX (aa (qv 0) (aa (qv 4) aq))))
   (ax (aQ (bB br (aT jL (qv 5) ai) ai) (ax (qap lM (qv 1) (aT jL (aT o9 (qv 5) ai) ai))) (ax (aQ (bB gv (aT jL (qv 5) ai) ai) (ax (qz 1 du.nd (aT kB (qv 1) (qx (vF T) T.e_law_wild hr aX (aa (aT o9 (qv 5) ai) aq))))) (ao (qz 6 du.nd (qx (uJ T) T.e_law_piece hr aX (aa (aT o9 (qv 5) ai) (aa (qv 3) (aa (qv 2) aq)))))
   (ao (aQ (bB br (aT jL (qv 5) ai) ai) (ax (qz 6 du.nd (zG B1 (qv 6) CV (B6 (aT jL (aT o9 (qv 5) ai) (aT bz (kq T.n_len (qv 6)) ai)))))) aF)
   (ao (qz 1 du.nd (aT kB (qv 1) (qv 6)))
   (ax (qz 3 du.nd (qx (u3 T) T.e_law_after hr aX (aa (qv 6) (aa (qv 3) (aa (qv 2) aq)))))))))))))))
   (ax (aA (qv 1))))))),
  (az (bf (aI aw))
    (az (uw (Bc (aI aw)))
    (az (bf aL)
    (az (pq (av bA ag (av jD (bj (ae ah (ae ag aw))) ag)) (az (bf (bj (ae ah (ae ah aw))))
    (aR (ay (av bq (av jD ah ag) ag)) (yJ (av jD (av pe ah ag) ag)) (aR (ay (av gq (av jD ah ag) ag)) (bf (av m3 ah (bj (ae (av pe ah ag) aw)))) (az (bf (A6 rfl (fF (pP (W:=fun _ _ _ _=>False) (av pe ah ag)) (fF (pP (W:=fun _ _ _ _=>False) ah) (fF (zP dG) mj)))))
    (az (aR (ay (av bq (av jD ah ag) ag)) (bf (EA ah BX (Ca (av jD (av pe ah ag) (av bA (dE eN ah) ag))))) aD)
    (az (bf (av m3 ah ah))
    (nW (i:=6) (q9 (vR rfl (fF (pP (W:=fun _ _ _ _=>False) ah) (fF (pP (W:=fun _ _ _ _=>False) ah) (fF (yE dG) mj)))))))))))))
    lD))))⟩
theorem p9(T:Txt K mg t):cA P w K mg base (CXE P w) 1 t.cU t.d_Walk___init__ jd (spI K (cC t) cU):=
 qM T.F_Walk___init__ qa fun _ _ _ _ _ _ hr=>⟨_,(ax (D6 (qv 0) (aH (aa aJ (aa aJ (aa aJ aq)))))),
  (B2 dG (Bc (aI (ae aL (ae aL (ae aL aw))))) (iz T))⟩
theorem uU(T:Txt K mg t):cA P w K mg base (CXE P w) 1 t.eT t.d_word_rest lS (spP K (cC t) eT):=
 fV T.e_word_rest.F uW fun _ _ _ _ _ _ hr=>⟨_,(ax (aA (vO (bb rfl T.m_WORDS T.r_WORDS) (qv 0)))),
  (aC (vi T.q_WORDS ah))⟩
theorem mG(T:Txt K mg t):cA P w K mg base (CXE P w) 1 t.eU t.d_is_figure mK (spP K (cC t) eU):=
 fV T.fm.F uV fun _ _ _ _ _ _ hr=>⟨_,(ax (aA (vP eE eE (bb rfl T.m_NOUGHT T.r_NOUGHT) (qv 0) (bb rfl T.m_NINE T.r_NINE)))),
  (aC (dQ eC eC ag ah ag))⟩
theorem nB(T:Txt K mg t):cA P w K mg base (CXE P w) 2 t.dM t.d_behind_lead kg (spP K (cC t) dM):=
 fV T.fJ.F rV fun _ _ _ _ _ _ hr=>⟨_,(ao (aQ (bB br (qv 0) (bb rfl T.m_NOUGHT T.r_NOUGHT)) (ax (aA (aH (aa aJ (aa aJ aq))))) aF)
   (ao (aQ (df (qx (mG T) T.fm hr aX (aa (qv 0) aq)) (fun _=>rfl)) (ax (aA (aH (aa aJ (aa aJ (aa aJ aq)))))) aF)
   (ax (aA dm)))),
  (az (aR (ay (av bq ah ag)) (aC (aI (ae aL (ae aL aw)))) aD)
    (az (aR (fG (bj (ae ah aw))) (aC (aI (ae aL (ae aL (ae aL aw))))) aD)
    (aC dk)))⟩
theorem mM(T:Txt K mg t):cA P w K mg base (CXE P w) 3 t.bP t.d_behind_value jI (spP K (cC t) bP):=
 fV T.fg.F mN fun _ _ _ _ _ _ hr=>⟨_,(ao (aQ (bB br (qv 0) (bb rfl T.m_ROW_BEGIN T.r_ROW_BEGIN)) (ax (aA (aH (aa aJ (aa aJ aq))))) aF)
   (ao (aQ (bB br (qv 0) (bb rfl T.m_FIELDS_BEGIN T.r_FIELDS_BEGIN)) (ax (aA (aH (aa aJ (aa aJ aq))))) aF)
   (ao (aQ (bB br (qv 0) (bb rfl T.m_QUOTE T.r_QUOTE)) (ax (aA (aH (aa aJ aq)))) aF)
   (ao (aQ (bB br (qv 0) (bb rfl T.m_MINUS T.r_MINUS)) (ax (aA (aH (aa aJ aq)))) aF)
   (ao (qz 1 mN.nd (qx (uU T) T.e_word_rest hr aX (aa (qv 0) aq)))
   (ao (aQ (bB yc (qv 1) dm) (ax (aA (yD (M:=[]) (ι:=[]) (x:="sign") ⟨rfl,rfl,rfl,rfl,rfl,rfl,rfl,rfl,rfl,rfl,rfl,by decide +kernel⟩ rfl (Fm (qv 1)) fun _ _ _ _=>(bu (aa (qv 0) (aa (qv 0) aq)))))) aF)
   (ax (aA (qx (nB T) T.fJ hr aX (aa (qv 0) aq)))))))))),
  (az (aR (ay (av bq ah ag)) (aC (aI (ae aL (ae aL aw)))) aD)
    (az (aR (ay (av bq ah ag)) (aC (aI (ae aL (ae aL aw)))) aD)
    (az (aR (ay (av bq ah ag)) (aC (aI (ae aL aw))) aD)
    (az (aR (ay (av bq ah ag)) (aC (aI (ae aL aw))) aD)
    (az (bf (bj (ae ah aw)))
    (az (aR (ay (av x9 ah dk)) (aC (zX (by decide) ah (bt (ae ah (ae ah aw))))) aD)
    (aC (bj (ae ah aw)))))))))⟩
theorem oj(T:Txt K mg t):cA P w K mg base (CXE P w) 3 t.aV t.d_behind_in_number gM (spP K (cC t) aV):=
 fV T.e_behind_in_number.F og fun _ _ _ _ _ _ hr=>⟨_,(ao (aQ (bB br (qv 0) aJ) (ax (aA (qx (nB T) T.fJ hr aX (aa (qv 1) aq)))) aF)
   (ao (aQ (bB br (qv 0) aJ) (ax (aA (cv (by exact(df (qx (mG T) T.fm hr aX (aa (qv 1) aq)) (fun _=>rfl))) (aH (aa aJ aq)) dm))) aF)
   (ao (aQ (bB br (qv 0) aJ) (ax (aA (cv (by exact(bB br (qv 1) (bb rfl T.m_POINT T.r_POINT))) (aH (aa (bu (aa (bb rfl T.m_NOUGHT T.r_NOUGHT) (aa (bb rfl T.m_NINE T.r_NINE) aq))) (aa aJ aq))) dm))) aF)
   (ao (aQ (bB br (qv 0) aJ) (ax (aA (cv (by exact(dN eZ (qv 1) (bu (aa (bb rfl T.m_SMALL_E T.r_SMALL_E) (aa (bb rfl T.m_BIG_E T.r_BIG_E) aq))) rfl)) (aH (aa aJ (aa (bu (aa (bb rfl T.m_NOUGHT T.r_NOUGHT) (aa (bb rfl T.m_NINE T.r_NINE) aq))) (aa aJ aq)))) dm))) aF)
   (ax (aA (cv (by exact(dN eZ (qv 1) (bu (aa (bb rfl T.m_PLUS T.r_PLUS) (aa (bb rfl T.m_MINUS T.r_MINUS) aq))) rfl)) (aH aq) dm))))))),
  (az (aR (ay (av bq ah aL)) (aC (bj (ae ah aw))) aD)
    (az (aR (ay (av bq ah aL)) (aC (gk (fG (bj (ae ah aw))) (aI (ae aL aw)) dk)) aD)
    (az (aR (ay (av bq ah aL)) (aC (gk (ay (av bq ah ag)) (aI (ae (bt (ae ag (ae ag aw))) (ae aL aw))) dk)) aD)
    (az (aR (ay (av bq ah aL)) (aC (gk (ay (av (gY hr.units) ah (bt (ae ag (ae ag aw))))) (aI (ae aL (ae (bt (ae ag (ae ag aw))) (ae aL aw)))) dk)) aD)
    (aC (gk (ay (av (gY hr.units) ah (bt (ae ag (ae ag aw))))) (aI aw) dk))))))⟩
theorem pk(T:Txt K mg t):cA P w K mg base (CXE P w) 2 t.fk t.d_hex_worth mm (spP K (cC t) fk):=
 fV T.iy.F va fun _ _ _ _ _ _ hr=>⟨_,(ao (aQ (df (qx (mG T) T.fm hr aX (aa (qv 0) aq)) (fun _=>rfl)) (ax (aA (aT kY (qv 0) (bb rfl T.m_NOUGHT T.r_NOUGHT)))) aF)
   (ao (aQ (eH eE eE ai (qv 0) ai) (ax (aA (aT kY (qv 0) ai))) aF)
   (ao (aQ (eH eE eE ai (qv 0) ai) (ax (aA (aT kY (qv 0) ai))) aF)
   (ax (aA dm))))),
  (az (aR (fG (bj (ae ah aw))) (aC (av lb ah ag)) aD)
    (az (aR (ay (dQ eC eC ag ah ag)) (aC (av lb ah ag)) aD)
    (az (aR (ay (dQ eC eC ag ah ag)) (aC (av lb ah ag)) aD)
    (aC dk))))⟩
theorem qg(T:Txt K mg t):cA P w K mg base (CXE P w) 1 t.dB t.d_behind_code_d ja (spP K (cC t) dB):=
 fV T.hJ.F lL fun _ _ _ _ _ _ hr=>⟨_,(ao (aQ (bB gv (qv 0) ai) (ax (aA (aH (aa aJ (aa aJ aq))))) aF)
   (ao (aQ (bB gv (qv 0) ai) (ao (qz 1 lL.nd (aH (aa (bu (aa (bb rfl T.m_BACKSLASH T.r_BACKSLASH) (aa (bb rfl T.m_BACKSLASH T.r_BACKSLASH) aq))) (aa (bu (aa (bb rfl T.m_SMALL_U T.r_SMALL_U) (aa (bb rfl T.m_SMALL_U T.r_SMALL_U) aq))) (aa aJ (aa aJ (aa aJ (aa aJ aq))))))))
   (ax (aA (aT kB (aH (aa aJ (aa aJ aq))) (qv 1))))) aF)
   (ax (aA dm)))),
  (az (aR (ay (av gq ah ag)) (aC (aI (ae aL (ae aL aw)))) aD)
    (az (aR (ay (av gq ah ag)) (az (bf (aI (ae (bt (ae ag (ae ag aw))) (ae (bt (ae ag (ae ag aw))) (ae aL (ae aL (ae aL (ae aL aw))))))))
    (aC (av m3 (aI (ae aL (ae aL aw))) ah))) aD)
    (aC dk)))⟩
theorem oQ(T:Txt K mg t):cA P w K mg base (CXE P w) 1 t.cP t.d_second_of_three hZ (spP K (cC t) cP):=
 fV T.e_second_of_three.F oU fun _ _ _ _ _ _ hr=>⟨_,(ao (aQ (bB br (qv 0) ai) (ax (aA (bu (aa ai (aa ai aq))))) aF)
   (ao (aQ (bB br (qv 0) ai) (ax (aA (bu (aa ai (aa ai aq))))) aF)
   (ax (aA (bb rfl T.m_TAIL T.r_TAIL))))),
  (az (aR (ay (av bq ah ag)) (aC (bt (ae ag (ae ag aw)))) aD)
    (az (aR (ay (av bq ah ag)) (aC (bt (ae ag (ae ag aw)))) aD)
    (aC (mn T.q_TAIL))))⟩
theorem pb(T:Txt K mg t):cA P w K mg base (CXE P w) 1 t.de t.d_second_of_four iU (spP K (cC t) de):=
 fV T.e_second_of_four.F pC fun _ _ _ _ _ _ hr=>⟨_,(ao (aQ (bB br (qv 0) ai) (ax (aA (bu (aa ai (aa ai aq))))) aF)
   (ao (aQ (bB br (qv 0) ai) (ax (aA (bu (aa ai (aa ai aq))))) aF)
   (ax (aA (bb rfl T.m_TAIL T.r_TAIL))))),
  (az (aR (ay (av bq ah ag)) (aC (bt (ae ag (ae ag aw)))) aD)
    (az (aR (ay (av bq ah ag)) (aC (bt (ae ag (ae ag aw)))) aD)
    (aC (mn T.q_TAIL))))⟩
theorem zH(T:Txt K mg t):cA P w K mg base (CXE P w) 2 t.iN t.d_tails sA (spP K (cC t) iN):=
 fV T.e_tails.F Ai fun _ _ _ _ _ _ hr=>⟨_,(ao (aQ (eH eE gv ai (qv 0) ai) (ax (aA (aH aq))) aF)
   (ao (aQ (eH eE gv ai (qv 0) ai) (ax (aA (aH (aa (bb rfl T.m_TAIL T.r_TAIL) aq)))) aF)
   (ao (aQ (eH eE gv ai (qv 0) ai) (ax (aA (aH (aa (qx (oQ T) T.e_second_of_three hr aX (aa (qv 0) aq)) (aa (bb rfl T.m_TAIL T.r_TAIL) aq))))) aF)
   (ao (aQ (eH eE gv ai (qv 0) ai) (ax (aA (aH (aa (qx (pb T) T.e_second_of_four hr aX (aa (qv 0) aq)) (aa (bb rfl T.m_TAIL T.r_TAIL) (aa (bb rfl T.m_TAIL T.r_TAIL) aq)))))) aF)
   (ax (aA dm)))))),
  (az (aR (ay (dQ eC gq ag ah ag)) (aC (aI aw)) aD)
    (az (aR (ay (dQ eC gq ag ah ag)) (aC (aI (ae (mn T.q_TAIL) aw))) aD)
    (az (aR (ay (dQ eC gq ag ah ag)) (aC (aI (ae (bj (ae ah aw)) (ae (mn T.q_TAIL) aw)))) aD)
    (az (aR (ay (dQ eC gq ag ah ag)) (aC (aI (ae (bj (ae ah aw)) (ae (mn T.q_TAIL) (ae (mn T.q_TAIL) aw))))) aD)
    (aC dk)))))⟩
theorem oe(T:Txt K mg t):cA P w K mg base (CXE P w) 3 t.bW t.d_behind_character gW (spP K (cC t) bW):=
 fV T.fE.F jU fun _ _ _ _ _ _ hr=>⟨_,(ao (aQ (bB br (qv 0) (bb rfl T.m_QUOTE T.r_QUOTE)) (ax (aA (aH aq))) aF)
   (ao (aQ (bB br (qv 0) (bb rfl T.m_BACKSLASH T.r_BACKSLASH)) (ax (aA (aH (aa aJ (aa aJ aq))))) aF)
   (ao (qz 1 jU.nd (qx (zH T) T.e_tails hr aX (aa (qv 0) aq)))
   (ao (aQ (fe (mS (bB gv (qv 0) (bb rfl T.m_BLANK T.r_BLANK)) (j9 (bB p8 (qv 1) dm)))) (ax (aA dm)) aF)
   (ax (aA (aT kB (qv 1) (aH (aa aJ aq))))))))),
  (az (aR (ay (av bq ah ag)) (aC (aI aw)) aD)
    (az (aR (ay (av bq ah ag)) (aC (aI (ae aL (ae aL aw)))) aD)
    (az (bf (bj (ae ah aw)))
    (az (aR (mR (ay (av gq ah ag)) (ay (av p7 ah dk))) (aC dk) aD)
    (aC (av m3 ah (aI (ae aL aw))))))))⟩
theorem qW(T:Txt K mg t):cA P w K mg base (CXE P w) 1 t.bQ t.d_short_escape jA (spP K (cC t) bQ):=
 fV T.iG.F qR fun _ _ _ _ _ _ hr=>⟨_,(ax (aA (vO (bb rfl T.m_SHORT_ESCAPES T.r_SHORT_ESCAPES) (qv 0)))),
  (aC (vi T.q_SHORT_ESCAPES ah))⟩
theorem n8(T:Txt K mg t):cA P w K mg base (CXE P w) 2 t.cw t.d_behind_backslash gO (spP K (cC t) cw):=
 fV T.fC.F oh fun _ _ _ _ _ _ hr=>⟨_,(ao (aQ (bB br (qv 0) (bb rfl T.m_SMALL_U T.r_SMALL_U)) (ax (aA (aH (aa aJ aq)))) aF)
   (ax (aA (cv (by exact(bB p8 (qx (qW T) T.iG hr aX (aa (qv 0) aq)) dm)) dm (aH aq))))),
  (az (aR (ay (av bq ah ag)) (aC (aI (ae aL aw))) aD)
    (aC (gk (ay (av p7 (bj (ae ah aw)) dk)) dk (aI aw))))⟩
theorem pd(T:Txt K mg t):cA P w K mg base (CXE P w) 4 t.bM t.d_behind_in_text iQ (spP K (cC t) bM):=
 fV T.e_behind_in_text.F kA fun _ _ _ _ _ _ hr=>⟨_,(ao (aQ (bB br (qv 0) aJ) (ax (aA (qx (oe T) T.fE hr aX (aa (qv 1) aq)))) aF)
   (ao (aQ (bB br (qv 0) aJ) (ax (aA (qx (n8 T) T.fC hr aX (aa (qv 1) aq)))) aF)
   (ao (qz 2 kA.nd (qx (pk T) T.iy hr aX (aa (qv 1) aq)))
   (ao (aQ (bB p8 (qv 2) dm) (ax (aA dm)) aF)
   (ao (aQ (bB br (qv 0) aJ) (ax (aA (cv (by exact(bB br (qv 2) ai)) (aH (aa aJ aq)) (aH (aa aJ (aa aJ (aa aJ aq))))))) aF)
   (ax (aA (qx (qg T) T.hJ hr aX (aa (qv 2) aq))))))))),
  (az (aR (ay (av bq ah aL)) (aC (bj (ae ah aw))) aD)
    (az (aR (ay (av bq ah aL)) (aC (bj (ae ah aw))) aD)
    (az (bf (bj (ae ah aw)))
    (az (aR (ay (av p7 ah dk)) (aC dk) aD)
    (az (aR (ay (av bq ah aL)) (aC (gk (ay (av bq ah ag)) (aI (ae aL aw)) (aI (ae aL (ae aL (ae aL aw)))))) aD)
    (aC (bj (ae ah aw))))))))⟩
theorem sT(T:Txt K mg t):cA P w K mg base (CXE P w) 3 t.dy t.d_behind_hex la (spP K (cC t) dy):=
 fV T.e_behind_hex.F ou fun _ _ _ _ _ _ hr=>⟨_,(ao (qz 2 ou.nd (qx (pk T) T.iy hr aX (aa (qv 1) aq)))
   (ao (aQ (bB p8 (qv 2) dm) (ax (aA dm)) aF)
   (ao (aQ (bB br (qv 0) aJ) (ax (aA (cv (by exact(bB br (qv 2) ai)) (aH aq) dm))) aF)
   (ao (aQ (bB br (qv 0) aJ) (ax (aA (cv (by exact(bB vT (qv 2) ai)) (aH aq) dm))) aF)
   (ax (aA (aH aq))))))),
  (az (bf (bj (ae ah aw)))
    (az (aR (ay (av p7 ah dk)) (aC dk) aD)
    (az (aR (ay (av bq ah aL)) (aC (gk (ay (av bq ah ag)) (aI aw) dk)) aD)
    (az (aR (ay (av bq ah aL)) (aC (gk (ay (av wu ah ag)) (aI aw) dk)) aD)
    (aC (aI aw))))))⟩
theorem n9(T:Txt K mg t):cA P w K mg base (CXE P w) 4 t.b4 t.d_behind_row_begin gJ (spP K (cC t) b4):=
 fV T.fD.F jR fun _ _ _ _ _ _ hr=>⟨_,(ao (aQ (bB br (qv 0) (bb rfl T.m_ROW_END T.r_ROW_END)) (ax (aA (aH aq))) aF)
   (ao (qz 1 jR.nd (qx (mM T) T.fg hr aX (aa (qv 0) aq)))
   (ax (aA (cv (by exact(bB p8 (qv 1) dm)) dm (aT kB (qv 1) (aH (aa aJ (aa aJ aq))))))))),
  (az (aR (ay (av bq ah ag)) (aC (aI aw)) aD)
    (az (bf (bj (ae ah aw)))
    (aC (gk (ay (av p7 ah dk)) dk (av m3 ah (aI (ae aL (ae aL aw))))))))⟩
theorem nz(T:Txt K mg t):cA P w K mg base (CXE P w) 1 t.ez t.d_member_rest ke (spP K (cC t) ez):=
 fV T.dq.F sL fun _ _ _ _ _ _ hr=>⟨_,(ax (aA (aH (aa aJ (aa (bu (aa (bb rfl T.m_COLON T.r_COLON) (aa (bb rfl T.m_COLON T.r_COLON) aq))) (aa aJ (aa aJ (aa aJ (aa aJ aq))))))))),
  (aC (aI (ae aL (ae (bt (ae ag (ae ag aw))) (ae aL (ae aL (ae aL (ae aL aw))))))))⟩
theorem my(T:Txt K mg t):cA P w K mg base (CXE P w) 2 t.bY t.d_behind_fields_begin fz (spP K (cC t) bY):=
 fV T.eL.F lQ fun _ _ _ _ _ _ hr=>⟨_,(ao (aQ (bB br (qv 0) (bb rfl T.m_FIELDS_END T.r_FIELDS_END)) (ax (aA (aH aq))) aF)
   (ax (aA (cv (by exact(bB br (qv 0) (bb rfl T.m_QUOTE T.r_QUOTE))) (aT kB (aH (aa aJ aq)) (tI ((nz T).mono (by decide)) hr rfl T.dq.m T.dq.F.kp T.dq.b aX)) dm)))),
  (az (aR (ay (av bq ah ag)) (aC (aI aw)) aD)
    (aC (gk (ay (av bq ah ag)) (av m3 (aI (ae aL aw)) (bj aw)) dk)))⟩
theorem mV(T:Txt K mg t):cA P w K mg base (CXE P w) 5 t.aZ t.d_behind_in_brackets fL (spP K (cC t) aZ):=
 fV T.e_behind_in_brackets.F mY fun _ _ _ _ _ _ hr=>⟨_,(ao (aQ (bB br (qv 0) aJ) (ax (aA (qx (n9 T) T.fD hr aX (aa (qv 1) aq)))) aF)
   (ao (aQ (bB br (qv 0) aJ) (ax (aA (qx (my T) T.eL hr aX (aa (qv 1) aq)))) aF)
   (ao (aQ (bB br (qv 0) aJ) (ao (aQ (bB br (qv 1) (bb rfl T.m_COMMA T.r_COMMA)) (ax (aA (aH (aa aJ (aa aJ (aa aJ (aa aJ aq))))))) aF)
   (ax (aA (cv (by exact(bB br (qv 1) (bb rfl T.m_ROW_END T.r_ROW_END))) (aH aq) dm)))) aF)
   (ao (aQ (bB br (qv 1) (bb rfl T.m_COMMA T.r_COMMA)) (ax (aA (aT kB (aH (aa aJ (aa aJ aq))) (tI ((nz T).mono (by decide)) hr rfl T.dq.m T.dq.F.kp T.dq.b aX)))) aF)
   (ax (aA (cv (by exact(bB br (qv 1) (bb rfl T.m_FIELDS_END T.r_FIELDS_END))) (aH aq) dm))))))),
  (az (aR (ay (av bq ah aL)) (aC (bj (ae ah aw))) aD)
    (az (aR (ay (av bq ah aL)) (aC (bj (ae ah aw))) aD)
    (az (aR (ay (av bq ah aL)) (az (aR (ay (av bq ah ag)) (aC (aI (ae aL (ae aL (ae aL (ae aL aw)))))) aD)
    (aC (gk (ay (av bq ah ag)) (aI aw) dk))) aD)
    (az (aR (ay (av bq ah ag)) (aC (av m3 (aI (ae aL (ae aL aw))) (bj aw))) aD)
    (aC (gk (ay (av bq ah ag)) (aI aw) dk))))))⟩
theorem wd(T:Txt K mg t):cA P w K mg base (CXE P w) 1 t.il t.d_is_white m7 (spP K (cC t) il):=
 fV T.lZ.F vA fun _ _ _ _ _ _ hr=>⟨_,(ax (aA (fb eZ (qv 0) (bb rfl T.m_WHITE T.r_WHITE) rfl))),
  (aC (av (gY hr.units) ah (mn T.q_WHITE)))⟩
theorem yH(T:Txt K mg t):cA P w K mg base (CXE P w) 6 t.ju t.d_behind qj (spP K (cC t) ju):=
 fV T.pD.F zo fun _ _ _ _ _ _ hr=>⟨_,(ao (aQ (df (nj rJ rfl T.n_isinstance L2.E.boot_isinstance (aa (qv 0) (aa (uj (v:=.ty _) rfl T.n_tuple L2.E.boot_tuple rfl) aq))) (fun _=>rfl)) (ax (aA (cv (by exact(eH eE eE (qi fM (qv 0) ai) (qv 1) (qi fM (qv 0) ai))) (aH aq) dm))) aF)
   (ao (aQ (dN eZ (qv 0) (bu (aa aJ (aa aJ (aa aJ (aa aJ (aa aJ aq)))))) rfl) (ax (aA (qx (oj T) T.e_behind_in_number hr aX (aa (qv 0) (aa (qv 1) aq))))) aF)
   (ao (aQ (dN eZ (qv 0) (bu (aa aJ (aa aJ (aa aJ (aa aJ aq))))) rfl) (ax (aA (qx (pd T) T.e_behind_in_text hr aX (aa (qv 0) (aa (qv 1) aq))))) aF)
   (ao (aQ (dN eZ (qv 0) (bu (aa aJ (aa aJ (aa aJ aq)))) rfl) (ax (aA (qx (sT T) T.e_behind_hex hr aX (aa (qv 0) (aa (qv 1) aq))))) aF)
   (ao (aQ (dN eZ (qv 0) (bb rfl T.m_UNENDED T.r_UNENDED) rfl) (ax (aA (qx (mV T) T.e_behind_in_brackets hr aX (aa (qv 0) (aa (qv 1) aq))))) aF)
   (ao (aQ (bB br (qv 0) aJ) (ax (aA (cv (by exact(df (qx (wd T) T.lZ hr aX (aa (qv 1) aq)) (fun _=>rfl))) (aH (aa aJ aq)) dm))) aF)
   (ao (aQ (bB br (qv 0) aJ) (ax (aA (cv (by exact(bB br (qv 1) (bb rfl T.m_QUOTE T.r_QUOTE))) (aH (aa aJ aq)) dm))) aF)
   (ax (aA (qx (mM T) T.fg hr aX (aa (qv 1) aq))))))))))),
  (az (aR (fG (wO ah)) (aC (gk (ay (dQ eC eC (av fN ah ag) ah (av fN ah ag))) (aI aw) dk)) aD)
    (az (aR (ay (av (gY hr.units) ah (bt (ae aL (ae aL (ae aL (ae aL (ae aL aw)))))))) (aC (bj (ae ah (ae ah aw)))) aD)
    (az (aR (ay (av (gY hr.units) ah (bt (ae aL (ae aL (ae aL (ae aL aw))))))) (aC (bj (ae ah (ae ah aw)))) aD)
    (az (aR (ay (av (gY hr.units) ah (bt (ae aL (ae aL (ae aL aw)))))) (aC (bj (ae ah (ae ah aw)))) aD)
    (az (aR (ay (av (gY hr.units) ah (u9 fun S=>by unfold Rep;exact⟨_,_,rfl,T.q_UNENDED S,(.cons (by unfold Rep;rfl) (.cons (by unfold Rep;rfl) (.cons (by unfold Rep;rfl) (.cons (by unfold Rep;rfl) .nil))))⟩))) (aC (bj (ae ah (ae ah aw)))) aD)
    (az (aR (ay (av bq ah aL)) (aC (gk (fG (bj (ae ah aw))) (aI (ae aL aw)) dk)) aD)
    (az (aR (ay (av bq ah aL)) (aC (gk (ay (av bq ah ag)) (aI (ae aL aw)) dk)) aD)
    (aC (bj (ae ah aw))))))))))⟩
theorem ql(T:Txt K mg t):cA P w K mg base (CXE P w) 1 t.cx t.d_Walk_brackets je (spI K (cC t) cx):=
 qM T.F_Walk_brackets pT fun _ _ _ _ _ _ hr=>⟨_,(ax (aA (kq T.n_len (yN (M:=[]) (ι:=[]) (x:="item") ⟨rfl,rfl,rfl,rfl,rfl,rfl,rfl,rfl,rfl,rfl,rfl,by decide +kernel⟩ rfl (u7 (sP (qv 0))) (fun _ _ _ _=>(dN eZ (qv 0) (bb rfl T.m_UNENDED T.r_UNENDED) rfl)) fun _ _ _ _=>(qv 0))))),
  (aC (dE eN (xm (by decide) (nV (vZ dG (iz T))) (ay (av (gY hr.units) ah (u9 fun S=>by unfold Rep;exact⟨_,_,rfl,T.q_UNENDED S,(.cons (by unfold Rep;rfl) (.cons (by unfold Rep;rfl) (.cons (by unfold Rep;rfl) (.cons (by unfold Rep;rfl) .nil))))⟩))) ah)))⟩
theorem qQ(T:Txt K mg t):cA P w K mg base (CXE P w) 7 t.dO t.d_Walk_goes_on jO (spI K (cC t) dO):=
 qM T.F_Walk_goes_on jG fun _ _ _ _ _ _ hr=>⟨_,(ao (pL iE (df (sP (qv 0)) (fun _=>rfl)) (ao (qz 2 jG.nd (xt PySem.F.plainAttrs_list PySem.F.slot_list_pop PySem.F.type_list_pop xv (sP (qv 0))))
   (ao (qz 3 jG.nd (qx (yH T) T.pD hr aX (aa (qv 2) (aa (qv 1) aq))))
   (ao (aQ (bB yc (qv 3) dm) (ao (qex xr (sP (qv 0)) (Ez (qv 3) (nE kl ai)))
   (ax (aA (fb eE (tZ (qv 0) T.c_Walk T.h_Walk_brackets ((ql T).mono (by decide)) hr T.b_Walk_brackets aX) (bb rfl T.m_MOST_BRACKETS T.r_MOST_BRACKETS) (ic _))))) aF)
   (ax (aQ (dN ze (qv 2) (bb rfl T.m_LOOSE T.r_LOOSE) rfl) (ax (aA gG)) aF))))))
   (ax (aA gG))),
  (az (pO (j3 (vZ dG (iz T))) (az (q9 (u5 (vZ dG (iz T))))
    (az (bf (bj (ae ah (ae ah aw))))
    (az (aR (ay (av x9 ah dk)) (az (wU (vZ dG (iz T)) (D9 ah (nv km ag)))
    (aC (av eC (vE rfl rfl (zP dG) mj) ag))) aD)
    (aR (ay (av (Bk hr.units) ah (u9 fun S=>by unfold Rep;exact⟨_,_,rfl,T.q_LOOSE S,(.cons (by unfold Rep;rfl) (.cons (by unfold Rep;rfl) (.cons (by unfold Rep;rfl) (.cons (by unfold Rep;rfl) (.cons (by unfold Rep;rfl) .nil)))))⟩))) (aC gH) aD)))))
    (aC gH))⟩
theorem uI(T:Txt K mg t):cA P w K mg base (CXE P w) 8 t.fo t.d_Walk_take lY (spI K (cC t) fo):=
 qM T.F_Walk_take lV fun _ _ _ _ _ _ hr=>⟨_,(ao (o1 iE rfl (BY rfl T.n_enumerate (aa (qv 1) aq)) (DO rfl (vv (kI (i:=2) lV.nd rfl (by first|exact Or.inl rfl|exact Or.inr rfl)) (vv (kI (i:=3) lV.nd rfl (by first|exact Or.inl rfl|exact Or.inr rfl)) CS))) (ax (aQ (oZ (df (vm (qv 0) T.c_Walk T.h_Walk_goes_on ((qQ T).mono (by decide)) hr T.b_Walk_goes_on aX (aa (qv 3) aq)) (fun _=>rfl))) (ax (aA (qv 2))) aF)))
   (ax (aA (kq T.n_len (qv 1))))),
  (az (Cv ah (Cs (v5 rfl rfl (yE dG) (fF (pP (W:=fun _ _ _ _=>False) ah) mj)) lD aD))
    (aC (dE eN ah)))⟩
theorem pZ(T:Txt K mg t):cA P w K mg base (CXE P w) 1 t.cV t.d_Walk_is_whole i9 (spI K (cC t) cV):=
 qM T.F_Walk_is_whole qh fun _ _ _ _ _ _ hr=>⟨_,(ax (aA (nj za rfl T.n_all L2.E.boot_all (aa (yD (M:=[]) (ι:=[]) (x:="item") ⟨rfl,rfl,rfl,rfl,rfl,rfl,rfl,rfl,rfl,rfl,rfl,by decide +kernel⟩ rfl (u7 (sP (qv 0))) fun _ _ _ _=>(fb eZ (qv 0) (bb rfl T.m_LOOSE T.r_LOOSE) rfl)) aq)))),
  (aC (dE (D3 hr.hd) (A8 (by decide) (nV (vZ dG (iz T))) (av (gY hr.units) ah (u9 fun S=>by unfold Rep;exact⟨_,_,rfl,T.q_LOOSE S,(.cons (by unfold Rep;rfl) (.cons (by unfold Rep;rfl) (.cons (by unfold Rep;rfl) (.cons (by unfold Rep;rfl) (.cons (by unfold Rep;rfl) .nil)))))⟩)))))⟩
theorem zL(T:Txt K mg t):cA P w K mg base (CXE P w) 9 t.kN t.d_fault rl (spP K (cC t) kN):=
 fV T.qX.F sm fun _ _ _ _ _ _ hr=>⟨_,(ao (qz 1 sm.nd (AE T.k_Walk (p9 T) (hr.mono (by decide)) rfl T.m_Walk T.b_Walk___init__))
   (ao (qz 2 sm.nd (vm (qv 1) T.c_Walk T.h_Walk_take ((uI T).mono (by decide)) hr T.b_Walk_take aX (aa (qv 0) aq)))
   (ao (aQ (fe (fA (bB br (qv 2) (kq T.n_len (qv 0))) (e7 (df (tZ (qv 1) T.c_Walk T.h_Walk_is_whole ((pZ T).mono (by decide)) hr T.b_Walk_is_whole aX) (fun _=>rfl))))) (ax (aA dm)) aF)
   (ax (aA (qv 2)))))),
  (az (uw (CN rfl))
    (az (q9 (v5 rfl rfl (yE dG) (fF (pP (W:=fun _ _ _ _=>False) ah) mj)))
    (az (aR (fQ (ay (av bq ah (dE eN ah))) (fG (vE rfl rfl (zP dG) mj))) (aC dk) aD)
    lD)))⟩
theorem uC(T:Txt K mg t):cA P w K mg base (CXE P w) 1 t.gc t.d_law_whole lN (spP K (cC t) gc):=
 fV T.ky.F uZ fun _ _ _ _ _ _ hr=>⟨_,(ax (aA (xI (nj rJ rfl T.n_isinstance L2.E.boot_isinstance (aa (qv 0) (aa (uj (v:=.ty _) rfl T.n_int L2.E.boot_int rfl) aq))) (xx (Ex (nj rJ rfl T.n_isinstance L2.E.boot_isinstance (aa (qv 0) (aa (uj (v:=.ty _) rfl T.n_bool L2.E.boot_bool rfl) aq)))))))),
  (aC (xw (wO ah) (EB (wO ah))))⟩
theorem pU(T:Txt K mg t):cA P w K mg base (CXE P w) 1 t.dC t.d_law_word_read i4 (spP K (cC t) dC):=
 fV T.e_law_word_read.F i8 fun _ _ _ _ _ _ hr=>⟨_,(ao (o1 iE rfl (u7 (aH (aa (aH (aa ai (aa ai (aa ai (aa ai aq))))) (aa (aH (aa ai (aa ai (aa ai (aa ai aq))))) (aa (aH (aa ai (aa ai (aa ai (aa ai (aa ai aq)))))) aq))))) (kI (i:=2) i8.nd rfl (by first|exact Or.inl rfl|exact Or.inr rfl)) (ax (aQ (bB br (qi bw (qv 0) (qv 1)) (qi bw (qv 2) ai)) (ao (o1 iE rfl (lJ rfl T.n_range (aa (kq T.n_len (qv 2)) aq)) (kI (i:=3) i8.nd rfl (by first|exact Or.inl rfl|exact Or.inr rfl)) (ax (aQ (fe (mS (bB br (aT bz (qv 1) (qv 3)) (kq T.n_len (qv 0))) (j9 (bB ue (qi bw (qv 0) (aT bz (qv 1) (qv 3))) (qi bw (qv 2) (qv 3)))))) (ax (aA (bu (aa gG (aa (aT bz (qv 1) (qv 3)) aq))))) aF)))
   (ax (aA (bu (aa gG (aa (aT bz (qv 1) (kq T.n_len (qv 2))) aq)))))) aF)))
   (ax (aA (bu (aa gG (aa (qv 1) aq)))))),
  (az (BQ (aI (ae (aI (ae ag (ae ag (ae ag (ae ag aw))))) (ae (aI (ae ag (ae ag (ae ag (ae ag aw))))) (ae (aI (ae ag (ae ag (ae ag (ae ag (ae ag aw)))))) aw)))) (aR (ay (av bq (av cb ah ah) (av cb ah ag))) (az (pq (dE eN ah) (aR (mR (ay (av bq (av bA ah ah) (dE eN ah))) (ay (av tY (av cb ah (av bA ah ah)) (av cb ah ah)))) (aC (bt (ae gH (ae (av bA ah ah) aw)))) aD))
    (aC (bt (ae gH (ae (av bA ah (dE eN ah)) aw))))) aD))
    (aC (bt (ae gH (ae ah aw)))))⟩
theorem pB(T:Txt K mg t):cA P w K mg base (CXE P w) 1 t.cO t.d_law_hexes mq (spP K (cC t) cO):=
 fV T.e_law_hexes.F eh fun _ _ _ _ _ _ hr=>⟨_,(ao (qz 3 eh.nd ai)
   (ao (o1 iE rfl (lJ rfl T.n_range (aa ai aq)) (kI (i:=4) eh.nd rfl (by first|exact Or.inl rfl|exact Or.inr rfl)) (ao (aQ (bB br (aT bz (qv 1) (qv 4)) (kq T.n_len (qv 0))) (ax (aA (bu (aa (nE kl ai) (aa (aT bz (qv 1) (qv 4)) aq))))) aF)
   (ao (qz 5 eh.nd (qi bw (qv 0) (aT bz (qv 1) (qv 4))))
   (ao (qz 6 eh.nd (cv (by exact(eH eE eE ai (qv 5) ai)) (aT kY (qv 5) ai) (nE kl ai)))
   (ao (aQ (eH eE eE ai (qv 5) ai) (ax (qz 6 eh.nd (aT kY (qv 5) ai))) aF)
   (ao (aQ (eH eE eE ai (qv 5) ai) (ax (qz 6 eh.nd (aT kY (qv 5) ai))) aF)
   (ao (qz 3 eh.nd (aT bz (aT uu (qv 3) ai) (qv 6)))
   (ao (qz 7 eh.nd (xI (fb br (qv 4) ai (ic _)) (xx (vP eE eE ai (qv 3) ai))))
   (ax (aQ (fe (mS (bB gv (qv 6) ai) (mS (fe (fA (bB br (qv 4) ai) (e7 (bB ue (qv 7) (qv 2))))) (j9 (fe (fA (bB br (qv 4) ai) (fA (df (qv 2) (fun _=>rfl)) (e7 (bB ue (qv 6) ai))))))))) (ax (aA (bu (aa (nE kl ai) (aa (aT bz (qv 1) (qv 4)) aq))))) aF))))))))))
   (ax (aA (bu (aa (qv 3) (aa (aT bz (qv 1) ai) aq))))))),
  (az (bf ag)
    (az (pq ag (az (aR (ay (av bq (av bA ah ah) (dE eN ah))) (aC (bt (ae (nv km ag) (ae (av bA ah ah) aw)))) aD)
    (az (bf (av cb ah (av bA ah ah)))
    (az (bf (gk (ay (dQ eC eC ag ah ag)) (av lb ah ag) (nv km ag)))
    (az (aR (ay (dQ eC eC ag ah ag)) (bf (av lb ah ag)) aD)
    (az (aR (ay (dQ eC eC ag ah ag)) (bf (av lb ah ag)) aD)
    (az (bf (av bA (av uq ah ag) ah))
    (az (bf (xw (av bq ah ag) (dQ eC eC ag ah ag)))
    (aR (mR (ay (av gq ah ag)) (mR (fQ (ay (av bq ah ag)) (ay (av tY ah ah))) (fQ (ay (av bq ah ag)) (fQ (fG ah) (ay (av tY ah ag)))))) (aC (bt (ae (nv km ag) (ae (av bA ah ah) aw)))) aD)))))))))
    (aC (bt (ae ah (ae (av bA ah ag) aw))))))⟩
theorem sR(T:Txt K mg t):cA P w K mg base (CXE P w) 2 t.eX t.d_law_escape lh (spP K (cC t) eX):=
 fV T.e_law_escape.F jq fun _ _ _ _ _ _ hr=>⟨_,(ao (aQ (bB br (aT bz (qv 1) ai) (kq T.n_len (qv 0))) (ax (aA (bu (aa gG (aa (aT bz (qv 1) ai) aq))))) aF)
   (ao (aQ (dN eZ (qi bw (qv 0) (aT bz (qv 1) ai)) (bu (aa ai (aa ai (aa ai (aa ai (aa ai (aa ai (aa ai (aa ai aq))))))))) rfl) (ax (aA (bu (aa gG (aa (aT bz (qv 1) ai) aq))))) aF)
   (ao (aQ (bB ue (qi bw (qv 0) (aT bz (qv 1) ai)) ai) (ax (aA (bu (aa gG (aa (aT bz (qv 1) ai) aq))))) aF)
   (ao (qz 2 jq.nd (qx (pB T) T.e_law_hexes hr aX (aa (qv 0) (aa (aT bz (qv 1) ai) (aa gG aq)))))
   (ao (aQ (fe (mS (bB gv (qi fM (qv 2) ai) ai) (j9 (oZ (eH eE eE ai (qi fM (qv 2) ai) ai))))) (ax (aA (bu (aa (fb vT (qi fM (qv 2) ai) ai (ic _)) (aa (qi fM (qv 2) ai) aq))))) aF)
   (ao (o1 iE rfl (lJ rfl T.n_range (aa ai aq)) (kI (i:=3) jq.nd rfl (by first|exact Or.inl rfl|exact Or.inr rfl)) (ax (aQ (fe (mS (bB br (aT bz (aT bz (qv 1) ai) (qv 3)) (kq T.n_len (qv 0))) (j9 (bB ue (qi bw (qv 0) (aT bz (aT bz (qv 1) ai) (qv 3))) (qi bw (aH (aa ai (aa ai aq))) (qv 3)))))) (ax (aA (bu (aa gG (aa (aT bz (aT bz (qv 1) ai) (qv 3)) aq))))) aF)))
   (ao (qz 4 jq.nd (qx (pB T) T.e_law_hexes hr aX (aa (qv 0) (aa (aT bz (qv 1) ai) (aa gG aq)))))
   (ax (aA (bu (aa (fb vT (qi fM (qv 4) ai) ai (ic _)) (aa (qi fM (qv 4) ai) aq)))))))))))),
  (az (aR (ay (av bq (av bA ah ag) (dE eN ah))) (aC (bt (ae gH (ae (av bA ah ag) aw)))) aD)
    (az (aR (ay (av (gY hr.units) (av cb ah (av bA ah ag)) (bt (ae ag (ae ag (ae ag (ae ag (ae ag (ae ag (ae ag (ae ag aw))))))))))) (aC (bt (ae gH (ae (av bA ah ag) aw)))) aD)
    (az (aR (ay (av tY (av cb ah (av bA ah ag)) ag)) (aC (bt (ae gH (ae (av bA ah ag) aw)))) aD)
    (az (bf (bj (ae ah (ae (av bA ah ag) (ae gH aw)))))
    (az (aR (mR (ay (av gq (av fN ah ag) ag)) (pS (ay (dQ eC eC ag (av fN ah ag) ag)))) (aC (bt (ae (av wu (av fN ah ag) ag) (ae (av fN ah ag) aw)))) aD)
    (az (pq ag (aR (mR (ay (av bq (av bA (av bA ah ag) ah) (dE eN ah))) (ay (av tY (av cb ah (av bA (av bA ah ag) ah)) (av cb (aI (ae ag (ae ag aw))) ah)))) (aC (bt (ae gH (ae (av bA (av bA ah ag) ah) aw)))) aD))
    (az (bf (bj (ae ah (ae (av bA ah ag) (ae gH aw)))))
    (aC (bt (ae (av wu (av fN ah ag) ag) (ae (av fN ah ag) aw)))))))))))⟩
theorem p0(T:Txt K mg t):cA P w K mg base (CXE P w) 1 t.bS t.d_law_sign_size i3 (spP K (cC t) bS):=
 fV T.e_law_sign_size.F dg fun _ _ _ _ _ _ hr=>⟨_,(ao (qz 2 dg.nd (qi bw (qv 0) (qv 1)))
   (ao (aQ (bB gv (qv 2) ai) (ax (aA ai)) aF)
   (ao (qz 3 dg.nd (aT bz (aT bz ai (lF lq rfl T.n_int L2.E.boot_int (aa (fb vT (qv 2) ai (ic _)) aq))) (lF lq rfl T.n_int L2.E.boot_int (aa (fb vT (qv 2) ai (ic _)) aq))))
   (ao (aQ (fe (mS (bB gv (qv 2) ai) (j9 (bB Dw (qv 2) ai)))) (ax (aA (aT kY (nE kl (qv 1)) ai))) aF)
   (ao (qz 4 dg.nd (wc (AN hr) (u6 (g9 ai ai (g9 ai ai uG))) (qv 2) ai))
   (ao (qz 5 dg.nd (wc (AN hr) (u6 (g9 ai ai (g9 ai ai uG))) (qv 2) ai))
   (ao (o1 iE rfl (lJ rfl T.n_range (aa (qv 3) aq)) (kI (i:=6) dg.nd rfl (by first|exact Or.inl rfl|exact Or.inr rfl)) (ao (aQ (fe (mS (bB br (aT bz (aT bz (qv 1) ai) (qv 6)) (kq T.n_len (qv 0))) (j9 (oZ (eH eE eE (qv 4) (qi bw (qv 0) (aT bz (aT bz (qv 1) ai) (qv 6))) (qv 5)))))) (ax (aA (aT kY (aT kY (nE kl (qv 1)) ai) (qv 6)))) aF)
   (ao (qz 4 dg.nd ai)
   (ax (qz 5 dg.nd ai)))))
   (ax (aA (aT bz ai (qv 3))))))))))),
  (az (bf (av cb ah ah))
    (az (aR (ay (av gq ah ag)) (aC ag) aD)
    (az (bf (av bA (av bA ag (dE pK (av wu ah ag))) (dE pK (av wu ah ag))))
    (az (aR (mR (ay (av gq ah ag)) (ay (av Dv ah ag))) (aC (av lb (nv km ah) ag)) aD)
    (az (bf (tJ (kvs:=[(224,160),(240,144)]) (by decide) (by decide) ah ag))
    (az (bf (tJ (kvs:=[(237,159),(244,143)]) (by decide) (by decide) ah ag))
    (az (pq ah (az (aR (mR (ay (av bq (av bA (av bA ah ag) ah) (dE eN ah))) (pS (ay (dQ eC eC ah (av cb ah (av bA (av bA ah ag) ah)) ah)))) (aC (av lb (av lb (nv km ah) ag) ah)) aD)
    (az (bf ag)
    (bf ag))))
    (aC (av bA ag ah)))))))))⟩
theorem ly(T:Txt K mg t):cA P w K mg base (CXE P w) 3 t.cy t.d_law_text_read i6 (spP K (cC t) cy):=
 fV T.e_law_text_read.F eA fun _ _ _ _ _ _ hr=>⟨_,(ao (qz 1 eA.nd (aT bz (qv 1) ai))
   (ao (pL iE (fe (fA (bB gv (qv 1) (kq T.n_len (qv 0))) (e7 (bB ue (qi bw (qv 0) (qv 1)) ai)))) (ax (aQ (bB br (qi bw (qv 0) (qv 1)) ai) (ao (qz 2 eA.nd (qx (sR T) T.e_law_escape hr aX (aa (qv 0) (aa (qv 1) aq))))
   (ao (aQ (oZ (df (qi fM (qv 2) ai) (fun _=>rfl))) (ax (aA (bu (aa gG (aa (qi fM (qv 2) ai) aq))))) aF)
   (ax (qz 1 eA.nd (qi fM (qv 2) ai))))) (ao (qz 3 eA.nd (qx (p0 T) T.e_law_sign_size hr aX (aa (qv 0) (aa (qv 1) aq))))
   (ao (aQ (fe (mS (bB gv (qi bw (qv 0) (qv 1)) ai) (j9 (bB gv (qv 3) ai)))) (ax (aA (bu (aa gG (aa (cv (by exact(bB gv (qi bw (qv 0) (qv 1)) ai)) (qv 1) (aT kY (nE kl (qv 3)) ai)) aq))))) aF)
   (ax (qz 1 eA.nd (aT bz (qv 1) (qv 3)))))))))
   (ax (aA (bu (aa (fb gv (qv 1) (kq T.n_len (qv 0)) (ic _)) (aa (aT bz (qv 1) (lF lq rfl T.n_int L2.E.boot_int (aa (fb gv (qv 1) (kq T.n_len (qv 0)) (ic _)) aq))) aq))))))),
  (az (bf (av bA ah ag))
    (az (pO (fQ (ay (av gq ah (dE eN ah))) (ay (av tY (av cb ah ah) ag))) (aR (ay (av bq (av cb ah ah) ag)) (az (bf (bj (ae ah (ae ah aw))))
    (az (aR (pS (fG (av fN ah ag))) (aC (bt (ae gH (ae (av fN ah ag) aw)))) aD)
    (bf (av fN ah ag)))) (az (bf (bj (ae ah (ae ah aw))))
    (az (aR (mR (ay (av gq (av cb ah ah) ag)) (ay (av gq ah ag))) (aC (bt (ae gH (ae (gk (ay (av gq (av cb ah ah) ag)) ah (av lb (nv km ah) ag)) aw)))) aD)
    (bf (av bA ah ah))))))
    (aC (bt (ae (av gq ah (dE eN ah)) (ae (av bA ah (dE pK (av gq ah (dE eN ah)))) aw))))))⟩
theorem kh(T:Txt K mg t):cA P w K mg base (CXE P w) 1 t.cT t.d_law_figures kf (spP K (cC t) cT):=
 fV T.e_law_figures.F ny fun _ _ _ _ _ _ hr=>⟨_,(ao (pL iE (fe (fA (bB gv (qv 1) (kq T.n_len (qv 0))) (e7 (eH eE eE ai (qi bw (qv 0) (qv 1)) ai)))) (ax (qz 1 ny.nd (aT bz (qv 1) ai))))
   (ax (aA (qv 1)))),
  (az (pO (fQ (ay (av gq ah (dE eN ah))) (ay (dQ eC eC ag (av cb ah ah) ag))) (bf (av bA ah ag)))
    lD)⟩
theorem oX(T:Txt K mg t):cA P w K mg base (CXE P w) 2 t.dw t.d_law_number_read ig (spP K (cC t) dw):=
 fV T.e_law_number_read.F ck fun _ _ _ _ _ _ hr=>⟨_,(ao (qz 1 ck.nd (aT bz (qv 1) (lF lq rfl T.n_int L2.E.boot_int (aa (fb br (qi bw (qv 0) (qv 1)) ai (ic _)) aq))))
   (ao (aQ (fe (mS (bB br (qv 1) (kq T.n_len (qv 0))) (j9 (oZ (eH eE eE ai (qi bw (qv 0) (qv 1)) ai))))) (ax (aA (bu (aa gG (aa (qv 1) aq))))) aF)
   (ao (qz 1 ck.nd (cv (by exact(bB br (qi bw (qv 0) (qv 1)) ai)) (aT bz (qv 1) ai) (qx (kh T) T.e_law_figures hr aX (aa (qv 0) (aa (qv 1) aq)))))
   (ao (aQ (fe (fA (bB gv (qv 1) (kq T.n_len (qv 0))) (e7 (bB br (qi bw (qv 0) (qv 1)) ai)))) (ao (qz 2 ck.nd (qx (kh T) T.e_law_figures hr aX (aa (qv 0) (aa (aT bz (qv 1) ai) aq))))
   (ao (aQ (bB br (qv 2) (aT bz (qv 1) ai)) (ax (aA (bu (aa gG (aa (qv 2) aq))))) aF)
   (ax (qz 1 ck.nd (qv 2))))) aF)
   (ao (aQ (fe (fA (bB gv (qv 1) (kq T.n_len (qv 0))) (e7 (dN eZ (qi bw (qv 0) (qv 1)) (bu (aa ai (aa ai aq))) rfl)))) (ao (qz 1 ck.nd (aT bz (qv 1) ai))
   (ao (aQ (fe (fA (bB gv (qv 1) (kq T.n_len (qv 0))) (e7 (dN eZ (qi bw (qv 0) (qv 1)) (bu (aa ai (aa ai aq))) rfl)))) (ax (qz 1 ck.nd (aT bz (qv 1) ai))) aF)
   (ao (qz 2 ck.nd (qx (kh T) T.e_law_figures hr aX (aa (qv 0) (aa (qv 1) aq))))
   (ax (aA (bu (aa (fb Dw (qv 2) (qv 1) (ic _)) (aa (qv 2) aq)))))))) aF)
   (ax (aA (bu (aa gG (aa (qv 1) aq)))))))))),
  (az (bf (av bA ah (dE pK (av bq (av cb ah ah) ag))))
    (az (aR (mR (ay (av bq ah (dE eN ah))) (pS (ay (dQ eC eC ag (av cb ah ah) ag)))) (aC (bt (ae gH (ae ah aw)))) aD)
    (az (bf (gk (ay (av bq (av cb ah ah) ag)) (av bA ah ag) (bj (ae ah (ae ah aw)))))
    (az (aR (fQ (ay (av gq ah (dE eN ah))) (ay (av bq (av cb ah ah) ag))) (az (bf (bj (ae ah (ae (av bA ah ag) aw))))
    (az (aR (ay (av bq ah (av bA ah ag))) (aC (bt (ae gH (ae ah aw)))) aD)
    (bf ah))) aD)
    (az (aR (fQ (ay (av gq ah (dE eN ah))) (ay (av (gY hr.units) (av cb ah ah) (bt (ae ag (ae ag aw)))))) (az (bf (av bA ah ag))
    (az (aR (fQ (ay (av gq ah (dE eN ah))) (ay (av (gY hr.units) (av cb ah ah) (bt (ae ag (ae ag aw)))))) (bf (av bA ah ag)) aD)
    (az (bf (bj (ae ah (ae ah aw))))
    (aC (bt (ae (av Dv ah ah) (ae ah aw))))))) aD)
    (aC (bt (ae gH (ae ah aw)))))))))⟩
theorem pf(T:Txt K mg t):cA P w K mg base (CXE P w) 4 t.dh t.d_law_plain_read iB (spP K (cC t) dh):=
 fV T.e_law_plain_read.F ph fun _ _ _ _ _ _ hr=>⟨_,(ao (aQ (bB br (qi bw (qv 0) (qv 1)) ai) (ax (aA (qx (ly T) T.e_law_text_read hr aX (aa (qv 0) (aa (qv 1) aq))))) aF)
   (ao (aQ (fe (mS (bB br (qi bw (qv 0) (qv 1)) ai) (j9 (eH eE eE ai (qi bw (qv 0) (qv 1)) ai)))) (ax (aA (qx (oX T) T.e_law_number_read hr aX (aa (qv 0) (aa (qv 1) aq))))) aF)
   (ax (aA (qx (pU T) T.e_law_word_read hr aX (aa (qv 0) (aa (qv 1) aq))))))),
  (az (aR (ay (av bq (av cb ah ah) ag)) (aC (bj (ae ah (ae ah aw)))) aD)
    (az (aR (mR (ay (av bq (av cb ah ah) ag)) (ay (dQ eC eC ag (av cb ah ah) ag))) (aC (bj (ae ah (ae ah aw)))) aD)
    (aC (bj (ae ah (ae ah aw))))))⟩
theorem u1(T:Txt K mg t):cA P w K mg base (CXE P w) 5 t.eP t.d_law_token lR (spI K (cC t) eP):=
 qM T.e_law_token.F iR fun _ _ _ _ _ _ hr=>⟨_,(ao (qz 4 iR.nd (qi bw (qv 0) (qv 1)))
   (ao (qz 5 iR.nd (Cb (qv 3) (fb br (qv 4) (qi bw (aH (aa ai (aa ai aq))) (qi bw (qv 3) (nE kl ai))) (ic _))))
   (ao (aQ (fe (fA (df (qv 5) (fun _=>rfl)) (e7 (dN eZ (qv 2) (bu (aa aJ (aa aJ (aa aJ aq)))) rfl)))) (ao (qY (xt PySem.F.plainAttrs_list PySem.F.slot_list_pop PySem.F.type_list_pop xv (qv 3)))
   (ax (aA (bu (aa gG (aa (aT bz (qv 1) ai) (aa aJ aq))))))) aF)
   (ao (aQ (dN eZ (qv 2) (bu (aa aJ (aa aJ aq))) rfl) (ao (aQ (dN eZ (qv 4) (bu (aa ai (aa ai aq))) rfl) (ao (qap lM (qv 3) (lF lq rfl T.n_int L2.E.boot_int (aa (fb br (qv 4) ai (ic _)) aq)))
   (ax (aA (bu (aa gG (aa (aT bz (qv 1) ai) (aa (cv (by exact(bB br (qv 4) ai)) aJ aJ) aq))))))) aF)
   (ao (qz 6 iR.nd (qx (pf T) T.e_law_plain_read hr aX (aa (qv 0) (aa (qv 1) aq))))
   (ax (aA (bu (aa (qi fM (qv 6) ai) (aa (qi fM (qv 6) ai) (aa aJ aq)))))))) aF)
   (ao (aQ (fe (fA (dN eZ (qv 2) (bu (aa aJ (aa aJ aq))) rfl) (e7 (bB br (qv 4) ai)))) (ao (qz 6 iR.nd (qx (ly T) T.e_law_text_read hr aX (aa (qv 0) (aa (qv 1) aq))))
   (ax (aA (bu (aa (qi fM (qv 6) ai) (aa (qi fM (qv 6) ai) (aa aJ aq))))))) aF)
   (ao (aQ (fe (fA (bB br (qv 2) aJ) (e7 (bB br (qv 4) ai)))) (ax (aA (bu (aa gG (aa (aT bz (qv 1) ai) (aa aJ aq)))))) aF)
   (ao (aQ (fe (fA (bB br (qv 2) aJ) (fA (df (qv 3) (fun _=>rfl)) (e7 (bB br (qv 4) ai))))) (ax (aA (bu (aa gG (aa (aT bz (qv 1) ai) (aa (cv (by exact(bB br (qi bw (qv 3) (nE kl ai)) ai)) aJ aJ) aq)))))) aF)
   (ax (aA (bu (aa gG (aa (qv 1) (aa (qv 2) aq))))))))))))),
  (az (bf (av cb ah ah))
    (AF dG (av bq ah (av cb (aI (ae ag (ae ag aw))) (nV (CD dG (nv km ag))))) (ay (av (gY hr.units) ah (bt (ae aL (ae aL (ae aL aw)))))) (az (vV (u5 dG))
    (aC (bt (ae gH (ae (av bA ah ag) (ae aL aw)))))) aD
    (az (aR (ay (av (gY hr.units) ah (bt (ae aL (ae aL aw))))) (az (aR (ay (av (gY hr.units) ah (bt (ae ag (ae ag aw))))) (az (r6 dG (Bc (dE pK (av bq ah ag))))
    (aC (bt (ae gH (ae (av bA ah ag) (ae (gk (ay (av bq ah ag)) aL aL) aw)))))) aD)
    (az (bf (bj (ae ah (ae ah aw))))
    (aC (bt (ae (av fN ah ag) (ae (av fN ah ag) (ae aL aw))))))) aD)
    (az (aR (fQ (ay (av (gY hr.units) ah (bt (ae aL (ae aL aw))))) (ay (av bq ah ag))) (az (bf (bj (ae ah (ae ah aw))))
    (aC (bt (ae (av fN ah ag) (ae (av fN ah ag) (ae aL aw)))))) aD)
    (az (aR (fQ (ay (av bq ah aL)) (ay (av bq ah ag))) (aC (bt (ae gH (ae (av bA ah ag) (ae aL aw))))) aD)
    (az (aR (fQ (ay (av bq ah aL)) (fQ (j3 dG) (ay (av bq ah ag)))) (aC (bt (ae gH (ae (av bA ah ag) (ae (gk (ay (av bq (nV (CD dG (nv km ag))) ag)) aL aL) aw))))) aD)
    (aC (bt (ae gH (ae ah (ae ah aw)))))))))))⟩
theorem DS(T:Txt K mg t):cA P w K mg base (CXE P w) 10 t.tR t.d_law xj (spP K (cC t) tR):=
 fV T.Aq.F jQ fun _ _ _ _ _ _ hr=>⟨_,(ao (qz 1 jQ.nd (qx (uh T) T.e_law_bytes hr aX (aa (qv 0) aq)))
   (ao (qz 2 jQ.nd (aH aq))
   (ao (qz 3 jQ.nd aJ)
   (ao (qz 4 jQ.nd ai)
   (ao (qz 5 jQ.nd gG)
   (ao (pL iE (fe (fA (df (qv 5) (fun _=>rfl)) (e7 (bB gv (qv 4) (kq T.n_len (qv 1)))))) (ax (aQ (dN eZ (qi bw (qv 1) (qv 4)) (bu (aa ai (aa ai (aa ai (aa ai aq))))) rfl) (ax (qz 4 jQ.nd (aT bz (qv 4) ai))) (ao (qz 6 jQ.nd (qx (u1 T) T.e_law_token hr aX (aa (qv 1) (aa (qv 4) (aa (qv 3) (aa (qv 2) aq))))))
   (ao (qz 5 jQ.nd (qi fM (qv 6) ai))
   (ao (qz 4 jQ.nd (qi fM (qv 6) ai))
   (ax (qz 3 jQ.nd (qi fM (qv 6) ai)))))))))
   (ao (qz 7 jQ.nd (qx (zL T) T.qX hr aX (aa (qv 1) aq)))
   (ao (aQ (fe (fA (df (qv 5) (fun _=>rfl)) (fA (bB br (qv 3) aJ) (e7 (oZ (df (qv 2) (fun _=>rfl))))))) (ax (aA (fb p8 (qv 7) dm (ic _)))) aF)
   (ax (aA (xI (qx (uC T) T.ky hr aX (aa (qv 7) aq)) (xx (fb br (qv 7) (qv 4) (ic _)))))))))))))),
  (az (bf (bj (ae ah aw)))
    (az (uw (Bc (aI aw)))
    (az (bf aL)
    (az (bf ag)
    (az (bf gH)
    (az (pO (fQ (fG ah) (ay (av gq ah (dE eN ah)))) (aR (ay (av (gY hr.units) (av cb ah ah) (bt (ae ag (ae ag (ae ag (ae ag aw))))))) (bf (av bA ah ag)) (az (nW (i:=1) (q9 (vR rfl (fF (pP (W:=fun _ _ _ _=>False) ah) (fF (pP (W:=fun _ _ _ _=>False) ah) (fF (pP (W:=fun _ _ _ _=>False) ah) (fF (yE dG) mj)))))))
    (az (bf (av fN ah ag))
    (az (bf (av fN ah ag))
    (bf (av fN ah ag)))))))
    (az (nW (i:=1) (bf (bj (ae ah aw))))
    (az (aR (fQ (fG ah) (fQ (ay (av bq ah aL)) (pS (j3 dG)))) (aC (av p7 ah dk)) aD)
    (aC (xw (bj (ae ah aw)) (av bq ah ah)))))))))))⟩
end
open PySem.W in
theorem all_mk{l:PySem.W.OpenLaw}{w:World}{K:PySem.W.Frag}{h:Heap}{mg:Str->Option Value}{fa:Addr}(X:K.In h)(G:h.Ns mainGlobals mg)(hfa:mg "law" = some (.ref fa))
  (h0:Fd K "tails" u4 f0 d0)
  (h1:Fd K "second_of_three" iW f1 d1)
  (h2:Fd K "second_of_four" jb f2 d2)
  (h3:Fd K "is_white" o3 f3 d3)
  (h4:Fd K "is_figure" nM f4 d4)
  (h5:Fd K "hex_worth" nN f5 d5)
  (h6:Fd K "word_rest" m9 f6 d6)
  (h7:Fd K "short_escape" kj f7 d7)
  (h8:Fd K "behind" rj f8 d8)
  (h9:Fd K "behind_value" j6 f9 d9)
  (h10:Fd K "behind_lead" kU f10 d10)
  (h11:Fd K "behind_in_number" iq f11 d11)
  (h12:Fd K "behind_in_text" jc f12 d12)
  (h13:Fd K "behind_character" iw f13 d13)
  (h14:Fd K "behind_backslash" ie f14 d14)
  (h15:Fd K "behind_code_d" jJ f15 d15)
  (h16:Fd K "behind_hex" mi f16 d16)
  (h17:Fd K "behind_in_brackets" fY f17 d17)
  (h18:Fd K "behind_row_begin" ik f18 d18)
  (h19:Fd K "behind_fields_begin" fO f19 d19)
  (h20:Fd K "member_rest" kW f20 d20)
  (h21:Fd K "fault" uA f21 d21)
  (h22:Fd K "_law_cell" oV f22 d22)
  (h23:Fd K "_law_mix" pX f23 d23)
  (h24:Fd K "_law_whole" nK f24 d24)
  (h25:Fd K "_law_piece" m8 f25 d25)
  (h26:Fd K "_law_wild" oW f26 d26)
  (h27:Fd K "_law_after" nA f27 d27)
  (h28:Fd K "_law_bytes" nI f28 d28)
  (h29:Fd K "_law_sign_size" jN f29 d29)
  (h30:Fd K "_law_hexes" nC f30 d30)
  (h31:Fd K "_law_escape" mv f31 d31)
  (h32:Fd K "_law_text_read" jE f32 d32)
  (h33:Fd K "_law_figures" kS f33 d33)
  (h34:Fd K "_law_number_read" iO f34 d34)
  (h35:Fd K "_law_word_read" jH f35 d35)
  (h36:Fd K "_law_plain_read" jf f36 d36)
  (h37:Fd K "_law_token" ni f37 d37)
  (a38:nsIn K mainGlobals "law" = some (some (.ref f38))) (l38:K.lookup f38=some ⟨oc38,od38,.func (fnOf "law" "law" (eJ vI) (dF vI) (aK vI) .none kV38 dc38 pm38 an38 cd38 ct38),sl38⟩) (c38:codeIn K cd38 "law" = true) (k38:keepIn K (.ref f38)=true)
  (a39:findIn K (.ref C0) "__init__" = some (some (.ref f39))) (i39:isFn K (.ref f39)=true) (l39:K.lookup f39=some ⟨oc39,od39,.func (fnOf "__init__" "Walk.__init__" (eJ dY) (dF dY) (aK dY) .none kV39 dc39 pm39 an39 cd39 ct39),sl39⟩) (c39:codeIn K cd39 "Walk.__init__" = true) (k39:keepIn K (.ref f39)=true)
  (a40:findIn K (.ref C0) "take" = some (some (.ref f40))) (i40:isFn K (.ref f40)=true) (l40:K.lookup f40=some ⟨oc40,od40,.func (fnOf "take" "Walk.take" (eJ gw) (dF gw) (aK gw) .none kV40 dc40 pm40 an40 cd40 ct40),sl40⟩) (c40:codeIn K cd40 "Walk.take" = true) (k40:keepIn K (.ref f40)=true)
  (a41:findIn K (.ref C0) "goes_on" = some (some (.ref f41))) (i41:isFn K (.ref f41)=true) (l41:K.lookup f41=some ⟨oc41,od41,.func (fnOf "goes_on" "Walk.goes_on" (eJ eD) (dF eD) (aK eD) .none kV41 dc41 pm41 an41 cd41 ct41),sl41⟩) (c41:codeIn K cd41 "Walk.goes_on" = true) (k41:keepIn K (.ref f41)=true)
  (a42:findIn K (.ref C0) "brackets" = some (some (.ref f42))) (i42:isFn K (.ref f42)=true) (l42:K.lookup f42=some ⟨oc42,od42,.func (fnOf "brackets" "Walk.brackets" (eJ ee) (dF ee) (aK ee) .none kV42 dc42 pm42 an42 cd42 ct42),sl42⟩) (c42:codeIn K cd42 "Walk.brackets" = true) (k42:keepIn K (.ref f42)=true)
  (a43:findIn K (.ref C0) "is_whole" = some (some (.ref f43))) (i43:isFn K (.ref f43)=true) (l43:K.lookup f43=some ⟨oc43,od43,.func (fnOf "is_whole" "Walk.is_whole" (eJ dX) (dF dX) (aK dX) .none kV43 dc43 pm43 an43 cd43 ct43),sl43⟩) (c43:codeIn K cd43 "Walk.is_whole" = true) (k43:keepIn K (.ref f43)=true)
  (z0:nsIn K mainGlobals "isinstance" = some none)
  (z1:nsIn K mainGlobals "tuple" = some none)
  (z2:nsIn K mainGlobals "len" = some none)
  (z3:nsIn K mainGlobals "int" = some none)
  (z4:nsIn K mainGlobals "bool" = some none)
  (z5:nsIn K mainGlobals "range" = some none)
  (z6:nsIn K mainGlobals "enumerate" = some none)
  (z7:nsIn K mainGlobals "all" = some none)
  (ca0:nsIn K mainGlobals "Walk" = some (some (.ref C0))) (pg0:plainGet K C0 Str.empty=true) (hd0:hasDictIn K C0=true) (po0:plainOver K C0=true) (sa0:findIn K (.ref C0) "__setattr__" = some (some (.builtin "object.__setattr__"))) (mk0:makesIn K C0=true) (kc0:keepIn K (.ref C0)=true)
  (na0_0:findIn K (.ref C0) "coming" = some none)
  (va0:nsIn K mainGlobals "TAIL" = some (some (.ref v0))) (vl0:K.lookup v0=some ⟨.type "tuple",vd0,.seq #[.int 128 t0_0,.int 191 t0_1] vn0,vs0⟩)
  (va1:nsIn K mainGlobals "BLANK" = some (some (.int 32 t1)))
  (va2:nsIn K mainGlobals "QUOTE" = some (some (.int 34 t2)))
  (va3:nsIn K mainGlobals "PLUS" = some (some (.int 43 t3)))
  (va4:nsIn K mainGlobals "COMMA" = some (some (.int 44 t4)))
  (va5:nsIn K mainGlobals "MINUS" = some (some (.int 45 t5)))
  (va6:nsIn K mainGlobals "POINT" = some (some (.int 46 t6)))
  (va7:nsIn K mainGlobals "NOUGHT" = some (some (.int 48 t7)))
  (va8:nsIn K mainGlobals "NINE" = some (some (.int 57 t8)))
  (va9:nsIn K mainGlobals "COLON" = some (some (.int 58 t9)))
  (va10:nsIn K mainGlobals "BIG_E" = some (some (.int 69 t10)))
  (va11:nsIn K mainGlobals "ROW_BEGIN" = some (some (.int 91 t11)))
  (va12:nsIn K mainGlobals "BACKSLASH" = some (some (.int 92 t12)))
  (va13:nsIn K mainGlobals "ROW_END" = some (some (.int 93 t13)))
  (va14:nsIn K mainGlobals "SMALL_E" = some (some (.int 101 t14)))
  (va15:nsIn K mainGlobals "SMALL_U" = some (some (.int 117 t15)))
  (va16:nsIn K mainGlobals "FIELDS_BEGIN" = some (some (.int 123 t16)))
  (va17:nsIn K mainGlobals "FIELDS_END" = some (some (.int 125 t17)))
  (va18:nsIn K mainGlobals "WHITE" = some (some (.ref v18))) (vl18:K.lookup v18=some ⟨.type "tuple",vd18,.seq #[.int 9 t18_0,.int 10 t18_1,.int 13 t18_2,.int 32 t18_3] vn18,vs18⟩)
  (va19:nsIn K mainGlobals "WORDS" = some (some (.ref v19))) (vl19:K.lookup v19=some ⟨.type "dict",none,.dict #[⟨110,.int 110 tk19_0,.ref w19_0⟩,⟨116,.int 116 tk19_1,.ref w19_1⟩,⟨102,.int 102 tk19_2,.ref w19_2⟩] ep19,#[]⟩)
  (wl19_0:K.lookup w19_0=some ⟨.type "tuple",wd19_0,.seq #[.int 117 tx19_0_0,.int 108 tx19_0_1,.int 108 tx19_0_2] wn19_0,ws19_0⟩)
  (wl19_1:K.lookup w19_1=some ⟨.type "tuple",wd19_1,.seq #[.int 114 tx19_1_0,.int 117 tx19_1_1,.int 101 tx19_1_2] wn19_1,ws19_1⟩)
  (wl19_2:K.lookup w19_2=some ⟨.type "tuple",wd19_2,.seq #[.int 97 tx19_2_0,.int 108 tx19_2_1,.int 115 tx19_2_2,.int 101 tx19_2_3] wn19_2,ws19_2⟩)
  (vm19:(v19==sysModules)=false)
  (va20:nsIn K mainGlobals "SHORT_ESCAPES" = some (some (.ref v20))) (vl20:K.lookup v20=some ⟨.type "dict",none,.dict #[⟨34,.int 34 tk20_0,(.int 34 tv20_0)⟩,⟨92,.int 92 tk20_1,(.int 92 tv20_1)⟩,⟨47,.int 47 tk20_2,(.int 47 tv20_2)⟩,⟨98,.int 98 tk20_3,(.int 8 tv20_3)⟩,⟨102,.int 102 tk20_4,(.int 12 tv20_4)⟩,⟨110,.int 110 tk20_5,(.int 10 tv20_5)⟩,⟨114,.int 114 tk20_6,(.int 13 tv20_6)⟩,⟨116,.int 116 tk20_7,(.int 9 tv20_7)⟩] ep20,#[]⟩)
  (vm20:(v20==sysModules)=false)
  (va21:nsIn K mainGlobals "MOST_BRACKETS" = some (some (.int 64 t21)))
  (va22:nsIn K mainGlobals "LOOSE" = some (some (.ref v22))) (vl22:K.lookup v22=some ⟨.type "tuple",vd22,.seq #[.str "white" t22_0,.str "figures" t22_1,.str "fraction" t22_2,.str "exponent" t22_3,.str "sign" t22_4] vn22,vs22⟩)
  (va23:nsIn K mainGlobals "UNENDED" = some (some (.ref v23))) (vl23:K.lookup v23=some ⟨.type "tuple",vd23,.seq #[.str "row" t23_0,.str "more row" t23_1,.str "fields" t23_2,.str "more fields" t23_3] vn23,vs23⟩):
  ∃ fd:FuncData,(∀(s:Shared) (v:Value),BindsTo s fd ⟨[v],[]⟩ [("_law_script",v)]) /\ ∀ base:Heap,K.In base->base.Ns mainGlobals mg->cA l.prog w K mg base (CXE l.prog w) 10 fa fd ["_law_script"] (vd K):=by
 have e:=hfa.symm.trans (PySem.W.mg_of X G a38);cases e
 have T:Txt K mg ⟨f0,d0,f1,d1,f2,d2,f3,d3,f4,d4,f5,d5,f6,d6,f7,d7,f8,d8,f9,d9,f10,d10,f11,d11,f12,d12,f13,d13,f14,d14,f15,d15,f16,d16,f17,d17,f18,d18,f19,d19,f20,d20,f21,d21,f22,d22,f23,d23,f24,d24,f25,d25,f26,d26,f27,d27,f28,d28,f29,d29,f30,d30,f31,d31,f32,d32,f33,d33,f34,d34,f35,d35,f36,d36,f37,d37,f38,_,f39,_,f40,_,f41,_,f42,_,f43,_,C0,v0,_,_,_,_,_,_,_,_,_,_,_,_,_,_,_,_,_,v18,v19,v20,_,v22,v23⟩:=⟨h0.e1 X G,
  h1.e1 X G,
  h2.e1 X G,
  h3.e1 X G,
  h4.e1 X G,
  h5.e1 X G,
  h6.e1 X G,
  h7.e1 X G,
  h8.e2 X G,
  h9.e1 X G,
  h10.e1 X G,
  h11.e2 X G,
  h12.e2 X G,
  h13.e1 X G,
  h14.e1 X G,
  h15.e1 X G,
  h16.e2 X G,
  h17.e2 X G,
  h18.e1 X G,
  h19.e1 X G,
  h20.e0 X G,
  h21.e1 X G,
  h22.e2 X G,
  h23.e2 X G,
  h24.e1 X G,
  h25.e3 X G,
  h26.e1 X G,
  h27.e3 X G,
  h28.e1 X G,
  h29.e2 X G,
  h30.e3 X G,
  h31.e2 X G,
  h32.e2 X G,
  h33.e2 X G,
  h34.e2 X G,
  h35.e2 X G,
  h36.e2 X G,
  h37.e4 X G,
  (dz a38 l38 c38 k38).e1 X G,
  j4 (st:=dY) l39 c39 k39,(j4 (st:=dY) l39 c39 k39).binds (ps:=["self"]) fun _ _ _ _ _ _ us hl=>match us,hl with|[_],_=>rfl,
  j4 (st:=gw) l40 c40 k40,⟨a40,i40,k40⟩,(j4 (st:=gw) l40 c40 k40).binds (ps:=["self","row"]) fun _ _ _ _ _ _ us hl=>match us,hl with|[_,_],_=>rfl,
  j4 (st:=eD) l41 c41 k41,⟨a41,i41,k41⟩,(j4 (st:=eD) l41 c41 k41).binds (ps:=["self","byte"]) fun _ _ _ _ _ _ us hl=>match us,hl with|[_,_],_=>rfl,
  j4 (st:=ee) l42 c42 k42,⟨a42,i42,k42⟩,(j4 (st:=ee) l42 c42 k42).binds (ps:=["self"]) fun _ _ _ _ _ _ us hl=>match us,hl with|[_],_=>rfl,
  j4 (st:=dX) l43 c43 k43,⟨a43,i43,k43⟩,(j4 (st:=dX) l43 c43 k43).binds (ps:=["self"]) fun _ _ _ _ _ _ us hl=>match us,hl with|[_],_=>rfl,
  PySem.W.mg_none_of X G z0,
  PySem.W.mg_none_of X G z1,
  PySem.W.mg_none_of X G z2,
  PySem.W.mg_none_of X G z3,
  PySem.W.mg_none_of X G z4,
  PySem.W.mg_none_of X G z5,
  PySem.W.mg_none_of X G z6,
  PySem.W.mg_none_of X G z7,
  PySem.W.mg_of X G ca0,⟨pg0,hd0,po0,sa0⟩,⟨mk0,a39,i39,kc0⟩,
  na0_0,
  PySem.W.mg_of X G va0,rfl,fun H=>.inr ⟨_,_,_,vl0,rfl,rfl,(by show 2<=sizeLine;decide),.cons ⟨_,rfl⟩ (.cons ⟨_,rfl⟩ (.nil))⟩,
  PySem.W.mg_of X G va1,⟨t1,rfl⟩,
  PySem.W.mg_of X G va2,⟨t2,rfl⟩,
  PySem.W.mg_of X G va3,⟨t3,rfl⟩,
  PySem.W.mg_of X G va4,⟨t4,rfl⟩,
  PySem.W.mg_of X G va5,⟨t5,rfl⟩,
  PySem.W.mg_of X G va6,⟨t6,rfl⟩,
  PySem.W.mg_of X G va7,⟨t7,rfl⟩,
  PySem.W.mg_of X G va8,⟨t8,rfl⟩,
  PySem.W.mg_of X G va9,⟨t9,rfl⟩,
  PySem.W.mg_of X G va10,⟨t10,rfl⟩,
  PySem.W.mg_of X G va11,⟨t11,rfl⟩,
  PySem.W.mg_of X G va12,⟨t12,rfl⟩,
  PySem.W.mg_of X G va13,⟨t13,rfl⟩,
  PySem.W.mg_of X G va14,⟨t14,rfl⟩,
  PySem.W.mg_of X G va15,⟨t15,rfl⟩,
  PySem.W.mg_of X G va16,⟨t16,rfl⟩,
  PySem.W.mg_of X G va17,⟨t17,rfl⟩,
  PySem.W.mg_of X G va18,rfl,fun H=>.inr ⟨_,_,_,vl18,rfl,rfl,(by show 4<=sizeLine;decide),.cons ⟨_,rfl⟩ (.cons ⟨_,rfl⟩ (.cons ⟨_,rfl⟩ (.cons ⟨_,rfl⟩ (.nil))))⟩,
  PySem.W.mg_of X G va19,rfl,⟨[(110,.ref w19_0),(116,.ref w19_1),(102,.ref w19_2)],⟨vm19,by simp,_,_,vl19,.cons ⟨rfl,⟨_,rfl⟩,rfl⟩ (.cons ⟨rfl,⟨_,rfl⟩,rfl⟩ (.cons ⟨rfl,⟨_,rfl⟩,rfl⟩ (.nil)))⟩,.cons ⟨rfl,fun _=>by unfold Rep;exact⟨_,[.int 117,.int 108,.int 108],rfl,.inr ⟨_,_,_,wl19_0,rfl,rfl,(by show 3<=sizeLine;decide),.cons ⟨_,rfl⟩ (.cons ⟨_,rfl⟩ (.cons ⟨_,rfl⟩ (.nil)))⟩,bZ.ints (ns:=[117,108,108])⟩⟩ (.cons ⟨rfl,fun _=>by unfold Rep;exact⟨_,[.int 114,.int 117,.int 101],rfl,.inr ⟨_,_,_,wl19_1,rfl,rfl,(by show 3<=sizeLine;decide),.cons ⟨_,rfl⟩ (.cons ⟨_,rfl⟩ (.cons ⟨_,rfl⟩ (.nil)))⟩,bZ.ints (ns:=[114,117,101])⟩⟩ (.cons ⟨rfl,fun _=>by unfold Rep;exact⟨_,[.int 97,.int 108,.int 115,.int 101],rfl,.inr ⟨_,_,_,wl19_2,rfl,rfl,(by show 4<=sizeLine;decide),.cons ⟨_,rfl⟩ (.cons ⟨_,rfl⟩ (.cons ⟨_,rfl⟩ (.cons ⟨_,rfl⟩ (.nil))))⟩,bZ.ints (ns:=[97,108,115,101])⟩⟩ (.nil)))⟩,
  PySem.W.mg_of X G va20,rfl,⟨[(34,.int 34),(92,.int 92),(47,.int 47),(98,.int 8),(102,.int 12),(110,.int 10),(114,.int 13),(116,.int 9)],⟨vm20,by simp,_,_,vl20,.cons ⟨rfl,⟨_,rfl⟩,⟨_,rfl⟩⟩ (.cons ⟨rfl,⟨_,rfl⟩,⟨_,rfl⟩⟩ (.cons ⟨rfl,⟨_,rfl⟩,⟨_,rfl⟩⟩ (.cons ⟨rfl,⟨_,rfl⟩,⟨_,rfl⟩⟩ (.cons ⟨rfl,⟨_,rfl⟩,⟨_,rfl⟩⟩ (.cons ⟨rfl,⟨_,rfl⟩,⟨_,rfl⟩⟩ (.cons ⟨rfl,⟨_,rfl⟩,⟨_,rfl⟩⟩ (.cons ⟨rfl,⟨_,rfl⟩,⟨_,rfl⟩⟩ (.nil))))))))⟩,.cons ⟨rfl,fun _=>by unfold Rep;rfl⟩ (.cons ⟨rfl,fun _=>by unfold Rep;rfl⟩ (.cons ⟨rfl,fun _=>by unfold Rep;rfl⟩ (.cons ⟨rfl,fun _=>by unfold Rep;rfl⟩ (.cons ⟨rfl,fun _=>by unfold Rep;rfl⟩ (.cons ⟨rfl,fun _=>by unfold Rep;rfl⟩ (.cons ⟨rfl,fun _=>by unfold Rep;rfl⟩ (.cons ⟨rfl,fun _=>by unfold Rep;rfl⟩ (.nil))))))))⟩,
  PySem.W.mg_of X G va21,⟨t21,rfl⟩,
  PySem.W.mg_of X G va22,rfl,fun H=>.inr ⟨_,_,_,vl22,rfl,rfl,(by show 5<=sizeLine;decide),.cons ⟨_,rfl⟩ (.cons ⟨_,rfl⟩ (.cons ⟨_,rfl⟩ (.cons ⟨_,rfl⟩ (.cons ⟨_,rfl⟩ (.nil)))))⟩,
  PySem.W.mg_of X G va23,rfl,fun H=>.inr ⟨_,_,_,vl23,rfl,rfl,(by show 4<=sizeLine;decide),.cons ⟨_,rfl⟩ (.cons ⟨_,rfl⟩ (.cons ⟨_,rfl⟩ (.cons ⟨_,rfl⟩ (.nil))))⟩⟩
 exact⟨_,fun s v=>.of_eq rfl,fun base _ _=>(DS T).imp (BJ fun ns h=>Aq ns h)⟩
theorem walk{l:PySem.W.OpenLaw}{q:Program}{loose:List Str}{XP:(Str->Option Value)->Heap->Prop}{YP:World->Heap->Prop}{d:DefRec}{K:Params->PySem.W.Frag}(hn:l.most=some 63)(hdf:d.params.defaults=[])
  (hY:∀(w:World) (h:Heap),YP w h->(K w.params).In h)
  (F:∀(w:World) (mg:Str->Option Value) (fa:Addr) (h:Heap),(K w.params).In h->h.Ns mainGlobals mg->mg d.name=some (.ref fa) ->
    ∃ fd:FuncData,(∀(s:Shared) (u:Value),BindsTo s fd ⟨[u],[]⟩ [("_law_script",u)]) /\ ∀ base:Heap,(K w.params).In base->base.Ns mainGlobals mg->cA l.prog w (K w.params) mg base (CXE l.prog w) 10 fa fd ["_law_script"] (vd (K w.params))):
  PySem.W.WalkO q loose XP YP l.row.toRowW d [] (fun f vs=>PySem.call f vs):=
 L2.Cy (n:=63) (k:=10) (x:="_law_script") (CX:=fun w=>CXE l.prog w) (sp:=fun w=>vd (K w.params)) hn (by decide) hdf ⟨rfl,by decide,by decide⟩ hY F (fun _ _ a ns hl _ hS=>⟨a,ns,rfl,hS,hl,fun _=>rfl⟩) fun _ _ _ _ _ z=>let ⟨_,_,_,_,_,_,_,_,_,_,f⟩:=z;f
end L2.plainglass_k07_whole_any_bytes
open PySem PySem.W PyProof.Rows
namespace PySem.W.Fast
def tw8987115261223337614:=0
def tw3382892270931752389:=0
def tw9022909538317839862:=0
def tw16993395069928213060:=0
def tw14112782332723935548:=0
def tw5944967424252872393:=0
def tw8703507645426630604:=0
def tw16663974292734235171:=0
def tw10386680253050752115:=0
def tw5936971563667665811:=0
def tw6529896186076003247:=0
def tw6037066374485228198:=0
def tw18358636807043612145:=0
def tw3874738446663849795:=0
def tw3870208806370430531:=0
def tw14799276977115270033:=0
def tw3591357341182270534:=0
def tw6974060948612835615:=0
def tw7777459935237258576:=0
def tw17532090057212263067:=0
def tw16171986433109840800:=0
def tw8986215292676106448:=0
def tw16813072752656242305:=0
def tw2698993232235349354:=0
def tw9474015246496860869:=0
def tw15098456868330871503:=0
def tw16645298078180942844:=0
def tw1424085663368954826:=0
def tw7284110722354592362:=0
def tw1623124093740956973:=0
def tw1824003072402419984:=0
def tw8883284302155057417:=0
def tw14303557197913974315:=0
def tw6179149531440244795:=0
def tw4976942455104252719:=0
def tw820355498415745330:=0
def tw11414295557333778245:=0
def tw2622814391880199501:=0
def tw6665131441334222952:=0
def tw43194867669245312:=0
def tw9466816909315426350:=0
def tw16842450197306852625:=0
def tw7795556047758456840:=0
def tw18168108871387907611:=0
def tw16694793931534850343:=0
def tw10575137027332190791:=0
def tw1489831184485923197:=0
def tw4847731799704070821:=0
def tw5820369062238756928:=0
def tw3320638682925955862:=0
def tw3924841210108627106:=0
def tw5423677808507884852:=0
def tw17198246260644027162:=0
def tw2178742069459843816:=0
def tw581277013187625419:=0
def tw10973124984879167580:=0
def tw2346864863953414972:=0
def tw9540246305752049424:=0
def tw7455236689983401506:=0
def tw15988610839426894919:=0
def tw12682216372658741107:=0
def tw14033567086829148006:=0
def tw18188252330301003403:=0
def tw13378876419349769498:=0
def tw6725840758698864507:=0
def tw16520389529753825395:=0
def tw7009094471439349419:=0
def tw2190351197551644469:=0
def tw6345470350096044451:=0
def tw2460118875859134246:=0
def tw17639714700291708175:=0
def tw13789117946657755904:=0
def tw2235116006415025506:=0
def tw4682644334841341437:=0
def tw16698122577526703255:=0
def tw8133086168033712707:=0
def tw2687150777408704350:=0
def tw11580158035555601746:=0
def tw9627270993710320473:=0
def tw133105058068833464:=0
def tw1223482420358949868:=0
def tw6855406961109191713:=0
def tw5199114690397608295:=0
def tw15439732806054283202:=0
def tw2769098990971593583:=0
def tw11105684352991250516:=0
def tw6530531163154637519:=0
def tw2629907425725071133:=0
def tw3854510070863321464:=0
def tw2659274375800201940:=0
def tw9411463618139520143:=0
def tw11301984054427132803:=0
def tw14741865693374383984:=0
def tw10711762287817338121:=0
def tw16445212776431085489:=0
end PySem.W.Fast
set_option maxRecDepth 100000 in
set_option maxHeartbeats 0 in
theorem PySem.Challenge.cw_plainglass_k07_whole_any_bytes_holds : PySem.Challenge.rw_plainglass_k07_whole_any_bytes.Holds := by
 w_on;o_law;k_head;(case hw=>w_witness2)
 k_fill
 refine L2.plainglass_k07_whole_any_bytes.walk (l:=PySem.Challenge.rw_plainglass_k07_whole_any_bytes) rfl rfl (fun w h Y=>PySem.W.kIn_of Y) ?F
 case F=>
  intro w mg fa h KX G hmg
  refine' L2.plainglass_k07_whole_any_bytes.all_mk KX G hmg (L2.E.dz ?a0 ?l0 ?c0 ?k0) (L2.E.dz ?a1 ?l1 ?c1 ?k1) (L2.E.dz ?a2 ?l2 ?c2 ?k2) (L2.E.dz ?a3 ?l3 ?c3 ?k3) (L2.E.dz ?a4 ?l4 ?c4 ?k4) (L2.E.dz ?a5 ?l5 ?c5 ?k5) (L2.E.dz ?a6 ?l6 ?c6 ?k6) (L2.E.dz ?a7 ?l7 ?c7 ?k7) (L2.E.dz ?a8 ?l8 ?c8 ?k8) (L2.E.dz ?a9 ?l9 ?c9 ?k9) (L2.E.dz ?a10 ?l10 ?c10 ?k10) (L2.E.dz ?a11 ?l11 ?c11 ?k11) (L2.E.dz ?a12 ?l12 ?c12 ?k12) (L2.E.dz ?a13 ?l13 ?c13 ?k13) (L2.E.dz ?a14 ?l14 ?c14 ?k14) (L2.E.dz ?a15 ?l15 ?c15 ?k15) (L2.E.dz ?a16 ?l16 ?c16 ?k16) (L2.E.dz ?a17 ?l17 ?c17 ?k17) (L2.E.dz ?a18 ?l18 ?c18 ?k18) (L2.E.dz ?a19 ?l19 ?c19 ?k19) (L2.E.dz ?a20 ?l20 ?c20 ?k20) (L2.E.dz ?a21 ?l21 ?c21 ?k21) (L2.E.dz ?a22 ?l22 ?c22 ?k22) (L2.E.dz ?a23 ?l23 ?c23 ?k23) (L2.E.dz ?a24 ?l24 ?c24 ?k24) (L2.E.dz ?a25 ?l25 ?c25 ?k25) (L2.E.dz ?a26 ?l26 ?c26 ?k26) (L2.E.dz ?a27 ?l27 ?c27 ?k27) (L2.E.dz ?a28 ?l28 ?c28 ?k28) (L2.E.dz ?a29 ?l29 ?c29 ?k29) (L2.E.dz ?a30 ?l30 ?c30 ?k30) (L2.E.dz ?a31 ?l31 ?c31 ?k31) (L2.E.dz ?a32 ?l32 ?c32 ?k32) (L2.E.dz ?a33 ?l33 ?c33 ?k33) (L2.E.dz ?a34 ?l34 ?c34 ?k34) (L2.E.dz ?a35 ?l35 ?c35 ?k35) (L2.E.dz ?a36 ?l36 ?c36 ?k36) (L2.E.dz ?a37 ?l37 ?c37 ?k37) ?a38 ?l38 ?c38 ?k38 ?a39 ?i39 ?l39 ?c39 ?k39 ?a40 ?i40 ?l40 ?c40 ?k40 ?a41 ?i41 ?l41 ?c41 ?k41 ?a42 ?i42 ?l42 ?c42 ?k42 ?a43 ?i43 ?l43 ?c43 ?k43 ?z0 ?z1 ?z2 ?z3 ?z4 ?z5 ?z6 ?z7 ?ca0 ?pg0 ?hd0 ?po0 ?sa0 ?mk0 ?kc0 ?na0_0 ?va0 ?vl0 ?va1 ?va2 ?va3 ?va4 ?va5 ?va6 ?va7 ?va8 ?va9 ?va10 ?va11 ?va12 ?va13 ?va14 ?va15 ?va16 ?va17 ?va18 ?vl18 ?va19 ?vl19 ?wl19_0 ?wl19_1 ?wl19_2 ?vm19 ?va20 ?vl20 ?vm20 ?va21 ?va22 ?vl22 ?va23 ?vl23
  (case ca0|a0|l0|c0|k0|a1|l1|c1|k1|a2|l2|c2|k2|a3|l3|c3|k3|a4|l4|c4|k4|a5|l5|c5|k5|a6|l6|c6|k6|a7|l7|c7|k7|a8|l8|c8|k8|a9|l9|c9|k9|a10|l10|c10|k10|a11|l11|c11|k11|a12|l12|c12|k12|a13|l13|c13|k13|a14|l14|c14|k14|a15|l15|c15|k15|a16|l16|c16|k16|a17|l17|c17|k17|a18|l18|c18|k18|a19|l19|c19|k19|a20|l20|c20|k20|a21|l21|c21|k21|a22|l22|c22|k22|a23|l23|c23|k23|a24|l24|c24|k24|a25|l25|c25|k25|a26|l26|c26|k26|a27|l27|c27|k27|a28|l28|c28|k28|a29|l29|c29|k29|a30|l30|c30|k30|a31|l31|c31|k31|a32|l32|c32|k32|a33|l33|c33|k33|a34|l34|c34|k34|a35|l35|c35|k35|a36|l36|c36|k36|a37|l37|c37|k37|a38|l38|c38|k38|a39|i39|l39|c39|k39|a40|i40|l40|c40|k40|a41|i41|l41|c41|k41|a42|i42|l42|c42|k42|a43|i43|l43|c43|k43|z0|z1|z2|z3|z4|z5|z6|z7|pg0|hd0|po0|sa0|mk0|kc0|na0_0|va0|vl0|va1|va2|va3|va4|va5|va6|va7|va8|va9|va10|va11|va12|va13|va14|va15|va16|va17|va18|vl18|va19|vl19|wl19_0|wl19_1|wl19_2=>k_is)
  (case vm19=>first|decide|rfl)
  (case va20|vl20=>k_is)
  (case vm20=>first|decide|rfl)
  (case va21|va22|vl22|va23|vl23=>k_is)
