import PyProof.Rows.All
import Wide.All
import OpenK.AllK
import Wide.FinOn
import Lean
import PyProof.EqAt
import PyProof.EqKinds
import PyProof.TupleCall
import PySem.Challenge.RW_plainglass_k44_texts_too_deep
set_option Elab.async false
set_option linter.all false
set_option compiler.extract_closed false
set_option maxRecDepth 100000
namespace L2
open PySem PySem.Spec PyProof.Rows
abbrev Key:=Sum Int Str
noncomputable def Iy:Key->Value->Bool
 |.inl k,v=>Value.isInt k v
 |.inr x,v=>Value.isStrOf x v
noncomputable def NP(w:World):Key->Int
 |.inl k=>hashInt k
 |.inr x=>hashStr w x
theorem eG:∀{k:Key} {v:Value},Iy k v=true->(∃ i t,k=Sum.inl i /\ v=Value.int i t) \/ (∃ x t,k=Sum.inr x /\ v=Value.str x t)
 | .inl i,v,h=>by
   obtain⟨t,e⟩:=Value.isInt_shape (k:=i) (v:=v) h;exact .inl ⟨i,t,rfl,e⟩
 | .inr x,v,h=>by
   obtain⟨t,e⟩:=Value.isStrOf_shape (x:=x) (v:=v) h;exact .inr ⟨x,t,rfl,e⟩
theorem Ja(a b:Int):decide ((Sum.inl a:Key)=Sum.inl b)=(a==b):=by
 by_cases e:a=b
 . subst e;simp
 . have h:¬ (Sum.inl a:Key)=Sum.inl b:=fun q=>e (Sum.inl.inj q)
   rw[decide_eq_false h]
   exact(beq_eq_false_iff_ne.mpr e).symm
theorem Li(a b:Str):decide ((Sum.inr a:Key)=Sum.inr b)=decide (a=b):=by
 by_cases e:a=b
 . subst e;simp
 . have h:¬ (Sum.inr a:Key)=Sum.inr b:=fun q=>e (Sum.inr.inj q)
   rw[decide_eq_false h,decide_eq_false e]
theorem K7(a:Int)(b:Str):decide ((Sum.inl a:Key)=Sum.inr b)=false:=decide_eq_false (fun q=>nomatch q)
theorem KZ(a:Str)(b:Int):decide ((Sum.inr a:Key)=Sum.inl b)=false:=decide_eq_false (fun q=>nomatch q)
noncomputable def yr(prog:Program)(w:World):PySem.KeyKind prog w Key where
 is:=Iy
 hash:=NP w
 inj:=fun v a b ha hb=>by
  rcases eG ha with⟨i,t,rfl,rfl⟩|⟨x,t,rfl,rfl⟩
  . rcases eG hb with⟨j,u,rfl,e⟩|⟨y,u,rfl,e⟩
    . injection e with e1 _;rw[e1]
    . exact nomatch e
  . rcases eG hb with⟨j,u,rfl,e⟩|⟨y,u,rfl,e⟩
    . exact nomatch e
    . injection e with e1 _;rw[e1]
 byValue:=fun k v h=>by
  rcases eG h with⟨i,t,rfl,rfl⟩|⟨x,t,rfl,rfl⟩<;>rfl
 pyHash:=fun hv h=>by
  rcases eG hv with⟨i,t,rfl,rfl⟩|⟨x,t,rfl,rfl⟩
  . exact wpAny_pyHash_int h
  . exact wpAny_pyHash_str h
 eqBool:=fun hu hv h=>by
  rcases eG hu with⟨i,t,rfl,rfl⟩|⟨x,t,rfl,rfl⟩
  . rcases eG hv with⟨j,u,rfl,rfl⟩|⟨y,u,rfl,rfl⟩
    . rw[Ja]at h;exact wpAny_eqBool_int h
    . rw[K7]at h;exact SeqAt.EqAt.int_str i t y u _ _ _ _ h
  . rcases eG hv with⟨j,u,rfl,rfl⟩|⟨y,u,rfl,rfl⟩
    . rw[KZ]at h;exact SeqAt.EqAt.str_int x t j u _ _ _ _ h
    . rw[Li]at h;exact wpAny_eqBool_str h
 «strs»:=fun k x t v h=>by
  rcases eG h with⟨i,u,rfl,e⟩|⟨y,u,rfl,e⟩
  . exact nomatch e
  . injection e with e1 _
    subst e1
    cases v<;>rfl
inductive V where
 |non|bl (b:Bool)|int (i:Int)|str (x:Str)|byt (b:Array UInt8)|flt (b:UInt64)|ref (a:Addr)|ty (n:String)
 deriving DecidableEq
noncomputable def RelV:V->Value->Prop
 |.non,u=>u=Value.none
 |.bl b,u=>u=Value.bool b
 |.int i,u=>∃ t,u=Value.int i t
 |.str x,u=>∃ t,u=Value.str x t
 |.byt b,u=>∃ t,u=Value.bytes b t
 |.flt b,u=>∃ t,u=Value.float b t
 |.ref a,u=>u=Value.ref a
 |.ty n,u=>u=Value.type n
abbrev Vals:List V->List Value->Prop:=Paired RelV
theorem Vals.length{xs:List V}{us:List Value}(r:Vals xs us):xs.length=us.length:=Paired.length r
theorem Vals.get:∀{xs:List V} {us:List Value} {i:Nat} {x:V},Vals xs us->xs[i]?=some x->∃ u,us[i]?=some u /\ RelV x u
 |_,_,_,_,.nil,e=>by simp at e
 |_,_,0,_,.cons r _,e=>by simp at e;subst e;exact⟨_,rfl,r⟩
 | _,_,i+1,x,.cons _ t,e=>by
   obtain⟨u,h1,h2⟩:=Vals.get (i:=i) (x:=x) t (by simpa using e)
   exact⟨u,by simpa using h1,h2⟩
theorem Vals.set{x:V}{u:Value}(r:RelV x u):∀{xs:List V} {us:List Value} (i:Nat),Vals xs us->Vals (xs.set i x) (us.set i u)
 |_,_,_,.nil=>.nil
 |_,_,0,.cons _ t=>.cons r t
 |_,_,i+1,.cons q t=>.cons q (Vals.set r i t)
theorem Vals.append:∀{xs ys:List V} {us ws:List Value},Vals xs us->Vals ys ws->Vals (xs++ys) (us++ws)
 |_,_,_,_,.nil,s=>s
 |_,_,_,_,.cons r t,s=>.cons r (Vals.append t s)
theorem Vals.take:∀{xs:List V} {us:List Value} (n:Nat),Vals xs us->Vals (xs.take n) (us.take n)
 |_,_,0,_=>.nil
 |_,_,_+1,.nil=>.nil
 |_,_,n+1,.cons r t=>.cons r (Vals.take n t)
theorem Vals.drop:∀{xs:List V} {us:List Value} (n:Nat),Vals xs us->Vals (xs.drop n) (us.drop n)
 |_,_,0,r=>r
 |_,_,_+1,.nil=>.nil
 |_,_,n+1,.cons _ t=>Vals.drop n t
noncomputable def bO:Option V->Option Value->Prop
 |some v,some u=>RelV v u
 |none,none=>True
 |_,_=>False
noncomputable def KV{κ:Type}:List (κ×V)->List (κ×Value)->Prop:=Paired fun (p:κ×V) (q:κ×Value)=>p.1=q.1 /\ RelV p.2 q.2
noncomputable def kV:Key->V
 |.inl i=>.int i
 |.inr x=>.str x
inductive HO where
  |lst (xs:List V)
  |tup (xs:List V)
  |dK (kvs:List (Key×V))|dT (kvs:List (List Key×V))
  |set (S:Int->Bool) (n:Nat)
  |ins (C dx:Addr) (fs:List (Str×V))
  |own (x:Addr)
  |xd (fs:List (Str×V))
  |met (f x:Addr)
  |rng (lo hi:Int)
  |frz (o:Obj) (u:HO)
  |tbl (ps:Array Value)
  |ext (φ:Heap->Prop)
abbrev Hp:=Addr->Option HO
noncomputable def upd(H:Hp)(a:Addr)(o:HO):Hp:=fun b=>if b=a then some o else H b
theorem bz{H:Hp}{a:Addr}{o:HO}:upd H a o a=some o:=by unfold upd;rw[if_pos rfl]
theorem bf{H:Hp}{a b:Addr}{o:HO}(h:b≠a):upd H a o b=H b:=by unfold upd;rw[if_neg h]
theorem cy{H:Hp}{a b:Addr}{o:HO}(h:H a=some o)(h':H b=none):a≠b:=by
 intro e;subst e;rw[h]at h';cases h'
section
variable(P:Program)(w:World)
noncomputable def iC(H:Hp)(h:Heap)(a:Addr):HO->Prop
 |.lst xs=>xs.length<=sizeLine /\ ∃(its:List Value) (n:Nat),Vals xs its /\ h.get? a=some { cls:=.type "list",data:=.seq its.toArray n }
 |.tup xs=>xs.length<=sizeLine /\ ∃ its:List Value,Vals xs its /\ IsTup h a its.toArray
 |.dK kvs=>kvs.length<=sizeLine /\ (a==sysModules)=false /\ ∃ vs,KV kvs vs /\ h.DictOf (yr P w) a vs
 | .dT kvs=>kvs.length <= sizeLine /\ (a == sysModules) = false /\ ∃ xs:List (List Key × Addr × Value),
    Paired (fun (p:List Key×V) (q:List Key×Addr×Value)=>p.1=q.1 /\ H q.2.1=some (.tup (p.1.map kV)) /\ RelV p.2 q.2.2) kvs xs /\
    ∃ o es ep,h.get? a=some o /\ o.ExactDict /\ o.data=.dict es ep /\ es.toList=xs.map (entryOfKey (tupleKind (yr P w))) /\ (xs.map (·.1)).Nodup
 |.set S n=>h.SetOf (intKind P w) a S n
 | .ins C dx fs=>H dx = some (.own a) /\ fs.length <= 1000 /\ dx ≠ a /\ h.get? a = some (PySem.W.instObj C dx) /\
    ∃ mA,h.Ns1 dx mA /\ (∀ f,bO (fs.lookup f) (mA f)) /\ PySem.Within mA (fs.map (·.1))
 |.own _=>∃ o,h.get? a=some o
 |.xd fs=>∃ mA,h.Ns1 a mA /\ ∀ f,bO (fs.lookup f) (mA f)
 |.rng lo hi=>∃ t u v,h.get? a=some { cls:=.type "range",data:=.fields #[.int lo t,.int hi u,.int 1 v] }
 |.frz o u=>h.get? a=some o /\ iC H h a u
 |.tbl ps=>h.get? a=some { cls:=.none,data:=.fields ps }
 |.met f x=>h.get? a=some (PySem.W.methodObj (.ref f) (.ref x))
 |.ext φ=>φ h /\ (∃ o,h.get? a=some o) /\ ∀ h1 h2:Heap,φ h1->(∀ o,h1.get? a=some o->h2.get? a=some o)->φ h2
noncomputable def HOk(H:Hp)(h:Heap):Prop:=∀ a o,H a=some o->iC P w H h a o
end
section
variable{P:Program}{w:World}{H H':Hp}{h h':Heap}{a:Addr}{o:HO}
theorem iC.lt(x:iC P w H h a o):a<h.objs.size:=by
 cases o with
 |lst xs=>obtain⟨_,_,_,_,e⟩:=x;exact Heap.lt_size e
 |tup xs=>obtain⟨_,_,_,p⟩:=x;exact p.lt
 |dK kvs=>obtain⟨_,_,_,_,o,_,_,e,_⟩:=x;exact Heap.lt_size e
 |dT kvs=>obtain⟨_,_,_,_,o,_,_,e,_⟩:=x;exact Heap.lt_size e
 |set S n=>obtain⟨o,_,_,_,e,_⟩:=x;exact Heap.lt_size e
 |ins C dx fs=>obtain⟨_,_,_,e,_⟩:=x;exact Heap.lt_size e
 |own y=>obtain⟨_,e⟩:=x;exact Heap.lt_size e
 |xd fs=>obtain⟨_,⟨_,_,_,e,_⟩,_⟩:=x;exact Heap.lt_size e
 |rng lo hi=>obtain⟨_,_,_,e⟩:=x;exact Heap.lt_size e
 |frz ob u=>obtain⟨e,_⟩:=x;exact Heap.lt_size e
 |tbl ps=>exact Heap.lt_size (show h.get? a=some _ from x)
 |met f y=>exact Heap.lt_size (show h.get? a=some _ from x)
 |ext φ=>obtain⟨_,⟨_,e⟩,_⟩:=x;exact Heap.lt_size e
theorem Paired.KA{α β:Type}{F G:α->β->Prop}:∀{l₁:List α} {l₂:List β},Paired F l₁ l₂->(∀ a b,F a b->G a b)->Paired G l₁ l₂
 |_,_,.nil,_=>.nil
 |_,_,.cons r t,f=>.cons (f _ _ r) (Paired.KA t f)
theorem iC.qE(x:iC P w H h a o)(k:∀ b u,(b=a \/ H b=some (.own a))->h.get? b=some u->h'.get? b=some u)
  (ho:∀ b,H b=some (.own a)->H' b=some (.own a)) (ht:∀ b xs,H b=some (.tup xs)->H' b=some (.tup xs)):iC P w H' h' a o:=by
 induction o with
 |lst xs=>obtain⟨z,its,n,r,e⟩:=x;exact⟨z,its,n,r,k _ _ (.inl rfl) e⟩
 |tup xs=>obtain⟨z,its,r,ob,e,c⟩:=x;exact⟨z,its,r,ob,k _ _ (.inl rfl) e,c⟩
 |dK kvs=>obtain⟨z,y,vs,r,ob,es,ep,e,c⟩:=x;exact⟨z,y,vs,r,ob,es,ep,k _ _ (.inl rfl) e,c⟩
 | dT kvs=>
   obtain⟨z,y,xs,r,ob,es,ep,e,c⟩:=x
   exact⟨z,y,xs,Paired.KA r fun p q z=>⟨z.1,ht _ _ z.2.1,z.2.2⟩,ob,es,ep,k _ _ (.inl rfl) e,c⟩
 |set S n=>obtain⟨ob,es,ep,t,e,c⟩:=x;exact⟨ob,es,ep,t,k _ _ (.inl rfl) e,c⟩
 | ins C dx fs=>
   obtain⟨d,z,ne,e,mA,⟨od,es,ep,e2,c⟩,r⟩:=x
   exact⟨ho _ d,z,ne,k _ _ (.inl rfl) e,mA,⟨od,es,ep,k _ _ (.inr d) e2,c⟩,r⟩
 |own y=>obtain⟨ob,e⟩:=x;exact⟨ob,k _ _ (.inl rfl) e⟩
 |xd fs=>obtain⟨mA,⟨od,es,ep,e,c⟩,r⟩:=x;exact⟨mA,⟨od,es,ep,k _ _ (.inl rfl) e,c⟩,r⟩
 |rng lo hi=>obtain⟨t,u,v,e⟩:=x;exact⟨t,u,v,k _ _ (.inl rfl) e⟩
 |frz ob u ih=>obtain⟨e,q⟩:=x;exact⟨k _ _ (.inl rfl) e,ih q⟩
 | tbl ps=>
   have e:h.get? a=some { cls:=.none,data:=.fields ps }:=x
   show h'.get? a=some { cls:=.none,data:=.fields ps };exact k a _ (.inl rfl) e
 | met f y=>
   have e:h.get? a=some (PySem.W.methodObj (.ref f) (.ref y)):=x
   show h'.get? a=some (PySem.W.methodObj (.ref f) (.ref y));exact k a _ (.inl rfl) e
 |ext φ=>obtain⟨p,⟨o,e⟩,st⟩:=x;exact⟨st _ _ p fun o q=>k _ _ (.inl rfl) q,⟨o,k _ _ (.inl rfl) e⟩,st⟩
theorem HOk.lt(x:HOk P w H h)(e:H a=some o):a<h.objs.size:=(x a o e).lt
theorem HOk.fresh(x:HOk P w H h)(e:h.objs.size<=a):H a=none:=by
 cases q:H a with
 |none=>rfl
 |some u=>exact absurd (Nat.lt_of_lt_of_le (x.lt q) e) (Nat.lt_irrefl _)
theorem HOk.kept(x:HOk P w H h)(k:∀ b u,h.get? b=some u->h'.get? b=some u):HOk P w H h':=fun a o e=>
 (x a o e).qE (fun b u _ q=>k b u q) (fun _ q=>q) fun _ _ q=>q
theorem HOk.laid(x:HOk P w H h)(k:∀ b u,h.get? b=some u->h'.get? b=some u)(hp:h.objs.size<=a)(new:iC P w (upd H a o) h' a o):HOk P w (upd H a o) h':=fun b u e=>by
 have hn:=x.fresh hp
 by_cases hb:b=a
 . subst hb;rw[bz]at e;cases e;exact new
 . rw[bf hb]at e
   exact(x b u e).qE (fun c v _ q=>k c v q) (fun c q=>by rw[bf (cy q hn)];exact q) fun c xs q=>by rw[bf (cy q hn)];exact q
end
noncomputable def Rd(H:Hp)(a:Addr)(u:HO):Prop:=H a=some u \/ ∃ o,H a=some (.frz o u)
theorem Rd.ok{P:Program}{w:World}{H:Hp}{h:Heap}{a:Addr}{u:HO}(r:Rd H a u)(x:HOk P w H h):iC P w H h a u:=by
 rcases r with r|⟨o,r⟩
 . exact x a u r
 . obtain⟨_,q⟩:=x a _ r;exact q
noncomputable def Mut:Option HO->Prop
 |some (.lst _)=>True
 |some (.dK _)=>True
 |some (.dT _)=>True
 |some (.set _ _)=>True
 |some (.ins _ _ _)=>True
 |some (.ext _)=>True
 |_=>False
section
variable{P:Program}{w:World}{H:Hp}{h h':Heap}{x e:Addr}{o':HO}
theorem HOk.write(ok:HOk P w H h)(mu:Mut (H x))(he:e=x \/ H e=some (.own x))(k:∀ b u,b≠e->h.get? b=some u->h'.get? b=some u)(heo:∃ u,h'.get? e=some u)
  (new:iC P w (upd H x o') h' x o'):HOk P w (upd H x o') h':=fun b u q=>by
 have nown:∀ c y,H c=some (.own y)->c≠x:=fun c y r z=>by subst z;rw[r]at mu;exact mu
 have ntup:∀ c xs,H c=some (.tup xs)->c≠x:=fun c xs r z=>by subst z;rw[r]at mu;exact mu
 by_cases hb:b=x
 . subst hb;rw[bz]at q;cases q;exact new
 . rw[bf hb]at q
   by_cases hbe:b=e
   . have q':H b = some (.own x):=by
      rcases he with z|z
      . exact absurd (hbe.trans z) hb
      . rw[hbe];exact z
     rw[q]at q';cases q';obtain⟨v,hv⟩:=heo
     exact⟨v,by rw[hbe];exact hv⟩
   . refine(ok b u q).qE (fun c v hc r=>k c v ?_ r) (fun c r=>by rw[bf (nown c b r)];exact r) fun c xs r=>by rw[bf (ntup c xs r)];exact r
     rcases hc with rfl|hc
     . exact hbe
     . rintro rfl
       rcases he with z|z
       . exact nown c b hc z
       . rw[hc]at z;cases z;exact hb rfl
end
structure Un(fs ex:List Addr)(H H':Hp)(h h':Heap):Prop where
 keep:∀ b o,h.get? b=some o->H b=none->b∉fs->b∉ex->h'.get? b=some o
 slot:∀ b o,h.get? b=some o->H b=none->b∈fs->b∉ex->∃ sl,h'.get? b=some { o with slots:=sl }
 free:∀ b o,h.get? b=some o->H b=none->b∉ex->H' b=none
 there:∀ b o,h.get? b=some o->b∉ex->∃ o',h'.get? b=some o'
 tups:∀ b xs,H b=some (.tup xs)->H' b=some (.tup xs)
 frzs:∀ b o u,H b=some (.frz o u)->H' b=some (.frz o u)
 tbls:∀ b ps,H b=some (.tbl ps)->∃ more,H' b=some (.tbl (ps++more))
section
variable{fs fs' ex ex':List Addr}{H H1 H2:Hp}{h h1 h2 h':Heap}{a x e:Addr}{o:HO}
theorem Un.any(u:Un fs ex H H1 h h1){b:Addr}{ob:Obj}(q:h.get? b=some ob)(n:H b=none)(hx:b∉ex):∃ sl,h1.get? b=some { ob with slots:=sl }:=by
 by_cases hb:b∈fs
 . exact u.slot b ob q n hb hx
 . exact⟨ob.slots,u.keep b ob q n hb hx⟩
theorem Un.kept(k:∀ b u,h.get? b=some u->h'.get? b=some u):Un fs ex H H h h':=
 ⟨fun b ob q _ _ _=>k b ob q,fun b ob q _ _ _=>⟨ob.slots,k b ob q⟩,fun _ _ _ n _=>n,fun b ob q _=>⟨ob,k b ob q⟩,fun _ _ q=>q,fun _ _ _ q=>q,fun _ ps q=>⟨#[],by rw[q];simp⟩⟩
theorem Un.refl:Un fs ex H H h h:=Un.kept fun _ _ q=>q
theorem Un.laid(k:∀ b u,h.get? b=some u->h'.get? b=some u)(hp:h.objs.size<=a)(hn:H a=none):Un fs ex H (upd H a o) h h' where
 keep:=fun b u q _ _ _=>k b u q
 slot:=fun b u q _ _ _=>⟨u.slots,k b u q⟩
 free:=fun b u q n _=>by rw[bf (Nat.ne_of_lt (Nat.lt_of_lt_of_le (Heap.lt_size q) hp))];exact n
 there:=fun b u q _=>⟨u,k b u q⟩
 tups:=fun b xs q=>by rw[bf (cy q hn)];exact q
 frzs:=fun b u xs q=>by rw[bf (cy q hn)];exact q
 tbls:=fun b ps q=>⟨#[],by rw[bf (cy q hn),q];simp⟩
theorem Un.write(mu:Mut (H x))(he:e=x \/ H e=some (.own x))(k:∀ b u,b≠e->h.get? b=some u->h'.get? b=some u)(heo:∃ u,h'.get? e=some u):Un fs ex H (upd H x o) h h':=by
 have hx:∀ b,H b=none->b≠x:=fun b n z=>by subst z;rw[n]at mu;exact mu
 have hb:∀ b,H b=none->b≠e:=fun b n z=>by
  subst z
  rcases he with r|r
  . exact hx b n r
  . rw[n]at r;cases r
 have hm:∀ b u,H b=some u->¬ Mut (some u)->b≠x:=fun b u q nm z=>by subst z;rw[q]at mu;exact nm mu
 refine⟨fun b u q n _ _=>k b u (hb b n) q,fun b u q n _ _=>⟨u.slots,k b u (hb b n) q⟩,fun b u q n _=>by rw[bf (hx b n)];exact n,fun b u q _=>?_,
  fun b xs q=>by rw[bf (hm b _ q fun z=>z)];exact q,fun b u xs q=>by rw[bf (hm b _ q fun z=>z)];exact q,fun b ps q=>⟨#[],by rw[bf (hm b _ q fun z=>z),q];simp⟩⟩
 by_cases hbe:b=e
 . subst hbe;exact heo
 . exact⟨u,k b u hbe q⟩
end
noncomputable def trk(h:Heap)(H:Hp):List Addr:=(List.range h.objs.size).filter fun a=>(H a).isSome
noncomputable def yu(h:Heap)(H:Hp):Heap:=PySem.W.hideAll h (trk h H)
theorem CL(h:Heap)(H:Hp):(yu h H).objs.size=h.objs.size:=PySem.W.hideAll_size _ _
theorem ER{h:Heap}{H:Hp}{b:Addr}{o:Obj}(e:h.get? b=some o)(n:H b=none):(yu h H).get? b=some o:=
 PySem.W.hideAll_get _ e fun hm=>by
  have q:(H b).isSome=true:=(List.mem_filter.mp hm).2
  rw[n]at q;simp at q
theorem Gx{h:Heap}{H:Hp}{b:Addr}{o:Obj}(e:(yu h H).get? b=some o):h.get? b=some o /\ H b=none:=by
 have e':h.get? b=some o:=PySem.W.of_hideAll (trk h H) e
 refine⟨e',?_⟩
 cases q:H b with
 |none=>rfl
 | some x=>
   have hm:b∈trk h H:=List.mem_filter.mpr ⟨List.mem_range.mpr (Heap.lt_size e'),by simp[q]⟩
   have z:(yu h H).get? b=none:=PySem.W.hideAll_none (trk h H) hm
   rw[z]at e;cases e
noncomputable def F8(g h:Heap)(L:Addr):List (Addr×Obj):=(List.range h.objs.size).filterMap fun a=>if a=L \/ (g.get? a).isSome=true then none else(h.get? a).map fun o=>(a,o)
noncomputable def rest(g h:Heap)(L d:Addr):List (Addr×Obj):=(F8 g h L).filter fun p=>decide (p.1≠d)
structure Mod(K:PySem.W.Frag)(mg:Str->Option Value)(base:Heap):Prop where
 kin:K.In base
 glob:base.Ns mainGlobals mg
 blt:∃ mb,base.Ns builtinsNs mb /\ ∀ x:Str,x ≠ "__name__" -> mb x=bootBuiltins x
 nolimit:base.NoLimit
structure Cx where
 prog:Program
 w:World
 K:PySem.W.Frag
 mg:Str->Option Value
 base:Heap
 A:Around
 N:List Str
 s₀:Shared
 H₀:Hp
 env:Env
 outer:List Env
 stack:List Env
 ex:List Addr
 fn:Str->Bool
 calm:Bool
 pn:List (Addr×Obj)
 xe:Value->Shared->Prop
noncomputable def frs(l:List Env):List Addr:=l.filterMap (·.frame)
noncomputable abbrev Cx.fs(X:Cx):List Addr:=frs X.outer
noncomputable def Vis(sc:Scope)(x:Str):Prop:=sc.names.lookup x=some .local \/ sc.names.lookup x=some .cell \/ sc.names.lookup x=some .free
noncomputable def Loc(sc:Scope)(x:Str):Prop:=sc.names.lookup x=some .local \/ sc.names.lookup x=some .cell
noncomputable def Look(env:Env)(h:Heap)(m:Str->Option Value)(x:Str)(u:Value):Prop:=
 (env.kindOf x=some .local /\ m x=some u) \/ ((env.kindOf x=some .cell \/ env.kindOf x=some .free) /\ ∃ c,env.cells.lookup x=some c /\ h.IsCell c (some u))
structure Cx.Ok(X:Cx):Prop where
 mod:Mod X.K X.mg X.base
 kind:X.env.scope.kind=.function
 glob:X.env.globals=mainGlobals
 blt:X.env.builtins=builtinsNs
 above:X.s₀.heap.objs.size<=X.env.locals
 inj:∀ x y c,X.env.cells.lookup x=some c->X.env.cells.lookup y=some c->x=y
 has:∀ x,(X.env.kindOf x=some .cell \/ X.env.kindOf x=some .free)->∃ c,X.env.cells.lookup x=some c
 cab:∀ x c,X.fn x=true->X.env.cells.lookup x=some c->X.s₀.heap.objs.size<=c
 hd:X.calm=true->X.A.handled=none
 frames:X.A.frames=some X.stack
 stk:X.stack=X.outer \/ (X.stack=X.env ::X.outer /\ X.env.frame=some X.env.locals)
 exf:∀ b∈X.ex,b≠X.env.locals /\ ∀ x c,X.env.cells.lookup x=some c->c≠b
 bs:∀ b o,X.base.get? b=some o->X.s₀.heap.get? b=some o /\ X.H₀ b=none
 bsz:X.base.objs.size<=X.s₀.heap.objs.size
 noex:∀ b o,X.base.get? b=some o->b∉X.ex
 exfs:∀ b∈X.ex,b∉X.fs
 tV:X.s₀.heap.FunFrames X.base X.outer
 frf:∀ b∈X.fs,X.H₀ b=none
structure Inv(X:Cx)(pins:List (Addr×Obj))(σ:List (Option V))(H:Hp)(s:Shared):Prop where
 ok:X.Ok
 os:s.os=X.s₀.os
 bare:AllBare s.gens
 base:Un X.fs X.ex X.H₀ H X.s₀.heap s.heap
 loc:∃ m,s.heap.Ns X.env.locals m /\ ∀(i:Nat) (x:Str) (v:V),X.N[i]?=some x->σ[i]?=some (some v)->Vis X.env.scope x->∃ u,RelV v u /\ Look X.env s.heap m x u
 cell:∀ x c,X.env.cells.lookup x=some c->∃ v,s.heap.IsCell c v
 free:H X.env.locals=none
 freeC:∀ x c,X.env.cells.lookup x=some c->H c=none
 pin:∀ p∈X.pn++pins,s.heap.get? p.1=some p.2 /\ H p.1=none /\ p.1≠X.env.locals /\ p.1∉X.fs /\ ∀ v,p.2.data≠.cell v
 hok:HOk X.prog X.w H s.heap
 len:σ.length=X.N.length
section
variable{X:Cx}{pins:List (Addr×Obj)}{σ:List (Option V)}{H H':Hp}{s:Shared}{h':Heap}
theorem Cx.Ok.NG(ok:X.Ok){b:Addr}{o:Obj}(e:X.base.get? b=some o):b∉X.fs:=fun hb=>by
 have:=(ok.tV.mem hb).1;rw[e]at this;cases this
theorem Inv.bs(I:Inv X pins σ H s):∀ b o,X.base.get? b=some o->s.heap.get? b=some o /\ H b=none:=fun b o e=>
 ⟨I.base.keep b o (I.ok.bs b o e).1 (I.ok.bs b o e).2 (I.ok.NG e) (I.ok.noex b o e),I.base.free b o (I.ok.bs b o e).1 (I.ok.bs b o e).2 (I.ok.noex b o e)⟩
theorem Inv.bk(I:Inv X pins σ H s):∀ b o,X.base.get? b=some o->s.heap.get? b=some o:=fun b o e=>(I.bs b o e).1
theorem Inv.mod(I:Inv X pins σ H s):Mod X.K X.mg X.base:=I.ok.mod
theorem Inv.kIn(I:Inv X pins σ H s):X.K.In s.heap:=I.ok.mod.kin.keeps I.bk
theorem Inv.nolimit(I:Inv X pins σ H s):s.heap.NoLimit:=I.ok.mod.nolimit.keeps I.bk
theorem Inv.lt(I:Inv X pins σ H s):X.env.locals<s.heap.objs.size:=let ⟨_,hn,_⟩:=I.loc;hn.lt
theorem Inv.sz(I:Inv X pins σ H s):X.s₀.heap.objs.size<=s.heap.objs.size:=Nat.le_trans I.ok.above (Nat.le_of_lt I.lt)
theorem Inv.M3(I:Inv X pins σ H s){a:Addr}(h:s.heap.objs.size<=a):a∉X.fs:=fun hb=>by
 obtain⟨_,o,ho,_⟩:=I.ok.tV.mem hb;exact absurd (Nat.lt_of_lt_of_le (Heap.lt_size ho) (Nat.le_trans I.sz h)) (Nat.lt_irrefl _)
theorem Inv.cne(I:Inv X pins σ H s):∀ x c,X.env.cells.lookup x=some c->c≠X.env.locals:=fun x c e z=>by
 obtain⟨v,o,ho,hd⟩:=I.cell x c e;obtain⟨m,⟨o',es,ep,ho',hd',_⟩,_⟩:=I.loc;rw[z,ho']at ho;cases ho;rw[hd']at hd;cases hd
theorem Inv.tV(I:Inv X pins σ H s):s.heap.FunFrames X.base X.outer:=by
 have all:∀(l:List Env),(∀ b∈frs l,b∈X.fs)->X.s₀.heap.FunFrames X.base l->s.heap.FunFrames X.base l:=by
  intro l
  induction l with
  |nil=>intro _ _;trivial
  | cons env r ih=>
    intro hs hl;obtain⟨hk,⟨L,o,hf,hn,ho,hd⟩,hr⟩:=hl
    have hL:L∈X.fs:=hs L (by unfold frs;rw[List.filterMap_cons,hf];exact List.mem_cons_self)
    obtain⟨sl,e⟩:=I.base.slot L o ho (I.ok.frf L hL) hL fun z=>I.ok.exfs L z hL
    exact⟨hk,⟨L,_,hf,hn,e,hd⟩,ih (fun b hb=>hs b (by unfold frs;rw[List.filterMap_cons,hf];exact List.mem_cons_of_mem _ hb)) hr⟩
 exact all X.outer (fun _ hb=>hb) I.ok.tV
theorem Inv.stack(I:Inv X pins σ H s):s.heap.FunFrames X.base X.stack:=by
 rcases I.ok.stk with e|⟨e,hf⟩
 . rw[e];exact I.tV
 . rw[e];obtain⟨m,hn,_⟩:=I.loc;refine .cons (by rw[I.ok.kind];decide) hf hn ?_ I.tV;exact Heap.get?_none_of_le (Nat.le_trans I.ok.bsz I.ok.above)
theorem Inv.A3(I:Inv X pins σ H s):∀ b∈frs X.stack,b∈X.env.locals ::X.fs:=fun b hb=>by
 rcases I.ok.stk with e|⟨e,hf⟩
 . rw[e]at hb;exact List.mem_cons_of_mem _ hb
 . rw[e]at hb;unfold frs at hb;rw[List.filterMap_cons,hf]at hb;exact hb
theorem Inv.yB(I:Inv X pins σ H s):∀ b∈frs X.stack,H b=none:=fun b hb=>by
 rcases List.mem_cons.mp (I.A3 b hb)with e|hb
 . rw[e];exact I.free
 . obtain⟨_,o,ho,_⟩:=I.ok.tV.mem hb
   exact I.base.free b o ho (I.ok.frf b hb) fun z=>I.ok.exfs b z hb
theorem Inv.step{g':Array GenState}{t':Nat}{d':Drawn}{ch:List Addr}(I:Inv X pins σ H s)
  (hch:∀ b∈ch,(b∈X.ex \/ X.s₀.heap.objs.size<=b) /\ b≠X.env.locals /\ (∀ x c,X.env.cells.lookup x=some c->c≠b) /\ ∀ p∈X.pn++pins,p.1≠b)
  (keep:∀ b o,b≠X.env.locals->b∉X.fs->b∉ch->s.heap.get? b=some o->H b=none->h'.get? b=some o)
  (slot:∀ b o,b≠X.env.locals->b∈X.fs->b∉ch->s.heap.get? b=some o->H b=none->∃ sl,h'.get? b=some { o with slots:=sl }) (free:∀ b o,b∉ch->s.heap.get? b=some o->H b=none->H' b=none)
  (there:∀ b o,b∉ch->s.heap.get? b=some o->∃ o',h'.get? b=some o')
  (tups:∀ b xs,H b=some (.tup xs)->H' b=some (.tup xs)) (frzs:∀ b o u,H b=some (.frz o u)->H' b=some (.frz o u)) (tbls:∀ b ps,H b=some (.tbl ps)->∃ more,H' b=some (.tbl (ps++more)))
  (ns:∀ m,s.heap.Ns X.env.locals m->h'.Ns X.env.locals m) (hok:HOk X.prog X.w H' h') (hg:AllBare g'):
  Inv X pins σ H' { s with heap:=h',gens:=g',drawn:=d',toks:=t' }:=by
 have neL:∀ b o,X.s₀.heap.get? b=some o->b≠X.env.locals:=fun b o e=>Nat.ne_of_lt (Nat.lt_of_lt_of_le (Heap.lt_size e) I.ok.above)
 have neC:∀ b o,X.s₀.heap.get? b=some o->b∉X.ex->b∉ch:=fun b o e hx hb=>by
  rcases(hch b hb).1 with z|z
  . exact hx z
  . exact absurd (Nat.lt_of_lt_of_le (Heap.lt_size e) z) (Nat.lt_irrefl _)
 have cellK:∀ x c,X.env.cells.lookup x=some c->∀ v,s.heap.IsCell c v->h'.IsCell c v:=fun x c e v ⟨o,ho,hd⟩=>by
  have nch:c∉ch:=fun z=>(hch c z).2.2.1 x c e rfl
  by_cases hc:c∈X.fs
  . obtain⟨sl,q⟩:=slot c o (I.cne x c e) hc nch ho (I.freeC x c e)
    exact⟨_,q,hd⟩
  . exact⟨o,keep c o (I.cne x c e) hc nch ho (I.freeC x c e),hd⟩
 refine⟨I.ok,I.os,hg,⟨fun b o e n hb hx=>?_,fun b o e n hb hx=>?_,fun b o e n hx=>?_,fun b o e hx=>?_,fun b xs e=>tups b xs (I.base.tups b xs e),fun b o xs e=>frzs b o xs (I.base.frzs b o xs e),fun b ps e=>?_⟩,?_,fun x c e=>?_,?_,fun x c e=>?_,fun p hp=>?_,hok,I.len⟩
 . exact keep b o (neL b o e) hb (neC b o e hx) (I.base.keep b o e n hb hx) (I.base.free b o e n hx)
 . obtain⟨sl,e1⟩:=I.base.slot b o e n hb hx;obtain⟨sl',e2⟩:=slot b _ (neL b o e) hb (neC b o e hx) e1 (I.base.free b o e n hx)
   exact⟨sl',e2⟩
 . obtain⟨o',e1⟩:=I.base.there b o e hx;exact free b o' (neC b o e hx) e1 (I.base.free b o e n hx)
 . obtain⟨o',e1⟩:=I.base.there b o e hx;exact there b o' (neC b o e hx) e1
 . obtain⟨m1,e1⟩:=I.base.tbls b ps e;obtain⟨m2,e2⟩:=tbls b _ e1
   exact⟨m1++m2,by rw[e2,Array.append_assoc]⟩
 . obtain⟨m,hn,hl⟩:=I.loc
   refine⟨m,ns m hn,fun i x v e1 e2 e3=>?_⟩
   obtain⟨u,r,l⟩:=hl i x v e1 e2 e3
   refine⟨u,r,?_⟩
   rcases l with l|⟨k,c,e,z⟩
   . exact .inl l
   . exact .inr ⟨k,c,e,cellK x c e _ z⟩
 . obtain⟨v,z⟩:=I.cell x c e
   exact⟨v,cellK x c e v z⟩
 . obtain⟨m,⟨o,_,_,ho,_⟩,_⟩:=I.loc;exact free _ o (fun z=>(hch _ z).2.1 rfl) ho I.free
 . obtain⟨v,o,ho,hd⟩:=I.cell x c e;exact free c o (fun z=>(hch c z).2.2.1 x c e rfl) ho (I.freeC x c e)
 . obtain⟨e,n,ne,nf,d⟩:=I.pin p hp
   have nch:p.1∉ch:=fun z=>(hch p.1 z).2.2.2 p hp rfl
   exact⟨keep p.1 p.2 ne nf nch e n,free p.1 p.2 nch e n,ne,nf,d⟩
theorem Inv.un{t':Nat}(I:Inv X pins σ H s)(u:Un X.fs [] H H' s.heap h')(hok:HOk X.prog X.w H' h'):Inv X pins σ H' { s with heap:=h',toks:=t' }:=by
 obtain⟨m,⟨o,es,ep,ho,r⟩,_⟩:=id I.loc;obtain⟨sl,hL⟩:=u.any ho I.free (by simp)
 exact I.step (g':=s.gens) (d':=s.drawn) (ch:=[]) (fun _ z=>nomatch z) (fun b o _ hb _ e n=>u.keep b o e n hb (by simp)) (fun b o _ hb _ e n=>u.slot b o e n hb (by simp)) (fun b o _ e n=>u.free b o e n (by simp)) (fun b o _ e=>u.there b o e (by simp)) u.tups u.frzs u.tbls (fun m' hm=>by
  obtain⟨o',es',ep',ho',r'⟩:=hm;rw[ho]at ho';cases ho'
  exact⟨_,es',ep',hL,r'⟩) hok I.bare
theorem Inv.call{g':Array GenState}{t':Nat}{d':Drawn}{ch:List Addr}(I:Inv X pins σ H s)(u:Un (frs X.stack) ch H H' s.heap h')(hok:HOk X.prog X.w H' h')(hg:AllBare g')
  (hch:∀ b∈ch,(b∈X.ex \/ X.s₀.heap.objs.size<=b) /\ b≠X.env.locals /\ (∀ x c,X.env.cells.lookup x=some c->c≠b) /\ ∀ p∈X.pn++pins,p.1≠b):
  Inv X pins σ H' { s with heap:=h',gens:=g',drawn:=d',toks:=t' }:=by
 obtain⟨m,⟨o,es,ep,ho,r⟩,_⟩:=id I.loc
 obtain⟨sl,hL⟩:=u.any ho I.free fun z=>(hch _ z).2.1 rfl
 exact I.step (ch:=ch) hch (fun b o hL hb hc e n=>u.keep b o e n (fun z=>(List.mem_cons.mp (I.A3 b z)).elim hL hb) hc) (fun b o _ _ hc e n=>u.any e n hc) (fun b o hc e n=>u.free b o e n hc) (fun b o hc e=>u.there b o e hc) u.tups u.frzs u.tbls (fun m' hm=>by
  obtain⟨o',es',ep',ho',r'⟩:=hm;rw[ho]at ho';cases ho'
  exact⟨_,es',ep',hL,r'⟩) hok hg
theorem Inv.turned{t':Nat}{it:Addr}(I:Inv X pins σ H s)(k:∀ b o,b≠it->s.heap.get? b=some o->h'.get? b=some o)(hn:H it=none)(hL:it≠X.env.locals)
  (h1:it∈X.ex \/ X.s₀.heap.objs.size<=it) (h2:∀ x c,X.env.cells.lookup x=some c->c≠it) (h3:∀ p∈X.pn++pins,p.1≠it):Inv X pins σ H { s with heap:=h',toks:=t' }:=by
 have nit:∀ b u,H b=some u->b≠it:=fun b u e z=>by rw[z,hn]at e;cases e
 refine I.step (g':=s.gens) (d':=s.drawn) (ch:=[it]) (fun b hb=>?_) (fun b o _ _ hc e _=>k b o (fun z=>hc (by simp[z])) e) (fun b o _ _ hc e _=>⟨o.slots,k b o (fun z=>hc (by simp[z])) e⟩) (fun _ _ _ _ n=>n)
  (fun b o hc e=>⟨o,k b o (fun z=>hc (by simp[z])) e⟩) (fun _ _ e=>e) (fun _ _ _ e=>e) (fun b ps e=>⟨#[],by rw[e];simp⟩) (fun m hm=>?_) (fun b u e=>?_) I.bare
 . have e:b=it:=by simpa using hb
   subst e
   exact⟨h1,hL,h2,h3⟩
 . obtain⟨o,es,ep,ho,r⟩:=hm
   exact⟨o,es,ep,k _ o (Ne.symm hL) ho,r⟩
 . refine(I.hok b u e).qE (fun c v hc q=>k c v ?_ q) (fun _ q=>q) fun _ _ q=>q
   rcases hc with z|z
   . rw[z];exact nit b u e
   . exact nit c _ z
theorem Inv.tok(I:Inv X pins σ H s)(t:Nat):Inv X pins σ H { s with toks:=t }:=I.un (h':=s.heap) (t':=t) Un.refl I.hok
theorem Inv.kept{t':Nat}(I:Inv X pins σ H s)(k:∀ b u,s.heap.get? b=some u->h'.get? b=some u):Inv X pins σ H { s with heap:=h',toks:=t' }:=I.un (Un.kept k) (I.hok.kept k)
theorem Inv.laid{a:Addr}{o:HO}{t':Nat}(I:Inv X pins σ H s)(k:∀ b u,s.heap.get? b=some u->h'.get? b=some u)(hp:s.heap.objs.size<=a)(new:iC X.prog X.w (upd H a o) h' a o):
  Inv X pins σ (upd H a o) { s with heap:=h',toks:=t' }:=I.un (Un.laid k hp (I.hok.fresh hp)) (I.hok.laid k hp new)
theorem Inv.write{x e:Addr}{o:HO}{t':Nat}(I:Inv X pins σ H s)(mu:Mut (H x))(he:e=x \/ H e=some (.own x))(k:∀ b u,b≠e->s.heap.get? b=some u->h'.get? b=some u)(heo:∃ u,h'.get? e=some u)
  (new:iC X.prog X.w (upd H x o) h' x o):Inv X pins σ (upd H x o) { s with heap:=h',toks:=t' }:=I.un (Un.write mu he k heo) (I.hok.write mu he k heo new)
theorem Inv.B0{pins':List (Addr×Obj)}(I:Inv X pins σ H s)(h:∀ p∈pins',s.heap.get? p.1=some p.2 /\ H p.1=none /\ p.1≠X.env.locals /\ p.1∉X.fs /\ ∀ v,p.2.data≠.cell v):Inv X pins' σ H s:=
 ⟨I.ok,I.os,I.bare,I.base,I.loc,I.cell,I.free,I.freeC,fun p hp=>(List.mem_append.mp hp).elim (fun z=>I.pin p (List.mem_append_left _ z)) (h p),I.hok,I.len⟩
theorem uM{N:List Str}(hN:N.Nodup){i j:Nat}{x:Str}(a:N[i]?=some x)(b:N[j]?=some x):i=j:=by
 obtain⟨h1,e1⟩:=List.getElem?_eq_some_iff.mp a;obtain⟨h2,e2⟩:=List.getElem?_eq_some_iff.mp b
 exact(List.getElem_inj hN).mp (e1.trans e2.symm)
theorem CM{M:Model}{A:Around}{E:Value->Shared->Prop}{i:Nat}{x:Str}{v:V}{u:Value}{Q:Unit->Shared->Prop}(I:Inv X pins σ H s)(hN:X.N.Nodup)(hi:X.N[i]?=some x)(hx:Loc X.env.scope x)(r:RelV v u)
  (h:∀ s',Inv X pins (σ.set i (some v)) H s'->(∃ a,Heap.SameBut a s.heap s'.heap /\ (a=X.env.locals \/ X.env.cells.lookup x=some a))->Q () s') (hf:X.fn x=true \/ X.env.scope.names.lookup x=some .local:=by first|exact .inl rfl|exact .inr rfl|assumption):wpAny M A (storeName X.env x u) Q E s:=by
 obtain⟨m,hn,hl⟩:=id I.loc
 have hcls:(X.env.scope.kind == .class||(X.env.scope.kind == .module&&X.env.locals != X.env.globals))=false:=by rw[I.ok.kind];rfl
 have hiσ:i<σ.length:=by rw[I.len];exact(List.getElem?_eq_some_iff.mp hi).1
 have cne:=I.cne
 have tracked:∀{a:Addr} {h':Heap},(∃ o,s.heap.get? a=some o /\ H a=none)->Heap.SameBut a s.heap h'->HOk X.prog X.w H h':=fun {a h'} ha hs b ob e=>by
  obtain⟨_,_,hfree⟩:=ha
  refine(I.hok b ob e).qE (fun c w' hc q=>(hs.2 c ?_).trans q) (fun _ q=>q) fun _ _ q=>q
  rintro rfl
  rcases hc with rfl|hc
  . rw[hfree]at e;cases e
  . rw[hfree]at hc;cases hc
 rcases hx with hk|hk
 . refine wpAny_storeName_local hk hn (fun h' hn' hs=>?_) hcls;obtain⟨oL,_,_,hoL,_⟩:=id hn;refine h _ ⟨I.ok,I.os,I.bare,⟨fun b o e n hb hx=>?_,fun b o e n hb hx=>?_,I.base.free,fun b o e hx=>?_,I.base.tups,I.base.frzs,I.base.tbls⟩,⟨_,hn',fun j y v' e1 e2 e3=>?_⟩,fun y c e=>?_,I.free,I.freeC,fun p hp=>?_,tracked ⟨oL,hoL,I.free⟩ hs,by simpa using I.len⟩ ⟨_,hs,.inl rfl⟩
   . exact(hs.2 b (Nat.ne_of_lt (Nat.lt_of_lt_of_le (Heap.lt_size e) I.ok.above))).trans (I.base.keep b o e n hb hx)
   . obtain⟨sl,e1⟩:=I.base.slot b o e n hb hx
     exact⟨sl,(hs.2 b (Nat.ne_of_lt (Nat.lt_of_lt_of_le (Heap.lt_size e) I.ok.above))).trans e1⟩
   . obtain⟨o',e1⟩:=I.base.there b o e hx
     exact⟨o',(hs.2 b (Nat.ne_of_lt (Nat.lt_of_lt_of_le (Heap.lt_size e) I.ok.above))).trans e1⟩
   . by_cases hj:j=i
     . subst hj;rw[hi]at e1;cases e1;rw[List.getElem?_set_self hiσ]at e2;cases e2
       exact⟨u,r,.inl ⟨hk,by simp⟩⟩
     . rw[List.getElem?_set_ne (Ne.symm hj)]at e2;obtain⟨u',r',q⟩:=hl j y v' e1 e2 e3
       refine⟨u',r',?_⟩
       rcases q with⟨k,e⟩|⟨k,c,e,z⟩
       . refine .inl ⟨k,?_⟩
         have:y≠x:=fun e=>hj (uM hN e1 (e ▸ hi))
         simp[this,e]
       . exact .inr ⟨k,c,e,z.sameBut hs (cne y c e)⟩
   . obtain⟨w',z⟩:=I.cell y c e
     exact⟨w',z.sameBut hs (cne y c e)⟩
   . obtain⟨e,n,ne,nf,d⟩:=I.pin p hp
     exact⟨(hs.2 p.1 ne).trans e,n,ne,nf,d⟩
 . have hfn:X.fn x = true:=by
    rcases hf with z|z
    . exact z
    . rw[z]at hk;cases hk
   obtain⟨c,hc⟩:=I.ok.has x (.inl hk);obtain⟨w',z⟩:=I.cell x c hc;refine wpAny_storeName_cell I.ok.kind hk hc z (fun h' hc' hs=>?_);obtain⟨oc,hoc,hocd⟩:=id z;refine h { s with heap:=h' } ⟨I.ok,I.os,I.bare,⟨fun b o e n hb hx=>?_,fun b o e n hb hx=>?_,I.base.free,fun b o e hx=>?_,I.base.tups,I.base.frzs,I.base.tbls⟩,⟨m,hn.sameBut hs (Ne.symm (cne x c hc)),fun j y v' e1 e2 e3=>?_⟩,fun y c' e=>?_,I.free,I.freeC,fun p hp=>?_,tracked ⟨oc,hoc,I.freeC x c hc⟩ hs,by simpa using I.len⟩ ⟨c,hs,.inr hc⟩
   . exact(hs.2 b (Nat.ne_of_lt (Nat.lt_of_lt_of_le (Heap.lt_size e) (I.ok.cab x c hfn hc)))).trans (I.base.keep b o e n hb hx)
   . obtain⟨sl,e1⟩:=I.base.slot b o e n hb hx
     exact⟨sl,(hs.2 b (Nat.ne_of_lt (Nat.lt_of_lt_of_le (Heap.lt_size e) (I.ok.cab x c hfn hc)))).trans e1⟩
   . obtain⟨o',e1⟩:=I.base.there b o e hx
     exact⟨o',(hs.2 b (Nat.ne_of_lt (Nat.lt_of_lt_of_le (Heap.lt_size e) (I.ok.cab x c hfn hc)))).trans e1⟩
   . by_cases hj:j=i
     . subst hj;rw[hi]at e1;cases e1;rw[List.getElem?_set_self hiσ]at e2;cases e2
       exact⟨u,r,.inr ⟨.inl hk,c,hc,hc'⟩⟩
     . rw[List.getElem?_set_ne (Ne.symm hj)]at e2;obtain⟨u',r',q⟩:=hl j y v' e1 e2 e3
       refine⟨u',r',?_⟩
       rcases q with q|⟨k,c',e,z'⟩
       . exact .inl q
       . refine .inr ⟨k,c',e,z'.sameBut hs ?_⟩
         rintro rfl
         exact hj (uM hN e1 (I.ok.inj _ _ _ e hc ▸ hi))
   . by_cases hcc:c'=c
     . subst hcc;exact⟨_,hc'⟩
     . obtain⟨w2,z2⟩:=I.cell y c' e
       exact⟨w2,z2.sameBut hs hcc⟩
   . obtain⟨e,n,ne,nf,d⟩:=I.pin p hp
     refine⟨(hs.2 p.1 ?_).trans e,n,ne,nf,d⟩
     intro q;rw[q,hoc]at e
     have q':oc=p.2:=Option.some.inj e
     exact d w' (by rw[<- q'];exact hocd)
theorem ji{M:Model}{A:Around}{E:Value->Shared->Prop}{i:Nat}{x:Str}{v:V}{u:Value}{Q:Unit->Shared->Prop}(I:Inv X pins σ H s)(hN:X.N.Nodup)(hi:X.N[i]?=some x)(hx:Loc X.env.scope x)(r:RelV v u)
  (h:∀ s',Inv X pins (σ.set i (some v)) H s'->Q () s') (hf:X.fn x=true \/ X.env.scope.names.lookup x=some .local:=by first|exact .inl rfl|exact .inr rfl|assumption):wpAny M A (storeName X.env x u) Q E s:=
 CM I hN hi hx r (fun s' I' _=>h s' I') hf
theorem Inv.Ii{s':Shared}{ch:List Addr}(I:Inv X pins σ H s)(ho:s'.os=s.os)(u:Un (frs X.stack) ch H H' s.heap s'.heap)(hok:HOk X.prog X.w H' s'.heap)(hg:AllBare s'.gens)
  (hch:∀ b∈ch,(b∈X.ex \/ X.s₀.heap.objs.size<=b) /\ b≠X.env.locals /\ (∀ x c,X.env.cells.lookup x=some c->c≠b) /\ ∀ p∈X.pn++pins,p.1≠b):Inv X pins σ H' s':=by
 obtain⟨h',g',d',t',o'⟩:=s'
 have e:o'=s.os:=ho
 subst e;exact I.call (g':=g') (t':=t') (d':=d') u hok hg hch
end
abbrev XK:=Value->Option Addr->Hp->Prop
abbrev St:=List (Option V)
abbrev VK:=V->Hp->Prop
abbrev TE:=St->Hp->VK->Prop
abbrev TT:=St->Hp->(Bool->Hp->Prop)->Prop
abbrev TA:=St->Hp->(List V->Hp->Prop)->Prop
structure Ends where
 nx:St->Hp->Prop
 rt:VK
 bk:St->Hp->Prop:=fun _ _=>False
 ct:St->Hp->Prop:=fun _ _=>False
abbrev TS:=Ends->St->Hp->Prop
noncomputable def EP(X:Cx)(pins:List (Addr×Obj))(σ:St)(Q:VK)(u:Value)(s':Shared):Prop:=∃ v H',Inv X pins σ H' s' /\ RelV v u /\ Q v H'
noncomputable def TP(X:Cx)(pins:List (Addr×Obj))(σ:St)(Q:Bool->Hp->Prop)(b:Bool)(s':Shared):Prop:=∃ H',Inv X pins σ H' s' /\ Q b H'
noncomputable def AP(X:Cx)(pins:List (Addr×Obj))(σ:St)(Q:List V->Hp->Prop)(us:List Value)(s':Shared):Prop:=∃ vs H',Inv X pins σ H' s' /\ Vals vs us /\ Q vs H'
noncomputable def SP(X:Cx)(pins:List (Addr×Obj))(D:Ends)(f:Flow)(s':Shared):Prop:=
 match f with
 |.next=>∃ σ' H',Inv X pins σ' H' s' /\ D.nx σ' H'
 |.brk=>∃ σ' H',Inv X pins σ' H' s' /\ D.bk σ' H'
 |.cont=>∃ σ' H',Inv X pins σ' H' s' /\ D.ct σ' H'
 |.ret u=>∃ v σ' H',Inv X pins σ' H' s' /\ RelV v u /\ D.rt v H'
noncomputable def PE(X:Cx)(e:Expr)(t:TE):Prop:=
 ∀(pins:List (Addr×Obj)) (s:Shared) (σ:St) (H:Hp) (Q:VK),Inv X pins σ H s->t σ H Q->wpAny (model X.prog X.w) X.A (eval e X.env) (EP X pins σ Q) X.xe s
noncomputable def PT(X:Cx)(e:Expr)(t:TT):Prop:=
 ∀(pins:List (Addr×Obj)) (s:Shared) (σ:St) (H:Hp) (Q:Bool->Hp->Prop),Inv X pins σ H s->t σ H Q->wpAny (model X.prog X.w) X.A (isTrue e X.env (eval e X.env)) (TP X pins σ Q) X.xe s
noncomputable def PW(X:Cx)(e:Expr)(t:TT):Prop:=
 ∀(whole:Sem Value) (pins:List (Addr×Obj)) (s:Shared) (σ:St) (H:Hp) (Q:Bool->Hp->Prop),Inv X pins σ H s->t σ H Q->wpAny (model X.prog X.w) X.A (isTrue e X.env whole) (TP X pins σ Q) X.xe s
theorem PW.pt{X:Cx}{e:Expr}{t:TT}(h:PW X e t):PT X e t:=h _
noncomputable def PA(X:Cx)(es:List Expr)(t:TA):Prop:=
 ∀(pos:Pos) (pins:List (Addr×Obj)) (s:Shared) (σ:St) (H:Hp) (Q:List V->Hp->Prop),Inv X pins σ H s->t σ H Q->wpAny (model X.prog X.w) X.A (spliced (backTo pos (starEach es X.env))) (AP X pins σ Q) X.xe s
noncomputable def PS(X:Cx)(st:Stmt)(t:TS):Prop:=
 ∀(pins:List (Addr×Obj)) (s:Shared) (σ:St) (H:Hp) (D:Ends),Inv X pins σ H s->t D σ H->wpAny (model X.prog X.w) X.A (exec st X.env) (SP X pins D) X.xe s
noncomputable def PSs(X:Cx)(st:List Stmt)(t:TS):Prop:=
 ∀(pins:List (Addr×Obj)) (s:Shared) (σ:St) (H:Hp) (D:Ends),Inv X pins σ H s->t D σ H->wpAny (model X.prog X.w) X.A (execs st X.env) (SP X pins D) X.xe s
theorem thn{α:Type}{t:Sem α}{Q Q':α->Shared->Prop}{M:Model}{A:Around}{E:Value->Shared->Prop}{s:Shared}(h:wpAny M A t Q E s)(hQ:∀ a s,Q a s->Q' a s):wpAny M A t Q' E s:=wpAny_mono h hQ fun _ _ x=>x
section
variable{X:Cx}
theorem bin{a b:Expr}{ta tb:TE}(ha:PE X a ta)(hb:PE X b tb){pins:List (Addr×Obj)}{s:Shared}{σ:St}{H:Hp}{R:V->V->Hp->Prop}(I:Inv X pins σ H s)(h:ta σ H fun x H1=>tb σ H1 fun y H2=>R x y H2)
  {α:Type} {Q:α->Shared->Prop} {f:Value->Value->Sem α}
  (hf:∀ v u s2 x y H2,Inv X pins σ H2 s2->RelV x v->RelV y u->R x y H2->wpAny (model X.prog X.w) X.A (f v u) Q X.xe s2):
  wpAny (model X.prog X.w) X.A (eval a X.env) (fun v s₁=>wpAny (model X.prog X.w) X.A (eval b X.env) (fun u s₂=>wpAny (model X.prog X.w) X.A (f v u) Q X.xe s₂) X.xe s₁) X.xe s:=by
 refine thn (ha pins s σ H _ I h) fun v s1 ⟨x,H1,I1,r1,q1⟩=>?_
 refine thn (hb pins s1 σ H1 _ I1 q1) fun u s2 ⟨y,H2,I2,r2,q2⟩=>?_
 exact hf v u s2 x y H2 I2 r1 r2 q2
noncomputable def vV(i:Nat):TE:=fun σ H Q=>∃ v,σ[i]?=some (some v) /\ Q v H
noncomputable def tC(v:V):TE:=fun _ H Q=>Q v H
theorem Lj{i:Nat}{x:Str}{pos:Pos}(hN:X.N[i]?=some x)(hv:Vis X.env.scope x)(hd:(x==("__debug__":Str))=false:=by decide)(hcd:(x==("__classdict__":Str))=false:=by decide):PE X (.Name x pos) (vV i):=by
 intro pins s σ H Q I h;obtain⟨v,e,h⟩:=h;obtain⟨m,hn,hl⟩:=I.loc;obtain⟨u,r,l⟩:=hl i x v hN e hv
 have fin:EP X pins σ Q u s:=⟨v,H,I,r,h⟩
 rcases l with⟨hk,hm⟩|⟨hk,c,hc,hcell⟩
 . exact wpAny_Name (wpAny_loadName_local I.ok.kind hk hn hm fin) hd
 . rcases hk with hk|hk
   . exact wpAny_Name (wpAny_loadName_cell I.ok.kind hk hc hcell fin) hd
   . exact wpAny_Name (wpAny_loadName_free I.ok.kind hk hc hcell fin hcd) hd
theorem IS{i j pos}:PE X (.Constant (.int i) j pos) (tC (.int i)):=fun _ _ _ H _ I h=>wpAny_Constant_int ⟨.int i,H,I.tok _,⟨_,rfl⟩,h⟩
theorem LP{b j pos}:PE X (.Constant (.bool b) j pos) (tC (.bl b)):=fun _ _ _ H _ I h=>Constant_bool ⟨.bl b,H,I,rfl,h⟩
theorem JH{j pos}:PE X (.Constant .none j pos) (tC .non):=fun _ _ _ H _ I h=>Constant_none ⟨.non,H,I,rfl,h⟩
theorem IZ{x j pos}:PE X (.Constant (.str x) j pos) (tC (.str x)):=fun _ _ _ H _ I h=>Calls.Constant_str ⟨.str x,H,I.tok _,⟨_,rfl⟩,h⟩
noncomputable def Gl(X:Cx)(x:Str):Prop:=X.env.kindOf x=some .globalImplicit
theorem o6{E:Value->Shared->Prop}{pins:List (Addr×Obj)}{s:Shared}{σ:St}{H:Hp}{x:Str}{u:Value}{pos:Pos}{Q:Value->Shared->Prop}(I:Inv X pins σ H s)(hg:Gl X x)(hm:X.mg x=some u)(h:Q u s)
  (hd:(x==("__debug__":Str))=false:=by decide):wpAny (model X.prog X.w) X.A (eval (.Name x pos) X.env) Q E s:=
 Calls.Name_function_global I.ok.kind hg (Calls.loadGlobal_global (by rw[I.ok.glob];exact I.mod.glob.keeps I.bk) hm h) hd
theorem rN{E:Value->Shared->Prop}{pins:List (Addr×Obj)}{s:Shared}{σ:St}{H:Hp}{x:Str}{u:Value}{pos:Pos}{Q:Value->Shared->Prop}(I:Inv X pins σ H s)(hg:Gl X x)(hm:X.mg x=none)(hv:bootBuiltins x=some u)(h:Q u s)
  (hn:x ≠ "__name__":=by decide) (hd:(x==("__debug__":Str))=false:=by decide):wpAny (model X.prog X.w) X.A (eval (.Name x pos) X.env) Q E s:=by
 obtain⟨mb,h1,h2⟩:=I.mod.blt;exact Calls.Name_function_global I.ok.kind hg (Calls.loadGlobal_builtin (by rw[I.ok.glob];exact I.mod.glob.keeps I.bk) hm (by rw[I.ok.blt];exact h1.keeps I.bk) ((h2 x hn).trans hv) h) hd
theorem GA{x:Str}{v:V}{u:Value}{pos:Pos}(hg:Gl X x)(hm:X.mg x=some u)(r:RelV v u)(hd:(x==("__debug__":Str))=false:=by decide):PE X (.Name x pos) (tC v):=
 fun _ _ _ H _ I h=>o6 I hg hm ⟨v,H,I,r,h⟩ hd
theorem GX{x:Str}{v:V}{u:Value}{pos:Pos}(hg:Gl X x)(hm:X.mg x=none)(hv:bootBuiltins x=some u)(r:RelV v u)(hn:x ≠ "__name__":=by decide)(hd:(x==("__debug__":Str))=false:=by decide):PE X (.Name x pos) (tC v):=
 fun _ _ _ H _ I h=>rN I hg hm hv ⟨v,H,I,r,h⟩ hn hd
variable{a b:Expr}{ta tb:TE}{pos:Pos}
noncomputable def PC(X:Cx)(op:CmpOp)(a b:Expr)(t:TE):Prop:=
 ∀(pins:List (Addr×Obj)) (s:Shared) (σ:St) (H:Hp) (Q:VK),Inv X pins σ H s->t σ H Q ->
   wpAny (model X.prog X.w) X.A (eval a X.env) (fun v s₁=>wpAny (model X.prog X.w) X.A (eval b X.env) (fun u s₂=>wpAny (model X.prog X.w) X.A (compareOp op v u) (EP X pins σ Q) X.xe s₂) X.xe s₁) X.xe s
variable{tA tB':TT}{rest:List Expr}
noncomputable def Jc(t u:TT):TT:=fun σ H Q=>t σ H fun c H1=>if c=true then u σ H1 Q else Q false H1
noncomputable def tOr(t u:TT):TT:=fun σ H Q=>t σ H fun c H1=>if c=true then Q true H1 else u σ H1 Q
noncomputable def Hs(t:TT):TT:=fun σ H Q=>t σ H fun c H1=>Q (!c) H1
theorem GF(ha:PT X a tA):PW X (.BoolOp .And [a] pos) tA:=by
 intro wh pins s σ H Q I h;refine isTrue_and (thn (ha pins s σ H Q I h) fun c s1 e=>?_)
 cases c with
 |true=>exact isTrue_and_nil e
 |false=>exact e
theorem Ln(ha:PT X a tA):PW X (.BoolOp .Or [a] pos) tA:=by
 intro wh pins s σ H Q I h;refine isTrue_or (thn (ha pins s σ H Q I h) fun c s1 e=>?_)
 cases c with
 |false=>exact isTrue_or_nil e
 |true=>exact e
theorem Jh(ha:PT X a tA)(hb:PW X (.BoolOp .And (b ::rest) pos) tB'):PW X (.BoolOp .And (a ::b ::rest) pos) (Jc tA tB'):=by
 intro wh pins s σ H Q I h;refine isTrue_and (thn (ha pins s σ H _ I h) fun c s1 ⟨H1,I1,q1⟩=>?_)
 cases c with
 |true=>exact hb wh pins s1 σ H1 Q I1 q1
 |false=>exact⟨H1,I1,q1⟩
theorem LW(ha:PT X a tA)(hb:PW X (.BoolOp .Or (b ::rest) pos) tB'):PW X (.BoolOp .Or (a ::b ::rest) pos) (tOr tA tB'):=by
 intro wh pins s σ H Q I h;refine isTrue_or (thn (ha pins s σ H _ I h) fun c s1 ⟨H1,I1,q1⟩=>?_)
 cases c with
 |true=>exact⟨H1,I1,q1⟩
 |false=>exact hb wh pins s1 σ H1 Q I1 q1
theorem KJ(ha:PT X a tA):PT X (.UnaryOp .Not a pos) (Hs tA):=by
 intro pins s σ H Q I h;exact isTrue_not (ha pins s σ H (fun c H1=>Q (!c) H1) I h)
noncomputable def ES(ta tb:TE):TE:=fun σ H Q=>ta σ H fun x H1=>∃ c,x=.bl c /\ if c=true then tb σ H1 Q else Q (.bl false) H1
noncomputable def JY(ta tb:TE):TE:=fun σ H Q=>ta σ H fun x H1=>∃ c,x=.bl c /\ if c=true then Q (.bl true) H1 else tb σ H1 Q
noncomputable def E4(ta:TE):TE:=fun σ H Q=>ta σ H fun x H1=>∃ c,x=.bl c /\ Q (.bl (!c)) H1
theorem IH{op}{t:TE}(h:PE X a t):PE X (.BoolOp op [a] pos) t:=fun pins s σ H Q I hw=>BoolOp_one (h pins s σ H Q I hw)
theorem Kb(ha:PE X a ta)(hb:PE X (.BoolOp .And (b ::rest) pos) tb):PE X (.BoolOp .And (a ::b ::rest) pos) (ES ta tb):=by
 intro pins s σ H Q I h;refine BoolOp_and (thn (ha pins s σ H _ I h) fun v s1 ⟨x,H1,I1,r1,q1⟩=>?_);obtain⟨c,rfl,q1⟩:=q1;cases r1;refine wpAny_truthy_bool ?_
 cases c with
 |true=>exact hb pins s1 σ H1 Q I1 q1
 |false=>exact⟨.bl false,H1,I1,rfl,q1⟩
theorem Mn(ha:PE X a ta)(hb:PE X (.BoolOp .Or (b ::rest) pos) tb):PE X (.BoolOp .Or (a ::b ::rest) pos) (JY ta tb):=by
 intro pins s σ H Q I h;refine BoolOp_or (thn (ha pins s σ H _ I h) fun v s1 ⟨x,H1,I1,r1,q1⟩=>?_);obtain⟨c,rfl,q1⟩:=q1;cases r1;refine wpAny_truthy_bool ?_
 cases c with
 |false=>exact hb pins s1 σ H1 Q I1 q1
 |true=>exact⟨.bl true,H1,I1,rfl,q1⟩
theorem Kx(ha:PE X a ta):PE X (.UnaryOp .Not a pos) (E4 ta):=by
 intro pins s σ H Q I h;refine UnaryOp_ (thn (ha pins s σ H _ I h) fun v s1 ⟨x,H1,I1,r1,q1⟩=>?_);obtain⟨c,rfl,q1⟩:=q1;cases r1;exact not_of (wpAny_truthy_bool ⟨.bl (!c),H1,I1,rfl,q1⟩)
noncomputable def tIf(t:TT)(ta tb:TE):TE:=fun σ H Q=>t σ H fun c H1=>if c=true then ta σ H1 Q else tb σ H1 Q
theorem FO{c:Expr}(hc:PT X c tA)(ha:PE X a ta)(hb:PE X b tb):PE X (.IfExp c a b pos) (tIf tA ta tb):=by
 intro pins s σ H Q I h;refine wpAny_IfExp (thn (hc pins s σ H _ I h) fun d s1 ⟨H1,I1,q1⟩=>?_)
 cases d with
 |true=>exact ha pins s1 σ H1 Q I1 q1
 |false=>exact hb pins s1 σ H1 Q I1 q1
end
noncomputable def SqL(K:PySem.W.Frag)(H:Hp)(a:Addr)(xs:List V):Prop:=
 Rd H a (.lst xs) \/
  ∃(o:Obj) (its:Array Value) (n:Nat),K.lookup a=some o /\ o.cls=.type "list" /\ o.dict=none /\ o.data=.seq its n /\ its.size<=sizeLine /\ Vals xs its.toList
noncomputable def SqT(K:PySem.W.Frag)(H:Hp)(a:Addr)(xs:List V):Prop:=
 Rd H a (.tup xs) \/
  ∃(o:Obj) (its:Array Value) (n:Nat),K.lookup a=some o /\ o.cls=.type "tuple" /\ o.data=.seq its n /\ its.size<=sizeLine /\ Vals xs its.toList
noncomputable def M1:Value->Option V
 |.none=>some .non
 |.bool b=>some (.bl b)
 |.int i _=>some (.int i)
 |.str x _=>some (.str x)
 |.bytes b _=>some (.byt b)
 |.float b _=>some (.flt b)
 |.ref a=>some (.ref a)
 |.type n=>some (.ty n)
 |_=>none
theorem RelV.abs{x:V}{u:Value}(r:RelV x u):M1 u=some x:=by
 cases x with
 |non=>cases r;rfl
 |bl _=>cases r;rfl
 |int _=>obtain⟨t,rfl⟩:=r;rfl
 |str _=>obtain⟨t,rfl⟩:=r;rfl
 |byt _=>obtain⟨t,rfl⟩:=r;rfl
 |flt _=>obtain⟨t,rfl⟩:=r;rfl
 |ref _=>cases r;rfl
 |ty _=>cases r;rfl
theorem RelV.inj{x y:V}{u:Value}(r:RelV x u)(q:RelV y u):x=y:=Option.some.inj (r.abs.symm.trans q.abs)
theorem Vals.inj:∀{xs ys:List V} {us:List Value},Vals xs us->Vals ys us->xs=ys
 |_,_,_,.nil,.nil=>rfl
 |_,_,_,.cons r t,.cons r' t'=>by rw[r.inj r',Vals.inj t t']
section
variable{X:Cx}{pins:List (Addr×Obj)}{σ:St}{H:Hp}{s:Shared}{a:Addr}{xs ys:List V}
theorem Inv.list(I:Inv X pins σ H s)(h:SqL X.K H a xs):∃ its:List Value,Vals xs its /\ PlainL s.heap a its.toArray /\ xs.length<=sizeLine:=by
 rcases h with h|⟨o,its,n,hk,hc,hd,hs,hz,r⟩
 . obtain⟨z,its,n,r,e⟩:=h.ok I.hok
   exact⟨its,r,⟨_,n,e,rfl,rfl,rfl⟩,z⟩
 . refine⟨its.toList,r,⟨o,n,I.kIn a o hk,hc,hd,by simpa using hs⟩,?_⟩
   have e:=r.length;simp only[Array.length_toList]at e;omega
theorem Inv.tuple(I:Inv X pins σ H s)(h:SqT X.K H a xs):∃ its:List Value,Vals xs its /\ IsTup s.heap a its.toArray /\ xs.length<=sizeLine:=by
 rcases h with h|⟨o,its,n,hk,hc,hs,hz,r⟩
 . obtain⟨z,its,r,p⟩:=h.ok I.hok
   exact⟨its,r,p,z⟩
 . refine⟨its.toList,r,⟨o,I.kIn a o hk,hc,n,by simpa using hs⟩,?_⟩
   have e:=r.length;simp only[Array.length_toList]at e;omega
theorem Inv.Ao(I:Inv X pins σ H s)(h:SqL X.K H a xs)(h':SqL X.K H a ys):xs=ys:=by
 obtain⟨its,r,⟨o,n,e,_,_,d⟩,_⟩:=I.list h;obtain⟨its',r',⟨o',n',e',_,_,d'⟩,_⟩:=I.list h';rw[e]at e';cases e';rw[d]at d'
 injection d' with d1 _
 have:its=its':=by simpa using congrArg Array.toList d1
 subst this;exact r.inj r'
theorem Inv.De(I:Inv X pins σ H s)(h:SqT X.K H a xs)(h':SqT X.K H a ys):xs=ys:=by
 obtain⟨its,r,⟨o,e,_,n,d⟩,_⟩:=I.tuple h;obtain⟨its',r',⟨o',e',_,n',d'⟩,_⟩:=I.tuple h';rw[e]at e';cases e';rw[d]at d'
 injection d' with d1 _
 have:its=its':=by simpa using congrArg Array.toList d1
 subst this;exact r.inj r'
end
section
variable{X:Cx}{st:Stmt}{rest:List Stmt}{t u:TS}{e:Expr}{te:TE}{pos:Pos}
noncomputable def Et:TS:=fun D σ H=>D.nx σ H
noncomputable def IY(t u:TS):TS:=fun D σ H=>t { D with nx:=u D } σ H
theorem FT:PSs X [] Et:=fun _ _ σ H _ I h=>wpAny_execs_nil ⟨σ,H,I,h⟩
theorem FD(h1:PS X st t)(h2:PSs X rest u):PSs X (st ::rest) (IY t u):=by
 intro pins s σ H D I h;refine wpAny_execs_cons (thn (h1 pins s σ H { D with nx:=u D } I h) fun f s1 q=>?_)
 cases f with
 | next=>
   obtain⟨σ',H',I',q⟩:=q;exact h2 pins s1 σ' H' D I' q
 |ret v=>exact q
 |brk=>exact q
 |cont=>exact q
theorem Hf(h1:PS X st t):PSs X [st] t:=by
 intro pins s σ H D I h;refine wpAny_execs_cons (thn (h1 pins s σ H D I h) fun f s1 q=>?_)
 cases f with
 |next=>exact wpAny_execs_nil q
 |ret v=>exact q
 |brk=>exact q
 |cont=>exact q
theorem Inv.quiet{pins:List (Addr×Obj)}{σ:St}{H:Hp}{s:Shared}(I:Inv X pins σ H s):interactive X.env=false:=by simp[interactive,I.ok.kind]
noncomputable def q8(te:TE):TS:=fun D σ H=>te σ H fun _ H1=>D.nx σ H1
theorem Gf(he:PE X e te)(hs:swapsWith e none pos.line X.env=pure false:=by rfl):PS X (.Expr e pos) (q8 te):=by
 intro pins s σ H D I h;exact wpAny_Expr_any (thn (he pins s σ H _ I h) fun v s1 ⟨x,H1,I1,r1,q1⟩=>⟨σ,H1,I1,q1⟩) I.quiet hs
noncomputable def Hc(te:TE):TS:=fun D σ H=>te σ H D.rt
theorem IT(he:PE X e te):PS X (.Return (some e) pos) (Hc te):=by
 intro pins s σ H D I h;exact wpAny_Return_some (thn (he pins s σ H _ I h) fun v s1 ⟨x,H1,I1,r1,q1⟩=>⟨x,σ,H1,I1,r1,q1⟩)
noncomputable def G6(c:TT)(t u:TS):TS:=fun D σ H=>c σ H fun b H1=>if b=true then t D σ H1 else u D σ H1
theorem LY{c:Expr}{a b:List Stmt}{tc:TT}(hc:PT X c tc)(ha:PSs X a t)(hb:PSs X b u):PS X (.If c a b pos) (G6 tc t u):=by
 intro pins s σ H D I h;refine wpAny_If (thn (hc pins s σ H _ I h) fun d s1 ⟨H1,I1,q1⟩=>?_)
 cases d with
 |true=>exact ha pins s1 σ H1 D I1 q1
 |false=>exact hb pins s1 σ H1 D I1 q1
end
abbrev TG:=V->St->Hp->(St->Hp->Prop)->Prop
abbrev TGs:=List V->St->Hp->(St->Hp->Prop)->Prop
noncomputable def PG(X:Cx)(target:Expr)(t:TG):Prop:=
 ∀(pins:List (Addr×Obj)) (s:Shared) (σ:St) (H:Hp) (v:V) (u:Value) (Q:St->Hp->Prop),Inv X pins σ H s->RelV v u->t v σ H Q ->
   wpAny (model X.prog X.w) X.A (assign target X.env u) (fun _ s'=>∃ σ' H',Inv X pins σ' H' s' /\ Q σ' H') X.xe s
noncomputable def PGs(X:Cx)(ts:List Expr)(t:TGs):Prop:=
 ∀(pins:List (Addr×Obj)) (s:Shared) (σ:St) (H:Hp) (vs:List V) (us:List Value) (Q:St->Hp->Prop),Inv X pins σ H s->Vals vs us->t vs σ H Q ->
   wpAny (model X.prog X.w) X.A (assignInOrder ((assignEach ts X.env).map (·.2)) us) (fun _ s'=>∃ σ' H',Inv X pins σ' H' s' /\ Q σ' H') X.xe s
abbrev FX:=V->V->V->Hp->(Hp->Prop)->Prop
noncomputable def IE(X:Cx)(t:FX):Prop:=
 ∀(pins:List (Addr×Obj)) (s:Shared) (σ:St) (H:Hp) (o i v:V) (ov iv u:Value) (Q:Hp->Prop),Inv X pins σ H s->RelV o ov->RelV i iv->RelV v u->t o i v H Q ->
   wpAny (model X.prog X.w) X.A (setItem ov iv u) (fun _ s'=>∃ H',Inv X pins σ H' s' /\ Q H') X.xe s
abbrev TIp:=V->V->Hp->VK->Prop
noncomputable def PIp(X:Cx)(op:Operator)(t:TIp):Prop:=
 ∀(pins:List (Addr×Obj)) (s:Shared) (σ:St) (H:Hp) (x y:V) (v u:Value) (Q:VK),Inv X pins σ H s->RelV x v->RelV y u->t x y H Q ->
   wpAny (model X.prog X.w) X.A (inplaceOp op v u) (EP X pins σ Q) X.xe s
section
variable{X:Cx}{pos:Pos}
noncomputable def jP(i:Nat):TG:=fun v σ H Q=>Q (σ.set i (some v)) H
theorem Hj{i:Nat}{x:Str}(hN:X.N.Nodup)(hi:X.N[i]?=some x)(hx:Loc X.env.scope x)(hf:X.fn x=true \/ X.env.scope.names.lookup x=some .local:=by first|exact .inl rfl|exact .inr rfl|assumption):PG X (.Name x pos) (jP i):=by
 intro pins s σ H v u Q I r h;exact wpAny_assign_Name (ji I hN hi hx r (fun s' I'=>⟨_,H,I',h⟩) hf)
noncomputable def Ka:TGs:=fun vs σ H Q=>vs=[] /\ Q σ H
noncomputable def BS(t:TG)(u:TGs):TGs:=fun vs σ H Q=>∃ v r,vs=v ::r /\ t v σ H fun σ' H'=>u r σ' H' Q
theorem GU:PGs X [] Ka:=by
 intro pins s σ H vs us Q I r h;obtain⟨e,h⟩:=h;subst e;cases r;exact assignInOrder_nil ⟨σ,H,I,h⟩
theorem Eo{e:Expr}{es:List Expr}{t:TG}{u:TGs}(h1:PG X e t)(h2:PGs X es u)
  (hs:(assignEach (e ::es) X.env).map (·.2)=assign e X.env ::(assignEach es X.env).map (·.2):=by rfl):PGs X (e ::es) (BS t u):=by
 intro pins s σ H vs us Q I r h;obtain⟨v,vr,e1,h⟩:=h;subst e1
 cases r with
 | cons r rr=>
   rw[hs];refine assignInOrder_cons (thn (h1 pins s σ H _ _ _ I r h) fun _ s1 ⟨σ1,H1,I1,q1⟩=>?_);exact h2 pins s1 σ1 H1 _ _ Q I1 rr q1
noncomputable def Jg(K:PySem.W.Frag)(n:Nat)(t:TGs):TG:=fun v σ H Q=>∃ a xs,v=.ref a /\ SqT K H a xs /\ xs.length=n /\ t xs σ H Q
theorem Jb{es:List Expr}{k:Nat}{t:TGs}{n:Nat}(hc:X.calm=true)(h:PGs X es t)
  (hn:(assignEach es X.env).length=n:=by rfl) (hst:(assignEach es X.env).findIdx? (·.1)=none:=by rfl):PG X (.Tuple es k pos) (Jg X.K n t):=by
 intro pins s σ H v u Q I r hw;obtain⟨a,xs,e1,hq,hl,hw⟩:=hw;subst e1;cases r;obtain⟨its,rv,ht,hz⟩:=I.tuple hq
 refine assign_Tuple_tuple (I.ok.hd hc) ht (by simp[hn,<- hl,rv.length]) hst fun h' hx=>?_
 have I1:Inv X pins σ H { s with heap:=h' }:=I.kept (t':=s.toks) fun b o e=>hx b o (Nat.ne_of_lt (Heap.lt_size e)) e
 exact h pins _ σ H xs _ Q I1 (by simpa using rv) hw
noncomputable def K4(to ti:TE)(t:FX):TG:=fun v σ H Q=>to σ H fun o H1=>ti σ H1 fun i H2=>t o i v H2 fun H3=>Q σ H3
theorem K3{o i:Expr}{to ti:TE}{t:FX}(ho:PE X o to)(hi:PE X i ti)(hs:IE X t)
  (ha:∀ v,assign (.Subscript o i pos) X.env v=(do
    let ov <- holding [v] (eval o X.env)
    let iv <- holding [v,ov] (eval i X.env)
    standAt pos
    holding [v,ov,iv] (setItem ov iv v)
    release [v,ov,iv] []):=by intro _;rfl):PG X (.Subscript o i pos) (K4 to ti t):=by
 intro pins s σ H v u Q I r h;rw[ha];refine wpAny_bind (wpAny_holding (thn (ho pins s σ H _ I h) fun ov s1 ⟨x,H1,I1,r1,q1⟩=>?_));refine wpAny_bind (wpAny_holding (thn (hi pins s1 σ H1 _ I1 q1) fun iv s2 ⟨y,H2,I2,r2,q2⟩=>?_));refine wpAny_bind (wpAny_standAt (wpAny_bind (wpAny_holding (thn (hs pins s2 σ H2 x y v ov iv u _ I2 r1 r2 r q2) fun _ s3 ⟨H3,I3,q3⟩=>?_))));exact wpAny_release ⟨σ,H3,I3,q3⟩
noncomputable def vJ(te:TE)(g:TG):TS:=fun D σ H=>te σ H fun x H1=>g x σ H1 D.nx
theorem Jm{tg e:Expr}{te:TE}{g:TG}(he:PE X e te)(hg:PG X tg g)(hs:swapsWithSole [tg] e pos.line X.env=pure false:=by rfl)(hw:swappedStores [tg] e X.env=pure none:=by rfl)
  (h1:(assignEach [tg] X.env).map (·.2)=[assign tg X.env]:=by rfl):PS X (.Assign [tg] e pos) (vJ te g):=by
 intro pins s σ H D I h;refine wpAny_Assign_stores (thn (he pins s σ H _ I h) fun v s1 ⟨x,H1,I1,r1,q1⟩=>?_) hs hw;rw[h1]
 exact thn (hg pins s1 σ H1 x v _ I1 r1 q1) fun _ s2 q=>q
theorem Kn{i:Nat}{x:Str}{e:Expr}{te:TE}{pos':Pos}(hN:X.N.Nodup)(hi:X.N[i]?=some x)(hx:Loc X.env.scope x)(he:PE X e te)(hs:swapsWith e (some (.Name x pos')) pos.line X.env=pure false:=by rfl)(hf:X.fn x=true \/ X.env.scope.names.lookup x=some .local:=by first|exact .inl rfl|exact .inr rfl|assumption):
  PS X (.Assign [.Name x pos'] e pos) (vJ te (jP i)):=by
 intro pins s σ H D I h;refine wpAny_Assign_Name (thn (he pins s σ H _ I h) fun v s1 ⟨y,H1,I1,r1,q1⟩=>?_) hs;exact ji I1 hN hi hx r1 (fun s2 I2=>⟨_,H1,I2,q1⟩) hf
noncomputable def FY(i:Nat)(te:TE)(ti:TIp):TS:=fun D σ H=>∃ x,σ[i]?=some (some x) /\ te σ H fun y H1=>ti x y H1 fun z H2=>D.nx (σ.set i (some z)) H2
theorem KD{i:Nat}{x:Str}{e:Expr}{te:TE}{op:Operator}{ti:TIp}{pos':Pos}(hN:X.N.Nodup)(hi:X.N[i]?=some x)(hx:Loc X.env.scope x)(he:PE X e te)(ho:PIp X op ti)(hf:X.fn x=true \/ X.env.scope.names.lookup x=some .local:=by first|exact .inl rfl|exact .inr rfl|assumption):
  PS X (.AugAssign (.Name x pos') op e pos) (FY i te ti):=by
 intro pins s σ H D I h;obtain⟨v,e1,h⟩:=h;obtain⟨m,hn,hl⟩:=I.loc
 have vis:Vis X.env.scope x:=by rcases hx with k|k;exact .inl k;exact .inr (.inl k)
 obtain⟨u,r,l⟩:=hl i x v hi e1 vis;refine wpAny_AugAssign_Name ?_
 have go:wpAny (model X.prog X.w) X.A (eval e X.env) (fun w s₂=>wpAny (model X.prog X.w) X.A (inplaceOp op u w) (fun r s₃=>wpAny (model X.prog X.w) X.A (storeName X.env x r) (fun _=>SP X pins D .next) X.xe s₃) X.xe s₂) X.xe s:=by
  refine thn (he pins s σ H _ I h) fun w s1 ⟨y,H1,I1,r1,q1⟩=>?_
  refine thn (ho pins s1 σ H1 v y u w _ I1 r r1 q1) fun z s2 ⟨zv,H2,I2,r2,q2⟩=>?_
  exact ji I2 hN hi hx r2 (fun s3 I3=>⟨_,H2,I3,q2⟩) hf
 rcases l with⟨hk,hm⟩|⟨hk,c,hc,hcell⟩
 . exact wpAny_loadName_local I.ok.kind hk hn hm go
 . rcases hk with hk|hk
   . exact wpAny_loadName_cell I.ok.kind hk hc hcell go
   . rcases hx with k|k
     . have:X.env.scope.names.lookup x=some .free:=hk
       rw[k]at this;cases this
     . have:X.env.scope.names.lookup x=some .free:=hk
       rw[k]at this;cases this
noncomputable def ipI(f:Int->Int->Int):TIp:=fun x y H Q=>∃ i j,x=.int i /\ y=.int j /\ Q (.int (f i j)) H
theorem oa:PIp X .Add (ipI fun i j=>i+j):=by
 intro pins s σ H x y v u Q I r1 r2 h;obtain⟨i,j,e1,e2,q⟩:=h;subst e1;subst e2;obtain⟨t,rfl⟩:=r1;obtain⟨t',rfl⟩:=r2;exact iadd_int ⟨.int _,H,I.tok _,⟨_,rfl⟩,q⟩
end
section
variable{X:Cx}{pos:Pos}
noncomputable def Br(c:TT)(tb:TS):TS:=fun D σ H=>∃ W:Nat->St->Hp->Prop,(∃ m,W m σ H) /\ ∀ m σ H,W m σ H ->
 c σ H fun b H1=>if b=true then ∃ N:St->Hp->Prop,(∀ σ' H',N σ' H'->∃ m',m'<m /\ W m' σ' H') /\ tb { D with nx:=N,ct:=N,bk:=D.nx } σ H1 else D.nx σ H1
theorem ED{c:Expr}{body:List Stmt}{tc:TT}{tb:TS}(hp:PassesOwn (model X.prog X.w) X.A X.env X.xe)(hc:PT X c tc)(hb:PSs X body tb):PS X (.While c body [] pos) (Br tc tb):=by
 intro pins s σ H D I h;obtain⟨W,⟨m0,w0⟩,turn⟩:=h;refine wpAny_While (codeAny_whileLoop (fun n s'=>∃ σ' H',Inv X pins σ' H' s' /\ W n σ' H') ?_ m0 ⟨σ,H,I,w0⟩)
 rintro n s1 ⟨σ1,H1,I1,w1⟩
 refine wpAny_passesOwn hp (thn (hc pins s1 σ1 H1 _ I1 (turn n σ1 H1 w1)) fun b s2 ⟨H2,I2,q2⟩=>?_)
 cases b with
 | true=>
   obtain⟨N,hN,q2⟩:=q2;rw[if_pos rfl];refine wpAny_passesOwn hp (thn (hb pins s2 σ1 H2 _ I2 q2) fun f s3 q3=>?_)
   cases f with
   | next=>
     obtain⟨σ3,H3,I3,n3⟩:=q3;obtain⟨m',hm,w3⟩:=hN σ3 H3 n3
     exact⟨m',hm,σ3,H3,I3,w3⟩
   | cont=>
     obtain⟨σ3,H3,I3,n3⟩:=q3;obtain⟨m',hm,w3⟩:=hN σ3 H3 n3
     exact⟨m',hm,σ3,H3,I3,w3⟩
   |brk=>exact q3
   |ret v=>exact q3
 | false=>
   rw[if_neg Bool.false_ne_true];exact wpAny_execs_nil ⟨σ1,H2,I2,q2⟩
end
structure It where
 go:Nat->Hp->Prop
 yld:Nat->Hp->V->Hp->Prop
 stop:Nat->Hp->Prop
noncomputable def pe(X:Cx)(pins:List (Addr×Obj))(H:Hp)(b:Addr):Prop:=
 H b=none /\ b≠X.env.locals /\ b∉X.fs /\ (b∈X.ex \/ X.s₀.heap.objs.size<=b) /\ (∀ x c,X.env.cells.lookup x=some c->c≠b) /\ ∀ p∈X.pn++pins,p.1≠b
theorem Inv.zJ{X:Cx}{pins:List (Addr×Obj)}{σ:St}{H H':Hp}{s:Shared}{b:Addr}(I:Inv X pins σ H s)(hb:s.heap.objs.size<=b)(hn:H' b=none):pe X pins H' b:=by
 refine⟨hn,Nat.ne_of_gt (Nat.lt_of_lt_of_le I.lt hb),I.M3 hb,.inr (Nat.le_trans I.sz hb),fun x c e z=>?_,fun p hp z=>?_⟩
 . obtain⟨v,q⟩:=I.cell x c e;exact absurd (Nat.lt_of_lt_of_le q.lt (by rw[z];exact hb)) (Nat.lt_irrefl _)
 . exact absurd (Nat.lt_of_lt_of_le (Heap.lt_size (I.pin p hp).1) (by rw[z];exact hb)) (Nat.lt_irrefl _)
structure Turn(P:Program)(w:World)(K:PySem.W.Frag)(tg:Expr)(J:It)(fp:List Addr)(it:Addr)(tn:Nat->Heap->Prop):Prop where
 mem:it∈fp
 obj:∀ i h,tn i h->∀ b∈fp,∃ o,h.get? b=some o /\ ∀ v,o.data≠.cell v
 keep:∀ i h h',tn i h->(∀ b∈fp,∀ o,h.get? b=some o->h'.get? b=some o)->tn i h'
 item:∀(X:Cx),X.prog=P->X.w=w->X.K=K->X.calm=true->∀(i:Nat) (pins:List (Addr×Obj)) (s:Shared) (σ:St) (H:Hp) (E:Value->Shared->Prop),Inv X pins σ H s->(∀ b∈fp,pe X pins H b)->tn i s.heap->J.go i H ->
  wpAny (model P w) X.A (pyNext (.ref it)) (fun r s1=>∃ u,r=some u /\
   wpAny (model P w) X.A (letOwnedTupleGo tg (.ref it) u) (fun _ s2=>∃ x H',Inv X pins σ H' s2 /\ RelV x u /\ J.yld i H x H' /\ tn (i+1) s2.heap /\ ∀ b∈fp,H' b=none) E s1) E s
 done:∀(X:Cx),X.prog=P->X.w=w->X.K=K->X.calm=true->∀(i:Nat) (pins:List (Addr×Obj)) (s:Shared) (σ:St) (H:Hp) (E:Value->Shared->Prop),Inv X pins σ H s->(∀ b∈fp,pe X pins H b)->tn i s.heap->J.stop i H ->
  wpAny (model P w) X.A (pyNext (.ref it)) (fun r s1=>r=none /\ Inv X pins σ H s1) E s
 self:∀(A:Around) (i:Nat) (s:Shared) (Q:Value->Shared->Prop) (E:Value->Shared->Prop),tn i s.heap->Q (.ref it) s->wpAny (model P w) A (pyIter (.ref it)) Q E s
abbrev TI:=St->Hp->(It->Hp->Prop)->Prop
noncomputable def PIE(X:Cx)(pins:List (Addr×Obj))(σ:St)(tg:Expr)(R:It->Hp->Prop)(itv:Value)(s2:Shared):Prop:=
 ∃(it:Addr) (fp:List Addr) (tn:Nat->Heap->Prop) (J:It) (H':Hp),itv=.ref it /\ Inv X pins σ H' s2 /\ Turn X.prog X.w X.K tg J fp it tn /\ tn 0 s2.heap /\ (∀ b∈fp,pe X pins H' b) /\ R J H'
noncomputable def PI(X:Cx)(tg iter:Expr)(wi:TI):Prop:=
 ∀(pins:List (Addr×Obj)) (s:Shared) (σ:St) (H:Hp) (R:It->Hp->Prop),Inv X pins σ H s->wi σ H R ->
   wpAny (model X.prog X.w) X.A (eval iter X.env) (fun v s1=>wpAny (model X.prog X.w) X.A (pyIter v) (PIE X pins σ tg R) X.xe s1) X.xe s
theorem Co{M:Model}{A:Around}{E:Value->Shared->Prop}{s:Shared}{tg:Expr}{it:Addr}{u:Value}{o:Obj}{n:String}{vs:Array Value}{Q:Unit->Shared->Prop}(ho:s.heap.get? it=some o)(hc:o.cls=.type n)(hd:o.data=.fields vs)
  (hn:["enumerate","zip","dict_itemiterator","dict_reverseitemiterator","odict_iterator","itertools.zip_longest","itertools.pairwise"].contains n=false) (hQ:Q () s):wpAny M A (letOwnedTupleGo tg (.ref it) u) Q E s:=by
 unfold letOwnedTupleGo
 cases tg<;>first
  |exact wpAny_pure hQ
  | (cases u <;> first
      |exact wpAny_pure hQ
      | (refine wpAny_bind (wpAny_load ho ?_)
         rw[hc,hd];show wpAny M A (if(["enumerate","zip","dict_itemiterator","dict_reverseitemiterator","odict_iterator","itertools.zip_longest","itertools.pairwise"].contains n&&vs[0]?==some (rawInt _))=true then _ else _) Q E s;rw[if_neg (by intro h;rw[hn,Bool.false_and]at h;cases h)]
         exact wpAny_pure hQ))
noncomputable def Itl(K:PySem.W.Frag)(a:Addr):It:=
 ⟨fun i H=>∃ xs x,SqL K H a xs /\ xs[i]?=some x,fun i H x H'=>H'=H /\ ∀ xs,SqL K H a xs->xs[i]?=some x,fun i H=>∃ xs,SqL K H a xs /\ xs.length<=i⟩
noncomputable def Itt(K:PySem.W.Frag)(a:Addr):It:=
 ⟨fun i H=>∃ xs x,SqT K H a xs /\ xs[i]?=some x,fun i H x H'=>H'=H /\ ∀ xs,SqT K H a xs->xs[i]?=some x,fun i H=>∃ xs,SqT K H a xs /\ xs.length<=i⟩
noncomputable def Itr(lo:Int)(n:Nat):It:=⟨fun i _=>i<n,fun i H x H'=>H'=H /\ x=.int (lo+i),fun i _=>n<=i⟩
theorem wy{P:Program}{w:World}{K:PySem.W.Frag}{tg:Expr}(a it:Addr):Turn P w K tg (Itl K a) [it] it (fun i h=>h.IsListIter it a i) where
 mem:=by simp
 obj:=fun i h st b hb=>by
  have e:b=it:=by simpa using hb
  subst e;obtain⟨o,e,c,d⟩:=st
  exact⟨o,e,fun v z=>by rw[d]at z;cases z⟩
 keep:=fun i h h' st k=>st.at fun o e=>k it (by simp) o e
 item:=by
  intro X hP hw hK hc i pins s σ H E I hf st hg;subst hP hw hK;obtain⟨xs,x,hq,hx⟩:=hg;obtain⟨its,rv,p,hz⟩:=I.list hq;obtain⟨u,hu,ru⟩:=rv.get hx;obtain⟨f0,f1,f2,f3,f4,f5⟩:=hf it (by simp)
  refine wpAny_pyNext_list_item st p.isList (x:=u) (by simpa using hu) fun h' st' sb=>?_
  have I1:Inv X pins σ H { s with heap:=h' }:=I.turned (t':=s.toks) (fun b o hb e=>(sb.2 b hb).trans e) f0 f1 f3 f4 f5
  obtain⟨o,e,c,d⟩:=id st'
  exact⟨u,rfl,Co (s:={ s with heap:=h' }) e c d (by decide) ⟨x,H,I1,ru,⟨rfl,fun ys hy=>by rw[I.Ao hy hq];exact hx⟩,st',fun b hb=>(hf b hb).1⟩⟩
 done:=by
  intro X hP hw hK hc i pins s σ H E I hf st hg;subst hP hw hK;obtain⟨xs,hq,hx⟩:=hg;obtain⟨its,rv,p,hz⟩:=I.list hq;obtain⟨f0,f1,f2,f3,f4,f5⟩:=hf it (by simp);have hl:=rv.length
  exact wpAny_pyNext_list_end (I.ok.hd hc) st p.isList (by simp;omega) fun h' eb=>⟨rfl,I.turned (t':=s.toks) (fun b o hb e=>eb b o hb e) f0 f1 f3 f4 f5⟩
 self:=fun _ _ _ _ _ st h=>wpAny_pyIter_listiter st h
theorem vG{P:Program}{w:World}{K:PySem.W.Frag}{tg:Expr}(a it:Addr):Turn P w K tg (Itt K a) [it] it (fun i h=>h.IsTupleIter it a i) where
 mem:=by simp
 obj:=fun i h st b hb=>by
  have e:b=it:=by simpa using hb
  subst e;obtain⟨o,e,c,d⟩:=st
  exact⟨o,e,fun v z=>by rw[d]at z;cases z⟩
 keep:=fun i h h' st k=>st.at fun o e=>k it (by simp) o e
 item:=by
  intro X hP hw hK hc i pins s σ H E I hf st hg;subst hP hw hK;obtain⟨xs,x,hq,hx⟩:=hg;obtain⟨its,rv,p,hz⟩:=I.tuple hq;obtain⟨u,hu,ru⟩:=rv.get hx;obtain⟨f0,f1,f2,f3,f4,f5⟩:=hf it (by simp)
  refine wpAny_pyNext_tuple_item st (show s.heap.IsTuple a its.toArray from p) (x:=u) (by simpa using hu) fun h' st' sb=>?_
  have I1:Inv X pins σ H { s with heap:=h' }:=I.turned (t':=s.toks) (fun b o hb e=>(sb.2 b hb).trans e) f0 f1 f3 f4 f5
  obtain⟨o,e,c,d⟩:=id st'
  exact⟨u,rfl,Co (s:={ s with heap:=h' }) e c d (by decide) ⟨x,H,I1,ru,⟨rfl,fun ys hy=>by rw[I.De hy hq];exact hx⟩,st',fun b hb=>(hf b hb).1⟩⟩
 done:=by
  intro X hP hw hK hc i pins s σ H E I hf st hg;subst hP hw hK;obtain⟨xs,hq,hx⟩:=hg;obtain⟨its,rv,p,hz⟩:=I.tuple hq;obtain⟨f0,f1,f2,f3,f4,f5⟩:=hf it (by simp);have hl:=rv.length
  exact wpAny_pyNext_tuple_end (I.ok.hd hc) st (show s.heap.IsTuple a its.toArray from p) (by simp;omega) fun h' eb=>⟨rfl,I.turned (t':=s.toks) (fun b o hb e=>eb b o hb e) f0 f1 f3 f4 f5⟩
 self:=fun _ _ _ _ _ st h=>wpAny_pyIter_tupleiter st h
theorem AJ{P:Program}{w:World}{K:PySem.W.Frag}{tg:Expr}(it:Addr)(lo:Int)(n:Nat):Turn P w K tg (Itr lo n) [it] it (fun i h=>IsRangeIter h it (lo+(i:Nat)*1) ((n:Int) - (i:Nat)) 1) where
 mem:=by simp
 obj:=fun i h st b hb=>by
  have e:b=it:=by simpa using hb
  subst e
  exact⟨_,st,fun v z=>by
   have z':Data.fields _=Data.cell v:=z
   cases z'⟩
 keep:=fun i h h' st k=>k it (by simp) _ st
 item:=by
  intro X hP hw hK hc i pins s σ H E I hf st hg;subst hP hw hK;obtain⟨f0,f1,f2,f3,f4,f5⟩:=hf it (by simp);have W:=Walks.range (prog:=X.prog) (w:=X.w) (I.ok.hd hc) it lo 1 n
  refine W.item i s _ _ hg st fun v h' tk hv st' kk=>?_
  obtain⟨t,rfl⟩:=hv
  have I1:Inv X pins σ H { s with heap:=h',toks:=tk }:=I.turned (fun b o hb e=>kk b o (by simpa using hb) e) f0 f1 f3 f4 f5
  refine⟨_,rfl,Co (s:={ s with heap:=h',toks:=tk }) (n:="range_iterator") st' rfl rfl (by decide) ⟨.int (lo+i),H,I1,⟨t,?_⟩,⟨rfl,rfl⟩,st',fun b hb=>(hf b hb).1⟩⟩
  rw[Int.mul_one]
 done:=by
  intro X hP hw hK hc i pins s σ H E I hf st hg;subst hP hw hK;obtain⟨f0,f1,f2,f3,f4,f5⟩:=hf it (by simp)
  exact wpAny_pyNext_range_end (I.ok.hd hc) st (by have:n<=i:=hg;omega) fun h' eb=>⟨rfl,I.turned (t':=s.toks) (fun b o hb e=>eb b o hb e) f0 f1 f3 f4 f5⟩
 self:=fun _ _ _ _ _ st h=>wpAny_pyIter_rangeiter st h
section
variable{X:Cx}{tg:Expr}
noncomputable def zE(K:PySem.W.Frag)(tl:TE):TI:=fun σ H R=>tl σ H fun x H1=>∃ a,x=.ref a /\ (∃ xs,SqL K H1 a xs) /\ R (Itl K a) H1
noncomputable def Jv(K:PySem.W.Frag)(tl:TE):TI:=fun σ H R=>tl σ H fun x H1=>∃ a,x=.ref a /\ (∃ xs,SqT K H1 a xs) /\ R (Itt K a) H1
theorem Gk{l:Expr}{tl:TE}(hl:PE X l tl):PI X tg l (zE X.K tl):=by
 intro pins s σ H R I h
 refine thn (hl pins s σ H _ I h) fun v s1 ⟨x,H1,I1,r1,q1⟩=>?_
 obtain⟨a,e,⟨xs,hq⟩,q⟩:=q1;subst e;cases r1;obtain⟨its,rv,p,hz⟩:=I1.list hq;refine wpAny_pyIter_list p.isList ?_
 refine⟨s1.heap.objs.size,[s1.heap.objs.size],_,_,H1,rfl,I1.kept (t':=s1.toks) fun b o e=>Heap.get?_push_of_some _ e,wy a _,⟨_,Heap.get?_push_size _ rfl,rfl,rfl⟩,fun b hb=>?_,q⟩
 have e:b=s1.heap.objs.size:=by simpa using hb
 subst e;exact I1.zJ (Nat.le_refl _) (I1.hok.fresh (Nat.le_refl _))
theorem Ki{l:Expr}{tl:TE}(hl:PE X l tl):PI X tg l (Jv X.K tl):=by
 intro pins s σ H R I h
 refine thn (hl pins s σ H _ I h) fun v s1 ⟨x,H1,I1,r1,q1⟩=>?_
 obtain⟨a,e,⟨xs,hq⟩,q⟩:=q1;subst e;cases r1;obtain⟨its,rv,p,hz⟩:=I1.tuple hq;refine wpAny_pyIter_tuple (show s1.heap.IsTuple a its.toArray from p) ?_
 refine⟨s1.heap.objs.size,[s1.heap.objs.size],_,_,H1,rfl,I1.kept (t':=s1.toks) fun b o e=>Heap.get?_push_of_some _ e,vG a _,⟨_,Heap.get?_push_size _ rfl,rfl,rfl⟩,fun b hb=>?_,q⟩
 have e:b=s1.heap.objs.size:=by simpa using hb
 subst e;exact I1.zJ (Nat.le_refl _) (I1.hok.fresh (Nat.le_refl _))
theorem Ed{pins:List (Addr×Obj)}{σ:St}{H:Hp}{s:Shared}{R:It->Hp->Prop}{E:Value->Shared->Prop}{lo hi:Int}{t u v:Tok}{tk:Nat}(I:Inv X pins σ H s)(h1:-(2 ^ 62)<=lo)(h2:lo<2 ^ 62)(h3:-(2 ^ 62)<=hi)(h4:hi<2 ^ 62)
  (q:R (Itr lo (hi - lo).toNat) H):wpAny (model X.prog X.w) X.A (pyIter (.ref s.heap.objs.size)) (PIE X pins σ tg R) E { s with heap:=s.heap.push { cls:=.type "range",data:=.fields #[.int lo t,.int hi u,.int 1 v] },toks:=tk }:=by
 refine wpAny_pyIter_range (IsRange.new ..) (small_one h1 h2 h3 h4) ?_
 have I1:Inv X pins σ H { s with heap:=s.heap.push { cls:=.type "range",data:=.fields #[.int lo t,.int hi u,.int 1 v] },toks:=tk }:=I.kept fun b o e=>Heap.get?_push_of_some _ e
 refine⟨(s.heap.push { cls:=.type "range",data:=.fields #[.int lo t,.int hi u,.int 1 v] }).objs.size,[(s.heap.push { cls:=.type "range",data:=.fields #[.int lo t,.int hi u,.int 1 v] }).objs.size],_,_,H,rfl,
  I1.kept (t':=tk) fun b o e=>Heap.get?_push_of_some _ e,AJ _ lo (hi - lo).toNat,?_,fun b hb=>?_,q⟩
 . have e1:lo+((0:Nat):Int)*1=lo:=by simp
   have e2:(((hi - lo).toNat:Nat):Int) - ((0:Nat):Int)=Builtin.Range.rangeSize lo hi 1:=by rw[rangeSize_one];split<;>omega
   show IsRangeIter _ _ (lo+((0:Nat):Int)*1) ((((hi - lo).toNat:Nat):Int) - ((0:Nat):Int)) 1;rw[e1,e2];exact Heap.get?_push_size _ rfl
 . have e:b=(s.heap.push { cls:=.type "range",data:=.fields #[.int lo t,.int hi u,.int 1 v] }).objs.size:=by simpa using hb
   subst e;exact I1.zJ (Nat.le_refl _) (I1.hok.fresh (Nat.le_refl _))
noncomputable def DR(ta:TA):TI:=fun σ H R=>ta σ H fun vs H1=>∃ j:Int,vs=[.int j] /\ -(2 ^ 62)<=j /\ j<2 ^ 62 /\ R (Itr 0 j.toNat) H1
theorem DB{a:Expr}{ta:TA}{p pos:Pos}(hg:Gl X "range")(hm:X.mg "range" = none)(ha:PA X [a] ta)(hs:starEach [a] X.env=[(false,eval a X.env)]:=by rfl):PI X tg (.Call (.Name "range" p) [a] [] pos) (DR ta):=by
 intro pins s σ H R I h;refine Call_ (rN I hg hm boot_range (PyProof.Rows.callWith_type1 (thn (ha pos pins s σ H _ I h) fun us s1 ⟨vs,H1,I1,r1,q1⟩=>?_) hs rfl));obtain⟨j,e,q1,q2,q⟩:=q1;subst e
 cases r1 with
 | cons r rr=>
   cases rr;obtain⟨t,rfl⟩:=r;exact call_range_1 (Ed I1 (by omega) (by omega) q1 q2 (by simpa using q))
noncomputable def CK(wi:TI)(g:TG)(tb:TS):TS:=fun D σ H=>wi σ H fun J H1=>∃ W:Nat->Nat->St->Hp->Prop,(∃ m,W 0 m σ H1) /\ ∀ i m σ H,W i m σ H ->
 (J.stop i H /\ D.nx σ H) \/ (J.go i H /\ ∃ N:St->Hp->Prop,(∀ σ' H',N σ' H'->∃ m',m'<m /\ W (i+1) m' σ' H') /\ ∀ x H',J.yld i H x H'->g x σ H' fun σ2 H2=>tb { D with nx:=N,ct:=N,bk:=D.nx } σ2 H2)
noncomputable def xx(fp:List Addr)(h:Heap):List (Addr×Obj):=fp.filterMap fun b=>(h.get? b).map fun o=>(b,o)
theorem eh{fp:List Addr}{h:Heap}{b:Addr}{o:Obj}(hb:b∈fp)(e:h.get? b=some o):(b,o)∈xx fp h:=List.mem_filterMap.mpr ⟨b,hb,by rw[e];rfl⟩
theorem Dt{fp:List Addr}{h:Heap}{p:Addr×Obj}(hp:p∈xx fp h):p.1∈fp /\ h.get? p.1=some p.2:=by
 obtain⟨b,hb,e⟩:=List.mem_filterMap.mp hp
 cases q:h.get? b with
 |none=>rw[q]at e;cases e
 | some o=>
   rw[q]at e
   have e':(b,o)=p:=Option.some.inj e
   subst e'
   exact⟨hb,q⟩
theorem Inv.pinned{pins:List (Addr×Obj)}{σ:St}{H:Hp}{s:Shared}{fp:List Addr}(I:Inv X pins σ H s)(hf:∀ b∈fp,pe X pins H b)(ho:∀ b∈fp,∃ o,s.heap.get? b=some o /\ ∀ v,o.data≠.cell v):Inv X (pins++xx fp s.heap) σ H s:=
 I.B0 fun p hp=>(List.mem_append.mp hp).elim (fun z=>I.pin p (List.mem_append_right _ z)) fun z=>by
  obtain⟨hb,e⟩:=Dt z;obtain⟨f0,f1,f2,_⟩:=hf p.1 hb;obtain⟨o,e',d⟩:=ho p.1 hb;rw[e]at e';cases e'
  exact⟨e,f0,f1,f2,d⟩
theorem Inv.jo{pins pl:List (Addr×Obj)}{σ:St}{H:Hp}{s:Shared}(I:Inv X (pins++pl) σ H s):Inv X pins σ H s:=I.B0 fun p hp=>I.pin p (List.mem_append_right _ (List.mem_append_left _ hp))
theorem Kl{iter:Expr}{body:List Stmt}{wi:TI}{g:TG}{tb:TS}{pos:Pos}(hp:PassesOwn (model X.prog X.w) X.A X.env X.xe)(hc:X.calm=true)(hi:PI X tg iter wi)(hg:PG X tg g)(hb:PSs X body tb)
  (hs:∀ x,foldedSetIterable iter X.env x=pure x:=by intro _;rfl):PS X (.For tg iter body [] pos) (CK wi g tb):=by
 intro pins s σ H D I h;refine wpAny_For (thn (hi pins s σ H _ I h) fun v s1 h1=>thn h1 fun itv s2 h2=>?_) hs;obtain⟨it,fp,tn,J,H2,e,I2,T,st2,f2,W,⟨m0,w0⟩,turn⟩:=h2;subst e
 have stat:∀{H':Hp},(∀ b∈fp,H' b=none)->∀ b∈fp,pe X pins H' b:=fun hn b hb=>⟨hn b hb,(f2 b hb).2⟩
 refine codeAny_forLoop_any (fun n s'=>∃ i σ' H',Inv X pins σ' H' s' /\ tn i s'.heap /\ (∀ b∈fp,H' b=none) /\ W i n σ' H') ?_ m0 ⟨0,σ,H2,I2,st2,fun b hb=>(f2 b hb).1,w0⟩
 rintro n s3 ⟨i,σ3,H3,I3,st3,fr3,w3⟩
 rcases turn i n σ3 H3 w3 with⟨stop,qn⟩|⟨go,N,hN,step⟩
 . refine wpAny_passesOwn hp (thn (T.done X rfl rfl rfl hc i pins s3 σ3 H3 X.xe I3 (stat fr3) st3 stop) fun r s4 ⟨hr,I4⟩=>?_);subst hr;exact wpAny_execs_nil ⟨σ3,H3,I4,qn⟩
 . refine wpAny_passesOwn hp (thn (T.item X rfl rfl rfl hc i pins s3 σ3 H3 X.xe I3 (stat fr3) st3 go) fun r s4 ⟨u,hr,h4⟩=>?_);subst hr;refine wpAny_passesOwn hp (thn h4 fun _ s5 ⟨x,H5,I5,r5,y5,st5,fr5⟩=>?_)
   have I5':=I5.pinned (stat fr5) (T.obj _ _ st5)
   refine wpAny_passesOwn hp (thn (hg _ s5 σ3 H5 x u _ I5' r5 (step x H5 y5)) fun _ s6 ⟨σ6,H6,I6,q6⟩=>?_);refine wpAny_passesOwn hp (thn (hb _ s6 σ6 H6 _ I6 q6) fun f s7 q7=>?_)
   have again:∀{σ7:St} {H7:Hp},Inv X (pins++xx fp s5.heap) σ7 H7 s7->N σ7 H7->∃ m,m<n /\ ∃ i σ' H',Inv X pins σ' H' s7 /\ tn i s7.heap /\ (∀ b∈fp,H' b=none) /\ W i m σ' H':=fun {σ7 H7} I7 n7=>by
    obtain⟨m',hm,w7⟩:=hN σ7 H7 n7
    refine⟨m',hm,i+1,σ7,H7,I7.jo,T.keep _ _ _ st5 fun b hb o e=>(I7.pin (b,o) (List.mem_append_right _ (List.mem_append_right _ (eh hb e)))).1,fun b hb=>?_,w7⟩
    obtain⟨o,e,d⟩:=T.obj _ _ st5 b hb
    exact(I7.pin (b,o) (List.mem_append_right _ (List.mem_append_right _ (eh hb e)))).2.1
   cases f with
   |next=>obtain⟨σ7,H7,I7,n7⟩:=q7;exact again I7 n7
   |cont=>obtain⟨σ7,H7,I7,n7⟩:=q7;exact again I7 n7
   |brk=>obtain⟨σ7,H7,I7,q7⟩:=q7;exact⟨σ7,H7,I7.jo,q7⟩
   |ret v=>obtain⟨x7,σ7,H7,I7,r7,q7⟩:=q7;exact⟨x7,σ7,H7,I7.jo,r7,q7⟩
end
theorem y7{K:PySem.W.Frag}{a:Addr}{xs:List V}{g:TG}{tb:TS}{D:Ends}{σ:St}{H:Hp}(Pv:Nat->St->Hp->Prop)(h0:Pv 0 σ H)(hl:∀ i σ H,i<=xs.length->Pv i σ H->SqL K H a xs)
  (hs:∀ i x σ H,xs[i]?=some x->Pv i σ H->g x σ H fun σ2 H2=>tb { D with nx:=Pv (i+1),ct:=Pv (i+1),bk:=D.nx } σ2 H2) (hd:∀ σ H,Pv xs.length σ H->D.nx σ H):
  ∃ W:Nat->Nat->St->Hp->Prop,(∃ m,W 0 m σ H) /\ ∀ i m σ H,W i m σ H ->
    ((Itl K a).stop i H /\ D.nx σ H) \/ ((Itl K a).go i H /\ ∃ N:St->Hp->Prop,(∀ σ' H',N σ' H'->∃ m',m'<m /\ W (i+1) m' σ' H') /\ ∀ x H',(Itl K a).yld i H x H'->g x σ H' fun σ2 H2=>tb { D with nx:=N,ct:=N,bk:=D.nx } σ2 H2):=by
 refine⟨fun i m σ H=>m=xs.length - i /\ i<=xs.length /\ Pv i σ H,⟨xs.length,by simp,Nat.zero_le _,h0⟩,?_⟩
 rintro i m σ H ⟨rfl,hi,p⟩
 have q:=hl i σ H hi p
 by_cases hlt:i<xs.length
 . refine .inr ⟨⟨xs,xs[i],q,by simp[hlt]⟩,Pv (i+1),fun σ' H' p'=>⟨xs.length - (i+1),by omega,rfl,hlt,p'⟩,fun x H' y=>?_⟩;obtain⟨e,y⟩:=y;subst e;exact hs i x σ _ (y xs q) p
 . have e:i=xs.length:=by omega
   subst e;exact .inl ⟨⟨xs,q,Nat.le_refl _⟩,hd σ H p⟩
theorem Ga{K:PySem.W.Frag}{a:Addr}{xs:List V}{g:TG}{tb:TS}{D:Ends}{σ:St}{H:Hp}(Pv:Nat->St->Hp->Prop)(h0:Pv 0 σ H)(hl:∀ i σ H,i<=xs.length->Pv i σ H->SqT K H a xs)
  (hs:∀ i x σ H,xs[i]?=some x->Pv i σ H->g x σ H fun σ2 H2=>tb { D with nx:=Pv (i+1),ct:=Pv (i+1),bk:=D.nx } σ2 H2) (hd:∀ σ H,Pv xs.length σ H->D.nx σ H):
  ∃ W:Nat->Nat->St->Hp->Prop,(∃ m,W 0 m σ H) /\ ∀ i m σ H,W i m σ H ->
    ((Itt K a).stop i H /\ D.nx σ H) \/ ((Itt K a).go i H /\ ∃ N:St->Hp->Prop,(∀ σ' H',N σ' H'->∃ m',m'<m /\ W (i+1) m' σ' H') /\ ∀ x H',(Itt K a).yld i H x H'->g x σ H' fun σ2 H2=>tb { D with nx:=N,ct:=N,bk:=D.nx } σ2 H2):=by
 refine⟨fun i m σ H=>m=xs.length - i /\ i<=xs.length /\ Pv i σ H,⟨xs.length,by simp,Nat.zero_le _,h0⟩,?_⟩
 rintro i m σ H ⟨rfl,hi,p⟩
 have q:=hl i σ H hi p
 by_cases hlt:i<xs.length
 . refine .inr ⟨⟨xs,xs[i],q,by simp[hlt]⟩,Pv (i+1),fun σ' H' p'=>⟨xs.length - (i+1),by omega,rfl,hlt,p'⟩,fun x H' y=>?_⟩;obtain⟨e,y⟩:=y;subst e;exact hs i x σ _ (y xs q) p
 . have e:i=xs.length:=by omega
   subst e;exact .inl ⟨⟨xs,q,Nat.le_refl _⟩,hd σ H p⟩
abbrev R2:=V->V->Hp->VK->Prop
noncomputable def OpR(X:Cx)(f:Value->Value->Sem Value)(r:R2):Prop:=
 ∀(pins:List (Addr×Obj)) (s:Shared) (σ:St) (H:Hp) (x y:V) (v u:Value) (Q:VK),Inv X pins σ H s->RelV x v->RelV y u->r x y H Q ->
   wpAny (model X.prog X.w) X.A (f v u) (EP X pins σ Q) X.xe s
noncomputable def UnR(X:Cx)(f:Value->Sem Value)(r:V->Hp->VK->Prop):Prop:=
 ∀(pins:List (Addr×Obj)) (s:Shared) (σ:St) (H:Hp) (x:V) (v:Value) (Q:VK),Inv X pins σ H s->RelV x v->r x H Q ->
   wpAny (model X.prog X.w) X.A (f v) (EP X pins σ Q) X.xe s
noncomputable def pJ(X:Cx)(f:Value)(r:List V->Hp->VK->Prop):Prop:=
 ∀(pins:List (Addr×Obj)) (s:Shared) (σ:St) (H:Hp) (xs:List V) (us:List Value) (Q:VK),Inv X pins σ H s->Vals xs us->r xs H Q ->
   wpAny (model X.prog X.w) X.A (call f us) (EP X pins σ Q) X.xe s
noncomputable def Ny(X:Cx)(r:V->Hp->(Bool->Hp->Prop)->Prop):Prop:=
 ∀(pins:List (Addr×Obj)) (s:Shared) (σ:St) (H:Hp) (x:V) (v:Value) (Q:Bool->Hp->Prop),Inv X pins σ H s->RelV x v->r x H Q ->
   wpAny (model X.prog X.w) X.A (truthy v) (TP X pins σ Q) X.xe s
noncomputable def tOp(r:R2)(ta tb:TE):TE:=fun σ H Q=>ta σ H fun x H1=>tb σ H1 fun y H2=>r x y H2 Q
noncomputable def tUn(r:V->Hp->VK->Prop)(ta:TE):TE:=fun σ H Q=>ta σ H fun x H1=>r x H1 Q
noncomputable def rI(C:Int->Int->Prop)(g:Int->Int->V):R2:=fun x y H Q=>∃ i j,x=.int i /\ y=.int j /\ C i j /\ Q (g i j) H
noncomputable def rI0(g:Int->Int->V):R2:=fun x y H Q=>∃ i j,x=.int i /\ y=.int j /\ Q (g i j) H
noncomputable def rU(g:Int->V):V->Hp->VK->Prop:=fun x H Q=>∃ i,x=.int i /\ Q (g i) H
section
variable{X:Cx}{a b c:Expr}{ta tb tc:TE}{pos:Pos}
theorem Jw(ha:PE X a ta)(hb:PE X b tb){pins:List (Addr×Obj)}{s:Shared}{σ:St}{H:Hp}{R:V->V->Hp->Prop}(I:Inv X pins σ H s)
  (h:ta σ H fun x H1=>tb σ H1 fun y H2=>R x y H2) {Q:Value->Shared->Prop} {f:Value->Value->Sem Value}
  (hf:∀ v u s2 x y H2,Inv X pins σ H2 s2->RelV x v->RelV y u->R x y H2->wpAny (model X.prog X.w) X.A (f v u) Q X.xe s2):
  wpAny (model X.prog X.w) X.A (eval a X.env) (fun v s₁=>wpAny (model X.prog X.w) X.A (eval b X.env) (fun u s₂=>wpAny (model X.prog X.w) X.A (f v u) Q X.xe s₂) X.xe s₁) X.xe s:=by
 refine thn (ha pins s σ H _ I h) fun v s1 ⟨x,H1,I1,r1,q1⟩=>?_
 refine thn (hb pins s1 σ H1 _ I1 q1) fun u s2 ⟨y,H2,I2,r2,q2⟩=>?_
 exact hf v u s2 x y H2 I2 r1 r2 q2
theorem L5{op:Operator}{r:R2}(ho:OpR X (binaryOp op) r)(ha:PE X a ta)(hb:PE X b tb):PE X (.BinOp a op b pos) (tOp r ta tb):=by
 intro pins s σ H Q I h;exact wpAny_BinOp (Jw ha hb I h fun v u s2 x y H2 I2 rx ry q=>ho pins s2 σ H2 x y v u Q I2 rx ry q)
theorem LQ{op:UnaryOp}{r:V->Hp->VK->Prop}(ho:UnR X (unaryOp op) r)(ha:PE X a ta):PE X (.UnaryOp op a pos) (tUn r ta):=by
 intro pins s σ H Q I h;exact UnaryOp_ (thn (ha pins s σ H _ I h) fun v s1 ⟨x,H1,I1,r1,q1⟩=>ho pins s1 σ H1 x v Q I1 r1 q1)
theorem opI{f:Value->Value->Sem Value}{C:Int->Int->Prop}{g:Int->Int->Int}
  (rule:∀(i j:Int) (t u:Tok) (s:Shared) (Q:Value->Shared->Prop) (E:Value->Shared->Prop),C i j->Q (.int (g i j) s.toks) { s with toks:=s.toks+1 }->wpAny (model X.prog X.w) X.A (f (.int i t) (.int j u)) Q E s):
  OpR X f (rI C fun i j=>.int (g i j)):=by
 intro pins s σ H x y v u Q I rx ry h;obtain⟨i,j,rfl,rfl,hc,q⟩:=h;obtain⟨t,rfl⟩:=rx;obtain⟨t',rfl⟩:=ry;exact rule i j t t' s _ _ hc ⟨.int (g i j),H,I.tok _,⟨_,rfl⟩,q⟩
theorem L8{f:Value->Value->Sem Value}{g:Int->Int->Int}
  (rule:∀(i j:Int) (t u:Tok) (s:Shared) (Q:Value->Shared->Prop) (E:Value->Shared->Prop),Q (.int (g i j) s.toks) { s with toks:=s.toks+1 }->wpAny (model X.prog X.w) X.A (f (.int i t) (.int j u)) Q E s):
  OpR X f (rI0 fun i j=>.int (g i j)):=by
 intro pins s σ H x y v u Q I rx ry h;obtain⟨i,j,rfl,rfl,q⟩:=h;obtain⟨t,rfl⟩:=rx;obtain⟨t',rfl⟩:=ry;exact rule i j t t' s _ _ ⟨.int (g i j),H,I.tok _,⟨_,rfl⟩,q⟩
theorem F7{f:Value->Value->Sem Value}{g:Int->Int->Bool}
  (rule:∀(i j:Int) (t u:Tok) (s:Shared) (Q:Value->Shared->Prop) (E:Value->Shared->Prop),Q (.bool (g i j)) s->wpAny (model X.prog X.w) X.A (f (.int i t) (.int j u)) Q E s):
  OpR X f (rI0 fun i j=>.bl (g i j)):=by
 intro pins s σ H x y v u Q I rx ry h;obtain⟨i,j,rfl,rfl,q⟩:=h;obtain⟨t,rfl⟩:=rx;obtain⟨t',rfl⟩:=ry;exact rule i j t t' s _ _ ⟨.bl (g i j),H,I,rfl,q⟩
noncomputable def ID(i j:Int):Prop:=0<j /\ j<1073741824
noncomputable def Fu(i j:Int):Prop:=(-(2 ^ 64)<i /\ i<2 ^ 64) \/ (-(2 ^ 64)<j /\ j<2 ^ 64)
theorem Fu.ok{i j:Int}(h:Fu i j):IntMulOk i j:=by
 rcases h with⟨h1,h2⟩|⟨h1,h2⟩
 . exact .of_left (intBits_le_64 h1 h2)
 . exact .of_right (intBits_le_64 h1 h2)
theorem dj:OpR X (binaryOp .Add) (rI0 fun i j=>.int (i+j)):=L8 fun _ _ _ _ _ _ _ q=>add_int q
theorem mi:OpR X (binaryOp .Sub) (rI0 fun i j=>.int (i - j)):=L8 fun _ _ _ _ _ _ _ q=>sub_int q
theorem vf:OpR X (binaryOp .Mult) (rI Fu fun i j=>.int (i*j)):=opI fun _ _ _ _ _ _ _ hc q=>mul_int q hc.ok
theorem uj:OpR X (binaryOp .FloorDiv) (rI ID fun i j=>.int (i/j)):=opI fun i j _ _ _ _ _ hc q=>by
 have h1:(0:Int)<j:=hc.1
 have h2:j<1073741824:=hc.2
 exact floordiv_int (by omega) (by rw[Int.fdiv_eq_ediv_of_nonneg i (by omega)];exact q) (.inl (PyProof.noPylong_small (by omega)))
theorem mR:OpR X (binaryOp .Mod) (rI (fun _ j=>0<j) fun i j=>.int (i%j)):=opI fun i j _ _ _ _ _ hc q=>by
 have h1:(0:Int)<j:=hc
 exact mod_int' (by omega) (by rw[Int.fmod_eq_emod_of_nonneg i (by omega)];exact q)
theorem unI{f:Value->Sem Value}{g:Int->Int}
  (rule:∀(i:Int) (t:Tok) (s:Shared) (Q:Value->Shared->Prop) (E:Value->Shared->Prop),Q (.int (g i) s.toks) { s with toks:=s.toks+1 }->wpAny (model X.prog X.w) X.A (f (.int i t)) Q E s):
  UnR X f (rU fun i=>.int (g i)):=by
 intro pins s σ H x v Q I rx h;obtain⟨i,rfl,q⟩:=h;obtain⟨t,rfl⟩:=rx;exact rule i t s _ _ ⟨.int (g i),H,I.tok _,⟨_,rfl⟩,q⟩
theorem qq:UnR X (unaryOp .USub) (rU fun i=>.int (-i)):=unI fun _ _ _ _ _ q=>neg_int q
end
noncomputable def Jl:V->V->Bool
 |.non,.non=>true|.non,.int _=>true|.int _,.non=>true|.non,.bl _=>true|.bl _,.non=>true|.non,.str _=>true|.str _,.non=>true
 |.int _,.int _=>true|.bl _,.bl _=>true|.str _,.str _=>true|.byt _,.byt _=>true
 |.int _,.str _=>true|.str _,.int _=>true|.bl _,.str _=>true|.str _,.bl _=>true
 |_,_=>false
noncomputable def rEq:R2:=fun x y H Q=>Jl x y=true /\ Q (.bl (decide (x=y))) H
noncomputable def rNe:R2:=fun x y H Q=>Jl x y=true /\ Q (.bl (!decide (x=y))) H
theorem B5{i j:Int}:decide (V.int i=V.int j)=(i==j):=by
 rw[Bool.eq_iff_iff];simp
theorem Fb{i j:Bool}:decide (V.bl i=V.bl j)=(i==j):=by
 rw[Bool.eq_iff_iff];simp
theorem B2{i j:Str}:decide (V.str i=V.str j)=(i==j):=by
 rw[Bool.eq_iff_iff];simp
theorem Ct{i j:Array UInt8}:decide (V.byt i=V.byt j)=(i.toList==j.toList):=by
 rw[Bool.eq_iff_iff];cases i;cases j;simp
section
variable{X:Cx}{a b c:Expr}{ta tb tc:TE}{pos:Pos}
theorem cD{pins:List (Addr×Obj)}{σ:St}{H:Hp}{s:Shared}{Q:VK}{k k':Bool}(I:Inv X pins σ H s)(q:Q (.bl k) H)(e:k=k'):EP X pins σ Q (.bool k') s:=by
 subst e
 exact⟨.bl k,H,I,rfl,q⟩
theorem bQ:OpR X (compareOp .Eq) rEq:=by
 intro pins s σ H x y v u Q I rx ry h;obtain⟨hs,q⟩:=h
 cases x with
 | non=>
   cases rx
   cases y with
   |non=>cases ry;exact PySem.EqNone.eq_none_none (cD I q (by simp))
   |bl j=>cases ry;exact PySem.EqNone.eq_none_bool (cD I q (by simp))
   |int j=>obtain⟨t',rfl⟩:=ry;exact PySem.EqNone.eq_none_int (cD I q (by simp))
   |str j=>obtain⟨t',rfl⟩:=ry;exact PySem.EqNone.eq_none_str (cD I q (by simp))
   |_=>exact absurd (show false=true from hs) Bool.false_ne_true
 | bl i=>
   cases rx
   cases y with
   |non=>cases ry;exact PySem.EqNone.eq_bool_none (cD I q (by simp))
   |bl j=>cases ry;exact eq_bool (cD I q Fb)
   |str j=>obtain⟨t',rfl⟩:=ry;exact PySem.EqMixed.eq_bool_str (cD I q (by simp))
   |_=>exact absurd (show false=true from hs) Bool.false_ne_true
 | int i=>
   obtain⟨t,rfl⟩:=rx
   cases y with
   |non=>cases ry;exact PySem.EqNone.eq_int_none (cD I q (by simp))
   |int j=>obtain⟨t',rfl⟩:=ry;exact eq_int (cD I q B5)
   |str j=>obtain⟨t',rfl⟩:=ry;exact PySem.EqMixed.eq_int_str (cD I q (by simp))
   |_=>exact absurd (show false=true from hs) Bool.false_ne_true
 | str i=>
   obtain⟨t,rfl⟩:=rx
   cases y with
   |non=>cases ry;exact PySem.EqNone.eq_str_none (cD I q (by simp))
   |bl j=>cases ry;exact PySem.EqMixed.eq_str_bool (cD I q (by simp))
   |int j=>obtain⟨t',rfl⟩:=ry;exact PySem.EqMixed.eq_str_int (cD I q (by simp))
   |str j=>obtain⟨t',rfl⟩:=ry;exact eq_str (cD I q B2)
   |_=>exact absurd (show false=true from hs) Bool.false_ne_true
 | byt i=>
   obtain⟨t,rfl⟩:=rx
   cases y with
   |byt j=>obtain⟨t',rfl⟩:=ry;exact PySem.W.eq_bytes (cD I q Ct)
   |_=>exact absurd (show false=true from hs) Bool.false_ne_true
 |_=>cases y<;>exact absurd (show false=true from hs) Bool.false_ne_true
theorem xb:OpR X (compareOp .NotEq) rNe:=by
 intro pins s σ H x y v u Q I rx ry h;obtain⟨hs,q⟩:=h
 cases x with
 | non=>
   cases rx
   cases y with
   |non=>cases ry;exact PySem.EqNone.ne_none_none (cD I q (by simp))
   |bl j=>cases ry;exact PySem.EqNone.ne_none_bool (cD I q (by simp))
   |int j=>obtain⟨t',rfl⟩:=ry;exact PySem.EqNone.ne_none_int (cD I q (by simp))
   |str j=>obtain⟨t',rfl⟩:=ry;exact PySem.EqNone.ne_none_str (cD I q (by simp))
   |_=>exact absurd (show false=true from hs) Bool.false_ne_true
 | bl i=>
   cases rx
   cases y with
   |non=>cases ry;exact PySem.EqNone.ne_bool_none (cD I q (by simp))
   |bl j=>cases ry;exact ne_bool (cD I q (congrArg not Fb))
   |str j=>obtain⟨t',rfl⟩:=ry;exact PySem.EqMixed.ne_bool_str (cD I q (by simp))
   |_=>exact absurd (show false=true from hs) Bool.false_ne_true
 | int i=>
   obtain⟨t,rfl⟩:=rx
   cases y with
   |non=>cases ry;exact PySem.EqNone.ne_int_none (cD I q (by simp))
   |int j=>obtain⟨t',rfl⟩:=ry;exact ne_int (cD I q (congrArg not B5))
   |str j=>obtain⟨t',rfl⟩:=ry;exact PySem.EqMixed.ne_int_str (cD I q (by simp))
   |_=>exact absurd (show false=true from hs) Bool.false_ne_true
 | str i=>
   obtain⟨t,rfl⟩:=rx
   cases y with
   |non=>cases ry;exact PySem.EqNone.ne_str_none (cD I q (by simp))
   |bl j=>cases ry;exact PySem.EqMixed.ne_str_bool (cD I q (by simp))
   |int j=>obtain⟨t',rfl⟩:=ry;exact PySem.EqMixed.ne_str_int (cD I q (by simp))
   |str j=>obtain⟨t',rfl⟩:=ry;exact ne_str (cD I q (congrArg not B2))
   |_=>exact absurd (show false=true from hs) Bool.false_ne_true
 | byt i=>
   obtain⟨t,rfl⟩:=rx
   cases y with
   |byt j=>obtain⟨t',rfl⟩:=ry;exact PySem.W.ne_bytes (cD I q (congrArg not Ct))
   |_=>exact absurd (show false=true from hs) Bool.false_ne_true
 |_=>cases y<;>exact absurd (show false=true from hs) Bool.false_ne_true
theorem gK:OpR X (compareOp .Lt) (rI0 fun i j=>.bl (decide (i<j))):=F7 fun _ _ _ _ _ _ _ q=>lt_int q
theorem iR:OpR X (compareOp .LtE) (rI0 fun i j=>.bl (decide (i<=j))):=F7 fun _ _ _ _ _ _ _ q=>le_int q
theorem BI:OpR X (compareOp .Gt) (rI0 fun i j=>.bl (decide (j<i))):=F7 fun _ _ _ _ _ _ _ q=>gt_int q
theorem L9:OpR X (compareOp .GtE) (rI0 fun i j=>.bl (decide (j<=i))):=F7 fun _ _ _ _ _ _ _ q=>ge_int q
theorem sQ:OpR X (compareOp .Is) (fun x y H Q=>y=.non /\ Q (.bl (decide (x=.non))) H):=by
 intro pins s σ H x y v u Q I rx ry h;obtain⟨rfl,q⟩:=h;cases ry;refine is_none_gen (cD I q ?_)
 cases x<;>first
  |(cases rx;rfl)
  |(obtain⟨t,rfl⟩:=rx;rfl)
theorem qI:OpR X (compareOp .IsNot) (fun x y H Q=>y=.non /\ Q (.bl (!decide (x=.non))) H):=by
 intro pins s σ H x y v u Q I rx ry h;obtain⟨rfl,q⟩:=h;cases ry;refine isnot_none_gen (cD I q ?_)
 cases x<;>first
  |(cases rx;rfl)
  |(obtain⟨t,rfl⟩:=rx;rfl)
theorem n9(b:Expr){op:CmpOp}(h:op≠.In:=by decide)(h2:op≠.NotIn:=by decide):behindInMarks op b=false:=by
 have e1:(op==CmpOp.In)=false:=by cases op<;>first|rfl|exact absurd rfl h
 have e2:(op==CmpOp.NotIn)=false:=by cases op<;>first|rfl|exact absurd rfl h2
 cases b<;>simp[behindInMarks,e1,e2]
theorem Hq{op:CmpOp}{r:R2}(ho:OpR X (compareOp op) r)(ha:PE X a ta)(hb:PE X b tb)(hm:behindInMarks op b=false):PE X (.Compare a [op] [b] pos) (tOp r ta tb):=by
 intro pins s σ H Q I h;exact wpAny_Compare1 (Jw ha hb I h fun v u s2 x y H2 I2 rx ry q=>ho pins s2 σ H2 x y v u Q I2 rx ry q) hm
noncomputable def xa(t:TE):TT:=fun σ H Q=>t σ H fun x H'=>∃ k,x=.bl k /\ Q k H'
theorem G0{op:CmpOp}{r:R2}(ho:OpR X (compareOp op) r)(ha:PE X a ta)(hb:PE X b tb)(hm:behindInMarks op b=false):PT X (.Compare a [op] [b] pos) (xa (tOp r ta tb)):=by
 intro pins s σ H Q I h
 refine wpAny_isTrue_Compare1 (thn (ha pins s σ H _ I h) fun v s1 ⟨x,H1,I1,r1,q1⟩=>thn (hb pins s1 σ H1 _ I1 q1) fun u s2 ⟨y,H2,I2,r2,q2⟩=>
  thn (ho pins s2 σ H2 x y v u _ I2 r1 r2 q2) fun c s3 ⟨z,H3,I3,r3,k,e,q3⟩=>?_) hm
 subst e;cases r3;exact wpAny_truthy_bool ⟨H3,I3,q3⟩
noncomputable def uw(r r':R2)(ta tb tc:TE):TE:=fun σ H Q=>ta σ H fun x H1=>tb σ H1 fun y H2=>r x y H2 fun z H3=>∃ k,z=.bl k /\
 (if k=true then tc σ H3 fun w' H4=>r' y w' H4 Q else Q (.bl false) H3)
theorem DJ{op op':CmpOp}{r r':R2}(ho:OpR X (compareOp op) r)(ho':OpR X (compareOp op') r')(ha:PE X a ta)(hb:PE X b tb)(hc:PE X c tc)
  (hm:lastMarks [op,op'] [b,c]=false:=by with_unfolding_all rfl):PE X (.Compare a [op,op'] [b,c] pos) (uw r r' ta tb tc):=by
 intro pins s σ H Q I h
 refine Compare_chain (thn (ha pins s σ H _ I h) fun v s1 ⟨x,H1,I1,r1,q1⟩=>chain_link (thn (hb pins s1 σ H1 _ I1 q1) fun u s2 ⟨y,H2,I2,r2,q2⟩=>
  thn (ho pins s2 σ H2 x y v u _ I2 r1 r2 q2) fun d s3 ⟨z,H3,I3,r3,k,e,q3⟩=>?_)) hm
 subst e;cases r3;refine wpAny_truthy_bool ?_
 cases k with
 |false=>exact ite_ff ⟨.bl false,H3,I3,rfl,q3⟩
 |true=>exact ite_tt (chain_last (thn (hc pins s3 σ H3 _ I3 q3) fun w' s4 ⟨z',H4,I4,r4,q4⟩=>ho' pins s4 σ H4 y z' u w' Q I4 r2 r4 q4))
theorem Er{op op':CmpOp}{r r':R2}(ho:OpR X (compareOp op) r)(ho':OpR X (compareOp op') r')(ha:PE X a ta)(hb:PE X b tb)(hc:PE X c tc)
  (hm:lastMarks [op,op'] [b,c]=false:=by with_unfolding_all rfl):PT X (.Compare a [op,op'] [b,c] pos) (xa (uw r r' ta tb tc)):=by
 intro pins s σ H Q I h
 refine isTrue_chain (thn (ha pins s σ H _ I h) fun v s1 ⟨x,H1,I1,r1,q1⟩=>test_link (thn (hb pins s1 σ H1 _ I1 q1) fun u s2 ⟨y,H2,I2,r2,q2⟩=>
  thn (ho pins s2 σ H2 x y v u _ I2 r1 r2 q2) fun d s3 ⟨z,H3,I3,r3,k,e,q3⟩=>?_)) hm
 subst e;cases r3;refine wpAny_truthy_bool ?_
 cases k with
 | false=>
   obtain⟨k',e',q'⟩:=q3
   cases e'
   exact ite_ff ⟨H3,I3,q'⟩
 | true=>
   refine ite_tt (test_last (thn (hc pins s3 σ H3 _ I3 q3) fun w' s4 ⟨z',H4,I4,r4,q4⟩=>thn (ho' pins s4 σ H4 y z' u w' _ I4 r2 r4 q4) fun d' s5 ⟨z2,H5,I5,r5,k2,e2,q5⟩=>?_));subst e2;cases r5;exact wpAny_truthy_bool ⟨H5,I5,q5⟩
noncomputable def AZ(K:PySem.W.Frag)(x:V)(H:Hp)(k:Bool):Prop:=
 match x with
 |.non=>k=false
 |.bl b=>k=b
 |.int i=>k=(i != 0)
 |.str y=>y.length<=sizeLine /\ k=((y.length:Int) != 0)
 |.byt y=>y.size<=sizeLine /\ k=((y.size:Int) != 0)
 |.ref p=>(∃ xs,SqL K H p xs /\ k=!xs.isEmpty) \/ (∃ xs,SqT K H p xs /\ k=!xs.isEmpty) \/ ∃ kvs,H p=some (.dK kvs) /\ k=!kvs.isEmpty
 |_=>False
theorem Bj{κ:Type}{kvs:List (κ×V)}{vs:List (κ×Value)}(r:KV kvs vs):(!vs.isEmpty)=!kvs.isEmpty:=by
 cases r<;>rfl
theorem u5{xs:List V}{its:List Value}(r:Vals xs its):(!its.toArray.isEmpty)=!xs.isEmpty:=by
 cases r<;>simp
theorem uN:(sizeLine:Nat)<2 ^ 63:=by rw[sizeLine_eq];decide
theorem IF:Ny X (fun x H Q=>∃ k,AZ X.K x H k /\ Q k H):=by
 intro pins s σ H x v Q I rx h;obtain⟨k,e,q⟩:=h;have hl:=uN
 have hs:sizeLine=16777216:=sizeLine_eq
 cases x with
 | non=>
   cases rx
   have e':k=false:=e
   subst e';exact truthy_none ⟨H,I,q⟩
 | bl b=>
   cases rx
   have e':k=b:=e
   subst e';exact wpAny_truthy_bool ⟨H,I,q⟩
 | int i=>
   obtain⟨t,rfl⟩:=rx
   have e':k=(i != 0):=e
   subst e';exact PySem.P.truthy_int ⟨H,I,q⟩
 | str y=>
   obtain⟨t,rfl⟩:=rx
   obtain⟨hy,e'⟩:y.length<=sizeLine /\ k=((y.length:Int) != 0):=e
   subst e';exact PySem.P.truthy_str (by omega) ⟨H,I.tok _,q⟩
 | byt y=>
   obtain⟨t,rfl⟩:=rx
   obtain⟨hy,e'⟩:y.size<=sizeLine /\ k=((y.size:Int) != 0):=e
   subst e';exact PySem.W.truthy_bytes (by omega) ⟨H,I.tok _,q⟩
 | ref p=>
   cases rx
   have e':(∃ xs,SqL X.K H p xs /\ k=!xs.isEmpty) \/ (∃ xs,SqT X.K H p xs /\ k=!xs.isEmpty) \/ ∃ kvs,H p=some (.dK kvs) /\ k=!kvs.isEmpty:=e
   rcases e' with⟨xs,hx,e'⟩|⟨xs,hx,e'⟩|⟨kvs,hx,e'⟩
   . subst e';obtain⟨its,r,pl,hz⟩:=I.list hx;have hlen:=r.length;exact wpAny_truthy_list pl.isList (by simp only[List.size_toArray];omega) ⟨H,I.tok _,by rw[u5 r];exact q⟩
   . subst e';obtain⟨its,r,pl,hz⟩:=I.tuple hx;have hlen:=r.length;exact truthy_tuple pl (by simp only[List.size_toArray];omega) ⟨H,I.tok _,by rw[u5 r];exact q⟩
   . subst e'
     obtain⟨hz,hS,vs,r,m⟩:kvs.length<=sizeLine /\ (p==sysModules)=false /\ ∃ vs,KV kvs vs /\ s.heap.DictOf (yr X.prog X.w) p vs:=I.hok p _ hx
     have hlen:kvs.length=vs.length:=Paired.length r
     exact wpAny_truthy_dict hS m (by omega) ⟨H,I.tok _,by rw[Bj r];exact q⟩
 |_=>exact(show False from e).elim
theorem E0(ha:PE X a ta)(he:∀ whole,isTrue a X.env whole=(do let v <- whole;standAt a.pos;holding [v] (truthy v))):
  PT X a (fun σ H Q=>ta σ H fun x H'=>∃ k,AZ X.K x H' k /\ Q k H'):=by
 intro pins s σ H Q I h;exact isTrue_plain (thn (ha pins s σ H _ I h) fun v s1 ⟨x,H1,I1,r1,q1⟩=>IF pins s1 σ H1 x v Q I1 r1 q1) (he _)
theorem vals1{x:V}{us:List Value}(r:Vals [x] us):∃ u,us=[u] /\ RelV x u:=by
 cases r with
 |cons r1 r2=>cases r2;exact⟨_,rfl,r1⟩
theorem wL:pJ X (.type "int") (fun xs H Q=>(∃ i,xs=[.int i] /\ Q (.int i) H) \/ ∃ k,xs=[.bl k] /\ Q (.int (if k then 1 else 0)) H):=by
 intro pins s σ H xs us Q I r h
 rcases h with⟨i,rfl,q⟩|⟨k,rfl,q⟩
 . obtain⟨u,rfl,t,rfl⟩:=vals1 r;exact call_int_int ⟨.int i,H,I,⟨_,rfl⟩,q⟩
 . obtain⟨u,rfl,r1⟩:=vals1 r;cases r1;exact call_int_bool ⟨.int (if k then 1 else 0),H,I.tok _,⟨_,rfl⟩,q⟩
end
structure A7(h:Heap)(x dx C:Addr)(mA:Str->Option Value):Prop where
 obj:h.get? x=some (PySem.W.instObj C dx)
 ns:h.Ns1 dx mA
 ne:dx≠x
theorem Dz{h:Heap}{dx:Addr}{mA:Str->Option Value}(n:h.Ns1 dx mA):∃ od,h.get? dx=some od /\ ∀ name,PySem.W.lookIn name od=some (mA name):=by
 obtain⟨o,es,ep,ho,hd,hk,_,hm⟩:=n
 refine⟨o,ho,fun name=>?_⟩
 have e:=hm name;unfold nsFind findBy at e;rw[<- Array.find?_toList]at e;unfold PySem.W.lookIn;rw[hd];dsimp only;split
 . rename_i y q;rw[q]at e;exact congrArg some e
 . rename_i q;rw[q]at e
   have a:es.toList.any (·.refKey)=false:=by
    rw[List.any_eq_false];intro y hy;obtain⟨z,t,hkey⟩:=hk y (Array.mem_toList_iff.mp hy);simp[DictEntry.refKey,hkey]
   have a':¬ es.toList.any (·.refKey)=true:=by rw[a];exact Bool.false_ne_true
   rw[if_neg a'];exact congrArg some e
theorem A7.look{h:Heap}{x dx C:Addr}{mA:Str->Option Value}(I:A7 h x dx C mA):∃ od,PySem.W.InstAt h x (PySem.W.instObj C dx) C (some od) /\ ∀ name,PySem.W.lookIn name od=some (mA name):=
 let ⟨od,ho,hl⟩:=Dz I.ns
 ⟨od,⟨I.obj,rfl,rfl,ho⟩,hl⟩
section
variable{prog:Program}{w:World}{A:Around}{E:Value->Shared->Prop}{s:Shared}{K:PySem.W.Frag}{x dx C f:Addr}{mA:Str->Option Value}{name:Str}{v:Value}
theorem get_map{expr:Bool}{Q:Value->Shared->Prop}(X:K.In s.heap)(I:A7 s.heap x dx C mA)(hg:PySem.W.plainGet K C name=true)(hh:PySem.W.hasDictIn K C=true)
  (ha:PySem.W.findIn K (.ref C) name=some none) (hv:mA name=some v) (hv':PySem.W.handedIn v=true) (h:Q v { s with toks:=s.toks+1 }):
  wpAny (model prog w) A (getAttr (.ref x) name expr) Q E s:=by
 obtain⟨od,J,hl⟩:=I.look;exact PySem.W.get_value X J (PySem.W.plainGet_of hg).1 (PySem.W.findObj_own hh ha rfl (by rw[hl,hv])) hv' h
theorem E3{pl:Sem Bool}{Q:Value×List Value->Shared->Prop}(X:K.In s.heap)(I:A7 s.heap x dx C mA)(hg:PySem.W.plainGet K C name=true)
  (hf:PySem.W.findIn K (.ref C) name=some (some (.ref f))) (ht:PySem.W.isFn K (.ref f)=true) (hv:mA name=none) (h:Q (.ref f,[.ref x]) s):
  wpAny (model prog w) A (getMethod (.ref x) name pl) Q E s:=by
 obtain⟨od,J,hl⟩:=I.look;exact PySem.W.method_fn X J (PySem.W.plainGet_of hg).1 (PySem.W.plainGet_of hg).2 hf (beq_iff_eq.mp ht) (by show(PySem.W.lookIn name od).map (·.isSome)=some false;rw[hl,hv];rfl) h
theorem Gg{ns:List Str}{Q:Unit->Shared->Prop}(X:K.In s.heap)(I:A7 s.heap x dx C mA)
  (hs:PySem.W.findIn K (.ref C) "__setattr__" = some (some (.builtin "object.__setattr__"))) (hp:PySem.W.plainOver K C=true) (ht:PySem.W.takerIn K C name=some none) (hh:PySem.W.hasDictIn K C=true)
  (hw:PySem.Within mA ns) (hsz:ns.length<=sizeLine)
  (h:∀ h',A7 h' x dx C (fun y=>if y=name then some v else mA y)->Heap.SameBut dx s.heap h'->Q () { s with heap:=h',toks:=s.toks+2 }):
  wpAny (model prog w) A (setAttr (.ref x) name v) Q E s:=by
 obtain⟨od,J,hl⟩:=I.look;refine PySem.W.set_plain X J hs (PySem.W.osa_open (s:={ s with toks:=s.toks+1 }) (r:=none) X J hp ht fun b=>?_);obtain⟨cd,hc,hd'⟩:=PySem.W.any_some hh
 have hx:s.heap.get? x=some ⟨.ref C,some dx,.plain,#[]⟩:=I.obj
 refine wpAny_bind (wpAny_pure (wpAny_bind (wpAny_bind (wpAny_loadPart hx (wpAny_bind (PySem.W.Looks.here (s:={ s with toks:=s.toks+1 }) (PySem.W.looks_clsIn X hc) ?_))))));rw[hd'];refine wpAny_pure (a:=some dx) (wpAny_bind (wpAny_pure (wpAny_bind ?_)))
 refine wpAny_nsSet1 (s:={ s with toks:=s.toks+1 }) I.ns fun h' hn2 hs2=>?_
 obtain⟨oD,esD,epD,hoD,hdD,hcD⟩:=hn2.count (PySem.Within.cons name v hw);refine wpAny_bind (wpAny_lookBehind hoD (by rw[hdD];exact pastItsLine_dict (Nat.le_trans hcD (by rw[List.length_cons];omega))) ?_);exact wpAny_pure (h _ ⟨(hs2.2 _ (Ne.symm I.ne)).trans I.obj,hn2,I.ne⟩ hs2)
theorem Fw{R:Result->Shared->Prop}{vs:List Value}{kw:List (Str×Value)}(X:K.In s.heap)(hm:PySem.W.makesIn K C=true)
  (hi:PySem.W.findIn K (.ref C) "__init__" = some (some (.ref f))) (hf:PySem.W.typeIn K (.ref f)=some (.type "function"))
  (h:codeAny (model prog w) (A.under (.builtin "type.__call__" ⟨.ref C ::vs,kw⟩)) (.call (.ref f) ⟨.ref (s.heap.objs.size+1) ::vs,kw⟩) (PySem.W.InitBack (s.heap.objs.size+1) R)
    { s with heap:=(s.heap.push PySem.W.emptyDict).push (PySem.W.instObj C s.heap.objs.size) }):
  codeAny (model prog w) A (.call (.ref C) ⟨vs,kw⟩) R s:=by
 obtain⟨hh,g,d,t,os⟩:=s;exact PySem.W.make_core (PySem.W.makes_of X hm) (PySem.W.looks_findIn X hi) (fun self=>PySem.W.bind_fn X self hf) (.inl rfl) h
end
noncomputable def jC(f:Str)(v:V):List (Str×V)->List (Str×V)
 |[]=>[(f,v)]
 |(g,x) ::r=>if g=f then(g,v) ::r else(g,x) ::jC f v r
theorem tI(f g:Str)(v:V):∀ fs:List (Str×V),(jC f v fs).lookup g=if g=f then some v else fs.lookup g
 | []=>by
   show List.lookup g [(f,v)]=_
   by_cases h:g=f
   . have hb:(g==f)=true:=beq_iff_eq.mpr h
     simp only[List.lookup,hb,if_pos h]
   . have hb:(g==f)=false:=beq_eq_false_iff_ne.mpr h
     simp only[List.lookup,hb,if_neg h]
 | (k,x) ::r=>by
   have ih:=tI f g v r;rw[show jC f v ((k,x) ::r)=(if k=f then(k,v) ::r else(k,x) ::jC f v r) from rfl]
   by_cases hk:k=f
   . rw[if_pos hk]
     by_cases h:g=k
     . have hb:(g==k)=true:=beq_iff_eq.mpr h
       simp only[List.lookup,hb,if_pos (h.trans hk)]
     . have hb:(g==k)=false:=beq_eq_false_iff_ne.mpr h
       simp only[List.lookup,hb,if_neg (fun e:g=f=>h (e.trans hk.symm))]
   . rw[if_neg hk]
     by_cases h:g=k
     . have hb:(g==k)=true:=beq_iff_eq.mpr h
       simp only[List.lookup,hb,if_neg (fun e:g=f=>hk (h.symm.trans e))]
     . have hb:(g==k)=false:=beq_eq_false_iff_ne.mpr h
       simp only[List.lookup,hb];exact ih
theorem sJ(f:Str)(v:V):∀ fs:List (Str×V),f∈(jC f v fs).map (·.1) /\ ∀ g,g∈fs.map (·.1)->g∈(jC f v fs).map (·.1)
 |[]=>⟨by simp[jC],fun g h=>by simp at h⟩
 | (k,x) ::r=>by
   obtain⟨i1,i2⟩:=sJ f v r;rw[show jC f v ((k,x) ::r)=(if k=f then(k,v) ::r else(k,x) ::jC f v r) from rfl]
   by_cases hk:k=f
   . rw[if_pos hk];subst hk
     exact⟨by simp,fun g h=>by simpa using h⟩
   . rw[if_neg hk]
     refine⟨?_,fun g h=>?_⟩
     . rw[List.map_cons];exact List.mem_cons_of_mem _ i1
     . rw[List.map_cons]at h ⊢
       rcases List.mem_cons.mp h with e|e
       . exact List.mem_cons.mpr (.inl e)
       . exact List.mem_cons_of_mem _ (i2 g e)
theorem sW(f:Str)(v:V):∀ fs:List (Str×V),(jC f v fs).length<=fs.length+1
 |[]=>by simp[jC]
 | (k,x) ::r=>by
   have ih:=sW f v r;rw[show jC f v ((k,x) ::r)=(if k=f then(k,v) ::r else(k,x) ::jC f v r) from rfl]
   by_cases hk:k=f
   . rw[if_pos hk,List.length_cons,List.length_cons];omega
   . rw[if_neg hk,List.length_cons,List.length_cons];omega
theorem bO.some_of{v:V}{o:Option Value}(r:bO (some v) o):∃ u,o=some u /\ RelV v u:=by
 cases o with
 |none=>exact(show False from r).elim
 |some u=>exact⟨u,rfl,r⟩
theorem bO.none_of{o:Option Value}(r:bO none o):o=none:=by
 cases o with
 |none=>rfl
 |some u=>exact(show False from r).elim
theorem Dp{v:V}{u:Value}(r:RelV v u):PySem.W.handedIn u=true:=by
 cases v with
 |non=>cases(show u=Value.none from r);rfl
 |bl b=>cases(show u=Value.bool b from r);rfl
 |int i=>obtain⟨t,e⟩:=(show ∃ t,u=Value.int i t from r);cases e;rfl
 |str x=>obtain⟨t,e⟩:=(show ∃ t,u=Value.str x t from r);cases e;rfl
 |byt b=>obtain⟨t,e⟩:=(show ∃ t,u=Value.bytes b t from r);cases e;rfl
 |flt b=>obtain⟨t,e⟩:=(show ∃ t,u=Value.float b t from r);cases e;rfl
 |ref a=>cases(show u=Value.ref a from r);rfl
 |ty n=>cases(show u=Value.type n from r);rfl
section
variable{P:Program}{w:World}{H H':Hp}{h h':Heap}{a C dx:Addr}{fs fs':List (Str×V)}
theorem xF(hok:HOk P w H h)(e:H a=some (.ins C dx fs)):∃ mA,A7 h a dx C mA /\ (∀ f,bO (fs.lookup f) (mA f)) /\ PySem.Within mA (fs.map (·.1)) /\ fs.length<=1000 /\ H dx=some (.own a):=by
 obtain⟨d,z,ne,ob,mA,n,r,q⟩:=(show iC P w H h a (.ins C dx fs) from hok a _ e)
 exact⟨mA,⟨ob,n,ne⟩,r,q,z,d⟩
end
structure Cls(K:PySem.W.Frag)(C:Addr):Prop where
 pg:PySem.W.plainGet K C Str.empty=true
 hd:PySem.W.hasDictIn K C=true
 po:PySem.W.plainOver K C=true
 sa:PySem.W.findIn K (.ref C) "__setattr__" = some (some (.builtin "object.__setattr__"))
theorem Cls.get{K:PySem.W.Frag}{C:Addr}(c:Cls K C)(f:Str):PySem.W.plainGet K C f=true:=c.pg
noncomputable def lr(K:PySem.W.Frag)(C:Addr)(f:Str):Prop:=PySem.W.findIn K (.ref C) f=some none
theorem lr.Mp{K:PySem.W.Frag}{C:Addr}{f:Str}(n:lr K C f):PySem.W.takerIn K C f=some none:=by
 unfold PySem.W.takerIn;rw[show PySem.W.findIn K (.ref C) f=some none from n];rfl
structure Meth(K:PySem.W.Frag)(C:Addr)(m:Str)(f:Addr):Prop where
 at_:PySem.W.findIn K (.ref C) m=some (some (.ref f))
 fn:PySem.W.isFn K (.ref f)=true
 kp:PySem.W.keepIn K (.ref f)=true
section
variable{X:Cx}{pins:List (Addr×Obj)}{σ:St}{H:Hp}{s:Shared}{a C dx:Addr}{fs:List (Str×V)}{f:Str}{v:V}{A:Around}{E:Value->Shared->Prop}
theorem A5{b:Bool}{Q:Value->Shared->Prop}(I:Inv X pins σ H s)(e:H a=some (.ins C dx fs))(c:Cls X.K C)(n:lr X.K C f)(l:fs.lookup f=some v)
  (h:∀ u s',Inv X pins σ H s'->RelV v u->Q u s'):wpAny (model X.prog X.w) A (getAttr (.ref a) f b) Q E s:=by
 obtain⟨mA,O,r,_,_,_⟩:=xF I.hok e;obtain⟨u,hu,ru⟩:=bO.some_of (v:=v) (o:=mA f) (by rw[<- l];exact r f);exact get_map I.kIn O (c.get f) c.hd n hu (Dp ru) (h u _ (I.tok _) ru)
theorem uY{m:Str}{g:Addr}{pl:Sem Bool}{Q:Value×List Value->Shared->Prop}(I:Inv X pins σ H s)(e:H a=some (.ins C dx fs))(c:Cls X.K C)(k:Meth X.K C m g)(l:fs.lookup m=none)
  (h:Q (.ref g,[.ref a]) s):wpAny (model X.prog X.w) A (getMethod (.ref a) m pl) Q E s:=by
 obtain⟨mA,O,r,_,_,_⟩:=xF I.hok e
 have hn:mA m=none:=bO.none_of (by rw[<- l];exact r m)
 exact E3 I.kIn O (c.get m) k.at_ k.fn hn h
theorem AH{y:V}{u:Value}{Q:Unit->Shared->Prop}(I:Inv X pins σ H s)(e:H a=some (.ins C dx fs))(c:Cls X.K C)(n:lr X.K C f)(hl:fs.length<1000)(ry:RelV y u)
  (h:∀ s',Inv X pins σ (upd H a (.ins C dx (jC f y fs))) s'->Q () s'):wpAny (model X.prog X.w) A (setAttr (.ref a) f u) Q E s:=by
 obtain⟨mA,O,r,wi,_,ho⟩:=xF I.hok e
 have hz:(fs.map (·.1)).length<=sizeLine:=by rw[List.length_map,sizeLine_eq];omega
 refine Gg I.kIn O c.sa c.po n.Mp c.hd wi hz fun h' O' sb=>h _ ?_
 have hd:∃ o,h'.get? dx=some o:=let ⟨o,_,_,e',_⟩:=O'.ns;⟨o,e'⟩
 refine I.write (x:=a) (e:=dx) (by rw[e];exact True.intro) (.inr ho) (fun b q hb z=>(sb.2 b hb).trans z) hd ?_
 refine⟨by rw[bf O.ne];exact ho,?_,O.ne,O'.obj,_,O'.ns,fun g=>?_,fun g hg=>?_⟩
 . have:=sW f y fs;omega
 . show bO ((jC f y fs).lookup g) (if g=f then some u else mA g);rw[tI]
   by_cases q:g=f
   . rw[if_pos q,if_pos q];exact ry
   . rw[if_neg q,if_neg q];exact r g
 . by_cases q:g=f
   . rw[q];exact(sJ f y fs).1
   . refine(sJ f y fs).2 g (wi g fun z=>hg ?_)
     show(if g=f then some u else mA g)=none
     rw[if_neg q];exact z
theorem Inv.made(I:Inv X pins σ H s):Inv X pins σ (upd (upd H s.heap.objs.size (.own (s.heap.objs.size+1))) (s.heap.objs.size+1) (.ins C s.heap.objs.size []))
  { s with heap:=(s.heap.push PySem.W.emptyDict).push (PySem.W.instObj C s.heap.objs.size) }:=by
 have e1:(s.heap.push PySem.W.emptyDict).get? s.heap.objs.size=some PySem.W.emptyDict:=Heap.get?_push_size s.heap rfl
 have e2:((s.heap.push PySem.W.emptyDict).push (PySem.W.instObj C s.heap.objs.size)).get? (s.heap.objs.size+1)=some (PySem.W.instObj C s.heap.objs.size):=by
  have:=Heap.get?_push_size (s.heap.push PySem.W.emptyDict) (o:=PySem.W.instObj C s.heap.objs.size) rfl
  rwa [Heap.size_push]at this
 have e3:(s.heap.push PySem.W.emptyDict).Ns s.heap.objs.size (fun _=>none):=⟨PySem.W.emptyDict,#[],_,e1,rfl,(fun e he=>absurd he (by simp)),fun _=>rfl⟩
 have I1:=I.laid (a:=s.heap.objs.size) (o:=.own (s.heap.objs.size+1)) (h':=s.heap.push PySem.W.emptyDict) (t':=s.toks) (fun b u q=>Heap.get?_push_of_some _ q) (Nat.le_refl _) ⟨_,e1⟩;refine I1.laid (a:=s.heap.objs.size+1) (o:=.ins C s.heap.objs.size []) (t':=s.toks) (fun b u q=>Heap.get?_push_of_some _ q) (Nat.le_of_eq (Heap.size_push _ _)) ?_
 have ne:s.heap.objs.size≠s.heap.objs.size+1:=Nat.ne_of_lt (Nat.lt_succ_self _)
 refine⟨by rw[bf ne,bz],Nat.zero_le _,ne,e2,fun _=>none,(Heap.Ns1.of_empty e3).at fun o q=>Heap.get?_push_of_some _ q,fun _=>True.intro,fun y hy=>absurd rfl hy⟩
theorem Hl{prog:Program}{w:World}{env:Env}{e:Expr}{f:Str}{pos:Pos}{s:Shared}{Q:Value->Shared->Prop}(hb:attributeBase e f env (eval e env)=eval e env)
  (h:wpAny (model prog w) A (eval e env) (fun o s₁=>wpAny (model prog w) A (getAttr o f true) Q E s₁) E s):wpAny (model prog w) A (eval (.Attribute e f pos) env) Q E s:=
 Attribute_any_ h (by rw[arm_eval_Attribute,hb])
end
noncomputable def IX(K:PySem.W.Frag)(ta:TE)(f:Str):TE:=fun σ H Q=>ta σ H fun x H1=>∃ a C dx fs v,x=.ref a /\ H1 a=some (.ins C dx fs) /\ Cls K C /\ lr K C f /\ fs.lookup f=some v /\ Q v H1
noncomputable def Kq(K:PySem.W.Frag)(ta tv:TE)(f:Str):TS:=fun D σ H=>tv σ H fun y H1=>ta σ H1 fun x H2=>∃ a C dx fs,x=.ref a /\ H2 a=some (.ins C dx fs) /\ Cls K C /\ lr K C f /\ fs.length<1000 /\
 D.nx σ (upd H2 a (.ins C dx (jC f y fs)))
section
variable{X:Cx}{o e value:Expr}{f:Str}{pos pos' tpos:Pos}{ta tv:TE}
theorem K9(he:PE X e ta)(hb:attributeBase e f X.env (eval e X.env)=eval e X.env):PE X (.Attribute e f pos) (IX X.K ta f):=by
 intro pins s σ H Q I h;refine Hl hb (thn (he pins s σ H _ I h) fun u s1 ⟨x,H1,I1,rx,a,C,dx,fs,v,ex,ea,c,n,l,q⟩=>?_);subst ex
 obtain rfl:u=Value.ref a:=rx
 exact A5 I1 ea c n l fun u' s2 I2 ru=>⟨v,H1,I2,ru,q⟩
theorem KR(ha:PE X o ta)(hv:PE X value tv)(hs:swapsWith value (some (.Attribute o f pos')) pos.line X.env=pure false):PS X (.Assign [.Attribute o f pos'] value pos) (Kq X.K ta tv f):=by
 intro pins s σ H D I h;refine plainObj_wpAny_Assign_Attribute (thn (hv pins s σ H _ I h) fun u s1 ⟨y,H1,I1,ry,q⟩=>thn (ha pins s1 σ H1 _ I1 q) fun ov s2 ⟨x,H2,I2,rx,a,C,dx,fs,ex,ea,c,n,l,q2⟩=>?_) hs;subst ex
 obtain rfl:ov=Value.ref a:=rx
 exact AH I2 ea c n l ry fun s3 I3=>⟨σ,_,I3,q2⟩
end
structure gN(k:Nat)(A:Around):Prop where
 hd:A.handled=none
 dp:A.depth+3*k+5<recursionLimit
 un:A.units+16*k+200<cLine
theorem gN.mono{j k:Nat}{A:Around}(r:gN k A)(h:j<=k):gN j A:=⟨r.hd,by have:=r.dp;omega,by have:=r.un;omega⟩
theorem gN.deeper{k:Nat}{A:Around}(r:gN (k+1) A)(env:Env):gN k (A.deeper env):=
 ⟨r.hd,by have:=r.dp;show A.depth+1+3*k+5<_;omega,by have:=r.un;show A.units+3+16*k+200<_;omega⟩
theorem Bi{A:Around}{C:Addr}{us:List Value}{kw:List (Str×Value)}:(A.under (.builtin "type.__call__" ⟨.ref C ::us,kw⟩)).depth=A.depth+1:=by
 first|rfl|simp[Around.under,Code.weight,Code.isCreation,Code.isGuard,Code.isCaller,Code.frames,Code.isFrame,guardIds]
theorem AO{A:Around}{C:Addr}{us:List Value}{kw:List (Str×Value)}:(A.under (.builtin "type.__call__" ⟨.ref C ::us,kw⟩)).units=A.units+1:=by
 first|rfl|simp[Around.under,Code.cUnits,Code.frames,Code.isFrame]
theorem gN.make{k:Nat}{A:Around}(r:gN (k+1) A)(C:Addr)(us:List Value)(kw:List (Str×Value)):gN k (A.under (.builtin "type.__call__" ⟨.ref C ::us,kw⟩)):=
 ⟨r.hd,by have:=r.dp;rw[Bi];omega,by have:=r.un;rw[AO];omega⟩
theorem gN.depth{k:Nat}{A:Around}(r:gN k A):A.depth<recursionLimit:=by have:=r.dp;omega
theorem gN.units{k:Nat}{A:Around}(r:gN k A):A.units+64<cLine:=by have:=r.un;omega
noncomputable def km:TA:=fun _ H Q=>Q [] H
noncomputable def ib(ta:TE)(tr:TA):TA:=fun σ H Q=>ta σ H fun x H1=>tr σ H1 fun xs H2=>Q (x ::xs) H2
section
variable{X:Cx}{e:Expr}{es:List Expr}{te:TE}{t:TA}{pos:Pos}
theorem Je:PA X [] km:=fun _ _ _ _ H Q I h=>Calls.spliced_nil ⟨[],H,I,.nil,h⟩
theorem Hh(ha:PE X e te)(hr:PA X es t)(hs:starEach (e ::es) X.env=(false,eval e X.env) ::starEach es X.env:=by rfl):PA X (e ::es) (ib te t):=by
 intro pos pins s σ H Q I h;rw[hs];show wpAny _ _ (spliced ((false,eval e X.env) ::backTo pos (starEach es X.env))) _ _ s;refine Calls.spliced_cons (thn (ha pins s σ H _ I h) fun u s1 ⟨x,H1,I1,r1,q1⟩=>?_)
 exact thn (hr pos pins s1 σ H1 _ I1 q1) fun us s2 ⟨xs,H2,I2,r2,q2⟩=>⟨x ::xs,H2,I2,.cons r1 r2,q2⟩
noncomputable def IU(t:TA):TE:=fun σ H Q=>t σ H fun xs H1=>xs.length<=sizeLine /\ ∀ p,H1 p=none->Q (.ref p) (upd H1 p (.tup xs))
noncomputable def Jd(t:TA):TE:=fun σ H Q=>t σ H fun xs H1=>xs.length<=sizeLine /\ ∀ p,H1 p=none->Q (.ref p) (upd H1 p (.lst xs))
theorem JG{x1}(h:PA X es t):PE X (.Tuple es x1 pos) (IU t):=by
 intro pins s σ H Q I hq;refine wpAny_Tuple_spliced (thn (h pos pins s σ H _ I hq) fun us s1 ⟨xs,H1,I1,r,z,q⟩=>⟨by rw[<- r.length];exact z,?_⟩)
 have hf:H1 s1.heap.objs.size=none:=I1.hok.fresh (Nat.le_refl _)
 refine⟨.ref s1.heap.objs.size,upd H1 s1.heap.objs.size (.tup xs),I1.laid (t':=s1.toks) (fun b u e=>Heap.get?_push_of_some _ e) (Nat.le_refl _) ?_,rfl,q _ hf⟩
 exact⟨z,us,r,⟨_,Heap.get?_push_size _ rfl,rfl,_,rfl⟩⟩
theorem Ku(h:PA X es t):PE X (.List es pos) (Jd t):=by
 intro pins s σ H Q I hq;refine wpAny_List_spliced (thn (h pos pins s σ H _ I hq) fun us s1 ⟨xs,H1,I1,r,z,q⟩=>⟨by rw[<- r.length];exact z,?_⟩)
 have hf:H1 s1.heap.objs.size=none:=I1.hok.fresh (Nat.le_refl _)
 refine⟨.ref s1.heap.objs.size,upd H1 s1.heap.objs.size (.lst xs),I1.laid (t':=s1.toks) (fun b u e=>Heap.get?_push_of_some _ e) (Nat.le_refl _) ?_,rfl,q _ hf⟩
 exact⟨z,us,0,r,Heap.get?_push_size _ rfl⟩
end
abbrev Sp:=List V->Hp->VK->XK->Prop
abbrev CXT:=List Env->Hp->Shared->XK->Value->Shared->Prop
structure Bt(P:Program)(w:World)(K:PySem.W.Frag)(mg:Str->Option Value)(base:Heap)(A:Around)(outer:List Env)(s:Shared)(H:Hp):Prop where
 frames:A.frames=some outer
 mod:Mod K mg base
 bs:∀ b o,base.get? b=some o->s.heap.get? b=some o /\ H b=none
 bsz:base.objs.size<=s.heap.objs.size
 tV:s.heap.FunFrames base outer
 frf:∀ b∈frs outer,H b=none
 hok:HOk P w H s.heap
 bare:AllBare s.gens
noncomputable def CE(outer:List Env)(P:Program)(w:World)(H:Hp)(s:Shared)(Q:VK)(u:Value)(s':Shared):Prop:=
 ∃ v H',s'.os=s.os /\ AllBare s'.gens /\ Un (frs outer) [] H H' s.heap s'.heap /\ HOk P w H' s'.heap /\ RelV v u /\ Q v H'
noncomputable def CR(CX:CXT)(outer:List Env)(P:Program)(w:World)(H:Hp)(s:Shared)(Q:VK)(E:XK)(r:Result)(s':Shared):Prop:=
 match r with
 |.ok (.ret u)=>CE outer P w H s Q u s'
 |.ok _=>False
 |.error e=>CX outer H s E e s'
structure bF(P:Program)(w:World)(K:PySem.W.Frag)(mg:Str->Option Value)(base:Heap)(CX:CXT)(k:Nat)(f:Addr)(fd:FuncData)(ps:List Str)(sp:Sp):Prop where
 len:∀ vs H Q E,sp vs H Q E->vs.length=ps.length
 run:∀(A:Around) (outer:List Env) (s:Shared) (H:Hp) (args:Args) (us:List Value) (vs:List V) (Q:VK) (E:XK),gN k A->Bt P w K mg base A outer s H->BindsTo s fd args (ps.zip us)->Vals vs us->sp vs H Q E ->
  codeAny (model P w) A (.call (.ref f) args) (CR CX outer P w H s Q E) s
theorem bF.mono{P:Program}{w:World}{K:PySem.W.Frag}{mg:Str->Option Value}{base:Heap}{CX:CXT}{j k:Nat}{f:Addr}{fd:FuncData}{ps:List Str}{sp:Sp}(F:bF P w K mg base CX j f fd ps sp)(h:j<=k):
  bF P w K mg base CX k f fd ps sp:=⟨F.len,fun A outer s H args us vs Q E hr=>F.run A outer s H args us vs Q E (hr.mono h)⟩
theorem bF.imp{P:Program}{w:World}{K:PySem.W.Frag}{mg:Str->Option Value}{base:Heap}{CX:CXT}{k:Nat}{f:Addr}{fd:FuncData}{ps:List Str}{sp sp':Sp}(F:bF P w K mg base CX k f fd ps sp)
  (h:∀ vs H Q E,sp' vs H Q E->sp vs H Q E):bF P w K mg base CX k f fd ps sp':=
 ⟨fun vs H Q E q=>F.len vs H Q E (h _ _ _ _ q),fun A outer s H args us vs Q E hr he hb hv hs=>F.run A outer s H args us vs Q E hr he hb hv (h _ _ _ _ hs)⟩
theorem Bt.make{P:Program}{w:World}{K:PySem.W.Frag}{mg:Str->Option Value}{base:Heap}{A:Around}{outer:List Env}{s:Shared}{H:Hp}(e:Bt P w K mg base A outer s H)(C:Addr)(us:List Value)(kw:List (Str×Value)):
  Bt P w K mg base (A.under (.builtin "type.__call__" ⟨.ref C ::us,kw⟩)) outer s H:=⟨by first|exact e.frames|(simpa [Around.under,Code.envs,Code.isFrame,pushEnvs]using e.frames),e.mod,e.bs,e.bsz,e.tV,e.frf,e.hok,e.bare⟩
section
variable{X:Cx}{pins:List (Addr×Obj)}{σ:St}{H:Hp}{s s':Shared}
theorem Inv.LS(I:Inv X pins σ H s):Bt X.prog X.w X.K X.mg X.base X.A X.stack s H:=
 ⟨I.ok.frames,I.ok.mod,I.bs,Nat.le_trans I.ok.bsz I.sz,I.stack,I.yB,I.hok,I.bare⟩
theorem Inv.after{Q:VK}{u:Value}(I:Inv X pins σ H s)(h:CE X.stack X.prog X.w H s Q u s'):EP X pins σ Q u s':=by
 obtain⟨v,H',os,bare,un,hok,r,q⟩:=h;obtain⟨hh,g,d,t,os'⟩:=s'
 obtain rfl:os'=s.os:=os
 exact⟨v,H',I.call (h':=hh) (g':=g) (d':=d) (t':=t) (ch:=[]) un hok bare (fun b z=>absurd z (by simp)),r,q⟩
end
noncomputable def Fo(C:Addr)(sp:Sp)(dvs:List V)(E:XK)(t:TA):TE:=fun σ H Q=>t σ H fun vs H1=>∀ x dx,H1 x=none->H1 dx=none->dx≠x ->
 sp (.ref x ::(vs++dvs)) (upd (upd H1 dx (.own x)) x (.ins C dx [])) (fun v H2=>v=.non /\ Q (.ref x) H2) E
noncomputable def Binds(K:PySem.W.Frag)(fd:FuncData)(ps:List Str)(ds:List Value):Prop:=
 ∀(s:Shared) (us:List Value),K.In s.heap->(us++ds).length=ps.length->BindsTo s fd ⟨us,[]⟩ (ps.zip (us++ds))
theorem Binds.all{K:PySem.W.Frag}{fd:FuncData}{ps:List Str}(h:∀ us:List Value,us.length=ps.length->bindArgs fd ⟨us,[]⟩=pure (ps.zip us)):Binds K fd ps []:=fun s us _ hl=>by
 rw[List.append_nil]at hl ⊢
 exact .of_eq (h us hl)
noncomputable def Passes(CX:CXT)(X:Cx)(E:XK):Prop:=∀(pins:List (Addr×Obj)) (σ:St) (H:Hp) (s:Shared) (e:Value) (s':Shared),Inv X pins σ H s->CX X.stack H s E e s'->X.xe e s'
section
variable{X:Cx}{CX:CXT}{k:Nat}{f C:Addr}{fd:FuncData}{ps:List Str}{sp:Sp}{dvs:List V}{ds:List Value}{E:XK}{x m:Str}{p pos apos:Pos}{e o:Expr}{es:List Expr}{ta:TE}{t:TA}
structure Mk(K:PySem.W.Frag)(C f:Addr):Prop where
 makes:PySem.W.makesIn K C=true
 init:PySem.W.findIn K (.ref C) "__init__" = some (some (.ref f))
 fn:PySem.W.isFn K (.ref f)=true
 kp:PySem.W.keepIn K (.ref C)=true
theorem El{pins:List (Addr×Obj)}{σ:St}{H:Hp}{s:Shared}{Q:VK}{us:List Value}{vs:List V}(M:Mk X.K C f)(F:bF X.prog X.w X.K X.mg X.base CX k f fd ps sp)(hr:gN (k+1) X.A)(hb:Binds X.K fd ps ds)(hd:Vals dvs ds)
  (hx:Passes CX X E) (I:Inv X pins σ H s) (r:Vals vs us)
  (h:∀ x dx,H x=none->H dx=none->dx≠x->sp (.ref x ::(vs++dvs)) (upd (upd H dx (.own x)) x (.ins C dx [])) (fun v H2=>v=.non /\ Q (.ref x) H2) E):
  wpAny (model X.prog X.w) X.A (call (.ref C) us) (EP X pins σ Q) X.xe s:=by
 have hq:=h (s.heap.objs.size+1) s.heap.objs.size (I.hok.fresh (Nat.le_succ _)) (I.hok.fresh (Nat.le_refl _)) (Nat.ne_of_lt (Nat.lt_succ_self _));have I2:=Inv.made (C:=C) I
 have r2:Vals (V.ref (s.heap.objs.size+1) ::(vs++dvs)) (Value.ref (s.heap.objs.size+1) ::(us++ds)):=.cons rfl (r.append hd)
 have hl:(Value.ref (s.heap.objs.size+1) ::us++ds).length=ps.length:=by
  have e:=r2.length;rw[F.len _ _ _ _ hq]at e;exact e.symm
 refine wpAny_call (Fw (f:=f) I.kIn M.makes M.init (beq_iff_eq.mp M.fn) (codeAny_mono (F.run _ X.stack _ _ ⟨Value.ref (s.heap.objs.size+1) ::us,[]⟩ (Value.ref (s.heap.objs.size+1) ::(us++ds)) _ _ E (hr.make C us [])
  (I2.LS.make C us []) (hb _ (Value.ref (s.heap.objs.size+1) ::us) I2.kIn hl) r2 hq) fun r s' hq'=>?_))
 cases r with
 |error e=>exact hx pins σ _ _ e s' I2 hq'
 | ok fl=>
   cases fl with
   | ret u=>
     obtain⟨v,H',I3,rv,ev,q3⟩:=I2.after hq';subst ev
     exact⟨rv,⟨V.ref (s.heap.objs.size+1),H',I3,rfl,q3⟩⟩
   |next=>exact False.elim hq'
   |brk=>exact False.elim hq'
   |cont=>exact False.elim hq'
theorem Fq(M:Mk X.K C f)(F:bF X.prog X.w X.K X.mg X.base CX k f fd ps sp)(hr:gN (k+1) X.A)(hg:Gl X x)(hm:X.mg x=some (.ref C))(hb:Binds X.K fd ps ds)(hd:Vals dvs ds)(hx:Passes CX X E)
  (hdb:(x==("__debug__":Str))=false:=by decide):PE X (.Call (.Name x p) [] [] pos) (Fo C sp dvs E km):=by
 intro pins s σ H Q I h;refine wpAny_Call_Name_kw (o6 I hg hm ?_ hdb);exact PySem.W.callWith_K0 I.kIn M.kp (El (us:=[]) M F hr hb hd hx I .nil h)
end
structure aP(N P:List Str)(sc:Scope):Prop where
 kind:sc.kind=.function
 co:sc.isCoroutine=false
 gen:sc.isGenerator=false
 nd:N.Nodup
 pre:N.take P.length=P
 par:∀ x∈P,sc.names.lookup x=some .local \/ sc.names.lookup x=some .cell
 nofree:∀ y∈sc.names,y.2≠.free
theorem wR{kindOf:Str->Option NameKind}{x:Str}:∀{binds:List (Str×Value)} {m:Str->Option Value},(∀ v,(x,v)∉binds)->bindL kindOf binds m x=m x
 |[],_,_=>rfl
 | (n,v) ::r,m,h=>by
   unfold bindL;rw[wR fun w hw=>h w (List.mem_cons_of_mem _ hw)];split
   . have:x≠n:=by rintro rfl;exact h v List.mem_cons_self
     simp[this]
   . rfl
theorem wB{kindOf:Str->Option NameKind}{x:Str}:∀{binds:List (Str×Value)} {m:Str->Option Value},(∀ v,(x,v)∉binds)->bindC kindOf binds m x=m x
 |[],_,_=>rfl
 | (n,v) ::r,m,h=>by
   unfold bindC;rw[wB fun w hw=>h w (List.mem_cons_of_mem _ hw)];split
   . rfl
   . have:x≠n:=by rintro rfl;exact h v List.mem_cons_self
     simp[this]
theorem wC{kindOf:Str->Option NameKind}{x:Str}{v:Value}:∀{P:List Str} {vs:List Value} {i:Nat} {m:Str->Option Value},P.Nodup->P[i]?=some x->vs[i]?=some v->kindOf x=some .local ->
  bindL kindOf (P.zip vs) m x=some v
 |[],_,_,_,_,h,_,_=>by simp at h
 |_ ::_,[],_,_,_,_,h,_=>by simp at h
 | p ::P,w ::vs,0,m,nd,h1,h2,hk=>by
   simp at h1 h2;subst h1;subst h2;show bindL kindOf ((p,w) ::P.zip vs) m p=_;unfold bindL;rw[wR fun v hv=>(List.nodup_cons.mp nd).1 (List.of_mem_zip hv).1,if_pos hk];simp
 | p ::P,w ::vs,i+1,m,nd,h1,h2,hk=>by
   show bindL kindOf ((p,w) ::P.zip vs) m x=_;unfold bindL;exact wC (i:=i) (List.nodup_cons.mp nd).2 (by simpa using h1) (by simpa using h2) hk
theorem wj{kindOf:Str->Option NameKind}{x:Str}{v:Value}:∀{P:List Str} {vs:List Value} {i:Nat} {m:Str->Option Value},P.Nodup->P[i]?=some x->vs[i]?=some v->kindOf x≠some .local ->
  bindC kindOf (P.zip vs) m x=some v
 |[],_,_,_,_,h,_,_=>by simp at h
 |_ ::_,[],_,_,_,_,h,_=>by simp at h
 | p ::P,w ::vs,0,m,nd,h1,h2,hk=>by
   simp at h1 h2;subst h1;subst h2;show bindC kindOf ((p,w) ::P.zip vs) m p=_;unfold bindC;rw[wB fun v hv=>(List.nodup_cons.mp nd).1 (List.of_mem_zip hv).1,if_neg hk];simp
 | p ::P,w ::vs,i+1,m,nd,h1,h2,hk=>by
   show bindC kindOf ((p,w) ::P.zip vs) m x=_;unfold bindC;exact wj (i:=i) (List.nodup_cons.mp nd).2 (by simpa using h1) (by simpa using h2) hk
noncomputable def start(N:List Str)(vs:List V):St:=vs.map some++List.replicate (N.length - vs.length) none
noncomputable def sv(CX:CXT)(P:Program)(w:World)(K:PySem.W.Frag)(mg:Str->Option Value)(base:Heap)(N:List Str)(qual:Str)(scope:Scope)(f:Addr)(cd:Value)(A:Around)(outer:List Env)(s:Shared)(H:Hp)(E:XK):Cx where
 prog:=P
 w:=w
 K:=K
 mg:=mg
 base:=base
 A:=A.deeper (envOfC qual scope s.heap.objs.size f cd)
 N:=N
 s₀:=s
 H₀:=H
 env:=envOfC qual scope s.heap.objs.size f cd
 outer:=outer
 stack:=envOfC qual scope s.heap.objs.size f cd ::outer
 ex:=[]
 calm:=true
 fn:=fun _=>true
 pn:=[]
 xe:=fun e s'=>wpAny (model P w) (A.deeper (envOfC qual scope s.heap.objs.size f cd)) (leaving (envOfC qual scope s.heap.objs.size f cd) e) (fun _ s''=>CX outer H s E e s'') (fun e' s''=>CX outer H s E e' s'') s'
theorem zZ{sc:Scope}{n:Nat}{x:Str}(h:sc.names.lookup x=some .cell):∃ c,(cellsFrom n sc.names []).lookup x=some c:=by
 have q:=PySem.W.cellsFrom_some sc.names n [] (.inl h);exact Option.isSome_iff_exists.mp q
theorem Dr{CX:CXT}{P:Program}{w:World}{K:PySem.W.Frag}{mg:Str->Option Value}{base:Heap}{N ps:List Str}{qual:Str}{scope:Scope}{f:Addr}{cd:Value}{A:Around}{outer:List Env}{s s1:Shared}{H:Hp}{E:XK}{us:List Value}{vs:List V}
  (S:aP N ps scope) (hd:A.handled=none) (e0:Bt P w K mg base A outer s H) (hl:vs.length=ps.length) (r:Vals vs us)
  (x:InCallC s s.heap.objs.size (bindL (envOfC qual scope s.heap.objs.size f cd).kindOf (ps.zip us) fun _=>none) (cellsFrom (s.heap.objs.size+1) scope.names []) (bindC (envOfC qual scope s.heap.objs.size f cd).kindOf (ps.zip us) fun _=>none) s1):
  Inv (sv CX P w K mg base N qual scope f cd A outer s H E) [] (start N vs) H s1:=by
 have hpl:ps.length<=N.length:=by have:=congrArg List.length S.pre;rw[List.length_take]at this;omega
 obtain⟨h1,tk,rfl,hk⟩:=x.done
 have noA:∀ b:Addr,b∉(sv CX P w K mg base N qual scope f cd A outer s H E).ex:=fun b z=>absurd (show b∈([]:List Addr) from z) (by simp)
 refine⟨⟨e0.mod,S.kind,rfl,rfl,Nat.le_refl _,fun y z c h1 h2=>?_,fun y hy=>?_,fun y c _ h=>?_,fun _=>hd,Around.frames_deeper e0.frames,.inr ⟨rfl,rfl⟩,fun b z=>absurd z (noA b),e0.bs,e0.bsz,fun b _ _=>noA b,fun b z=>absurd z (noA b),e0.tV,e0.frf⟩,
  rfl,e0.bare,Un.kept hk,⟨_,x.toInCall.ns,fun i y v h1 h2 h3=>?_⟩,fun y c h=>⟨_,x.cell y c h⟩,e0.hok.fresh (Nat.le_refl _),fun y c h=>?_,fun p hp=>absurd (show p∈([]:List (Addr×Obj)) from hp) (by simp),e0.hok.kept hk,?_⟩
 . exact name_of_addr x.apart (PySem.mem_of_lookup h1) (PySem.mem_of_lookup h2)
 . have hy:scope.names.lookup y=some .cell \/ scope.names.lookup y=some .free:=hy
   rcases hy with hy|hy
   . exact zZ hy
   . exact absurd rfl (S.nofree _ (PySem.mem_of_lookup hy))
 . exact Nat.le_of_lt (x.above y c (PySem.mem_of_lookup h))
 . have hi:i < vs.length:=by
    unfold start at h2
    by_cases hi:i<vs.length
    . exact hi
    . rw[List.getElem?_append_right (by simpa using hi)]at h2;rw[List.getElem?_replicate]at h2
      split at h2<;>cases h2
   have ha:vs[i]?=some v:=by
    unfold start at h2;rw[List.getElem?_append_left (by simpa using hi),List.getElem?_map]at h2
    cases e:vs[i]? with
    |none=>rw[e]at h2;cases h2
    |some a=>rw[e]at h2;cases h2;rfl
   obtain⟨u,hu,rv⟩:=r.get ha
   have hp:ps[i]?=some y:=by
    rw[<- S.pre,List.getElem?_take_of_lt (by omega)];exact h1
   have ndP:ps.Nodup:=by rw[<- S.pre];exact S.nd.sublist (List.take_sublist _ _)
   refine⟨u,rv,?_⟩
   rcases S.par y (List.mem_of_getElem? hp)with k|k
   . exact .inl ⟨k,wC ndP hp hu k⟩
   . obtain⟨c,e⟩:=zZ (n:=s.heap.objs.size+1) k;refine .inr ⟨.inl k,c,e,?_⟩;have q:=x.cell y c e;rw[wj ndP hp hu (by show scope.names.lookup y≠_;rw[k];decide)]at q;exact q
 . exact e0.hok.fresh (Nat.le_of_lt (x.above y c (PySem.mem_of_lookup h)))
 . unfold start;show _=N.length;rw[List.length_append,List.length_map,List.length_replicate];omega
theorem LA{CX:CXT}{P:Program}{w:World}{K:PySem.W.Frag}{mg:Str->Option Value}{base:Heap}{k:Nat}{f:Addr}{name qual:Str}{params:Arguments}{body:List Stmt}{scope:Scope}{dV kV doc pm cdv ct oc:Value}{an od:Option Addr}
  {osl:Array (Option Value)} {N ps:List Str} {sp:Sp} (lk:K.lookup f=some ⟨oc,od,.func (PySem.W.fnOf name qual params body scope dV kV doc pm an cdv ct),osl⟩) (hcd:PySem.W.codeIn K cdv qual=true) (S:aP N ps scope)
  (len:∀ vs H Q E,sp vs H Q E->vs.length=ps.length)
  (hbody:∀(A:Around) (outer:List Env) (s:Shared) (H:Hp) (vs:List V) (Q:VK) (E:XK),gN k (A.deeper (envOfC qual scope s.heap.objs.size f cdv))->sp vs H Q E ->
    ∃ t,PSs (sv CX P w K mg base N qual scope f cdv A outer s H E) body t /\ t { nx:=fun _ H'=>Q .non H',rt:=Q } (start N vs) H):
  bF P w K mg base CX (k+1) f (PySem.W.fnOf name qual params body scope dV kV doc pm an cdv ct) ps sp:=by
 refine⟨len,fun A outer s H args us vs Q E hr e0 hb r hsp=>?_⟩
 have hl:=len _ _ _ _ hsp
 have KX:K.In s.heap:=e0.mod.kin.keeps fun b o e=>(e0.bs b o e).1
 have lim:s.heap.NoLimit:=e0.mod.nolimit.keeps fun b o e=>(e0.bs b o e).1
 have hkind:∀ y∈ps.zip us,scope.names.lookup y.1=some .local \/ (scope.names.lookup y.1=some .cell /\ ((cellsFrom (s.heap.objs.size+1) scope.names []).lookup y.1).isSome=true):=fun ⟨n,v⟩ hy=>by
  rcases S.par n (List.of_mem_zip hy).1 with q|q
  . exact .inl q
  . exact .inr ⟨q,PySem.W.cellsFrom_some _ _ _ (.inl q)⟩
 refine codeAny_call_function hr.depth (KX _ _ lk) rfl S.co S.gen rfl (PySem.W.codeRec_of KX hcd) (hb _ _ _ _ ?_)
 refine wpAny_newFunctionEnv_cells S.kind hkind fun env he s1 x=>?_
 subst he
 refine⟨lim.keeps x.toInCall.keep,codeAny_func ?_⟩
 obtain⟨t,ht,hq⟩:=hbody A outer s H vs Q E (hr.deeper _) hsp
 have I:Inv (sv CX P w K mg base N qual scope f cdv A outer s H E) [] (start N vs) H s1:=Dr S hr.hd e0 hl r x
 refine wpAny_mono (ht [] s1 (start N vs) H _ I hq) (fun fl s' hs=>?_) fun e s' hs=>hs
 have fin:∀{σ':St} {H':Hp} {v:V} {u:Value},Inv (sv CX P w K mg base N qual scope f cdv A outer s H E) [] σ' H' s'->RelV v u->Q v H'->CE outer P w H s Q u s':=
  fun {σ' H' v u} J rv q=>⟨v,H',J.os,J.bare,J.base,J.hok,rv,q⟩
 cases fl with
 | ret u=>
   obtain⟨v,σ',H',J,rv,q⟩:=hs;exact fin J rv q
 | next=>
   obtain⟨σ',H',J,q⟩:=hs;exact fin (v:=V.non) (u:=Value.none) J rfl q
 | brk=>
   obtain⟨_,_,_,q⟩:=hs;exact False.elim q
 | cont=>
   obtain⟨_,_,_,q⟩:=hs;exact False.elim q
section
variable{X:Cx}{x:Str}{p pos:Pos}{e:Expr}{es:List Expr}{t:TA}{id T:String}{r:List V->Hp->VK->Prop}
noncomputable def tCB(r:List V->Hp->VK->Prop)(t:TA):TE:=fun σ H Q=>t σ H fun vs H1=>r vs H1 Q
theorem EK(hc:pJ X (.builtin id) r)(hg:Gl X x)(hm:X.mg x=none)(hv:bootBuiltins x=some (.builtin id))(ha:PA X (e ::es) t)(hn:x ≠ "__name__":=by decide)(hdb:(x==("__debug__":Str))=false:=by decide)
  (he:starEach (e ::es) X.env=(false,eval e X.env) ::starEach es X.env:=by rfl) (hpl:(backTo pos (starEach es X.env)).any (·.1)=false:=by rfl):PE X (.Call (.Name x p) (e ::es) [] pos) (tCB r t):=by
 intro pins s σ H Q I h;refine wpAny_Call_Name_kw (rN I hg hm hv ?_ hn hdb);exact PyProof.Rows.callWith_builtin1 (thn (ha pos pins s σ H _ I h) fun us s1 ⟨vs,H1,I1,r1,q1⟩=>hc pins s1 σ H1 vs us Q I1 r1 q1) he hpl
theorem Dm(hc:pJ X (.type T) r)(hg:Gl X x)(hm:X.mg x=none)(hv:bootBuiltins x=some (.type T))(ha:PA X (e ::es) t)(hn:x ≠ "__name__":=by decide)(hdb:(x==("__debug__":Str))=false:=by decide)
  (he:starEach (e ::es) X.env=(false,eval e X.env) ::starEach es X.env:=by rfl) (hpl:(backTo pos (starEach es X.env)).any (·.1)=false:=by rfl):PE X (.Call (.Name x p) (e ::es) [] pos) (tCB r t):=by
 intro pins s σ H Q I h;refine wpAny_Call_Name_kw (rN I hg hm hv ?_ hn hdb);exact PyProof.Rows.callWith_type1 (thn (ha pos pins s σ H _ I h) fun us s1 ⟨vs,H1,I1,r1,q1⟩=>hc pins s1 σ H1 vs us Q I1 r1 q1) he hpl
end
end L2
namespace HT
open PySem PyProof.Rows
section
open PySem.SeqAt
open PySem.AutoSeq1 (wpAny_loadPart')
open PySem.MeetsSeq PySem.MeetsSeq2 PySem.MeetsSeq3
end
section
variable{prog:Program}{w:World}{A:Around}{E:Value->Shared->Prop}{s:Shared}
noncomputable def sIx(n d:Nat):Option Int->Nat
 |none=>d
 |some v=>if v<0 then(v+(n:Int)).toNat else min v.toNat n
end
end HT
namespace L2
open PySem PySem.Spec PyProof.Rows
abbrev TO:=St->Hp->(Option Int->Hp->Prop)->Prop
noncomputable def PO(X:Cx)(e:Option Expr)(t:TO):Prop:=
 ∀(pins:List (Addr×Obj)) (s:Shared) (σ:St) (H:Hp) (Q:Option Int->Hp->Prop),Inv X pins σ H s->t σ H Q ->
   wpAny (model X.prog X.w) X.A (evalPart e X.env) (fun u s'=>∃ o H',Inv X pins σ H' s' /\ IsPart u o /\ Q o H') X.xe s
noncomputable def yo:TO:=fun _ H Q=>Q none H
noncomputable def EO(t:TE):TO:=fun σ H Q=>t σ H fun x H1=>∃ i,x=.int i /\ Q (some i) H1
section
variable{X:Cx}{e:Expr}{te:TE}{lo hi:Option Expr}{tl th:TO}{pos p2:Pos}
theorem FU:PO X none yo:=by
 intro pins s σ H Q I h;rw[evalPart_none];exact wpAny_pure ⟨none,H,I,.none,h⟩
theorem Gz(h:PE X e te):PO X (some e) (EO te):=by
 intro pins s σ H Q I hw;rw[evalPart_some]
 refine thn (h pins s σ H _ I hw) fun u s1 ⟨x,H1,I1,r1,q1⟩=>?_
 obtain⟨i,rfl,q⟩:=q1;obtain⟨t,rfl⟩:=r1
 exact⟨some i,H1,I1,.int i t,q⟩
noncomputable def SlR(X:Cx)(r:V->Option Int->Option Int->Hp->VK->Prop):Prop:=
 ∀(pins:List (Addr×Obj)) (s:Shared) (σ:St) (H:Hp) (x:V) (v vl vu:Value) (lo hi:Option Int) (sl:Addr) (Q:VK),Inv X pins σ H s->RelV x v->s.heap.IsSliceOf sl vl vu .none->IsPart vl lo->IsPart vu hi->r x lo hi H Q ->
   ∃ T id,typeLookup (.type T) "__getitem__" = pure (some (.builtin id)) /\ s.TypeIs v T /\ wpAny (model X.prog X.w) X.A (getItem v (.ref sl)) (EP X pins σ Q) X.xe s
noncomputable def tSl(r:V->Option Int->Option Int->Hp->VK->Prop)(te:TE)(tl th:TO):TE:=fun σ H Q=>te σ H fun x H1=>tl σ H1 fun l H2=>th σ H2 fun u H3=>r x l u H3 Q
theorem FI{r:V->Option Int->Option Int->Hp->VK->Prop}(hr:SlR X r)(he:PE X e te)(hl:PO X lo tl)(hu:PO X hi th):PE X (.Subscript e (.Slice lo hi none p2) pos) (tSl r te tl th):=by
 intro pins s σ H Q I h;refine Subscript_ (thn (he pins s σ H _ I h) fun v s1 ⟨x,H1,I1,r1,q1⟩=>?_);refine wpAny_Slice (thn (hl pins s1 σ H1 _ I1 q1) fun vl s2 ⟨l,H2,I2,pl,q2⟩=>thn (hu pins s2 σ H2 _ I2 q2) fun vu s3 ⟨u,H3,I3,pu,q3⟩=>?_);rw[evalPart_none];refine wpAny_pure ?_
 have I4:Inv X pins σ H3 { s3 with heap:=s3.heap.push { cls:=.type "slice",data:=.fields #[vl,vu,.none] } }:=I3.kept (t':=s3.toks) fun b ob q=>Heap.get?_push_of_some _ q
 obtain⟨T,id,hT,ht,hg⟩:=hr pins { s3 with heap:=s3.heap.push { cls:=.type "slice",data:=.fields #[vl,vu,.none] } } σ H3 x v vl vu l u s3.heap.objs.size Q I4 r1 (Heap.IsSliceOf.new ..) pl pu q3;show wpAny (model X.prog X.w) X.A (subscriptTail e (.Slice lo hi none p2) v (.ref s3.heap.objs.size)) (EP X pins σ Q) X.xe { s3 with heap:=s3.heap.push { cls:=.type "slice",data:=.fields #[vl,vu,.none] } };exact tail_any (ops:=[.ref s3.heap.objs.size,v]) ht hT hg (by with_unfolding_all rfl)
noncomputable def C6(xs:List V)(lo hi:Option Int):List V:=(xs.drop (HT.sIx xs.length 0 lo)).take (HT.sIx xs.length xs.length hi - HT.sIx xs.length 0 lo)
theorem zw(xs:List V)(lo hi:Option Int):(C6 xs lo hi).length<=xs.length:=by
 unfold C6;rw[List.length_take,List.length_drop];omega
end
noncomputable def ixN(n:Nat)(i:Int):Option Nat:=if 0<=i then(if i<n then some i.toNat else none)else if -(n:Int)<=i then some (i+n).toNat else none
noncomputable def atI{α:Type}(xs:List α)(i:Int):Option α:=(ixN xs.length i).bind fun j=>xs[j]?
theorem CJ{n:Nat}{i:Int}{j:Nat}(h:ixN n i=some j):seqIndex? i n=some j /\ j<n /\ -(n:Int)<=i /\ i<n:=by
 unfold ixN at h
 by_cases h0:0<=i
 . rw[if_pos h0]at h
   by_cases h1:i<n
   . rw[if_pos h1]at h
     have e:i.toNat=j:=Option.some.inj h
     exact⟨by rw[seqIndex_of h0 h1,e],by omega,by omega,h1⟩
   . rw[if_neg h1]at h;cases h
 . rw[if_neg h0]at h
   by_cases h1:-(n:Int)<=i
   . rw[if_pos h1]at h
     have e:(i+n).toNat=j:=Option.some.inj h
     exact⟨by rw[seqIndex_neg (by omega) h1,e],by omega,h1,by omega⟩
   . rw[if_neg h1]at h;cases h
theorem CF{α:Type}{xs:List α}{i:Int}{v:α}(h:atI xs i=some v):∃ j,seqIndex? i xs.length=some j /\ xs[j]?=some v /\ j<xs.length /\ -(xs.length:Int)<=i /\ i<xs.length:=by
 unfold atI at h
 cases e:ixN xs.length i with
 |none=>rw[e]at h;cases h
 | some j=>
   rw[e]at h;obtain⟨h1,h2,h3,h4⟩:=CJ e
   exact⟨j,h1,h,h2,h3,h4⟩
noncomputable def xR(b:Expr):Prop:=∀ o i,subscripted b false o i=operate [o,i] (getItem o i)
noncomputable def IxR(X:Cx)(r:R2):Prop:=
 ∀(value slice:Expr) (pins:List (Addr×Obj)) (s:Shared) (σ:St) (H:Hp) (x y:V) (v u:Value) (Q:VK),Inv X pins σ H s->RelV x v->RelV y u->r x y H Q ->
   subscripted slice false v u=operate [v,u] (getItem v u)->wpAny (model X.prog X.w) X.A (subscriptTail value slice v u) (EP X pins σ Q) X.xe s
noncomputable def MtR(X:Cx)(id:String)(r:V->List V->Hp->VK->Prop):Prop:=
 ∀(pins:List (Addr×Obj)) (s:Shared) (σ:St) (H:Hp) (x:V) (xs:List V) (v:Value) (us:List Value) (Q:VK),Inv X pins σ H s->RelV x v->Vals xs us->r x xs H Q ->
   wpAny (model X.prog X.w) X.A (call (.builtin id) (v ::us)) (EP X pins σ Q) X.xe s
section
variable{X:Cx}{a b:Expr}{ta tb:TE}{pos:Pos}
theorem LV{r:R2}(hr:IxR X r)(ha:PE X a ta)(hb:PE X b tb)(hs:xR b):PE X (.Subscript a b pos) (tOp r ta tb):=by
 intro pins s σ H Q I h;exact Subscript_ (Jw ha hb I h fun v u s2 x y H2 I2 rx ry q=>hr a b pins s2 σ H2 x y v u Q I2 rx ry q (hs _ _))
noncomputable def LI(K:PySem.W.Frag):R2:=fun x y H Q=>∃ p xs i v,x=.ref p /\ y=.int i /\ SqL K H p xs /\ atI xs i=some v /\ Q v H
noncomputable def LK(K:PySem.W.Frag):R2:=fun x y H Q=>∃ p xs i v,x=.ref p /\ y=.int i /\ SqT K H p xs /\ atI xs i=some v /\ Q v H
theorem bb:IxR X (LI X.K):=by
 intro value slice pins s σ H x y v u Q I rx ry h hs;obtain⟨p,xs,i,z,rfl,rfl,hq,he,q⟩:=h;cases rx;obtain⟨t,rfl⟩:=ry;obtain⟨its,r,pl,hz⟩:=I.list hq;obtain⟨j,h1,h2,h3,h4,h5⟩:=CF he;obtain⟨w,ew,rw'⟩:=r.get h2;have hl:=r.length;have hn:=uN
 have fin:EP X pins σ Q w s:=⟨z,H,I,rw',q⟩
 by_cases h0:0<=i
 . have hj:i.toNat = j:=by
    rw[seqIndex_of h0 h5]at h1;exact Option.some.inj h1
   exact item_listR pl.isList h0 (by omega) (by rw[hj];simpa using ew) fin hs
 . have hj:(i + (its.toArray.size:Int)).toNat = j:=by
    rw[seqIndex_neg (by omega) h4]at h1;rw[List.size_toArray,<- hl];exact Option.some.inj h1
   exact subscriptTail_builtinR (x:=w) pl.isList.typeIs slot_list_getitem.lookup
    (wpAny_getItem_list_neg (Q:=fun r s'=>r=w /\ EP X pins σ Q r s') pl.isList (by omega) (by rw[List.size_toArray]<;>omega) (by omega) (by rw[hj];simpa using ew) ⟨rfl,fin⟩) hs
theorem b3:IxR X (LK X.K):=by
 intro value slice pins s σ H x y v u Q I rx ry h hs;obtain⟨p,xs,i,z,rfl,rfl,hq,he,q⟩:=h;cases rx;obtain⟨t,rfl⟩:=ry;obtain⟨its,r,pl,hz⟩:=I.tuple hq;obtain⟨j,h1,h2,h3,h4,h5⟩:=CF he;obtain⟨w,ew,rw'⟩:=r.get h2;have hl:=r.length;have hn:=uN
 have fin:EP X pins σ Q w s:=⟨z,H,I,rw',q⟩
 exact subscriptTail_builtinR (x:=w) pl.typeIs slot_tuple_getitem.lookup
  (getItem_tuple (j:=j) (Q:=fun r s'=>r=w /\ EP X pins σ Q r s') pl (by omega) (by omega) (by rw[List.size_toArray,<- hl];exact h1) (by simpa using ew) ⟨rfl,fin⟩) hs
theorem BA(its:List Value)(n j:Nat)(u:Value):Obj.mapSeq (·.setIfInBounds j u) { cls:=.type "list",data:=.seq its.toArray n }={ cls:=.type "list",data:=.seq (its.set j u).toArray n }:=by
 simp[Obj.mapSeq]
theorem Inv.lst{pins:List (Addr×Obj)}{σ:St}{H:Hp}{s:Shared}{p:Addr}{xs:List V}(I:Inv X pins σ H s)(h:H p=some (.lst xs)):
  ∃(its:List Value) (n:Nat),Vals xs its /\ s.heap.get? p=some { cls:=.type "list",data:=.seq its.toArray n } /\ xs.length<=sizeLine:=by
 obtain⟨z,its,n,r,e⟩:=I.hok p _ h
 exact⟨its,n,r,e,z⟩
theorem Inv.Kw{pins:List (Addr×Obj)}{σ:St}{H:Hp}{s:Shared}{p:Addr}{xs ys:List V}{its its':List Value}{n n':Nat}{f:Obj->Obj}(I:Inv X pins σ H s)(h:H p=some (.lst xs))
  (ho:s.heap.get? p=some { cls:=.type "list",data:=.seq its.toArray n }) (hf:f { cls:=.type "list",data:=.seq its.toArray n }={ cls:=.type "list",data:=.seq its'.toArray n' }) (r:Vals ys its') (hz:ys.length<=sizeLine) (t:Nat):
  Inv X pins σ (upd H p (.lst ys)) { s with heap:=s.heap.update p f,toks:=t }:=by
 have e:(s.heap.update p f).get? p=some { cls:=.type "list",data:=.seq its'.toArray n' }:=by
  rw[Heap.get?_update_self f ho (by rw[hf]<;>rfl),hf]
 refine I.write (x:=p) (e:=p) (by rw[h];trivial) (.inl rfl) (fun b u hb q=>(Heap.get?_update_other _ _ (Ne.symm hb)).trans q) ⟨_,e⟩ ?_
 exact⟨hz,its',n',r,e⟩
noncomputable def Iq:V->V->V->Hp->(Hp->Prop)->Prop:=fun o i v H Q=>∃ p xs k j,o=.ref p /\ i=.int k /\ H p=some (.lst xs) /\ ixN xs.length k=some j /\ Q (upd H p (.lst (xs.set j v)))
theorem set_list:IE X Iq:=by
 intro pins s σ H o i v ov iv u Q I ro ri rv h;obtain⟨p,xs,k,j,rfl,rfl,hp,hj,q⟩:=h;cases ro;obtain⟨t,rfl⟩:=ri;obtain⟨its,n,r,ho,hz⟩:=I.lst hp;obtain⟨h1,h2,h3,h4⟩:=CJ hj;have hl:=r.length;have hn:=uN
 have I':Inv X pins σ (upd H p (.lst (xs.set j v))) { s with heap:=s.heap.update p (Obj.mapSeq (·.setIfInBounds j u)) }:=
  I.Kw hp ho (BA its n j u) (r.set rv j) (by rw[List.length_set];exact hz) s.toks
 by_cases h0:0<=k
 . have hk:k.toNat = j:=by
    rw[seqIndex_of h0 h4]at h1;exact Option.some.inj h1
   exact PySem.W.ki_setAt ho h0 (by omega) (by rw[List.size_toArray,<- hl];exact h4) (by rw[hk];exact⟨_,I',q⟩)
 . have hk:(k + (its.toArray.size:Int)).toNat = j:=by
    rw[seqIndex_neg (by omega) h3]at h1;rw[List.size_toArray,<- hl];exact Option.some.inj h1
   exact PySem.W.ki_setBack ho (by omega) (by rw[List.size_toArray,<- hl];exact h3) (by omega) (by rw[hk];exact⟨_,I',q⟩)
theorem xP(lo hi:Option Int)(n:Nat):(sliceBounds lo hi none n).1=((HT.sIx n 0 lo:Nat):Int) /\ (sliceBounds lo hi none n).2.1=((HT.sIx n n hi:Nat):Int) /\ (sliceBounds lo hi none n).2.2=1:=by
 refine⟨?_,?_,rfl⟩
 . cases lo with
   |none=>simp[sliceBounds,HT.sIx]
   | some i=>
     simp only[sliceBounds,HT.sIx,Option.getD_none,show(1:Int)>0 by decide,if_true]
     by_cases h:i<0
     . simp only[h,if_true]<;>omega
     . simp only[h,if_false]<;>omega
 . cases hi with
   |none=>simp[sliceBounds,HT.sIx]
   | some i=>
     simp only[sliceBounds,HT.sIx,Option.getD_none,show(1:Int)>0 by decide,if_true]
     by_cases h:i<0
     . simp only[h,if_true]<;>omega
     . simp only[h,if_false]<;>omega
theorem vY(its:List Value)(lo hi:Option Int):slicePick its.toArray lo hi none=((its.drop (HT.sIx its.length 0 lo)).take (HT.sIx its.length its.length hi - HT.sIx its.length 0 lo)).toArray:=by
 obtain⟨h1,h2,h3⟩:=xP lo hi its.toArray.size;unfold slicePick;rw[h1,h2,h3]
 simp only[sliceRange_one,pick_run,List.size_toArray]<;>rfl
noncomputable def L0(K:PySem.W.Frag):V->Option Int->Option Int->Hp->VK->Prop:=fun x lo hi H Q=>∃ a xs,x=.ref a /\ SqL K H a xs /\ ∀ p,H p=none->Q (.ref p) (upd H p (.lst (C6 xs lo hi)))
theorem oZ:SlR X (L0 X.K):=by
 intro pins s σ H x v vl vu lo hi sl Q I rx hs pl pu h;obtain⟨a,xs,rfl,hx,q⟩:=h;cases rx;obtain⟨its,r,ht,hz⟩:=I.list hx;have hlen:=r.length
 refine⟨"list",_,slot_list_getitem.lookup,ht.isList.typeIs,?_⟩
 refine wpAny_getItem_list_slice ht.isList hs pl pu .none (by simp) ?_ (by rw[List.size_toArray]<;>omega);rw[vY,<- hlen]
 refine⟨.ref s.heap.objs.size,_,I.laid (t':=s.toks) (o:=.lst (C6 xs lo hi)) (fun b ob q=>Heap.get?_push_of_some _ q) (Nat.le_refl _) ?_,rfl,q _ (I.hok.fresh (Nat.le_refl _))⟩
 exact⟨Nat.le_trans (zw xs lo hi) hz,_,0,(r.drop (HT.sIx xs.length 0 lo)).take (HT.sIx xs.length xs.length hi - HT.sIx xs.length 0 lo),Heap.get?_push_size _ rfl⟩
noncomputable def pD:V->Bool
 |.non=>true
 |.bl _=>true
 |.int _=>true
 |.str _=>true
 |_=>false
noncomputable def eqV:V->V->Bool
 |.non,.non=>true
 |.bl a,.bl b=>a==b
 |.bl a,.int b=>(if a then 1 else 0)==b
 |.int a,.bl b=>a==(if b then 1 else 0)
 |.int a,.int b=>a==b
 |.str a,.str b=>a==b
 |_,_=>false
theorem JC{A:Around}{s:Shared}{y x:V}{u v:Value}(ry:RelV y u)(rx:RelV x v)(fy:pD y=true)(fx:pD x=true):SeqAt.EqAt A s u v (eqV y x):=by
 cases y with
 | non=>
   cases ry
   cases x with
   |non=>cases rx;exact SeqAt.EqAt.same _
   |bl b=>cases rx;exact SeqAt.EqAt.none_bool b
   |int b=>obtain⟨t,rfl⟩:=rx;exact SeqAt.EqAt.none_int b t
   |str b=>obtain⟨t,rfl⟩:=rx;exact SeqAt.EqAt.none_str b t
   |_=>exact absurd (show false=true from fx) Bool.false_ne_true
 | bl a=>
   cases ry
   cases x with
   |non=>cases rx;exact SeqAt.EqAt.bool_none a
   |bl b=>cases rx;exact SeqAt.EqAt.bool_bool a b
   |int b=>obtain⟨t,rfl⟩:=rx;exact SeqAt.EqAt.bool_int a b t
   |str b=>obtain⟨t,rfl⟩:=rx;exact SeqAt.EqAt.bool_str a b t
   |_=>exact absurd (show false=true from fx) Bool.false_ne_true
 | int a=>
   obtain⟨t',rfl⟩:=ry
   cases x with
   |non=>cases rx;exact SeqAt.EqAt.int_none a t'
   |bl b=>cases rx;exact SeqAt.EqAt.int_bool a t' b
   |int b=>obtain⟨t,rfl⟩:=rx;exact SeqAt.EqAt.int_int a t' b t
   |str b=>obtain⟨t,rfl⟩:=rx;exact SeqAt.EqAt.int_str a t' b t
   |_=>exact absurd (show false=true from fx) Bool.false_ne_true
 | str a=>
   obtain⟨t',rfl⟩:=ry
   cases x with
   |non=>cases rx;exact SeqAt.EqAt.str_none a t'
   |bl b=>cases rx;exact SeqAt.EqAt.str_bool a t' b
   |int b=>obtain⟨t,rfl⟩:=rx;exact SeqAt.EqAt.str_int a t' b t
   |str b=>obtain⟨t,rfl⟩:=rx;exact SeqAt.EqAt.str_str a t' b t
   |_=>exact absurd (show false=true from fx) Bool.false_ne_true
 |_=>exact absurd (show false=true from fy) Bool.false_ne_true
noncomputable def eqU(x:V)(u:Value):Bool:=match u with
 |.none=>eqV .non x
 |.bool b=>eqV (.bl b) x
 |.int i _=>eqV (.int i) x
 |.str z _=>eqV (.str z) x
 |_=>false
theorem D8{x y:V}{u:Value}(r:RelV y u)(f:pD y=true):eqU x u=eqV y x:=by
 cases y with
 |non=>cases r;rfl
 |bl b=>cases r;rfl
 |int i=>obtain⟨t,rfl⟩:=r;rfl
 |str z=>obtain⟨t,rfl⟩:=r;rfl
 |_=>exact absurd (show false=true from f) Bool.false_ne_true
theorem qB{x:V}:∀{xs:List V} {us:List Value},Vals xs us->xs.all pD=true->us.any (eqU x)=xs.any fun y=>eqV y x
 |_,_,.nil,_=>rfl
 | y ::xs,u ::us,.cons r t,f=>by
   rw[List.all_cons,Bool.and_eq_true]at f;rw[List.any_cons,List.any_cons,D8 r f.1,qB t f.2]
theorem oI{A:Around}{s:Shared}{x:V}{v:Value}(rx:RelV x v)(fx:pD x=true):∀{xs:List V} {us:List Value},Vals xs us->xs.all pD=true->∀ u∈us,SeqAt.EqAt A s u v (eqU x u)
 |_,_,.nil,_=>fun u hu=>by cases hu
 | y ::xs,u ::us,.cons r t,f=>fun u' hu=>by
   rw[List.all_cons,Bool.and_eq_true]at f
   rcases List.mem_cons.mp hu with rfl|hu
   . rw[D8 r f.1];exact JC r rx f.1 fx
   . exact oI rx fx t f.2 u' hu
noncomputable def inV(x:V)(xs:List V):Bool:=xs.any fun y=>eqV y x
noncomputable def rIn(K:PySem.W.Frag)(neg:Bool):R2:=fun x y H Q=>∃ p xs,y=.ref p /\ (SqL K H p xs \/ SqT K H p xs) /\ pD x=true /\ xs.all pD=true /\ Q (.bl (if neg then !inV x xs else inV x xs)) H
theorem CZ:OpR X (compareOp .In) (rIn X.K false):=by
 intro pins s σ H x y v u Q I rx ry h;obtain⟨p,xs,rfl,hq,fx,fs,q⟩:=h;cases ry
 rcases hq with hq|hq
 . obtain⟨its,r,pl,hz⟩:=I.list hq;refine SeqAt.in_listAt (eqU x) pl.isList (fun w hw=>oI rx fx r fs w (by simpa using hw)) ⟨.bl _,H,I,rfl,?_⟩;rw[show its.toArray.any (eqU x)=its.any (eqU x) by simp,qB r fs];exact q
 . obtain⟨its,r,pl,hz⟩:=I.tuple hq;refine SeqAt.in_tupleAt (eqU x) pl (fun w hw=>oI rx fx r fs w (by simpa using hw)) ⟨.bl _,H,I,rfl,?_⟩;rw[show its.toArray.any (eqU x)=its.any (eqU x) by simp,qB r fs];exact q
theorem xC:OpR X (compareOp .NotIn) (rIn X.K true):=by
 intro pins s σ H x y v u Q I rx ry h;obtain⟨p,xs,rfl,hq,fx,fs,q⟩:=h;cases ry
 rcases hq with hq|hq
 . obtain⟨its,r,pl,hz⟩:=I.list hq;refine SeqAt.notIn_listAt (eqU x) pl.isList (fun w hw=>oI rx fx r fs w (by simpa using hw)) ⟨.bl _,H,I,rfl,?_⟩;rw[show its.toArray.any (eqU x)=its.any (eqU x) by simp,qB r fs];exact q
 . obtain⟨its,r,pl,hz⟩:=I.tuple hq;refine SeqAt.notIn_tupleAt (eqU x) pl (fun w hw=>oI rx fx r fs w (by simpa using hw)) ⟨.bl _,H,I,rfl,?_⟩;rw[show its.toArray.any (eqU x)=its.any (eqU x) by simp,qB r fs];exact q
theorem yg:pJ X (.builtin "len") (fun xs H Q=>∃ p ys,xs=[.ref p] /\ (SqL X.K H p ys \/ SqT X.K H p ys) /\ Q (.int ys.length) H):=by
 intro pins s σ H xs us Q I r h;obtain⟨p,ys,rfl,hq,q⟩:=h;obtain⟨u,rfl,rx⟩:=vals1 r;cases rx;have hn:=uN
 rcases hq with hq|hq
 . obtain⟨its,r',pl,hz⟩:=I.list hq;have hlen:=r'.length;exact Calls.call_len_list pl.isList (by simp only[List.size_toArray]<;>omega) ⟨.int ys.length,H,I.tok _,⟨s.toks+1,by rw[List.size_toArray,hlen]⟩,q⟩
 . obtain⟨its,r',pl,hz⟩:=I.tuple hq;have hlen:=r'.length;exact len_tuple pl (by simp only[List.size_toArray]<;>omega) ⟨.int ys.length,H,I.tok _,⟨s.toks+1,by rw[List.size_toArray,hlen]⟩,q⟩
theorem xy:pJ X (.type "list") (fun xs H Q=>∃ p ys,xs=[.ref p] /\ (SqL X.K H p ys \/ SqT X.K H p ys) /\ ∀ l,H l=none->Q (.ref l) (upd H l (.lst ys))):=by
 intro pins s σ H xs us Q I r h;obtain⟨p,ys,rfl,hq,q⟩:=h;obtain⟨u,rfl,rx⟩:=vals1 r;cases rx
 have fin:∀(its:List Value),Vals ys its->ys.length<=sizeLine->∀(h':Heap) (c':Nat),(∀ b o',s.heap.get? b=some o'->h'.get? b=some o') ->
   h'.get? s.heap.objs.size=some { cls:=.type "list",dict:=none,data:=.seq its.toArray c',slots:=#[] }->EP X pins σ Q (.ref s.heap.objs.size) { s with heap:=h' }:=fun its r' hz h' c' kp e=>
  ⟨.ref s.heap.objs.size,_,I.laid (t':=s.toks) kp (Nat.le_refl _) (show iC X.prog X.w _ h' _ (.lst ys) from⟨hz,its,c',r',e⟩),rfl,q _ (I.hok.fresh (Nat.le_refl _))⟩
 rcases hq with hq|hq
 . obtain⟨its,r',pl,hz⟩:=I.list hq;have hlen:=r'.length;obtain⟨o,ho,hc,n,hd⟩:=pl.isList;exact call_list_seq p (.inl rfl) ho hc hd (fun h' c' kp e=>fin its r' hz h' c' kp e) (by simp only[List.size_toArray]<;>omega)
 . obtain⟨its,r',pl,hz⟩:=I.tuple hq;have hlen:=r'.length;obtain⟨o,ho,hc,n,hd⟩:=pl;exact call_list_seq p (.inr rfl) ho hc hd (fun h' c' kp e=>fin its r' hz h' c' kp e) (by simp only[List.size_toArray]<;>omega)
noncomputable def tyV(K:PySem.W.Frag)(T:String)(x:V)(H:Hp):Prop:=match x with
 |.str _=>T = "str"
 |.int _=>T = "int"
 | .ref p=>(T = "list" /\ ∃ xs,SqL K H p xs) \/ (T = "tuple" /\ ∃ o,K.lookup p = some o /\ o.cls = .type "tuple" /\ o.dict = none) \/
    (T = "dict" /\ ((∃ kvs,H p=some (.dK kvs)) \/ ∃ kvs,H p=some (.dT kvs))) \/ (T = "set" /\ ∃ S n,H p=some (.set S n))
 |_=>False
theorem Ej{pins:List (Addr×Obj)}{σ:St}{H:Hp}{s:Shared}{T:String}{x:V}{v:Value}(I:Inv X pins σ H s)(r:RelV x v)(ty:tyV X.K T x H):
  s.TypeIs v T /\ ∀ a,v=.ref a->∃ ob,s.heap.get? a=some ob /\ ob.dict=none:=by
 cases x with
 | str z=>
   obtain⟨t,rfl⟩:=r
   cases(show T = "str" from ty)
   exact⟨typeIs_str s z t,fun _ e=>nomatch e⟩
 | int i=>
   obtain⟨t,rfl⟩:=r
   cases(show T = "int" from ty)
   exact⟨typeIs_int s i t,fun _ e=>nomatch e⟩
 | ref p=>
   cases r
   rcases ty with⟨rfl,xs,hq⟩|⟨rfl,o,hk,hc,hd⟩|⟨rfl,hk⟩|⟨rfl,S,n,hk⟩
   . obtain⟨its,_,pl,_⟩:=I.list hq
     refine⟨pl.isList.typeIs,fun a e=>?_⟩
     cases e;obtain⟨o,n,e,c,hd,_⟩:=pl
     exact⟨o,e,hd⟩
   . refine⟨⟨o,I.kIn p o hk,hc⟩,fun a e=>?_⟩
     cases e
     exact⟨o,I.kIn _ o hk,hd⟩
   . have z:∃ o,s.heap.get? p = some o /\ o.ExactDict:=by
      rcases hk with⟨kvs,hk⟩|⟨kvs,hk⟩
      . obtain⟨_,_,_,_,o,_,_,e,ex,_⟩:=I.hok p _ hk
        exact⟨o,e,ex⟩
      . obtain⟨_,_,_,_,o,_,_,e,ex,_⟩:=I.hok p _ hk
        exact⟨o,e,ex⟩
     obtain⟨o,e,ex⟩:=z
     refine⟨⟨o,e,ex.1⟩,fun a e2=>?_⟩
     cases e2
     exact⟨o,e,ex.2.1⟩
   . obtain⟨o,_,_,_,e,ex,_⟩:=I.hok p _ hk
     refine⟨⟨o,e,ex.1⟩,fun a e2=>?_⟩
     cases e2
     exact⟨o,e,ex.2.1⟩
 |_=>exact False.elim ty
noncomputable def Kv(K:PySem.W.Frag)(T:String)(r:V->List V->Hp->VK->Prop)(to:TE):TE:=fun σ H Q=>to σ H fun x H1=>tyV K T x H1 /\ r x [] H1 Q
noncomputable def tBM(K:PySem.W.Frag)(T:String)(r:V->List V->Hp->VK->Prop)(to:TE)(t:TA):TE:=fun σ H Q=>to σ H fun x H1=>tyV K T x H1 /\ t σ H1 fun xs H2=>r x xs H2 Q
variable{o e:Expr}{es:List Expr}{to:TE}{t:TA}{name:Str}{apos cpos:Pos}{T id:String}{r:V->List V->Hp->VK->Prop}
theorem IK(pa:PlainAttrs T)(slot:Slot T name id)(hty:typeOf (.builtin id)=pure (.type "method_descriptor"))(hm:MtR X id r)(ho:PE X o to)
  (hbase:attributeBase o name X.env (eval o X.env)=eval o X.env:=by rfl) (hline:(apos.endLine==cpos.line)=true:=by rfl):PE X (.Call (.Attribute o name apos) [] [] cpos) (Kv X.K T r to):=by
 intro pins s σ H Q I h;refine wpAny_Call_method0_late hbase hline (thn (ho pins s σ H _ I h) fun v s1 ⟨x,H1,I1,r1,ty,q1⟩=>?_);obtain⟨h1,h2⟩:=Ej I1 r1 ty
 exact⟨T,id,pa,slot,hty,h1,h2,Calls.callWith_builtin rfl (PySem.evalArgs_none (hm pins s1 σ H1 x [] v [] Q I1 r1 .nil q1))⟩
theorem Mc(pa:PlainAttrs T)(slot:Slot T name id)(hty:typeOf (.builtin id)=pure (.type "method_descriptor"))(hm:MtR X id r)(ho:PE X o to)(ha:PA X (e ::es) t)
  (hbase:attributeBase o name X.env (eval o X.env)=eval o X.env:=by rfl)
  (hfew:((backTo cpos (starEach (e ::es) X.env)).all (fun x=>!x.1)&&(backToKw cpos (keywordEach [] X.env)).all (fun x=>x.1.isSome)
    && decide ((e ::es).length+([]:List Keyword).length+(if([]:List Keyword).isEmpty then 0 else 1)<30))=true:=by rfl)
  (hline:(apos.endLine==cpos.line)=true:=by rfl) (hs:starEach (e ::es) X.env=(false,eval e X.env) ::starEach es X.env:=by rfl) (hplain:(backTo cpos (starEach es X.env)).any (·.1)=false:=by rfl):
  PE X (.Call (.Attribute o name apos) (e ::es) [] cpos) (tBM X.K T r to t):=by
 intro pins s σ H Q I h;refine wpAny_Call_method_late hbase hfew hline rfl (thn (ho pins s σ H _ I h) fun v s1 ⟨x,H1,I1,r1,ty,q1⟩=>?_);obtain⟨h1,h2⟩:=Ej I1 r1 ty
 refine⟨T,id,pa,slot,hty,h1,h2,?_⟩
 have hA:=ha cpos pins s1 σ H1 _ I1 q1
 rw[hs]at hA ⊢
 refine Calls.callWith_builtin (by show(false||(backTo cpos (starEach es X.env)).any (·.1))=false;rw[hplain]<;>rfl) (Calls.evalArgs_plain ?_)
 exact thn hA fun us s2 ⟨vs,H2,I2,r2,q2⟩=>hm pins s2 σ H2 x vs v us Q I2 r1 r2 q2
end
noncomputable def MtM(X:Cx)(id:String)(r:V->List V->Hp->VK->Prop):Prop:=
 ∀(pins:List (Addr×Obj)) (s:Shared) (σ:St) (H:Hp) (x:V) (xs:List V) (v:Value) (us:List Value) (Q:VK),Inv X pins σ H s->RelV x v->Vals xs us->r x xs H Q ->
   wpAny (model X.prog X.w) X.A (call (.builtin id) (v ::us)) (EP X pins σ Q) X.xe s
theorem Vals.one:∀{x:V} {us:List Value},Vals [x] us->∃ u,us=[u] /\ RelV x u
 |_,_,.cons r .nil=>⟨_,rfl,r⟩
theorem Vals.two:∀{x y:V} {us:List Value},Vals [x,y] us->∃ u v,us=[u,v] /\ RelV x u /\ RelV y v
 |_,_,_,.cons r (.cons q .nil)=>⟨_,_,rfl,r,q⟩
theorem Vals.zero:∀{us:List Value},Vals [] us->us=[]
 |_,.nil=>rfl
theorem Vals.dropLast{xs:List V}{us:List Value}(h:Vals xs us):Vals xs.dropLast us.dropLast:=by
 induction h with
 |nil=>exact .nil
 | cons r t ih=>
   cases t with
   |nil=>exact .nil
   |cons q t'=>exact .cons r ih
theorem Vals.eraseIdx:∀{xs:List V} {us:List Value} (i:Nat),Vals xs us->Vals (xs.eraseIdx i) (us.eraseIdx i)
 |_,_,_,.nil=>.nil
 |_,_,0,.cons _ t=>t
 |_,_,i+1,.cons r t=>.cons r (Vals.eraseIdx i t)
theorem Ba{α:Type}(l:List α):l.eraseIdx (l.length - 1)=l.dropLast:=by
 induction l with
 |nil=>rfl
 | cons a r ih=>
   cases r with
   |nil=>rfl
   | cons b r=>
     have e:(a ::b ::r).length - 1=((b ::r).length - 1)+1:=by
      have h1:(a ::b ::r).length=r.length+2:=rfl
      have h2:(b ::r).length=r.length+1:=rfl
      omega
     rw[e,List.eraseIdx_cons_succ,ih]
     all_goals rfl
section
variable{X:Cx}{pins:List (Addr×Obj)}{σ:St}{H:Hp}{s:Shared}{l b:Addr}{xs ys zs:List V}
theorem Inv.Gu{its its':List Value}{n:Nat}{f:Array Value->Array Value}{t':Nat}(I:Inv X pins σ H s)(hH:H l=some (.lst xs))
  (e:s.heap.get? l=some { cls:=.type "list",data:=.seq its.toArray n }) (hf:f its.toArray=its'.toArray) (hv:Vals ys its') (hz:ys.length<=sizeLine):
  Inv X pins σ (upd H l (.lst ys)) { s with heap:=s.heap.update l (Obj.mapSeq f),toks:=t' }:=by
 have q:=PySem.IsL.update e f;rw[hf]at q;refine I.write (x:=l) (e:=l) (by rw[hH];exact trivial) (.inl rfl) (fun b' u hb hu=>(Heap.get?_update_other s.heap (Obj.mapSeq f) (Ne.symm hb)).trans hu) ⟨_,q⟩ ?_
 exact⟨hz,its',_,hv,q⟩
theorem Inv.Hb{its:List Value}{t':Nat}(I:Inv X pins σ H s)(hv:Vals ys its)(hz:ys.length<=sizeLine):
  Inv X pins σ (upd H s.heap.objs.size (.lst ys)) { s with heap:=s.heap.push { cls:=.type "list",data:=.seq its.toArray },toks:=t' }:=
 I.laid (fun _ _ q=>Heap.get?_push_of_some _ q) (Nat.le_refl _) ⟨hz,its,0,hv,Heap.get?_push_size _ rfl⟩
theorem Inv.fresh(I:Inv X pins σ H s):H s.heap.objs.size=none:=I.hok.fresh (Nat.le_refl _)
theorem Inv.D5(I:Inv X pins σ H s)(hH:H l=some (.lst xs)):xs.length<=sizeLine /\ ∃(its:List Value) (n:Nat),Vals xs its /\ xs.length=its.length /\ s.heap.get? l=some { cls:=.type "list",data:=.seq its.toArray n }:=by
 obtain⟨z,its,n,r,e⟩:=I.hok l _ hH
 exact⟨z,its,n,r,r.length,e⟩
theorem zu{n:Nat}(h:n<=sizeLine):Builtin.List.listTooLong n=false:=by
 unfold Builtin.List.listTooLong;exact decide_eq_false (by omega)
end
section
variable{X:Cx}
noncomputable def x6:V->List V->Hp->VK->Prop:=fun x vs H Q=>∃ l xs y,x=.ref l /\ vs=[y] /\ H l=some (.lst xs) /\ xs.length<sizeLine /\ Q .non (upd H l (.lst (xs++[y])))
theorem eT:MtM X "list.append" x6:=by
 intro pins s σ H x vs v us Q I rx rv h;obtain⟨l,xs,y,rfl,rfl,hH,hz,q⟩:=h;cases rx;obtain⟨u,rfl,ru⟩:=rv.one;obtain⟨z,its,n,r,hl,e⟩:=I.D5 hH;refine call_meets F.slot_list_append ⟨_,e,rfl⟩ F.entry_list_append (F.args_list_append_2 _ _) (PySem.list_append l its.toArray n u (by rw[List.size_toArray];omega)) ⟨e,?_⟩
 refine⟨.non,_,I.Gu (its':=its++[u]) hH e (by simp) (r.append (.cons ru .nil)) ?_,rfl,q⟩
 rw[List.length_append,List.length_singleton];omega
noncomputable def Cm:V->List V->Hp->VK->Prop:=fun x vs H Q=>∃ l b xs zs,x=.ref l /\ vs=[.ref b] /\ H l=some (.lst xs) /\ H b=some (.lst zs) /\ xs.length+zs.length<=sizeLine /\ Q .non (upd H l (.lst (xs++zs)))
theorem C9:MtM X "list.extend" Cm:=by
 intro pins s σ H x vs v us Q I rx rv h;obtain⟨l,b,xs,zs,rfl,rfl,hH,hB,hz,q⟩:=h;cases rx;obtain⟨u,rfl,ru⟩:=rv.one;cases ru;obtain⟨z,its,n,r,hl,e⟩:=I.D5 hH;obtain⟨z2,its2,n2,r2,hl2,e2⟩:=I.D5 hB
 have hsz:its.toArray.size+its2.toArray.size<=sizeLine:=by rw[List.size_toArray,List.size_toArray];omega
 have hlong:¬ (!its.toArray.isEmpty&&Builtin.List.listTooLong (its.toArray.size+its2.toArray.size))=true:=by
  rw[zu hsz,Bool.and_false];exact Bool.false_ne_true
 refine call_meets F.slot_list_extend ⟨_,e,rfl⟩ F.entry_list_extend (F.args_list_extend_2 _ _)
  (AutoSeq1.list_extend_list_list_0 l its.toArray n b its2.toArray n2 hlong (by rw[List.size_toArray];omega) (by omega)) ⟨e,e2,?_⟩
 refine⟨.non,_,I.Gu (its':=its++its2) hH e (by simp) (r.append r2) ?_,rfl,q⟩
 rw[List.length_append];omega
noncomputable def Mf:V->List V->Hp->VK->Prop:=fun x vs H Q=>∃ l xs y,x=.ref l /\ vs=[] /\ H l=some (.lst xs) /\ xs[xs.length - 1]?=some y /\ Q y (upd H l (.lst xs.dropLast))
theorem Ea:MtM X "list.pop" Mf:=by
 intro pins s σ H x vs v us Q I rx rv h;obtain⟨l,xs,y,rfl,rfl,hH,hy,q⟩:=h;cases rx;have hus:=rv.zero;subst hus;obtain⟨z,its,n,r,hl,e⟩:=I.D5 hH;obtain⟨u,hu,ru⟩:=r.get hy
 have hy':its.toArray[its.toArray.size - 1]?=some u:=by
  show its.toArray[its.length - 1]?=some u;rw[<- Array.getElem?_toList,<- hl];exact hu
 refine call_meets F.slot_list_pop ⟨_,e,rfl⟩ F.entry_list_pop (F.args_list_pop_1 _) (MeetsSeq.list_pop_last l its.toArray n u hy' (by rw[List.size_toArray];omega)) ⟨e,?_⟩
 refine⟨y,_,I.Gu (its':=its.dropLast) hH e ?_ r.dropLast ?_,ru,q⟩
 . show its.toArray.eraseIdxIfInBounds (its.toArray.size - 1)=its.dropLast.toArray;rw[List.size_toArray,List.eraseIdxIfInBounds_toArray,Ba]
 . rw[List.length_dropLast];omega
end
section
variable{prog:Program}{w:World}{A:Around}{E:Value->Shared->Prop}{s:Shared}
set_option maxRecDepth 100000 in
end
end L2
namespace Att
open PySem PySem.W PySem.Calls PyProof.Rows
theorem tX{P:Params}{h:Heap}:∀(ns:List Int) (vs:List Value),WellAll P h vs (ns.map WData.int)->IntsAre vs ns:=by
 intro ns
 induction ns with
 | nil=>
   intro vs w;rw[List.map_nil]at w;cases w;exact .nil
 | cons n ns ih=>
   intro vs w;rw[List.map_cons]at w
   cases w with
   | cons a b=>
     cases a;exact .cons _ _ (ih _ b)
theorem Dg{l:OpenLaw}{n:Nat}(hn:l.most=some n){P:Params}{h:Heap}{args:List WData}{vals:List Value}
  (hpre:l.row.toRowW.claim.pre args=true) (hwl:WellAll P h vals args):
  ∃ a vs ns,vals=[Value.ref a] /\ args=[WData.list (ns.map WData.int)] /\ h.get? a=some { cls:=.type "list",data:=.seq vs.toArray } /\ IntsAre vs ns /\ ns.length<=n:=by
 have hsh:WShape.hasAll [] args [.list .int]=true:=(pre_splitW hpre).1
 have hc:l.pre.holds [] { args:=args }=true:=(pre_splitW hpre).2
 obtain⟨d,r,rfl,h1,h2⟩:=hasAllW_cons hsh
 obtain rfl:=hasAllW_nil h2
 obtain⟨xs,rfl,h3⟩:=hasW_list h1;obtain⟨ns,rfl⟩:=items_int h3
 have hlen:ns.length<=n:=by
  unfold OpenLaw.pre at hc
  have h4:(WTm.not (.lt (.lit (.int (n:Int))) (.len (.arg 0)))).holds [] { args:=[.list (ns.map .int)] }=true:=by
   have h4:=(holds_andW hc).1;rw[hn]at h4;exact h4
  have h5:=condW_of h4 (w_not (w_lt w_lit (w_len_list (w_arg rfl))));rw[List.length_map]at h5
  refine Nat.le_of_not_lt fun q=>?_
  have q':(n:Int)<((ns.length:Nat):Int):=by omega
  first
   |(rw[decide_eq_true q']at h5;exact absurd h5 (by decide))
   |(simp at h5;omega)
 cases hwl with
 | cons w1 w2=>
   cases w2
   cases w1 with
   |list ho hall=>exact⟨_,_,ns,rfl,rfl,ho,tX ns _ hall,hlen⟩
theorem C4(l:OpenLaw)(args:List WData):l.row.toRowW.claim.post args (.bool true) args=true:=
 postW_of (r:=l.row.toRowW) (X:=(true==true))
  (show WShape.has [] (.bool true) .bool=true by first|rfl|decide|simp[WShape.has,WShape.arms,WShape.armsAll])
  (show(WTm.eq .res (.lit (.bool true))).value [] { args:=args,res:=some (.bool true),after:=args }=some (.bool (true==true)) from w_eq_bool (w_res rfl) w_lit) rfl
theorem zS{l:OpenLaw}{n:Nat}{q:Program}{loose:List Str}{XP:(Str->Option Value)->Heap->Prop}{YP:World->Heap->Prop}{d:DefRec}
  (hn:l.most=some n) (hdf:d.params.defaults=[])
  (call:∀(w:World) (s₀ s₁:Shared) (mg mb:Str->Option Value) (fa:Addr) (o:Obj) (pm cd doc:Value) (a:Addr) (vs:List Value) (ns:List Int),
    Ground q loose [] XP w s₀ mg mb s₁.heap->YP w s₁.heap ->
    s₁.heap.get? fa=some o->o.data=.func (docDef d.name d.params d.body d.scope pm cd doc)->s₁.heap.CodeRec cd d.name->mg d.name=some (.ref fa) ->
    s₁.heap.get? a=some { cls:=.type "list",data:=.seq vs.toArray }->IntsAre vs ns->ns.length<=n->s₁.gens=#[] ->
    codeAny (model l.prog w) callerA (.call (.ref fa) ⟨[.ref a],[]⟩) (fun r s'=>r=.ok (.ret (.bool true)) /\ OldK s₁.heap s'.heap /\ s'.os=s₁.os /\ AllBare s'.gens) s₁):
  WalkO q loose XP YP l.row.toRowW d [] (fun f vs=>PySem.call f vs):=by
 intro w s₀ s₁ mg mb G Y fa o pm cd doc dV kV ho hd hcd hD hmg hg args vals as hpre hlay hrd hwl hlo
 obtain rfl:dV=.none:=Dflts.none hD hdf
 obtain rfl:kV=.none:=Dflts.noKw hD
 obtain⟨a,vs,ns,rfl,rfl,hobj,hints,hlen⟩:=Dg hn hpre hwl;refine enter_call (codeAny_mono (call w s₀ s₁ mg mb fa o pm cd doc a vs ns G Y ho (fd_plain hd) hcd hmg hobj hints hlen hg) fun r s' hq=>?_);obtain⟨rfl,h2,h3,h4⟩:=hq
 exact⟨.inl ⟨.bool true,.bool true,[],rfl,fun _=>rfl,.bool true,C4 l _,fun _=>⟨List.Pairwise.nil,fun _ hm=>(nomatch hm)⟩⟩,h2,h3,h4⟩
end Att
namespace L2
open PySem PySem.Spec PyProof.Rows
theorem wW:∀{vs:List Value} {ns:List Int},IntsAre vs ns->Vals (ns.map V.int) vs
 |_,_,.nil=>.nil
 |_,_,.cons n t h=>.cons ⟨t,rfl⟩ (wW h)
noncomputable def Kp(H:Hp):Prop:=∀ b,H b=none \/ ∃ o xs,H b=some (.frz o (.lst xs))
theorem EG{P:Program}{w:World}{K:PySem.W.Frag}{mg mb:Str->Option Value}{CX:CXT}{k:Nat}{fa a:Addr}{fd:FuncData}{x:Str}{sp:Sp}{s₁:Shared}{vs:List Value}{ns:List Int}
  (KX:K.In s₁.heap) (hns:s₁.heap.Ns mainGlobals mg) (hb:s₁.heap.Ns builtinsNs mb) (hbb:∀ x:Str,x ≠ "__name__" -> mb x=bootBuiltins x) (hlim:s₁.heap.NoLimit) (hg:s₁.gens=#[])
  (ha:s₁.heap.get? a=some { cls:=.type "list",data:=.seq vs.toArray }) (hi:IntsAre vs ns) (hl:ns.length<=sizeLine) (hr:gN k callerA)
  (F:∀ base:Heap,K.In base->base.Ns mainGlobals mg->bF P w K mg base CX k fa fd [x] sp) (hbind:∀(s:Shared) (u:Value),BindsTo s fd ⟨[u],[]⟩ [(x,u)])
  (hsp:∀ H:Hp,Kp H->SqL K H a (ns.map V.int)->sp [.ref a] H (fun v _=>v=.bl true) fun _ _ _=>False)
  (hCX:∀ H e s',CX [] H s₁ (fun _ _ _=>False) e s'->False):
  codeAny (model P w) callerA (.call (.ref fa) ⟨[.ref a],[]⟩) (fun r s'=>r=.ok (.ret (.bool true)) /\ OldK s₁.heap s'.heap /\ s'.os=s₁.os /\ AllBare s'.gens) s₁:=by
 have rv:=wW hi;have lenV:=hi.length
 have core:∀ H:Hp,Kp H->SqL K H a (ns.map V.int)->HOk P w H s₁.heap->(∀ b,H b≠none->b=a)->(H a≠none->K.lookup a=none) ->
   codeAny (model P w) callerA (.call (.ref fa) ⟨[.ref a],[]⟩) (fun r s'=>r=.ok (.ret (.bool true)) /\ OldK s₁.heap s'.heap /\ s'.os=s₁.os /\ AllBare s'.gens) s₁:=by
  intro H hO hS hok hA hK
  have base_of:∀{b:Addr} {o:Obj},s₁.heap.get? b=some o->H b=none->(yu s₁.heap H).get? b=some o:=fun e n=>ER e n
  have noA:∀{b:Addr} {o:Obj} {es:Array DictEntry} {ep:Nat},s₁.heap.get? b=some o->o.data=.dict es ep->H b=none:=fun {b o es ep} e d=>by
   cases q:H b with
   |none=>rfl
   | some u=>
     have e':b=a:=hA b (by rw[q];simp)
     subst e';rw[ha]at e;cases e
     have d':Data.seq vs.toArray _=Data.dict es ep:=d
     cases d'
  have nsK:∀{b:Addr} {m:Str->Option Value},s₁.heap.Ns b m->(yu s₁.heap H).Ns b m:=fun {b m} ⟨o,es,ep,e,d,r⟩=>⟨o,es,ep,base_of e (noA e d),d,r⟩
  have hKb:K.In (yu s₁.heap H):=fun b o e=>base_of (KX b o e) (by
   cases q:H b with
   |none=>rfl
   | some u=>
     have e':b=a:=hA b (by rw[q];simp)
     subst e'
     rw[hK (by rw[q];simp)]at e;cases e)
  have hM:Mod K mg (yu s₁.heap H):=⟨hKb,nsK hns,⟨mb,nsK hb,hbb⟩,let ⟨mc,h1,h2⟩:=hlim;⟨mc,nsK h1,h2⟩⟩
  have e0:Bt P w K mg (yu s₁.heap H) callerA [] s₁ H:=⟨rfl,hM,fun b o e=>Gx e,Nat.le_of_eq (CL _ _),trivial,fun b hb=>absurd (show b∈([]:List Addr) from hb) (by simp),hok,.of_eq hg⟩
  refine codeAny_mono ((F _ hKb (nsK hns)).run callerA [] s₁ H ⟨[.ref a],[]⟩ [.ref a] [.ref a] _ _ hr e0 (hbind s₁ (.ref a)) (.cons rfl .nil) (hsp H hO hS)) fun r s' h=>?_
  cases r with
  |error e=>exact(hCX H e s' h).elim
  | ok fl=>
    cases fl with
    |next=>exact False.elim h
    |brk=>exact False.elim h
    |cont=>exact False.elim h
    | ret u=>
      obtain⟨v,H',os,bare,un,hok',r',q⟩:=h
      have q':v=.bl true:=q
      subst q'
      obtain rfl:u=Value.bool true:=r'
      refine⟨rfl,OldK.of_keep fun b o e=>?_,os,bare⟩
      cases q:H b with
      |none=>exact un.keep b o e q (by intro z;exact absurd (show b∈([]:List Addr) from z) (by simp)) (by simp)
      | some u=>
        rcases hO b with z|⟨ob,xs,z⟩
        . rw[q]at z;cases z
        . have z2:=un.frzs b ob _ z;obtain⟨e1,_⟩:=hok b _ z;obtain⟨e2,_⟩:=hok' b _ z2;rw[e]at e1;cases e1;exact e2
 cases hk:K.lookup a with
 | some o=>
   have e:=KX a o hk;rw[ha]at e;cases e
   refine core (fun _=>none) (fun _=>.inl rfl) (.inr ⟨_,vs.toArray,_,hk,rfl,rfl,rfl,by rw[List.size_toArray,lenV];exact hl,by simpa using rv⟩) (fun b u z=>by have z':(none:Option HO)=some u:=z;cases z') (fun b z=>absurd rfl z) fun z=>absurd rfl z
 | none=>
   refine core (fun b=>if b=a then some (.frz { cls:=.type "list",data:=.seq vs.toArray } (.lst (ns.map V.int)))else none) (fun b=>?_) (.inl (.inr ⟨{ cls:=.type "list",data:=.seq vs.toArray },if_pos rfl⟩)) (fun b u z=>?_) (fun b z=>?_) fun _=>hk
   . by_cases hb:b=a
     . exact .inr ⟨_,_,if_pos hb⟩
     . exact .inl (if_neg hb)
   . by_cases hb:b=a
     . have z':=(if_pos hb).symm.trans z
       cases z'
       subst hb
       exact⟨ha,by rw[List.length_map];exact hl,vs,_,rv,ha⟩
     . have z':=(if_neg hb).symm.trans z
       cases z'
   . by_cases hb:b=a
     . exact hb
     . exact absurd (if_neg hb) z
abbrev KOf{K:PySem.W.Frag}{h:Heap}(_:K.In h):PySem.W.Frag:=K
theorem GB{l:PySem.W.OpenLaw}{n k:Nat}{q:Program}{loose:List Str}{XP:(Str->Option Value)->Heap->Prop}{YP:World->Heap->Prop}{d:DefRec}{K:Params->PySem.W.Frag}{CX:World->CXT}{sp:World->Sp}{x:Str}
  (hn:l.most=some n) (hn2:n<=sizeLine) (hdf:d.params.defaults=[]) (hr:gN k callerA)
  (hY:∀(w:World) (h:Heap),YP w h->(K w.params).In h)
  (F:∀(w:World) (mg:Str->Option Value) (fa:Addr) (h:Heap),(K w.params).In h->h.Ns mainGlobals mg->mg d.name=some (.ref fa) ->
    ∃ fd:FuncData,(∀(s:Shared) (u:Value),BindsTo s fd ⟨[u],[]⟩ [(x,u)]) /\
      ∀ base:Heap,(K w.params).In base->base.Ns mainGlobals mg->bF l.prog w (K w.params) mg base (CX w) k fa fd [x] (sp w))
  (hsp:∀(w:World) (H:Hp) (a:Addr) (ns:List Int),ns.length<=n->Kp H->SqL (K w.params) H a (ns.map V.int)->sp w [.ref a] H (fun v _=>v=.bl true) fun _ _ _=>False)
  (hCX:∀(w:World) (H:Hp) (s:Shared) (e:Value) (s':Shared),CX w [] H s (fun _ _ _=>False) e s'->False):
  PySem.W.WalkO q loose XP YP l.row.toRowW d [] (fun f vs=>PySem.call f vs):=by
 refine Att.zS hn hdf fun w s₀ s₁ mg mb fa o pm cd doc a vs ns G Y ho hd hcd hmg hobj hints hlen hg=>?_
 have KX:=hY w _ Y;obtain⟨fd,hb,hF⟩:=F w mg fa _ KX G.T.g hmg
 exact EG KX G.T.g G.T.b G.T.builtins G.T.nolimit hg hobj hints (Nat.le_trans hlen hn2) hr hF hb (fun H hO hS=>hsp w H a ns hlen hO hS) fun H e s'=>hCX w H s₁ e s'
def inClass(s:Stmt)(j:Nat):Stmt:=match s with
 |.ClassDef _ _ _ body _ _ _ _ _ _ _=>body.getD j (.Pass ⟨0,0,0,0⟩)
 |_=>.Pass ⟨0,0,0,0⟩
noncomputable def er(s:Stmt):Arguments:=match s with
 |.FunctionDef _ a _ _ _ _ _ _ _ _=>a
 |_=>{ posonlyargs:=[],args:=[],vararg:=none,kwonlyargs:=[],kw_defaults:=[],kwarg:=none,defaults:=[] }
noncomputable def dk(s:Stmt):List Stmt:=match s with
 |.FunctionDef _ _ b _ _ _ _ _ _ _=>b
 |_=>[]
noncomputable def ay(s:Stmt):Scope:=match s with
 |.FunctionDef _ _ _ _ _ _ sc _ _ _=>sc
 |_=>{ kind:=.function,names:=[],isGenerator:=false,isCoroutine:=false }
structure Fun(K:PySem.W.Frag)(x qual:Str)(st:Stmt)(f:Addr)(fd:FuncData):Prop where
 ex:∃(oc:Value) (od:Option Addr) (kV doc pm:Value) (an:Option Addr) (cdv ct:Value) (osl:Array (Option Value)),
  fd=PySem.W.fnOf x qual (er st) (dk st) (ay st) .none kV doc pm an cdv ct /\ K.lookup f=some ⟨oc,od,.func fd,osl⟩ /\ PySem.W.codeIn K cdv qual=true
 kp:PySem.W.keepIn K (.ref f)=true
section
variable{P:Program}{w:World}{K:PySem.W.Frag}{mg:Str->Option Value}{base:Heap}
theorem Fun.binds{x qual:Str}{st:Stmt}{f:Addr}{fd:FuncData}{ps:List Str}(F:Fun K x qual st f fd)
  (h:∀(kV doc pm:Value) (an:Option Addr) (cdv ct:Value) (us:List Value),us.length=ps.length->bindArgs (PySem.W.fnOf x qual (er st) (dk st) (ay st) .none kV doc pm an cdv ct) ⟨us,[]⟩=pure (ps.zip us)):Binds K fd ps []:=by
 obtain⟨oc,od,kV,doc,pm,an,cdv,ct,osl,rfl,lk,hcd⟩:=F.ex;exact .all (h kV doc pm an cdv ct)
theorem j9{x qual:Str}{st:Stmt}{f:Addr}{oc:Value}{od an:Option Addr}{osl:Array (Option Value)}{kV doc pm cdv ct:Value}(l:K.lookup f=some ⟨oc,od,.func (PySem.W.fnOf x qual (er st) (dk st) (ay st) .none kV doc pm an cdv ct),osl⟩)
  (c:PySem.W.codeIn K cdv qual=true) (k:PySem.W.keepIn K (.ref f)=true):Fun K x qual st f (PySem.W.fnOf x qual (er st) (dk st) (ay st) .none kV doc pm an cdv ct):=⟨⟨oc,od,kV,doc,pm,an,cdv,ct,osl,rfl,l,c⟩,k⟩
end
section
variable{X:Cx}
theorem pv(i:Nat){x:Str}{pos:Pos}(hN:X.N[i]?=some x:=by rfl)(hv:Vis X.env.scope x:=by first|exact Or.inl rfl|exact Or.inr (Or.inl rfl)|exact Or.inr (Or.inr rfl))(hd:(x==("__debug__":Str))=false:=by decide)
  (hcd:(x==("__classdict__":Str))=false:=by decide):PE X (.Name x pos) (vV i):=Lj hN hv hd hcd
end
theorem uV{A B:Prop}(h:B):if false=true then A else B:=by
 rw[if_neg Bool.false_ne_true];exact h
theorem u3{A B:Prop}(h:A):if true=true then A else B:=by
 rw[if_pos rfl];exact h
noncomputable def aJ(H H':Hp):Prop:=∀ b o,H b=some o->H' b=some o
theorem aJ.refl(H:Hp):aJ H H:=fun _ _ h=>h
theorem aJ.trans{H H1 H2:Hp}(a:aJ H H1)(b:aJ H1 H2):aJ H H2:=fun c o h=>b c o (a c o h)
theorem aJ.free{H H':Hp}(e:aJ H H'){l:Addr}(h:H' l=Option.none):H l=Option.none:=by
 cases q:H l with
 |none=>rfl
 | some o=>
   rw[e l o q]at h;cases h
theorem aJ.seq{K:PySem.W.Frag}{H H':Hp}{a:Addr}{xs:List V}(e:aJ H H')(h:SqL K H a xs):SqL K H' a xs:=by
 rcases h with(h|⟨o,h⟩)|h
 . exact .inl (.inl (e _ _ h))
 . exact .inl (.inr ⟨o,e _ _ h⟩)
 . exact .inr h
section
variable{κ:Type}[DecidableEq κ]
theorem bO.getD{o:Option V}{u:Option Value}{d:V}{d':Value}(r:bO o u)(rd:RelV d d'):RelV (o.getD d) (u.getD d'):=by
 cases o with
 | none=>cases u with
   |none=>exact rd
   |some _=>exact(show False from r).elim
 | some _=>cases u with
   |none=>exact(show False from r).elim
   |some _=>exact r
end
abbrev KT(H:Hp):List (List Key×V)->List (List Key×Addr×Value)->Prop:=Paired fun p q=>p.1=q.1 /\ H q.2.1=some (.tup (p.1.map kV)) /\ RelV p.2 q.2.2
theorem KT.keeps{H H':Hp}{kvs:List (List Key×V)}{xs:List (List Key×Addr×Value)}(r:KT H kvs xs)(ht:∀ b ys,H b=some (.tup ys)->H' b=some (.tup ys)):KT H' kvs xs:=
 Paired.KA r fun _ _ z=>⟨z.1,ht _ _ z.2.1,z.2.2⟩
section
variable{X:Cx}{pins:List (Addr×Obj)}{σ:St}{H:Hp}{s:Shared}{a:Addr}{y v:V}{u r:Value}{o:Option V}{A:Around}{E:Value->Shared->Prop}
theorem Inv.big(I:Inv X pins σ H s):sysModules<s.heap.objs.size:=by
 have h:mainGlobals<s.heap.objs.size:=(I.mod.glob.keeps I.bk).lt
 exact Nat.lt_trans (by decide) h
end
end L2
set_option maxHeartbeats 4000000
namespace L2.E
open PySem PySem.Spec PyProof.Rows
noncomputable def FL(a C:Addr)(dx:Option Addr)(h:Heap):Prop:=∃ o vs,h.get? a=some o /\ o.cls=.ref C /\ o.dict=dx /\ o.data=.fields vs /\ vs.size=6
noncomputable def TbO(T:Addr)(h:Heap):Prop:=∃ o ts,h.get? T=some o /\ o.data=.fields ts /\ 3<ts.size
noncomputable abbrev se(a C:Addr)(dx:Option Addr):HO:=.ext (FL a C dx)
noncomputable abbrev oTb(T:Addr):HO:=.ext (TbO T)
theorem E8(x:FL a C dx h):iC P w H h a (se a C dx):=by
 refine⟨x,let ⟨o,_,e,_⟩:=x;⟨o,e⟩,fun h1 h2 p k=>?_⟩
 obtain⟨o,vs,e,r⟩:=p
 exact⟨o,vs,k o e,r⟩
theorem Iz(x:TbO T h):iC P w H h T (oTb T):=by
 refine⟨x,let ⟨o,_,e,_⟩:=x;⟨o,e⟩,fun h1 h2 p k=>?_⟩
 obtain⟨o,vs,e,r⟩:=p
 exact⟨o,vs,k o e,r⟩
theorem DP(h:H a=some o):upd H a o=H:=by
 funext b
 unfold upd;split
 . rename_i e;rw[e,h]
 . rfl
structure Fly(H:Hp)(h:Heap)(a C:Addr)(dx:Option Addr):Prop where
 exc:H a=some (se a C dx)
 tb:∃ o vs,h.get? a=some o /\ o.data=.fields vs /\ (vs[1]?=some Value.none \/ ∃ T,vs[1]?=some (.ref T) /\ H T=some (oTb T) /\ T≠a)
structure yF(H:Hp)(h:Heap)(a C:Addr)(dx:Option Addr):Prop where
 exc:H a=some (se a C dx)
 tb:∃ o vs T,h.get? a=some o /\ o.data=.fields vs /\ vs[1]?=some (.ref T) /\ H T=some (oTb T) /\ T≠a
theorem yF.fly(F:yF H h a C dx):Fly H h a C dx:=
 let ⟨o,vs,T,e1,e2,e3,e4,e5⟩:=F.tb
 ⟨F.exc,o,vs,e1,e2,.inr ⟨T,e3,e4,e5⟩⟩
section
variable{X:Cx}{pins:List (Addr×Obj)}{σ:St}{H:Hp}{s:Shared}{a C:Addr}{dx:Option Addr}
theorem Fj(I:Inv X pins σ H s)(k:Heap.SlotsOnly (frs X.stack) s.heap h₁):Un (frs X.stack) [] H H s.heap h₁ where
 keep:=fun b o e _ hb _=>(k.2.1 b hb).trans e
 slot:=fun b o e _ _ _=>k.2.2 b o e
 free:=fun _ _ _ n _=>n
 there:=fun b o e _=>let ⟨_,q⟩:=k.2.2 b o e;⟨_,q⟩
 tups:=fun _ _ q=>q
 frzs:=fun _ _ _ q=>q
 tbls:=fun _ ps q=>⟨#[],by rw[q];simp⟩
theorem Ds(I:Inv X pins σ H s)(k:Heap.SlotsOnly (frs X.stack) s.heap h₁):HOk X.prog X.w H h₁:=fun b o e=>by
 have nf:∀ c u,H c=some u->c∉frs X.stack:=fun c u q z=>by rw[I.yB c z]at q;cases q
 refine(I.hok b o e).qE (fun c v hc q=>(k.2.1 c ?_).trans q) (fun _ q=>q) fun _ _ q=>q
 rcases hc with z|z
 . rw[z];exact nf b o e
 . exact nf c _ z
theorem Gw(I:Inv X pins σ H s)(e:H a=some (se a C dx)):
  Inv X pins σ H { s with heap:=s.heap.update a (Obj.mapFields (·.setIfInBounds i v)) }:=by
 obtain⟨⟨o,vs,ho,hc,hd,hf,hz⟩,_,_⟩:=I.hok a _ e;have hs:=Heap.get?_update_self (Obj.mapFields (·.setIfInBounds i v)) ho (Obj.isFreed_of_fields (Obj.data_mapFields hf _))
 have q:=I.write (x:=a) (e:=a) (o:=se a C dx) (t':=s.toks) (h':=s.heap.update a (Obj.mapFields (·.setIfInBounds i v))) (by rw[e];trivial) (.inl rfl)
  (fun b u hb q=>(Heap.get?_update_other _ _ (Ne.symm hb)).trans q) ⟨_,hs⟩ (E8 ⟨_,_,hs,by rw[Obj.cls_mapFields];exact hc,by obtain⟨c,d,dt,sl⟩:=o;cases dt<;>exact hd,Obj.data_mapFields hf _,by simpa using hz⟩)
 rw[DP e]at q;exact q
theorem Fp(I:Inv X pins σ H s)(e:H T=some (oTb T)):
  Inv X pins σ H { s with heap:=s.heap.update T (Obj.mapFields (·.setIfInBounds i v)) }:=by
 obtain⟨⟨o,vs,ho,hf,hz⟩,_,_⟩:=I.hok T _ e;have hs:=Heap.get?_update_self (Obj.mapFields (·.setIfInBounds i v)) ho (Obj.isFreed_of_fields (Obj.data_mapFields hf _))
 have q:=I.write (x:=T) (e:=T) (o:=oTb T) (t':=s.toks) (h':=s.heap.update T (Obj.mapFields (·.setIfInBounds i v))) (by rw[e];trivial) (.inl rfl)
  (fun b u hb q=>(Heap.get?_update_other _ _ (Ne.symm hb)).trans q) ⟨_,hs⟩ (Iz ⟨_,_,hs,Obj.data_mapFields hf _,by simpa using hz⟩)
 rw[DP e]at q;exact q
theorem zW{Q:Unit->Shared->Prop}{E:Value->Shared->Prop}(I:Inv X pins σ H s)(hst:X.stack=X.env ::X.outer)(hf:X.env.frame=some L)(e:H a=some (se a C dx))
  (h:∀ s' H',Inv X pins σ H' s'->aJ H H'->yF H' s'.heap a C dx->Q () s'):
  wpAny (model X.prog X.w) X.A (do let fr <- frameOf X.env;let pl <- entryPlaceOf L had;let b <- EntryCells.newEntry head fr .none (rawInt L) .none pl;setField (.ref a) 1 b) Q E s:=by
 have hfr:X.A.frames=some (X.env ::X.outer):=by rw[<- hst];exact I.ok.frames
 have hl:s.heap.FunFrames X.base (X.env ::X.outer):=by rw[<- hst];exact I.stack
 refine wpAny_bind (wpAny_frameOf_fun hfr hl hf fun h₁ k₁=>?_)
 have k₁':Heap.SlotsOnly (frs X.stack) s.heap h₁:=by rw[hst];exact k₁
 have I₁:=I.call (g':=s.gens) (t':=s.toks) (d':=s.drawn) (ch:=[]) (Fj I k₁') (Ds I k₁') I.bare (fun b z=>absurd z (by simp));refine wpAny_bind (wpAny_entryPlaceOf fun pl hpl=>?_);unfold EntryCells.newEntry newFields;refine wpAny_bind (wpAny_newObj_type ?_ (hpl.sizeOk5 _ _ _ _ _))
 have big:3<([head,.ref L,.none,rawInt L,.none]++(if pl.isEmpty then List.replicate 6 Value.none else pl)).toArray.size:=by
  rw[List.size_toArray,List.length_append];show 3<5+_;omega
 have new:=Heap.get?_push_size h₁ (o:={ cls:=.type "traceback",dict:=none,data:=.fields ([head,.ref L,.none,rawInt L,.none]++(if pl.isEmpty then List.replicate 6 Value.none else pl)).toArray }) rfl
 have fr:H h₁.objs.size=none:=I₁.hok.fresh (Nat.le_refl _)
 have ne:h₁.objs.size≠a:=fun z=>by rw[z,e]at fr;cases fr
 have I₂:=I₁.laid (a:=h₁.objs.size) (o:=oTb h₁.objs.size) (t':=s.toks) (fun b u q=>Heap.get?_push_of_some _ q) (Nat.le_refl _) (Iz ⟨_,_,new,rfl,big⟩)
 have g:aJ H (upd H h₁.objs.size (oTb h₁.objs.size)):=fun b u q=>by rw[bf (cy q fr)];exact q
 obtain⟨⟨o,vs,ho,hc,hd,hv,hz⟩,_,_⟩:=I₂.hok a _ (g _ _ e);refine wpAny_setField ho hv (by omega) ?_;refine h _ _ (Gw I₂ (g _ _ e)) g ⟨g _ _ e,_,_,h₁.objs.size,Heap.get?_update_self _ ho (Obj.isFreed_of_fields (Obj.data_mapFields hv _)),Obj.data_mapFields hv _,by simp[hz],bz,ne⟩
theorem yT{Q:Unit->Shared->Prop}{E:Value->Shared->Prop}(I:Inv X pins σ H s)(hst:X.stack=X.env ::X.outer /\ X.env.frame=some X.env.locals)(F:Fly H s.heap a C dx)
  (h:∀ s' H',Inv X pins σ H' s'->aJ H H'->yF H' s'.heap a C dx->Q () s'):wpAny (model X.prog X.w) X.A (noteFrame (.ref a) X.env) Q E s:=by
 obtain⟨o,vs,ho,hv,hw⟩:=F.tb;unfold noteFrame;simp only[hst.2]
 rcases hw with h1|⟨T,h1,hT,ne⟩
 . refine wpAny_bind (wpAny_field ho hv h1 ?_);rw[if_neg (by decide)];exact zW I hst.1 hst.2 F.exc h
 . obtain⟨⟨oT,ts,hoT,hdT,hz⟩,_,_⟩:=I.hok T _ hT;refine wpAny_bind (wpAny_field ho hv h1 ?_);rw[if_pos (show(Value.ref T != Value.none)=true from by simp)]
   have h3:ts[3]?=some ts[3]:=by simp[hz]
   refine wpAny_bind (wpAny_field hoT hdT h3 ?_)
   by_cases c:(ts[3]==rawInt X.env.locals)=true
   . rw[if_pos c];exact wpAny_pure (h s H I (aJ.refl H) ⟨F.exc,o,vs,T,ho,hv,h1,hT,ne⟩)
   . rw[if_neg c];refine wpAny_bind (wpAny_setField hoT hdT hz ?_);exact zW (Fp I hT) hst.1 hst.2 F.exc h
theorem j6{Q:Unit->Shared->Prop}{E:Value->Shared->Prop}(I:Inv X pins σ H s)(F:yF H s.heap a C dx)
  (h:∀ s',Inv X pins σ H s'->yF H s'.heap a C dx->Q () s'):wpAny (model X.prog X.w) X.A (setFlight (.ref a) x) Q E s:=by
 obtain⟨o,vs,T,ho,hv,h1,hT,ne⟩:=F.tb;unfold setFlight;obtain⟨⟨oT,ts,hoT,hdT,hz⟩,_,_⟩:=I.hok T _ hT;refine wpAny_bind (wpAny_field ho hv h1 ?_);rw[if_pos (show(Value.ref T != Value.none)=true from by simp)];refine wpAny_setField hoT hdT hz ?_;exact h _ (Fp I hT) ⟨F.exc,o,vs,T,(Heap.get?_update_other _ _ ne).trans ho,hv,h1,hT,ne⟩
theorem BD{α:Type}{Q:α->Shared->Prop}{E:Value->Shared->Prop}(I:Inv X pins σ H s)(F:yF H s.heap a C dx)
  (h:∀ s',Inv X pins σ H s'->yF H s'.heap a C dx->E (.ref a) s'):wpAny (model X.prog X.w) X.A (PySem.passOn what (.ref a) X.env:Sem α) Q E s:=by
 obtain⟨o,vs,T,ho,hv,h1,hT,ne⟩:=id F.tb;unfold PySem.passOn;refine wpAny_bind (wpAny_field ho hv h1 ?_);rw[if_neg (show ¬ (Value.ref T==Value.none)=true from by simp)];exact wpAny_bind (j6 I F fun s' I' F'=>wpAny_throw (h s' I' F'))
end
noncomputable def CXE(P:Program)(w:World):CXT:=fun outer H s E e s'=>∃ a C dx H',e=.ref a /\ s'.os=s.os /\ AllBare s'.gens /\ Un (frs outer) [] H H' s.heap s'.heap /\ HOk P w H' s'.heap /\ Fly H' s'.heap a C dx /\ E (.ref C) (some a) H'
abbrev XW:=Value->Option Addr->St->Hp->Prop
noncomputable def Thr(X:Cx)(W:XW):Prop:=∀(pins:List (Addr×Obj)) (σ:St) (H:Hp) (s:Shared) (a C:Addr) (dx:Option Addr),Inv X pins σ H s->Fly H s.heap a C dx->W (.ref C) (some a) σ H->X.xe (.ref a) s
section
variable{CX:CXT}{P:Program}{w:World}{K:PySem.W.Frag}{mg:Str->Option Value}{base:Heap}{N:List Str}{qual:Str}{scope:Scope}{f:Addr}{cd:Value}{A:Around}{outer:List Env}{s₀:Shared}{H₀:Hp}{E:XK}
theorem aC:Thr (sv (CXE P w) P w K mg base N qual scope f cd A outer s₀ H₀ E) (fun C a _ H=>∀ H',aJ H H'->E C a H'):=by
 intro pins σ H s a C dx I F hw;show wpAny _ _ (leaving _ _) _ _ s;unfold leaving;refine wpAny_bind (yT I ⟨rfl,rfl⟩ F fun s1 H1 I1 g1 F1=>?_)
 refine j6 I1 F1 fun s2 I2 F2=>?_
 exact⟨a,C,dx,H1,rfl,I2.os,I2.bare,I2.base,I2.hok,F2.fly,hw H1 g1⟩
theorem ez:PassesOwn (model P w) (sv (CXE P w) P w K mg base N qual scope f cd A outer s₀ H₀ E).A (sv (CXE P w) P w K mg base N qual scope f cd A outer s₀ H₀ E).env (sv (CXE P w) P w K mg base N qual scope f cd A outer s₀ H₀ E).xe:=by
 show PassesOwn (model P w) (A.deeper (envOfC qual scope s₀.heap.objs.size f cd)) (envOfC qual scope s₀.heap.objs.size f cd) (fun e s'=>wpAny (model P w) (A.deeper (envOfC qual scope s₀.heap.objs.size f cd)) (leaving (envOfC qual scope s₀.heap.objs.size f cd) e) (fun _ s''=>CXE P w outer H₀ s₀ E e s'') (fun e' s''=>CXE P w outer H₀ s₀ E e' s'') s')
 passes_own
end
section
variable{X:Cx}{k:Nat}{f:Addr}{fd:FuncData}{ps:List Str}{sp:Sp}{dvs:List V}{ds:List Value}{W:XW}{x m:Str}{p pos apos:Pos}{e o:Expr}{es:List Expr}{ta:TE}{t:TA}
noncomputable def sy(sp:Sp)(dvs:List V)(W:XW)(t:TA):TE:=fun σ H Q=>t σ H fun vs H1=>sp (vs++dvs) H1 Q fun C a H'=>W C a σ H'
theorem ue{pins:List (Addr×Obj)}(F:bF X.prog X.w X.K X.mg X.base (CXE X.prog X.w) k f fd ps sp)(hr:gN k X.A)(hb:Binds X.K fd ps ds)(hd:Vals dvs ds)(hx:Thr X W)
  (I:Inv X pins σ H s) (r:Vals vs us) (h:sp (vs++dvs) H Q fun C a H'=>W C a σ H'):wpAny (model X.prog X.w) X.A (call (.ref f) us) (EP X pins σ Q) X.xe s:=by
 have r2:Vals (vs++dvs) (us++ds):=r.append hd
 have hl:(us++ds).length=ps.length:=by rw[<- r2.length];exact F.len _ _ _ _ h
 refine wpAny_call (codeAny_mono (F.run X.A X.stack s H ⟨us,[]⟩ (us++ds) (vs++dvs) Q _ hr I.LS (hb s us I.kIn hl) r2 h) fun r s' hq=>?_)
 cases r with
 | error e=>
   obtain⟨a,C,dx,H',rfl,ho,bare,un,hok,fl,hw⟩:=hq;exact hx pins σ H' s' a C dx (I.Ii ho un hok bare fun b z=>absurd z (by simp)) fl hw
 | ok fl=>
   cases fl with
   |ret u=>exact I.after hq
   |next=>exact False.elim hq
   |brk=>exact False.elim hq
   |cont=>exact False.elim hq
theorem E9(F:bF X.prog X.w X.K X.mg X.base (CXE X.prog X.w) k f fd ps sp)(hr:gN k X.A)(hg:Gl X x)(hm:X.mg x=some (.ref f))(hk:PySem.W.keepIn X.K (.ref f)=true)(hb:Binds X.K fd ps ds)(hd:Vals dvs ds)(hx:Thr X W)
  (ha:PA X (e ::es) t) (hdb:(x==("__debug__":Str))=false:=by decide) (he:starEach (e ::es) X.env=(false,eval e X.env) ::starEach es X.env:=by rfl) (hpl:(backTo pos (starEach es X.env)).any (·.1)=false:=by rfl):
  PE X (.Call (.Name x p) (e ::es) [] pos) (sy sp dvs W t):=by
 intro pins s σ H Q I h;refine wpAny_Call_Name_kw (o6 I hg hm ?_ hdb);refine PySem.W.callWith_K (h₀:=X.base) I.ok.mod.kin hk (thn (ha pos pins s σ H _ I h) fun us s1 ⟨vs,H1,I1,r,q⟩=>⟨I1.kIn,?_⟩) he hpl;exact ue F hr hb hd hx I1 r q
theorem Dw(F:bF X.prog X.w X.K X.mg X.base (CXE X.prog X.w) k f fd ps sp)(hr:gN k X.A)(hg:Gl X x)(hm:X.mg x=some (.ref f))(hk:PySem.W.keepIn X.K (.ref f)=true)(hb:Binds X.K fd ps ds)(hd:Vals dvs ds)(hx:Thr X W)
  (hdb:(x==("__debug__":Str))=false:=by decide):PE X (.Call (.Name x p) [] [] pos) (sy sp dvs W km):=by
 intro pins s σ H Q I h;refine wpAny_Call_Name_kw (o6 I hg hm ?_ hdb);exact PySem.W.callWith_K0 I.kIn hk (ue (us:=[]) F hr hb hd hx I .nil h)
end
theorem EA{P:Program}{w:World}{H:Hp}{h:Heap}{a:Addr}{o:HO}(x:iC P w H h a o):∃ u,h.get? a=some u:=by
 cases o with
 |lst xs=>obtain⟨_,_,_,_,e⟩:=x;exact⟨_,e⟩
 |tup xs=>obtain⟨_,_,_,u,e,_⟩:=x;exact⟨_,e⟩
 |dK kvs=>obtain⟨_,_,_,_,o,_,_,e,_⟩:=x;exact⟨_,e⟩
 |dT kvs=>obtain⟨_,_,_,_,o,_,_,e,_⟩:=x;exact⟨_,e⟩
 |set S n=>obtain⟨o,_,_,_,e,_⟩:=x;exact⟨_,e⟩
 |ins C dx fs=>obtain⟨_,_,_,e,_⟩:=x;exact⟨_,e⟩
 |own y=>exact x
 |xd fs=>obtain⟨_,⟨_,_,_,e,_⟩,_⟩:=x;exact⟨_,e⟩
 |rng lo hi=>obtain⟨_,_,_,e⟩:=x;exact⟨_,e⟩
 |frz ob u=>obtain⟨e,_⟩:=x;exact⟨_,e⟩
 |tbl ps=>exact⟨_,x⟩
 |met f y=>exact⟨_,x⟩
 |ext φ=>exact x.2.1
section
variable{X:Cx}{pins:List (Addr×Obj)}{σ:St}{H:Hp}{s:Shared}{h':Heap}{a:Addr}{o:HO}
theorem Cj(I:Inv X pins σ H s)(hn:s.heap.get? a=none):H a=none:=by
 cases q:H a with
 |none=>rfl
 | some u=>
   obtain⟨v,e⟩:=EA (I.hok a u q);rw[hn]at e;cases e
theorem Lz(I:Inv X pins σ H s)(k:∀ b u,s.heap.get? b=some u->h'.get? b=some u)(hn:s.heap.get? a=none)(new:iC X.prog X.w (upd H a o) h' a o):
  Inv X pins σ (upd H a o) { s with heap:=h' }:=by
 have fr:=Cj I hn
 have ne:∀ b u,s.heap.get? b=some u->b≠a:=fun b u q z=>by rw[z,hn]at q;cases q
 have un:Un X.fs [] H (upd H a o) s.heap h':=⟨fun b u q _ _ _=>k b u q,fun b u q _ _ _=>⟨u.slots,k b u q⟩,fun b u q n _=>by rw[bf (ne b u q)];exact n,fun b u q _=>⟨u,k b u q⟩,
  fun b xs q=>by rw[bf (cy q fr)];exact q,fun b u xs q=>by rw[bf (cy q fr)];exact q,fun b ps q=>⟨#[],by rw[bf (cy q fr),q];simp⟩⟩
 refine I.un (t':=s.toks) un fun b u q=>?_
 by_cases hb:b=a
 . subst hb;rw[bz]at q;cases q;exact new
 . rw[bf hb]at q
   exact(I.hok b u q).qE (fun c v _ z=>k c v z) (fun c z=>by rw[bf (cy z fr)];exact z) fun c xs z=>by rw[bf (cy z fr)];exact z
end
noncomputable def Bx(C:Addr)(W:XW)(t:TA):TS:=fun D σ H=>t σ H fun vs H1=>vs.length<=sizeLine /\ ∀ a,H1 a=none->W (.ref C) (some a) σ (upd H1 a (se a C none))
theorem Gq{K:PySem.W.Frag}{h₀:Heap}{mg:Str->Option Value}{x:Str}{C:Addr}{bmB:List Value}{newId:String}(X:K.In h₀)(e:mg x=some (.ref C))(q:PySem.W.excIn K C bmB newId=true):
  OwnCls x C bmB newId mg h₀:=by
 refine⟨e,?_⟩
 unfold PySem.W.excIn at q;split at q
 next dd cd sl ho=>
  split at q
  next C' bm k0 k1 k2 k3 n k5 hm hs=>
   simp only[Bool.and_eq_true,beq_iff_eq,Bool.not_eq_true']at q;obtain⟨⟨⟨⟨⟨e1,e2⟩,del⟩,ht⟩,ok⟩,ini⟩:=q;subst e1 e2
   cases cd with
   | mk nm bs mro ns qn hd sn sub ab col dl=>
     dsimp only at hm del ok ini
     subst hm del
     have z:sl=#[k0,k1,k2,k3,some (.builtin n),k5]:=by cases sl;simp only at hs;rw[hs]
     subst z
     exact⟨bm,ns,nm,qn,bs,hd,sn,sub,ab,col,dd,k0,k1,k2,k3,k5,_,X _ _ ho,.of_isNs (PySem.W.isNs_of_in X ok),PySem.W.nsMap_none_of_in X ok ini,PySem.W.tail_of_in X ht⟩
  next=>cases q
 next=>cases q
theorem GO{X:Cx}{pins:List (Addr×Obj)}{σ:St}{H:Hp}{s:Shared}{h':Heap}{e C:Addr}{us:List Value}(I:Inv X pins σ H s)(hm:Heap.MadeExcOf s.heap h' e (.ref C) us):
  H e=none /\ Inv X pins σ (upd H e (se e C none)) { s with heap:=h' } /\ Fly (upd H e (se e C none)) h' e C none:=by
 obtain⟨t,he,_,_⟩:=hm.there
 refine⟨Cj I hm.new,Lz I hm.keeps hm.new (E8 ⟨_,_,he,rfl,rfl,rfl,rfl⟩),bz,_,_,he,rfl,.inl rfl⟩
section
variable{X:Cx}{x:Str}{np cpos pos:Pos}{e₀:Expr}{rest:List Expr}{t:TA}{W:XW}{C:Addr}{B newId initId:String}{bm:List Value}
theorem DK(hT:Thr X W)(hh:X.A.handled=none)(FB:ExcBaseFacts B newId initId bm)(hg:Gl X x)(hm:X.mg x=some (.ref C))(hC:PySem.W.excIn X.K C bm newId=true)(ha:PA X (e₀ ::rest) t)
  (he:starEach (e₀ ::rest) X.env=(false,eval e₀ X.env) ::starEach rest X.env:=by rfl) (hpl:(backTo cpos (starEach rest X.env)).any (·.1)=false:=by rfl) (hd:(x==("__debug__":Str))=false:=by decide):
  PS X (.Raise (some (.Call (.Name x np) (e₀ ::rest) [] cpos)) none pos) (Bx C W t):=by
 intro pins s σ H D I h;have O:=Gq I.mod.kin hm hC;obtain⟨tl,N,nm,q,bs,hdct,sn,sub,ab,col,dd,k0,k1,k2,k3,k5,mN,hc,hN,hni,T⟩:=O.obj
 refine wpAny_Raise_call_subT (nm:=nm) (q:=q) (N:=N) (bs:=bs) (hdct:=hdct) (sn:=sn) (sub:=sub)
  (ab:=ab) (col:=col) (dd:=dd) (k0:=k0) (k1:=k1) (k2:=k2) (k3:=k3) (k5:=k5) (mN:=mN) FB (T.hasType FB.hasBase) hh ?_ hni (o6 I hg hm ⟨rfl,?_⟩ hd)
 . rw[he]
   show(false||(backTo cpos (starEach rest X.env)).any (·.1))=false
   rw[hpl];rfl
 . have hsp:=ha cpos pins s σ H _ I h
   rw[he]at hsp ⊢
   refine Calls.evalArgs_plain (wpAny_mono hsp (fun us s2 ⟨vs,H2,I2,r,z,w⟩=>⟨rfl,by rw[<- r.length];exact z,I2.bk _ _ hc,hN.keeps I2.bk,T.keeps I2.bk,fun h' e hm=>?_⟩) fun _ _ y=>y);obtain⟨f1,f2,f3⟩:=GO I2 hm;exact hT pins σ _ _ e C none f2 f3 (w e f1)
end
noncomputable abbrev hand(X:Cx)(a:Addr):Cx:={ X with A:=X.A.mark (some (.ref a)),calm:=false,xe:=fun _ _=>False }
theorem xE{X:Cx}{pins:List (Addr×Obj)}{σ:St}{H:Hp}{s:Shared}(I:Inv X pins σ H s)(a:Addr):Inv (hand X a) pins σ H s:=
 ⟨⟨I.ok.mod,I.ok.kind,I.ok.glob,I.ok.blt,I.ok.above,I.ok.inj,I.ok.has,I.ok.cab,fun z=>absurd z Bool.false_ne_true,I.ok.frames,I.ok.stk,I.ok.exf,I.ok.bs,I.ok.bsz,I.ok.noex,I.ok.exfs,I.ok.tV,I.ok.frf⟩,I.os,I.bare,I.base,I.loc,I.cell,I.free,I.freeC,I.pin,I.hok,I.len⟩
theorem qK{X:Cx}{pins:List (Addr×Obj)}{σ:St}{H:Hp}{s:Shared}{a:Addr}(ok:X.Ok)(I:Inv (hand X a) pins σ H s):Inv X pins σ H s:=
 ⟨ok,I.os,I.bare,I.base,I.loc,I.cell,I.free,I.freeC,I.pin,I.hok,I.len⟩
noncomputable abbrev ot(X:Cx)(pn:List (Addr×Obj))(xe:Value->Shared->Prop):Cx:={ X with pn:=pn,xe:=xe }
theorem Fv{X:Cx}{pins:List (Addr×Obj)}{σ:St}{H:Hp}{s:Shared}(I:Inv X pins σ H s)(xe:Value->Shared->Prop):Inv (ot X (X.pn++pins) xe) [] σ H s:=
 ⟨⟨I.ok.mod,I.ok.kind,I.ok.glob,I.ok.blt,I.ok.above,I.ok.inj,I.ok.has,I.ok.cab,I.ok.hd,I.ok.frames,I.ok.stk,I.ok.exf,I.ok.bs,I.ok.bsz,I.ok.noex,I.ok.exfs,I.ok.tV,I.ok.frf⟩,I.os,I.bare,I.base,I.loc,I.cell,I.free,I.freeC,fun p hp=>I.pin p (by simpa using hp),I.hok,I.len⟩
theorem oW{X:Cx}{pins pins':List (Addr×Obj)}{σ:St}{H:Hp}{s:Shared}{xe:Value->Shared->Prop}(ok:X.Ok)(I:Inv (ot X (X.pn++pins) xe) pins' σ H s):Inv X pins σ H s:=
 ⟨ok,I.os,I.bare,I.base,I.loc,I.cell,I.free,I.freeC,fun p hp=>I.pin p (List.mem_append_left _ hp),I.hok,I.len⟩
noncomputable def n5(K:PySem.W.Frag)(C:Addr)(bm:List Value):Prop:=bm.contains (.type "BaseException")=true /\ ∃ nm q N bs hdct sn sub ab col dd k0 k1 k2 k3 k5 newId,K.lookup C=some (excClassObj nm q C N bs bm hdct sn sub ab col dd k0 k1 k2 k3 k5 newId)
noncomputable def tj(K:PySem.W.Frag)(T C:Addr)(b:Bool):Prop:=∃ bmC bmT,n5 K C bmC /\ n5 K T bmT /\ (Value.ref C ::bmC).contains (.ref T)=b
theorem AX{M:Model}{A:Around}{E:Value->Shared->Prop}{K:PySem.W.Frag}{s:Shared}{a C T:Addr}{dx:Option Addr}{b:Bool}{Q:Bool->Shared->Prop}(X:K.In s.heap)(e:FL a C dx s.heap)(t:tj K T C b)(hq:Q b s):
  wpAny M A (excMatches (.ref a) (.ref T)) Q E s:=by
 obtain⟨bmC,bmT,⟨bC,nm,q,N,bs,hdct,sn,sub,ab,col,dd,k0,k1,k2,k3,k5,nid,lC⟩,⟨bT,nm',q',N',bs',hdct',sn',sub',ab',col',dd',k0',k1',k2',k3',k5',nid',lT⟩,hb⟩:=t;obtain⟨o,vs,he,hcls,_⟩:=e;have hC:=X _ _ lC;have hT:=X _ _ lT;obtain⟨hp,g,d,tk,os⟩:=s;have f:=tc_notTuple
 have cB:(Value.ref T ::bmT).contains (.type "BaseException")=true:=by rw[List.contains_cons,bT,Bool.or_true]
 unfold excMatches
 repeat (first
  |(with_reducible refine wpAny_loadPart_at he ?_;rw[hcls])
  |with_reducible refine wpAny_loadPart_at hT ?_
  |(with_reducible refine wpAny_isSubtype_exc hC ?_;rw[hb])
  |(with_reducible refine wpAny_isSubtype_exc hT ?_;rw[cB])
  |wp_step)
 cases b<;>(wp_walk;exact hq)
theorem GL{X:Cx}{pins:List (Addr×Obj)}{σ:St}{H:Hp}{s:Shared}{h':Heap}{t':Nat}{i:Nat}{n:Str}{m:Str->Option Value}{v:Option Value}(I:Inv X pins σ H s)(hN:X.N.Nodup)(hi:X.N[i]?=some n)
  (hl:∀(j:Nat) (x:Str) (v:V),X.N[j]?=some x->σ[j]?=some (some v)->Vis X.env.scope x->∃ u,RelV v u /\ Look X.env s.heap m x u)
  (hs:Heap.SameBut X.env.locals s.heap h') (hn:h'.Ns X.env.locals (fun x=>if x=n then v else m x)):Inv X pins (σ.set i none) H { s with heap:=h',toks:=t' }:=by
 have cne:=I.cne
 refine⟨I.ok,I.os,I.bare,⟨fun b o e k hb hx=>?_,fun b o e k hb hx=>?_,I.base.free,fun b o e hx=>?_,I.base.tups,I.base.frzs,I.base.tbls⟩,⟨_,hn,fun j y w e1 e2 e3=>?_⟩,fun y c e=>?_,I.free,I.freeC,fun p hp=>?_,fun b ob e=>?_,by simpa using I.len⟩
 . exact(hs.2 b (Nat.ne_of_lt (Nat.lt_of_lt_of_le (Heap.lt_size e) I.ok.above))).trans (I.base.keep b o e k hb hx)
 . obtain⟨sl,z⟩:=I.base.slot b o e k hb hx
   exact⟨sl,(hs.2 b (Nat.ne_of_lt (Nat.lt_of_lt_of_le (Heap.lt_size e) I.ok.above))).trans z⟩
 . obtain⟨o',z⟩:=I.base.there b o e hx
   exact⟨o',(hs.2 b (Nat.ne_of_lt (Nat.lt_of_lt_of_le (Heap.lt_size e) I.ok.above))).trans z⟩
 . by_cases hj:j=i
   . subst hj;rw[List.getElem?_set]at e2;split at e2
     . split at e2<;>cases e2
     . exact absurd rfl ‹_›
   . rw[List.getElem?_set_ne (Ne.symm hj)]at e2;obtain⟨u,r,q⟩:=hl j y w e1 e2 e3
     refine⟨u,r,?_⟩
     rcases q with⟨k,e⟩|⟨k,c,e,z⟩
     . refine .inl ⟨k,?_⟩
       have:y≠n:=fun z=>hj (uM hN e1 (z ▸ hi))
       simp[this,e]
     . exact .inr ⟨k,c,e,z.sameBut hs (cne y c e)⟩
 . obtain⟨w,z⟩:=I.cell y c e
   exact⟨w,z.sameBut hs (cne y c e)⟩
 . obtain⟨e,k,ne,nf,d⟩:=I.pin p hp
   exact⟨(hs.2 p.1 ne).trans e,k,ne,nf,d⟩
 . refine(I.hok b ob e).qE (fun c w hc q=>(hs.2 c ?_).trans q) (fun _ q=>q) fun _ _ q=>q
   rintro rfl
   rcases hc with z|z
   . rw[<- z,I.free]at e;cases e
   . rw[I.free]at z;cases z
noncomputable def L7(i:Option Nat)(a:Option Addr)(σ:St):St:=match i,a with
 |some j,some b=>σ.set j (some (.ref b))
 |_,_=>σ
noncomputable def Ez(i:Option Nat)(σ:St):St:=match i with
 |some j=>σ.set j none
 |none=>σ
noncomputable def Ec(i:Option Nat)(D:Ends):Ends:={ nx:=fun σ H=>D.nx (Ez i σ) H,rt:=D.rt,bk:=fun σ H=>D.bk (Ez i σ) H,ct:=fun σ H=>D.ct (Ez i σ) H }
noncomputable def KU(K:PySem.W.Frag)(T:Addr)(ts:TS)(i:Option Nat)(W₀:XW)(D:Ends):XW:=fun C a σ H=>∀ H',aJ H H'->∃ c b,C=.ref c /\ tj K T c b /\ if b=true then ts (Ec i D) (L7 i a σ) H' else W₀ C a σ H'
noncomputable def Di(K:PySem.W.Frag)(tb:XW->TS)(T:Addr)(ts:TS)(i:Option Nat)(W₀:XW):TS:=fun D σ H=>tb (KU K T ts i W₀ D) D σ H
section
variable{X:Cx}{x n:Str}{np hpos pos:Pos}{body suite:List Stmt}{b₀:Stmt}{tb:XW->TS}{ts:TS}{T:Addr}{W₀:XW}
theorem Cq{a:Addr}{pins:List (Addr×Obj)}{D:Ends}{f:Flow}{s:Shared}(ok:X.Ok)(h:SP (hand X a) pins D f s):SP X pins D f s:=by
 cases f with
 |next=>obtain⟨σ',H',I,q⟩:=h;exact⟨σ',H',qK ok I,q⟩
 |brk=>obtain⟨σ',H',I,q⟩:=h;exact⟨σ',H',qK ok I,q⟩
 |cont=>obtain⟨σ',H',I,q⟩:=h;exact⟨σ',H',qK ok I,q⟩
 |ret u=>obtain⟨v,σ',H',I,r,q⟩:=h;exact⟨v,σ',H',qK ok I,r,q⟩
theorem Fi{pins pins':List (Addr×Obj)}{xe:Value->Shared->Prop}{D:Ends}{f:Flow}{s:Shared}(ok:X.Ok)(h:SP (ot X (X.pn++pins) xe) pins' D f s):SP X pins D f s:=by
 cases f with
 |next=>obtain⟨σ',H',I,q⟩:=h;exact⟨σ',H',oW ok I,q⟩
 |brk=>obtain⟨σ',H',I,q⟩:=h;exact⟨σ',H',oW ok I,q⟩
 |cont=>obtain⟨σ',H',I,q⟩:=h;exact⟨σ',H',oW ok I,q⟩
 |ret u=>obtain⟨v,σ',H',I,r,q⟩:=h;exact⟨v,σ',H',oW ok I,r,q⟩
theorem wA{pins:List (Addr×Obj)}{σ:St}{H:Hp}{s:Shared}{a C:Addr}{dx:Option Addr}{b:Bool}{R:Result->Shared->Prop}(I:Inv X pins σ H s)(F:yF H s.heap a C dx)(hg:Gl X x)(hm:X.mg x=some (.ref T))(hk:tj X.K T C b)
  (hd:(x==("__debug__":Str))=false) (h:R (.ok (if b then .brk else .next)) s):codeAny (model X.prog X.w) (X.A.mark (some (.ref a))) (.handlers (.ref a) [.ExceptHandler (some (.Name x np)) none [] hpos] X.env) R s:=by
 refine codeAny_handlers_test (o6 (X:=hand X a) (xE I a) hg hm ?_ hd);obtain⟨e,_,_⟩:=I.hok a _ F.exc;exact AX I.kIn e hk h
theorem Ko(hst:X.stack=X.env ::X.outer /\ X.env.frame=some X.env.locals)(hb:∀ pn xe W,Thr (ot X pn xe) W->PassesOwn (model X.prog X.w) X.A X.env xe->PSs (ot X pn xe) body (tb W))(hg:Gl X x)(hm:X.mg x=some (.ref T))
  (hs:∀ a,PSs (hand X a) (b₀ ::suite) ts) (hX:Thr X W₀) (hd:(x==("__debug__":Str))=false:=by decide):
  PS X (.Try body [.ExceptHandler (some (.Name x np)) none (b₀ ::suite) hpos] [] [] pos) (Di X.K tb T ts none W₀):=by
 intro pins s σ H D I h;refine wpAny_Try_except ?_
 refine wpAny_mono (hb (X.pn++pins) _ (KU X.K T ts none W₀ D) ?_ PassesOwn.looking [] s σ H D (Fv I _) h) (fun f s1 h1=>?_) fun _ _ z=>z
 . intro pins' σ' H' s' a C dx I' F' hw
   refine yT (oW (pins:=pins) I.ok I') hst F' fun s1 H1 I1 g1 F1=>?_
   refine j6 I1 F1 fun s2 I2 F2=>?_
   obtain⟨c,b,hc,hk,q⟩:=hw H1 g1;cases hc;refine wpAny_handleBy_cons (wA I2 F2 hg hm hk hd ?_) (by intro z;cases z)
   cases b with
   | true=>
     refine codeAny_handlers_suite (j6 (X:=hand X a) (xE I2 a) F2 fun s3 I3 F3=>?_)
     refine wpAny_mono (hs a pins s3 σ' H1 D I3 q) (fun f s4 h4=>Cq I.ok h4) fun _ _ z=>False.elim z
   | false=>
     refine wpAny_handleBy_nil (BD I2 F2 fun s3 I3 F3=>?_);exact hX pins σ' H1 s3 a C dx I3 F3.fly q
 . have z:=Fi I.ok h1
   cases f with
   |next=>exact wpAny_execs_nil z
   |brk=>exact z
   |cont=>exact z
   |ret u=>exact z
theorem D6{i:Nat}(hst:X.stack=X.env ::X.outer /\ X.env.frame=some X.env.locals)(hN:X.N.Nodup)(hi:X.N[i]?=some n)(hl:X.env.scope.names.lookup n=some .local)(hb:∀ pn xe W,Thr (ot X pn xe) W->PassesOwn (model X.prog X.w) X.A X.env xe->PSs (ot X pn xe) body (tb W))
  (hg:Gl X x) (hm:X.mg x=some (.ref T)) (hs:∀ a,PSs (hand X a) (b₀ ::suite) ts) (hX:Thr X W₀) (hd:(x==("__debug__":Str))=false:=by decide):
  PS X (.Try body [.ExceptHandler (some (.Name x np)) (some n) (b₀ ::suite) hpos] [] [] pos) (Di X.K tb T ts (some i) W₀):=by
 intro pins s σ H D I h
 have hcls:(X.env.scope.kind == .class||(X.env.scope.kind == .module&&X.env.locals != X.env.globals))=false:=by rw[I.ok.kind];rfl
 have fin:∀{σ' H' s'},Inv X pins σ' H' s'->∀{Q:Unit->Shared->Prop} {E:Value->Shared->Prop},(∀ s'',Inv X pins (σ'.set i none) H' s''->Q () s'')->wpAny (model X.prog X.w) X.A (do bindName X.env n .none;unbindBehindTheSuite X.env n hpos) Q E s':=fun {σ' H' s'} J {Q E} k=>by
  obtain⟨m,hn,hlk⟩:=id J.loc
  exact wpAny_nameGoes_keeps hl hn hcls fun h2 v hn2 hs2=>k _ (GL J hN hi hlk hs2 hn2)
 refine wpAny_Try_except ?_
 refine wpAny_mono (hb (X.pn++pins) _ (KU X.K T ts (some i) W₀ D) ?_ PassesOwn.looking [] s σ H D (Fv I _) h) (fun f s1 h1=>?_) fun _ _ z=>z
 . intro pins' σ' H' s' a C dx I' F' hw
   refine yT (oW (pins:=pins) I.ok I') hst F' fun s1 H1 I1 g1 F1=>?_
   refine j6 I1 F1 fun s2 I2 F2=>?_
   obtain⟨c,b,hc,hk,q⟩:=hw H1 g1;cases hc;refine wpAny_handleBy_cons (wA I2 F2 hg hm hk hd ?_) (by intro z;cases z)
   cases b with
   | true=>
     refine codeAny_handlers_suite_as (j6 (X:=hand X a) (xE I2 a) F2 fun s3 I3 F3=>?_);refine ji (X:=hand X a) (v:=.ref a) I3 hN hi (.inl hl) rfl (fun s4 I4=>?_) (.inr hl)
     refine wpAny_mono (hs a pins s4 _ H1 (Ec (some i) D) I4 q) (fun f s5 h5=>?_) fun _ _ z=>False.elim z
     have z:=Cq I.ok h5;show wpAny _ _ _ _ _ s5
     cases f with
     |next=>obtain⟨σ6,H6,J,r⟩:=z;exact fin J fun s7 J7=>⟨_,_,J7,r⟩
     |brk=>obtain⟨σ6,H6,J,r⟩:=z;exact fin J fun s7 J7=>⟨_,_,J7,r⟩
     |cont=>obtain⟨σ6,H6,J,r⟩:=z;exact fin J fun s7 J7=>⟨_,_,J7,r⟩
     |ret u=>obtain⟨v,σ6,H6,J,rv,r⟩:=z;exact fin J fun s7 J7=>⟨v,_,_,J7,rv,r⟩
   | false=>
     refine wpAny_handleBy_nil (BD I2 F2 fun s3 I3 F3=>?_);exact hX pins σ' H1 s3 a C dx I3 F3.fly q
 . have z:=Fi I.ok h1
   cases f with
   |next=>exact wpAny_execs_nil z
   |brk=>exact z
   |cont=>exact z
   |ret u=>exact z
end
noncomputable abbrev blk(X:Cx)(scope:Scope)(cl:List (Str×Addr))(N:List Str)(C:Addr)(s₀:Shared)(H₀:Hp)(ex:List Addr):Cx:=
 { prog:=X.prog,w:=X.w,K:=X.K,mg:=X.mg,base:=X.base,A:=X.A,N:=N,s₀:=s₀,H₀:=H₀,env:=compEnvC scope cl C X.env,outer:=X.stack,stack:=X.stack,ex:=ex,fn:=fun _=>false,calm:=X.calm,pn:=[],xe:=fun _ _=>False }
theorem ye:Thr X (fun _ _ _ _=>False):=fun _ _ _ _ _ _ _ _ _ h=>h.elim
structure my(X:Cx)(scope:Scope)(cl:List (Str×Addr))(M:List Str)(ι:List Nat)(x:Str):Prop where
 clos:closureFor scope X.env=pure cl
 kind:scope.kind=.function
 nocell:(scope.names.all fun p=>p.2 != .cell)=true
 locs:(scope.names.all fun p=>p.2 != .local||scope.names.lookup p.1==some .local)=true
 var:scope.names.lookup x=some .local
 names:M.map some=ι.map fun i=>X.N[i]?
 cells:M.map (fun y=>scope.names.lookup y)=M.map fun _=>some .free
 kinds:M.map X.env.kindOf=M.map fun _=>some .cell
 same:M.map (fun y=>cl.lookup y)=M.map fun y=>X.env.cells.lookup y
 sub:cl.map (fun p=>X.env.cells.lookup p.1)=cl.map fun p=>some p.2
 all:(scope.names.all fun p=>!(p.2 == .free)||(cl.lookup p.1).isSome)=true
 nd:(M++[x]).Nodup
theorem yk{α β:Type}{f g:α->β}{l:List α}(h:l.map f=l.map g){a:α}(ha:a∈l):f a=g a:=by
 induction l with
 |nil=>cases ha
 | cons b r ih=>
   rw[List.map_cons,List.map_cons]at h
   injection h with h1 h2
   rcases List.mem_cons.mp ha with z|z
   . rw[z];exact h1
   . exact ih h2 z
theorem ym{scope:Scope}(h:scope.names.lookup y=some .free):(relabel scope env).names.lookup y=some .cell \/ (relabel scope env).names.lookup y=some .free:=by
 unfold relabel;dsimp only;generalize scope.names=l at h
 induction l with
 |nil=>cases h
 | cons p r ih=>
   obtain⟨n,k⟩:=p;rw[List.lookup_cons]at h;rw[List.map_cons]
   by_cases e:(y==n)=true
   . rw[e]at h
     have hk:k=.free:=Option.some.inj h
     subst hk;dsimp only;split
     . rw[List.lookup_cons,e];exact .inl rfl
     . rw[List.lookup_cons,e];exact .inr rfl
   . have e':(y==n)=false:=by simpa using e
     rw[e']at h;dsimp only;split
     . rw[List.lookup_cons,e'];exact ih h
     . rw[List.lookup_cons,e'];exact ih h
theorem yO{scope:Scope}(hc:(scope.names.all fun p=>p.2 != .cell)=true)(h:(relabel scope env).names.lookup y=some .cell \/ (relabel scope env).names.lookup y=some .free):∃ p∈scope.names,p.1=y /\ p.2=.free:=by
 unfold relabel at h
 dsimp only at h
 generalize scope.names=l at h hc
 induction l with
 |nil=>rcases h with h|h<;>cases h
 | cons p r ih=>
   obtain⟨n,k⟩:=p;rw[List.all_cons,Bool.and_eq_true]at hc;rw[List.map_cons]at h
   by_cases e:(y==n)=true
   . refine⟨(n,k),List.mem_cons_self,(beq_iff_eq.mp e).symm,?_⟩
     dsimp only at h ⊢
     split at h
     . rename_i c;simp only[Bool.and_eq_true,beq_iff_eq]at c;exact c.1.1
     . rw[List.lookup_cons,e]at h
       have hk:(k != NameKind.cell)=true:=hc.1
       rcases h with h|h
       . have:k=.cell:=Option.some.inj h
         subst this;exact absurd hk (by decide)
       . exact Option.some.inj h
   . have e':(y==n)=false:=by simpa using e
     have h':(List.map (fun x=>match x with|(n,k)=>if(k==NameKind.free&&env.scope.kind==ScopeKind.function&&env.kindOf n==some NameKind.cell)=true then(n,NameKind.cell)else(n,k)) r).lookup y=some .cell \/
       (List.map (fun x=>match x with|(n,k)=>if(k==NameKind.free&&env.scope.kind==ScopeKind.function&&env.kindOf n==some NameKind.cell)=true then(n,NameKind.cell)else(n,k)) r).lookup y=some .free:=by
      dsimp only at h
      split at h
      . rw[List.lookup_cons,e']at h;exact h
      . rw[List.lookup_cons,e']at h;exact h
     obtain⟨q,hq,z⟩:=ih h' hc.2
     exact⟨q,List.mem_cons_of_mem _ hq,z⟩
noncomputable def pick(ι:List Nat)(σ:St):St:=ι.map fun i=>(σ[i]?).join
noncomputable def uD(wi:TI)(ι:List Nat)(te:TE):TE:=fun σ H Q=>wi σ H fun J H1=>∀ D,H1 D=none->∃ W:Nat->Nat->List V->Hp->Prop,(∃ m,W 0 m [] (upd H1 D (.lst []))) /\ ∀ i m ys H,W i m ys H ->
 H D=some (.lst ys) /\ ((J.stop i H /\ Q (.ref D) H) \/ (J.go i H /\ ∀ x H',J.yld i H x H'->te (pick ι σ++[some x]) H' fun y H2=>H2 D=some (.lst ys) /\ ys.length<sizeLine /\ ∃ m',m'<m /\ W (i+1) m' (ys++[y]) (upd H2 D (.lst (ys++[y])))))
section
variable{X:Cx}{scope:Scope}{cl:List (Str×Addr)}{M:List Str}{ι:List Nat}{x:Str}
theorem my.vb(S:my X scope cl M ι x)(h:cl.lookup y=some c):X.env.cells.lookup y=some c:=yk S.sub (PySem.mem_of_lookup h)
theorem A1{pins:List (Addr×Obj)}{s:Shared}{h₁:Heap}(S:my X scope cl M ι x)(I:Inv X pins σ H s)(hex:∀ b∈ex,pe X pins H b /\ b<s.heap.objs.size)(hn:h₁.Ns s.heap.objs.size (fun _=>none))
  (hk:∀ b o,s.heap.get? b=some o->h₁.get? b=some o):Inv (blk X scope cl (M++[x]) s.heap.objs.size s H ex) [] (pick ι σ++[none]) H { s with heap:=h₁,toks:=t' }:=by
 have noM:∀ b:Addr,b∈ex->b≠s.heap.objs.size:=fun b hb=>Nat.ne_of_lt (hex b hb).2
 have fsx:∀ b∈ex,b∉frs X.stack:=fun b hb z=>by
  obtain⟨⟨_,f1,f2,_⟩,_⟩:=hex b hb
  rcases List.mem_cons.mp (I.A3 b z)with e|e
  . exact f1 e
  . exact f2 e
 have base0:∀ b o,X.base.get? b=some o->b∉ex:=fun b o e z=>by
  obtain⟨⟨_,_,_,f3,_⟩,_⟩:=hex b z
  rcases f3 with f|f
  . exact I.ok.noex b o e f
  . exact absurd (Nat.lt_of_lt_of_le (Heap.lt_size e) (Nat.le_trans I.ok.bsz f)) (Nat.lt_irrefl _)
 refine⟨⟨I.ok.mod,S.kind,I.ok.glob,I.ok.blt,Nat.le_refl _,fun y z c h1 h2=>I.ok.inj y z c (S.vb h1) (S.vb h2),fun y hy=>?_,fun y c z=>absurd z Bool.false_ne_true,I.ok.hd,I.ok.frames,.inl rfl,
  fun b hb=>⟨noM b hb,fun y c h z=>(hex b hb).1.2.2.2.2.1 y c (S.vb h) z⟩,I.bs,Nat.le_trans I.ok.bsz I.sz,base0,fsx,I.stack,I.yB⟩,
  rfl,I.bare,Un.kept hk,⟨_,hn,fun i y v e1 e2 e3=>?_⟩,fun y c h=>?_,I.fresh,fun y c h=>?_,fun p hp=>absurd (show p∈([]:List (Addr×Obj)) from hp) (by simp),I.hok.kept hk,?_⟩
 . obtain⟨p,hp,rfl,hpf⟩:=yO S.nocell hy;have q:=List.all_eq_true.mp S.all p hp;rw[hpf]at q
   have q':(cl.lookup p.1).isSome=true:=by
    cases e:(cl.lookup p.1).isSome with
    |true=>rfl
    |false=>rw[e]at q;exact absurd q (by decide)
   exact Option.isSome_iff_exists.mp q'
 . have hiM:i < M.length:=by
    by_cases hlt:i<M.length
    . exact hlt
    . exfalso
      have hl:(pick ι σ).length=M.length:=by
       have q:=congrArg List.length S.names;rw[List.length_map,List.length_map]at q;unfold pick;rw[List.length_map,q]
      rw[List.getElem?_append_right (by omega),hl]at e2
      have:i - M.length=0 \/ 1<=i - M.length:=by omega
      rcases this with z|z
      . rw[z]at e2;cases e2
      . rw[List.getElem?_eq_none (by simpa using z)]at e2;cases e2
   have hl:ι.length=M.length:=by
    have q:=congrArg List.length S.names;rw[List.length_map,List.length_map]at q;exact q.symm
   rw[List.getElem?_append_left hiM]at e1
   have hyM:y∈M:=List.mem_of_getElem? e1
   have e2':((σ[ι[i]]?).join)=some v:=by
    rw[List.getElem?_append_left (by unfold pick;rw[List.length_map];omega)]at e2;unfold pick at e2;rw[List.getElem?_map,List.getElem?_eq_getElem (by omega)]at e2;exact Option.some.inj e2
   have e4:σ[ι[i]]?=some (some v):=by
    cases q:σ[ι[i]]? with
    |none=>rw[q]at e2';cases e2'
    |some w=>rw[q]at e2';exact congrArg some e2'
   have e5:X.N[ι[i]]?=some y:=by
    have q:=congrArg (fun l=>l[i]?) S.names;rw[List.getElem?_map,List.getElem?_map,e1,List.getElem?_eq_getElem (by omega)]at q
    exact(Option.some.inj q).symm
   have kc:X.env.kindOf y=some .cell:=yk S.kinds hyM
   obtain⟨m,hm,hl⟩:=I.loc;obtain⟨u,r,q⟩:=hl _ y v e5 e4 (.inr (.inl kc))
   refine⟨u,r,.inr ⟨?_,?_⟩⟩
   . exact ym (yk S.cells hyM)
   . rcases q with⟨k,_⟩|⟨_,c,e,o,ho,hd⟩
     . rw[kc]at k;cases k
     . exact⟨c,(yk S.same hyM).trans e,o,hk _ _ ho,hd⟩
 . obtain⟨v,o,ho,hd⟩:=I.cell y c (S.vb h)
   exact⟨v,o,hk _ _ ho,hd⟩
 . exact I.freeC y c (S.vb h)
 . have q:=congrArg List.length S.names;rw[List.length_map,List.length_map]at q
   show(pick ι σ++[none]).length=(M++[x]).length
   unfold pick;rw[List.length_append,List.length_append,List.length_map,q];rfl
theorem xr{pins:List (Addr×Obj)}{s s':Shared}(I:Inv X pins σ H s)(hC:C=s.heap.objs.size)(hex:∀ b∈ex,pe X pins H b)(J:Inv (blk X scope cl N C s H ex) [] σ' H' s')
  (hs:Heap.SameBut C s'.heap h'):Inv X pins σ H' { s' with heap:=h' }:=by
 subst hC
 have K:Inv X pins σ H' s':=I.Ii (ch:=ex) J.os J.base J.hok J.bare fun b hb=>by
  obtain⟨_,f1,_,f3,f4,f5⟩:=hex b hb
  exact⟨f3,f1,f4,f5⟩
 refine K.turned (t':=s'.toks) (it:=s.heap.objs.size) (fun b o hb e=>(hs.2 b hb).trans e) J.free (Nat.ne_of_gt I.lt) (.inr I.sz) (fun y c e z=>?_) (fun p hp z=>?_)
 . obtain⟨v,q⟩:=I.cell y c e;exact absurd (z ▸ q.lt) (Nat.lt_irrefl _)
 . exact absurd (z ▸ Heap.lt_size (I.pin p hp).1) (Nat.lt_irrefl _)
theorem wa(elt target iter:Expr)(scope:Scope)(pos:Pos)(it acc:Value)(env:Env):
  compTurn (.ListComp elt [⟨target,iter,[],0⟩] scope pos) 0 it acc env=(do
   standAt iter.pos
   match <- pyNext it with
   |none=>pure (.done .next)
   | some v=>do
     letOwnedTupleGo target it v
     assign target env v
     (do let x <- eval elt env;let _ <- call (.builtin "list.append") [acc,x];pure ())
     again (.compLoop (.ListComp elt [⟨target,iter,[],0⟩] scope pos) 0 it acc env)):=by rfl
theorem G7(S:my X scope cl M ι x)(hc:X.calm=true)(hi:PI X (.Name x px) iter wi)(he:∀ C s₀ H₀ ex,PE (blk X scope cl (M++[x]) C s₀ H₀ ex) elt te)
  (hs:∀ v,foldedSetIterable iter X.env v=pure v:=by intro _;rfl):PE X (.ListComp elt [⟨.Name x px,iter,[],0⟩] scope pos) (uD wi ι te):=by
 intro pins s σ H Q I h;rw[eval_ListComp];refine wpAny_comprehension_free (use:=none) rfl hs S.clos S.kind (fun y hy hl=>?_) (wpAny_mono (hi pins s σ H _ I h) (fun v s1 h1=>wpAny_mono h1 (fun itv s2 h2=>?_) fun _ _ z=>z) fun _ _ z=>z)
 . have q:=List.all_eq_true.mp S.locs y hy;rw[hl]at q
   simpa using q
 obtain⟨it,fp,tn,J,H2,rfl,I2,T,st2,f2,hW⟩:=h2;have I3:=I2.Hb (ys:=[]) (its:=[]) (t':=s2.toks) .nil (Nat.zero_le _);obtain⟨W,⟨m0,w0⟩,turn⟩:=hW s2.heap.objs.size I2.fresh
 have fpo:∀ b∈fp,b<s2.heap.objs.size:=fun b hb=>let ⟨_,e,_⟩:=T.obj _ _ st2 b hb;Heap.lt_size e
 have f3:∀ b∈fp,pe X pins (upd H2 s2.heap.objs.size (.lst [])) b:=fun b hb=>by
  obtain⟨q0,q⟩:=f2 b hb
  exact⟨by rw[bf (Nat.ne_of_lt (fpo b hb))];exact q0,q⟩
 show wpAny _ _ (newObj (.type "list") _ none) _ _ s2;refine wpAny_newObj_type (wpAny_newFunctionEnv (fun y hy=>?_) (by intro y hy;simp at hy) (fun h₁ hn₁ sb₁=>?_) S.kind)
 . have q:=List.all_eq_true.mp S.nocell y hy
   simpa using q
 have hsz:(s2.heap.push { cls:=.type "list",dict:=none,data:=.seq ([]:List Value).toArray }).objs.size=s2.heap.objs.size+1:=Heap.size_push ..
 have hk₁:∀ b o,(s2.heap.push { cls:=.type "list",dict:=none,data:=.seq ([]:List Value).toArray }).get? b=some o->h₁.get? b=some o:=fun b o e=>
  (sb₁.2 b (Nat.ne_of_lt (Heap.lt_size e))).trans (Heap.get?_push_of_some _ e)
 have J0:=A1 (t':=s2.toks+([]:List (Str×Value)).length) S I3 (ex:=fp) (fun b hb=>⟨f3 b hb,Nat.lt_of_lt_of_le (fpo b hb) (by rw[hsz];exact Nat.le_succ _)⟩) hn₁ hk₁
 have old:∀ b∈fp,∀ o,s2.heap.get? b=some o->h₁.get? b=some o:=fun b _ o e=>hk₁ b o (Heap.get?_push_of_some _ e)
 have st₁:tn 0 h₁:=T.keep _ _ _ st2 old
 have loop:codeAny (model X.prog X.w) X.A (.compLoop (.ListComp elt [⟨.Name x px,iter,[],0⟩] scope pos) 0 (.ref it) (.ref s2.heap.objs.size) (compEnvC scope cl (s2.heap.objs.size+1) X.env))
   (compPost (model X.prog X.w) X.A X.xe none (EP X pins σ Q) (.ref s2.heap.objs.size) (s2.heap.objs.size+1)) { s2 with heap:=h₁,toks:=s2.toks+([]:List (Str×Value)).length }:=by
  rw[hsz]at J0
  refine codeAny_loop rfl (fun n s'=>∃ i H' ys v,Inv (blk X scope cl (M++[x]) (s2.heap.objs.size+1) { s2 with heap:=s2.heap.push { cls:=.type "list",data:=.seq ([]:List Value).toArray },toks:=s2.toks } (upd H2 s2.heap.objs.size (.lst [])) fp) [] (pick ι σ++[v]) H' s' /\ tn i s'.heap /\ (∀ b∈fp,H' b=none) /\ W i n ys H')
   (fun n s' hI=>?_) m0 ⟨0,_,[],none,J0,st₁,fun b hb=>(f3 b hb).1,w0⟩
  obtain⟨i,H',ys,v,J',st',fr',w'⟩:=hI;obtain⟨hD,alt⟩:=turn i n ys H' w'
  have fpY:∀{G:Hp},(∀ b∈fp,G b=none)->∀ b∈fp,pe (blk X scope cl (M++[x]) (s2.heap.objs.size+1) { s2 with heap:=s2.heap.push { cls:=.type "list",data:=.seq ([]:List Value).toArray },toks:=s2.toks } (upd H2 s2.heap.objs.size (.lst [])) fp) [] G b:=fun hG b hb=>
   ⟨hG b hb,(J'.ok.exf b hb).1,J'.ok.exfs b hb,.inl hb,(J'.ok.exf b hb).2,fun p hp=>absurd (show p∈([]:List (Addr×Obj)) from hp) (by simp)⟩
  show wpAny _ _ ((compTurn _ 0 (.ref it) (.ref s2.heap.objs.size) (compEnvC scope cl (s2.heap.objs.size+1) X.env)).onRaise _) _ _ s';refine wpAny_noted (wpAny_noRaise ?_);rw[wa];refine wpAny_bind (wpAny_standAt (wpAny_bind ?_))
  rcases alt with⟨stop,qn⟩|⟨go,step⟩
  . refine thn (T.done (blk X scope cl (M++[x]) (s2.heap.objs.size+1) _ _ fp) rfl rfl rfl hc i [] s' _ H' _ J' (fpY fr') st' stop) fun r s4 ⟨hr,J4⟩=>?_
    subst hr;refine wpAny_pure ?_;obtain⟨m,hm,_⟩:=id J4.loc
    refine⟨m,hm,fun h' sb=>⟨.ref s2.heap.objs.size,H',xr I3 hsz.symm f3 J4 sb,rfl,qn⟩⟩
  . refine thn (T.item (blk X scope cl (M++[x]) (s2.heap.objs.size+1) _ _ fp) rfl rfl rfl hc i [] s' _ H' _ J' (fpY fr') st' go) fun r s4 ⟨u,hr,h4⟩=>?_
    subst hr;refine wpAny_bind (thn h4 fun _ s5 ⟨z,H5,J5,r5,y5,st5,fr5⟩=>?_)
    have J5':=J5.pinned (fpY fr5) (T.obj _ _ st5)
    have hxN:(M++[x])[M.length]?=some x:=by simp
    refine wpAny_bind ?_;refine wpAny_assign_Name ?_;refine ji (X:=blk X scope cl (M++[x]) (s2.heap.objs.size+1) _ _ fp) (i:=M.length) (v:=z) J5' S.nd hxN (.inl (lookup_relabel_local S.var)) r5 (fun s6 J6=>?_) (.inr (lookup_relabel_local S.var))
    have hlp:(pick ι σ).length=M.length:=by
     have q:=congrArg List.length S.names;rw[List.length_map,List.length_map]at q;unfold pick;rw[List.length_map,q]
    have hset:(pick ι σ++[v]).set M.length (some z)=pick ι σ++[some z]:=by
     rw[<- hlp,List.set_append_right _ _ (Nat.le_refl _),Nat.sub_self];rfl
    rw[hset]at J6;refine wpAny_bind (wpAny_bind (thn (he _ _ _ _ _ s6 _ H5 _ J6 (step z H5 y5)) fun yv s7 ⟨y,H7,J7,r7,hD7,hz7,m',hm',w7⟩=>?_));refine wpAny_bind (thn (eT (X:=blk X scope cl (M++[x]) (s2.heap.objs.size+1) _ _ fp) _ s7 _ H7 (.ref s2.heap.objs.size) [y] (.ref s2.heap.objs.size) [yv] (fun _ G=>G=upd H7 s2.heap.objs.size (.lst (ys++[y]))) J7 rfl (.cons r7 .nil) ⟨_,_,y,rfl,rfl,hD7,hz7,rfl⟩) fun _ s8 ⟨_,H8,J8,_,e8⟩=>?_);subst e8;refine wpAny_pure (wpAny_pure ⟨rfl,m',hm',i+1,_,_,some z,J8.jo,?_,fun b hb=>?_,w7⟩)
    . exact T.keep _ _ _ st5 fun b hb o e=>(J8.pin (b,o) (List.mem_append_right _ (List.mem_append_right _ (eh hb e)))).1
    . obtain⟨o,e,d⟩:=T.obj _ _ st5 b hb
      exact(J8.pin (b,o) (List.mem_append_right _ (List.mem_append_right _ (eh hb e)))).2.1
 rw[hsz]at *;exact codeAny_compStart_list loop (T.self X.A 0 _ _ _ st₁ loop)
end
section
variable{X:Cx}
noncomputable def IsV(K:PySem.W.Frag)(T:String)(x:V)(H:Hp)(b:Bool):Prop:=match x with
 |.int _=>(T = "int" /\ b=true) \/ (T = "bool" /\ b=false) \/ (T = "list" /\ b=false) \/ (T = "tuple" /\ b=false) \/ (T = "str" /\ b=false)
 |.bl _=>(T = "int" /\ b=true) \/ (T = "bool" /\ b=true) \/ (T = "list" /\ b=false) \/ (T = "tuple" /\ b=false) \/ (T = "str" /\ b=false)
 |.non=>(T = "int" /\ b=false) \/ (T = "bool" /\ b=false) \/ (T = "list" /\ b=false) \/ (T = "tuple" /\ b=false) \/ (T = "str" /\ b=false)
 |.str _=>(T = "int" /\ b=false) \/ (T = "bool" /\ b=false) \/ (T = "list" /\ b=false) \/ (T = "tuple" /\ b=false) \/ (T = "str" /\ b=true)
 | .ref p=>((∃ xs,SqL K H p xs) /\ ((T = "int" /\ b = false) \/ (T = "bool" /\ b = false) \/ (T = "list" /\ b = true) \/ (T = "tuple" /\ b = false) \/ (T = "str" /\ b = false))) \/
    ((∃ xs,SqT K H p xs) /\ ((T = "int" /\ b=false) \/ (T = "bool" /\ b=false) \/ (T = "list" /\ b=false) \/ (T = "tuple" /\ b=true) \/ (T = "str" /\ b=false)))
 |_=>False
theorem rK:pJ X (.builtin "isinstance") (fun xs H Q=>∃ x T b,xs=[x,.ty T] /\ IsV X.K T x H b /\ Q (.bl b) H):=by
 intro pins s σ H vs us Q I rv h;obtain⟨x,T,b,rfl,hv,q⟩:=h;obtain⟨u,v,rfl,ru,rT⟩:=rv.two;cases rT
 cases x with
 | int i=>
   obtain⟨t,rfl⟩:=ru
   rcases hv with⟨rfl,rfl⟩|⟨rfl,rfl⟩|⟨rfl,rfl⟩|⟨rfl,rfl⟩|⟨rfl,rfl⟩
   . exact IsiPair.int_int ⟨.bl _,H,I,rfl,q⟩
   . exact IsiPair.int_bool ⟨.bl _,H,I.tok _,rfl,q⟩
   . exact IsiPair.int_list ⟨.bl _,H,I.tok _,rfl,q⟩
   . exact IsiPair.int_tuple ⟨.bl _,H,I.tok _,rfl,q⟩
   . exact IsiPair.int_str ⟨.bl _,H,I.tok _,rfl,q⟩
 | bl i=>
   cases ru
   rcases hv with⟨rfl,rfl⟩|⟨rfl,rfl⟩|⟨rfl,rfl⟩|⟨rfl,rfl⟩|⟨rfl,rfl⟩
   . exact IsiPair.bool_int ⟨.bl _,H,I,rfl,q⟩
   . exact IsiPair.bool_bool ⟨.bl _,H,I,rfl,q⟩
   . exact IsiPair.bool_list ⟨.bl _,H,I.tok _,rfl,q⟩
   . exact IsiPair.bool_tuple ⟨.bl _,H,I.tok _,rfl,q⟩
   . exact IsiPair.bool_str ⟨.bl _,H,I.tok _,rfl,q⟩
 | non=>
   cases ru
   rcases hv with⟨rfl,rfl⟩|⟨rfl,rfl⟩|⟨rfl,rfl⟩|⟨rfl,rfl⟩|⟨rfl,rfl⟩
   . exact IsiPair.NoneType_int ⟨.bl _,H,I.tok _,rfl,q⟩
   . exact IsiPair.NoneType_bool ⟨.bl _,H,I.tok _,rfl,q⟩
   . exact IsiPair.NoneType_list ⟨.bl _,H,I.tok _,rfl,q⟩
   . exact IsiPair.NoneType_tuple ⟨.bl _,H,I.tok _,rfl,q⟩
   . exact IsiPair.NoneType_str ⟨.bl _,H,I.tok _,rfl,q⟩
 | str i=>
   obtain⟨t,rfl⟩:=ru
   rcases hv with⟨rfl,rfl⟩|⟨rfl,rfl⟩|⟨rfl,rfl⟩|⟨rfl,rfl⟩|⟨rfl,rfl⟩
   . exact IsiPair.str_int ⟨.bl _,H,I.tok _,rfl,q⟩
   . exact IsiPair.str_bool ⟨.bl _,H,I.tok _,rfl,q⟩
   . exact IsiPair.str_list ⟨.bl _,H,I.tok _,rfl,q⟩
   . exact IsiPair.str_tuple ⟨.bl _,H,I.tok _,rfl,q⟩
   . exact IsiPair.str_str ⟨.bl _,H,I,rfl,q⟩
 | ref p=>
   cases ru
   rcases hv with⟨⟨xs,hS⟩,hv⟩|⟨⟨xs,hS⟩,hv⟩
   . obtain⟨its,r,pl,hz⟩:=I.list hS;obtain⟨o,e,c,_⟩:=pl.isList
     rcases hv with⟨rfl,rfl⟩|⟨rfl,rfl⟩|⟨rfl,rfl⟩|⟨rfl,rfl⟩|⟨rfl,rfl⟩
     . exact IsiPair.list_int e c ⟨.bl _,H,I.tok _,rfl,q⟩
     . exact IsiPair.list_bool e c ⟨.bl _,H,I.tok _,rfl,q⟩
     . exact IsiPair.list_list e c ⟨.bl _,H,I,rfl,q⟩
     . exact IsiPair.list_tuple e c ⟨.bl _,H,I.tok _,rfl,q⟩
     . exact IsiPair.list_str e c ⟨.bl _,H,I.tok _,rfl,q⟩
   . obtain⟨its,r,pl,hz⟩:=I.tuple hS;obtain⟨o,e,c,_⟩:=pl
     rcases hv with⟨rfl,rfl⟩|⟨rfl,rfl⟩|⟨rfl,rfl⟩|⟨rfl,rfl⟩|⟨rfl,rfl⟩
     . exact IsiPair.tuple_int e c ⟨.bl _,H,I.tok _,rfl,q⟩
     . exact IsiPair.tuple_bool e c ⟨.bl _,H,I.tok _,rfl,q⟩
     . exact IsiPair.tuple_list e c ⟨.bl _,H,I.tok _,rfl,q⟩
     . exact IsiPair.tuple_tuple e c ⟨.bl _,H,I,rfl,q⟩
     . exact IsiPair.tuple_str e c ⟨.bl _,H,I.tok _,rfl,q⟩
 |_=>exact hv.elim
theorem Hk:typeOf (.type "ValueError")=pure (.type "type"):=by kernel_rfl
theorem boot_bool:bootBuiltins "bool" = some (.type "bool"):=by decide +kernel
theorem boot_isinstance:bootBuiltins "isinstance" = some (.builtin "isinstance"):=by decide +kernel
theorem boot_all:bootBuiltins "all" = some (.builtin "all"):=by decide +kernel
theorem boot_tuple:bootBuiltins "tuple" = some (.type "tuple"):=by decide +kernel
theorem boot_list:bootBuiltins "list" = some (.type "list"):=by decide +kernel
theorem boot_int:bootBuiltins "int" = some (.type "int"):=by decide +kernel
theorem boot_len:bootBuiltins "len" = some (.builtin "len"):=by decide +kernel
theorem uv{prog:Program}{w:World}{A:Around}{E:Value->Shared->Prop}{K:PySem.W.Frag}{s:Shared}{a C:Addr}{T:Value}{dx:Option Addr}{bm:List Value}{k:Value}{dep:Int}{tk:Tok}{Q:Fin->Shared->Prop}(hk:k=.int dep tk)(X:K.In s.heap)(e:FL a C dx s.heap)
  (hC:n5 K C bm) (hty:(∃ n,T=.type n /\ typeOf (.type n)=pure (.type "type")) \/ ∃ B bmB,T=.ref B /\ n5 K B bmB) (hb:(Value.ref C ::bm).contains T=true) (hq:Q (.done (.ret (.bool true))) s):
  wpAny (model prog w) A (Builtin.«isinstance.nested» ⟨[.ref a,T,k],[]⟩) Q E s:=by
 subst hk;obtain⟨_,nm,q,N,bs,hdct,sn,sub,ab,col,dd,k0,k1,k2,k3,k5,nid,lC⟩:=hC;obtain⟨o,vs,he,hcls,_⟩:=e;have hC:=X _ _ lC;obtain⟨hp,g,d,tks,os⟩:=s
 by_cases same:(Value.ref C==T)=true
 . rcases hty with⟨n,rfl,hty⟩|⟨B,bmB,rfl,_⟩
   . cases same
   . repeat (first
      |(with_reducible refine wpAny_loadPart_at he ?_;rw[hcls])
      |assumption
      |wp_step)
     all_goals first|assumption|exact hq
 . have same':(Value.ref C==T)=false:=by simpa using same
   rcases hty with⟨n,rfl,hty⟩|⟨B,bmB,rfl,⟨_,nm',q',N',bs',hdct',sn',sub',ab',col',dd',k0',k1',k2',k3',k5',nid',lB⟩⟩
   . repeat (first
      |(with_reducible refine wpAny_loadPart_at he ?_;rw[hcls])
      |(with_reducible refine wpAny_isSubtype_exc hC ?_;rw[hb])
      |assumption
      |wp_step)
     all_goals first|assumption|exact hq
   . have hB:=X _ _ lB
     repeat (first
      |(with_reducible refine wpAny_loadPart_at he ?_;rw[hcls])
      |with_reducible refine wpAny_loadPart_at hB ?_
      |(with_reducible refine wpAny_isSubtype_exc hC ?_;rw[hb])
      |assumption
      |wp_step)
     all_goals first|assumption|exact hq
theorem EY:pJ X (.builtin "isinstance") (fun xs H Q=>∃ a T C dx bm,xs=[.ref a,T] /\ H a=some (se a C dx) /\ n5 X.K C bm /\ ((∃ B bmB,T=.ref B /\ n5 X.K B bmB /\ (Value.ref C ::bm).contains (.ref B)=true) \/ (T=.ty "ValueError" /\ bm.contains (.type "ValueError")=true)) /\ Q (.bl true) H):=by
 intro pins s σ H vs us Q I rv h;obtain⟨a,T,C,dx,bm,rfl,ha,hC,hT,q⟩:=h;obtain⟨u,v,rfl,ru,rT⟩:=rv.two;cases ru;obtain⟨e,_,_⟩:=I.hok a _ ha
 rcases hT with⟨B,bmB,rfl,hB,hb⟩|⟨rfl,hb⟩
 . cases rT;refine call_isinstance (S:=fun _ R s'=>s'=s /\ R (.ok (.ret (.bool true))) s) (fun prog w A R s' hs=>?_) ⟨rfl,?_⟩
   . obtain⟨rfl,hs⟩:=hs;exact isinstance_outer (uv rfl I.kIn e hC (.inr ⟨B,bmB,rfl,hB⟩) hb hs) (by intro z;cases z)
   . exact⟨.bl _,H,I,rfl,q⟩
 . cases rT;refine call_isinstance (S:=fun _ R s'=>s'=s /\ R (.ok (.ret (.bool true))) s) (fun prog w A R s' hs=>?_) ⟨rfl,?_⟩
   . obtain⟨rfl,hs⟩:=hs;exact isinstance_outer (uv rfl I.kIn e hC (.inl ⟨_,rfl,Hk⟩) (by rw[List.contains_cons,hb,Bool.or_true]) hs) (by intro z;cases z)
   . exact⟨.bl _,H,I,rfl,q⟩
theorem x8:∀{ns:List Int} {its:List Value},Vals (ns.map V.int) its->IntsAre its ns
 |[],_,.nil=>.nil
 |n ::_,_,.cons ⟨t,e⟩ r=>by subst e;exact .cons n t (x8 r)
noncomputable def LO(K:PySem.W.Frag)(A:Around)(neg:Bool):R2:=fun x y H Q=>∃(p q:Addr) (ns ms:List Int),x=.ref p /\ y=.ref q /\ SqL K H p (ns.map V.int) /\ SqL K H q (ms.map V.int) /\ A.units+64<cLine /\ Q (.bl (if neg then !decide (ns=ms)else decide (ns=ms))) H
theorem Jy:OpR X (compareOp .Eq) (LO X.K X.A false):=by
 intro pins s σ H x y v u Q I rx ry h;obtain⟨p,q,ns,ms,rfl,rfl,h1,h2,hu,hq⟩:=h
 cases rx;cases ry
 obtain⟨its,r,pl,hz⟩:=I.list h1;obtain⟨its',r',pl',hz'⟩:=I.list h2;exact PySem.W.eq_intsK pl.isList (x8 r) pl'.isList (x8 r') hu ⟨.bl _,H,I,rfl,hq⟩
end
section
variable{P:Program}{w:World}{K:PySem.W.Frag}{mg:Str->Option Value}{base:Heap}
theorem okX{x qual:Str}{st:Stmt}{f:Addr}{fd:FuncData}{N ps:List Str}{k:Nat}{sp:Sp}(F:Fun K x qual st f fd)(S:aP N ps (ay st))(len:∀ vs H Q E,sp vs H Q E->vs.length=ps.length)
  (hbody:∀(cdv:Value) (A:Around) (outer:List Env) (s:Shared) (H:Hp) (vs:List V) (Q:VK) (E:XK),gN k (A.deeper (envOfC qual (ay st) s.heap.objs.size f cdv))->sp vs H Q E ->
    ∃ t,PSs (sv (CXE P w) P w K mg base N qual (ay st) f cdv A outer s H E) (dk st) t /\ t { nx:=fun _ H'=>Q .non H',rt:=Q } (start N vs) H):bF P w K mg base (CXE P w) (k+1) f fd ps sp:=by
 obtain⟨oc,od,kV,doc,pm,an,cdv,ct,osl,rfl,lk,hcd⟩:=F.ex
 exact LA lk hcd S len fun A outer s H vs Q E hr hsp=>hbody cdv A outer s H vs Q E hr hsp
end
theorem SqL.new{K:PySem.W.Frag}{H:Hp}{p:Addr}{xs:List V}(h:H p=some (.lst xs)):SqL K H p xs:=.inl (.inl h)
theorem SqT.new{K:PySem.W.Frag}{H:Hp}{p:Addr}{xs:List V}(h:H p=some (.tup xs)):SqT K H p xs:=.inl (.inl h)
theorem Hg{H:Hp}{p q:Addr}{o:HO}(h:H q=some o)(n:H p=none):q≠p:=fun z=>by rw[z,n]at h;cases h
theorem _root_.L2.aJ.upd{H H':Hp}{p:Addr}{o:HO}(e:aJ H H')(n:H p=none):aJ H (upd H' p o):=fun b u h=>by
 rw[bf (Hg h n)];exact e b u h
theorem _root_.L2.aJ.new{H:Hp}{p:Addr}{o:HO}(n:H p=none):aJ H (L2.upd H p o):=(aJ.refl H).upd n
abbrev Goes(H:Hp)(E:XK)(C:Addr)(dx:Option Addr):Prop:=∀ H' a,aJ H H'->H' a=some (se a C dx)->E (.ref C) (some a) H'
theorem takes{K:PySem.W.Frag}{T C:Addr}{b:Bool}{bmC bmT:List Value}(h1:n5 K C bmC)(h2:n5 K T bmT)(h:(Value.ref C ::bmC).contains (.ref T)=b):tj K T C b:=⟨bmC,bmT,h1,h2,h⟩
section
variable{X:Cx}
noncomputable def HJ(K:PySem.W.Frag):R2:=fun x y H Q=>∃ l b xs zs,x=.ref l /\ y=.ref b /\ SqL K H l xs /\ SqL K H b zs /\ xs.length+zs.length<=sizeLine /\ ∀ p,H p=none->Q (.ref p) (upd H p (.lst (xs++zs)))
theorem fk:OpR X (binaryOp .Add) (HJ X.K):=by
 intro pins s σ H x y v u Q I rx ry h;obtain⟨l,b,xs,zs,rfl,rfl,hH,hB,hz,q⟩:=h;cases rx;cases ry;obtain⟨its,r,pl,_⟩:=I.list hH;obtain⟨its2,r2,pl2,_⟩:=I.list hB;obtain⟨⟨cls,dd,data,sl⟩,ho,hc,n,hd⟩:=pl.isList;obtain⟨⟨cls2,dd2,data2,sl2⟩,ho2,hc2,n2,hd2⟩:=pl2.isList;simp only at hc hd hc2 hd2;subst hc hd hc2 hd2
 have hsz:its.toArray.size+its2.toArray.size<=sizeLine:=by rw[List.size_toArray,List.size_toArray,<- r.length,<- r2.length];exact hz
 refine concat_meets ⟨_,ho,rfl⟩ ⟨_,ho2,rfl⟩ noFill_list_add seq_list_add PySem.F.slot_list_add PySem.F.entry_list_add (PySem.F.args_list_add_2 _ _) (list_addW l b its.toArray its2.toArray n n2 dd dd2 sl sl2 hsz) ⟨ho,ho2,?_⟩
 have ea:its.toArray++its2.toArray=(its++its2).toArray:=by simp
 rw[ea]
 exact⟨.ref _,_,I.Hb (t':=s.toks) (r.append r2) (by rw[List.length_append];exact hz),rfl,q _ I.fresh⟩
theorem rM:pJ X (.builtin "all") (fun xs H Q=>∃(p:Addr) (bs:List Bool),xs=[.ref p] /\ SqL X.K H p (bs.map V.bl) /\ X.A.handled=none /\ Q (.bl (bs.all id)) H):=by
 intro pins s σ H vs us Q I rv h;obtain⟨p,bs,rfl,hp,hh,q⟩:=h;obtain⟨u,rfl,ru⟩:=rv.one;cases ru;obtain⟨its,r,pl,_⟩:=I.list hp;have hl:=r.length
 have isl:s.heap.IsList p its.toArray:=pl.isList
 obtain⟨o,e,_⟩:=id isl;refine call_all_walk (wpAny_pyIter_list isl ?_)
 have ne:p≠s.heap.objs.size:=Nat.ne_of_lt (Heap.lt_size e)
 have tv:∀(i:Nat) (v:Value),its.toArray[i]?=some v->∃ b,bs[i]?=some b /\ v=Value.bool b:=fun i v hv=>by
  have hv':its[i]?=some v:=by simpa using hv
  have hi:i<its.length:=(List.getElem?_eq_some_iff.mp hv').1
  rw[<- hl,List.length_map]at hi
  have hx:(bs.map V.bl)[i]?=some (V.bl bs[i]):=by simp[hi]
  obtain⟨u,hu,ru⟩:=r.get hx;rw[hv']at hu;cases hu
  exact⟨bs[i],by simp[hi],ru⟩
 refine⟨s.heap.objs.size,_,_,_,_,_,(fun i=>(bs[i]?).getD false),rfl,Walks.list (A:=X.A.in1) hh s.heap.objs.size p ne its.toArray,⟨⟨_,Heap.get?_push_size _ rfl,rfl,rfl⟩,isl.at fun o e=>Heap.get?_push_of_some _ e⟩,fun i v s' Q' E' hP hQ=>?_,fun h' tk hk=>?_⟩
 . obtain⟨b,hb,rfl⟩:=tv i v hP
   have hQ':Q' ((bs[i]?).getD false) s':=hQ
   rw[hb]at hQ';exact wpAny_truthy_bool hQ'
 . have en:its.toArray.size=bs.length:=by rw[List.size_toArray,<- hl,List.length_map]
   have eb:(List.range its.toArray.size).all (fun i=>(bs[i]?).getD false)=bs.all id:=by
    rw[en];rw[Bool.eq_iff_iff,List.all_eq_true,List.all_eq_true];constructor
    . intro hA b hb;obtain⟨i,hi,rfl⟩:=List.mem_iff_getElem.mp hb;have:=hA i (by simpa using hi)
      simpa [hi]using this
    . intro hA i hi
      have hi':i<bs.length:=by simpa using hi
      have:=hA bs[i] (List.getElem_mem hi')
      simpa [hi']using this
   rw[eb]
   refine⟨.bl _,H,I.kept (h':=h') (t':=tk) fun b o e'=>hk b o ?_ (Heap.get?_push_of_some _ e'),rfl,q⟩
   have lt:=Heap.lt_size e';intro z
   have z':b=s.heap.objs.size:=by simpa using z
   exact absurd (z' ▸ lt) (Nat.lt_irrefl _)
end
noncomputable def isStar:Expr->Bool
 |.Starred ..=>true
 |_=>false
theorem Dh{e:Expr}{es:List Expr}{env:Env}(h:isStar e=false):starEach (e ::es) env=(false,eval e env) ::starEach es env:=by
 cases e<;>first|rfl|cases h
theorem E5{X:Cx}{e:Expr}{es:List Expr}{te:TE}{t:TA}(ha:PE X e te)(hr:PA X es t)(hs:isStar e=false:=by rfl):PA X (e ::es) (ib te t):=Hh ha hr (Dh hs)
end L2.E
namespace L2.P
open PySem
noncomputable def ixP(n:Nat)(i:Int):Option Nat:=if 0<=i then(if i<n then some i.toNat else none)else if -(n:Int)<=i then some (i+n).toNat else none
noncomputable def atP{α:Type}(xs:List α)(i:Int):Option α:=(ixP xs.length i).bind fun j=>xs[j]?
noncomputable def vZ(n d:Nat):Option Int->Nat
 |none=>d
 |some v=>if v<0 then(v+(n:Int)).toNat else min v.toNat n
inductive PV where
 |non|bl (b:Bool)|int (i:Int)|str (s:Str)|lst (xs:List PV)|tup (xs:List PV)
inductive OV where
 | sh (x:PV)|ol (ts:List OV)|ob (c:String) (ks:List Str) (ts:List OV)
   |di (kvs:List (Int×PV))|dt (kvs:List (List Int×PV))
inductive Sl where
 | sh (x:PV)|ow (xs:List PV)|ex (c:String) (fs:List (Str×PV))
   |tr (io:Bool) (t:OV)|bo (t:OV)
abbrev ag:=List (Option Sl)
inductive RV where
 |sh (x:PV)|fr (xs:List PV)|al (xs:List PV)
noncomputable def RV.pv:RV->PV
 |.sh x=>x
 |.fr xs=>.lst xs
 |.al xs=>.lst xs
abbrev XF:=List (Str×PV)
inductive OE where
 |ok (r:RV)|exc (c:String) (fs:XF)|bad
inductive OT where
 |ok (b:Bool)|exc (c:String) (fs:XF)|bad
inductive OA where
 |ok (xs:List PV)|exc (c:String) (fs:XF)|bad
inductive OS where
 |nx (ρ:ag)|rt (ρ:ag) (r:RV)|bk (ρ:ag)|ct (ρ:ag)|exc (ρ:ag) (c:String) (fs:XF)|bad
noncomputable def OE.bind:OE->(RV->OE)->OE
 |.ok r,f=>f r
 |.exc c fs,_=>.exc c fs
 |.bad,_=>.bad
noncomputable def OE.fD:OE->(RV->OT)->OT
 |.ok r,f=>f r
 |.exc c fs,_=>.exc c fs
 |.bad,_=>.bad
noncomputable def OE.fe:OE->(RV->OA)->OA
 |.ok r,f=>f r
 |.exc c fs,_=>.exc c fs
 |.bad,_=>.bad
noncomputable def OE.bM(ρ:ag):OE->(RV->OS)->OS
 |.ok r,f=>f r
 |.exc c fs,_=>.exc ρ c fs
 |.bad,_=>.bad
noncomputable def OT.bind:OT->(Bool->OE)->OE
 |.ok r,f=>f r
 |.exc c fs,_=>.exc c fs
 |.bad,_=>.bad
noncomputable def OT.fD:OT->(Bool->OT)->OT
 |.ok r,f=>f r
 |.exc c fs,_=>.exc c fs
 |.bad,_=>.bad
noncomputable def OT.bM(ρ:ag):OT->(Bool->OS)->OS
 |.ok r,f=>f r
 |.exc c fs,_=>.exc ρ c fs
 |.bad,_=>.bad
noncomputable def OA.bind:OA->(List PV->OE)->OE
 |.ok r,f=>f r
 |.exc c fs,_=>.exc c fs
 |.bad,_=>.bad
noncomputable def OA.fe:OA->(List PV->OA)->OA
 |.ok r,f=>f r
 |.exc c fs,_=>.exc c fs
 |.bad,_=>.bad
noncomputable def OA.bM(ρ:ag):OA->(List PV->OS)->OS
 |.ok r,f=>f r
 |.exc c fs,_=>.exc ρ c fs
 |.bad,_=>.bad
noncomputable def aj(i:Nat):ag->OE:=fun ρ=>match ρ[i]? with
 |some (some (.sh x))=>.ok (.sh x)
 |some (some (.ow xs))=>.ok (.al xs)
 |_=>.bad
noncomputable def mC(x:PV):ag->OE:=fun _=>.ok (.sh x)
noncomputable def oE:Option RV->OE
 |some r=>.ok r
 |none=>.bad
noncomputable def mOp(g:PV->PV->Option RV)(ma mb:ag->OE):ag->OE:=fun ρ=>(ma ρ).bind fun a=>(mb ρ).bind fun b=>oE (g a.pv b.pv)
noncomputable def gI(C:Int->Int->Bool)(f:Int->Int->PV):PV->PV->Option RV
 |.int i,.int j=>if C i j then some (.sh (f i j))else none
 |_,_=>none
noncomputable def eV:=gI (fun _ _=>true) fun i j=>.int (i+j)
noncomputable def tT:=gI (fun _ _=>true) fun i j=>.int (i - j)
noncomputable def AA:=gI (fun i j=>(decide (-(2 ^ 64)<i)&&decide (i<2 ^ 64))||(decide (-(2 ^ 64)<j)&&decide (j<2 ^ 64))) fun i j=>.int (i*j)
noncomputable def Du:=gI (fun _ j=>decide (0<j)&&decide (j<1073741824)) fun i j=>.int (i/j)
noncomputable def uI:=gI (fun _ j=>decide (0<j)) fun i j=>.int (i%j)
noncomputable def gLt:=gI (fun _ _=>true) fun i j=>.bl (decide (i<j))
noncomputable def gLe:=gI (fun _ _=>true) fun i j=>.bl (decide (i<=j))
noncomputable def gGt:=gI (fun _ _=>true) fun i j=>.bl (decide (j<i))
noncomputable def gGe:=gI (fun _ _=>true) fun i j=>.bl (decide (j<=i))
noncomputable def eqS:PV->PV->Option Bool
 |.non,.non=>some true|.non,.int _=>some false|.int _,.non=>some false|.non,.bl _=>some false|.bl _,.non=>some false|.non,.str _=>some false|.str _,.non=>some false
 |.int a,.int b=>some (decide (a=b))|.bl a,.bl b=>some (decide (a=b))|.str a,.str b=>some (decide (a=b))
 |.int _,.str _=>some false|.str _,.int _=>some false|.bl _,.str _=>some false|.str _,.bl _=>some false
 |_,_=>none
noncomputable def gEq:PV->PV->Option RV:=fun x y=>(eqS x y).map fun b=>.sh (.bl b)
noncomputable def gNe:PV->PV->Option RV:=fun x y=>(eqS x y).map fun b=>.sh (.bl (!b))
noncomputable def eX:RV->Option PV
 |.sh x=>some x
 |.fr xs=>some (.lst xs)
 |.al _=>none
noncomputable def aI:ag->OA:=fun _=>.ok []
noncomputable def ah(me:ag->OE)(mr:ag->OA):ag->OA:=fun ρ=>(me ρ).fe fun r=>match eX r with
 |some x=>(mr ρ).fe fun xs=>.ok (x ::xs)
 |none=>.bad
noncomputable def lim:Nat:=16777216
noncomputable def b2(ma:ag->OA):ag->OE:=fun ρ=>(ma ρ).bind fun xs=>if xs.length<=lim then .ok (.fr xs)else .bad
noncomputable def gp(ma:ag->OA):ag->OE:=fun ρ=>(ma ρ).bind fun xs=>if xs.length<=lim then .ok (.sh (.tup xs))else .bad
noncomputable def aQ(f:List PV->OE)(ma:ag->OA):ag->OE:=fun ρ=>(ma ρ).bind f
noncomputable def mUn(g:PV->Option RV)(ma:ag->OE):ag->OE:=fun ρ=>(ma ρ).bind fun a=>oE (g a.pv)
noncomputable def ua:PV->Option RV
 |.int i=>some (.sh (.int (-i)))
 |_=>none
noncomputable def ku:PV->Option RV
 |.lst xs=>some (.sh (.int xs.length))
 |.tup xs=>some (.sh (.int xs.length))
 |_=>none
noncomputable def yY:PV->Option RV
 |.int i=>some (.sh (.int i))
 |.bl b=>some (.sh (.int (if b then 1 else 0)))
 |_=>none
noncomputable def qC:PV->Option RV
 |.lst xs=>some (.fr xs)
 |.tup xs=>some (.fr xs)
 |_=>none
noncomputable def bR:PV->PV->Option RV
 |.lst xs,.int i=>(atP xs i).map .sh
 |_,_=>none
noncomputable def cT:PV->PV->Option RV
 |.tup xs,.int i=>(atP xs i).map .sh
 |_,_=>none
noncomputable def gy:PV->PV->Option RV
 |.lst xs,.lst ys=>if xs.length+ys.length<=lim then some (.fr (xs++ys))else none
 |_,_=>none
noncomputable def qw:List PV->Option (List Int)
 |[]=>some []
 |.int i ::r=>(qw r).map (i ::·)
 |_ ::_=>none
noncomputable def Gh:PV->PV->Option Bool
 | .lst xs,.lst ys=>match qw xs,qw ys with
   |some a,some b=>some (decide (a=b))
   |_,_=>none
 |_,_=>none
noncomputable def Jo:PV->PV->Option RV:=fun x y=>(Gh x y).map fun b=>.sh (.bl b)
noncomputable def jV:List PV->Option (List Bool)
 |[]=>some []
 |.bl i ::r=>(jV r).map (i ::·)
 |_ ::_=>none
noncomputable def xv:PV->Option RV
 |.lst xs=>(jV xs).map fun bs=>.sh (.bl (bs.all id))
 |_=>none
noncomputable def isP(T:String):PV->Option Bool
 |.int _=>if T = "int" then some true else if T = "bool" \/ T = "list" \/ T = "tuple" \/ T = "str" then some false else none
 |.bl _=>if T = "int" \/ T = "bool" then some true else if T = "list" \/ T = "tuple" \/ T = "str" then some false else none
 |.non=>if T = "int" \/ T = "bool" \/ T = "list" \/ T = "tuple" \/ T = "str" then some false else none
 |.str _=>if T = "str" then some true else if T = "int" \/ T = "bool" \/ T = "list" \/ T = "tuple" then some false else none
 |.lst _=>if T = "list" then some true else if T = "int" \/ T = "bool" \/ T = "tuple" \/ T = "str" then some false else none
 |.tup _=>if T = "tuple" then some true else if T = "int" \/ T = "bool" \/ T = "list" \/ T = "str" then some false else none
noncomputable def mIs(T:String)(ma:ag->OE):ag->OE:=mUn (fun x=>(isP T x).map fun b=>.sh (.bl b)) ma
noncomputable def pq:PV->Option Bool
 |.non=>some false
 |.bl b=>some b
 |.int i=>some (i != 0)
 |.lst xs=>some (!xs.isEmpty)
 |.tup xs=>some (!xs.isEmpty)
 |.str _=>none
noncomputable def oT:Option Bool->OT
 |some b=>.ok b
 |none=>.bad
noncomputable def dS(ma:ag->OE):ag->OT:=fun ρ=>(ma ρ).fD fun r=>oT (pq r.pv)
noncomputable def aE(ma:ag->OE):ag->OT:=fun ρ=>(ma ρ).fD fun r=>match r.pv with
 |.bl b=>.ok b
 |_=>.bad
noncomputable def tL(m:ag->OT):ag->OT:=fun ρ=>(m ρ).fD fun b=>.ok (!b)
noncomputable def sY(m n:ag->OT):ag->OT:=fun ρ=>(m ρ).fD fun b=>if b=true then n ρ else .ok false
noncomputable def C8(m n:ag->OT):ag->OT:=fun ρ=>(m ρ).fD fun b=>if b=true then .ok true else n ρ
noncomputable def tK(m n:ag->OE):ag->OE:=fun ρ=>(m ρ).bind fun r=>match r.pv with
 |.bl b=>if b=true then n ρ else .ok (.sh (.bl false))
 |_=>.bad
noncomputable def Jt(m n:ag->OE):ag->OE:=fun ρ=>(m ρ).bind fun r=>match r.pv with
 |.bl b=>if b=true then .ok (.sh (.bl true))else n ρ
 |_=>.bad
noncomputable def DZ(m:ag->OE):ag->OE:=fun ρ=>(m ρ).bind fun r=>match r.pv with
 |.bl b=>.ok (.sh (.bl (!b)))
 |_=>.bad
noncomputable def jX(c:ag->OT)(m n:ag->OE):ag->OE:=fun ρ=>(c ρ).bind fun b=>if b=true then m ρ else n ρ
noncomputable def fM(g g':PV->PV->Option RV)(ma mb mc:ag->OE):ag->OE:=fun ρ=>(ma ρ).bind fun a=>(mb ρ).bind fun b=>(oE (g a.pv b.pv)).bind fun r=>match r.pv with
 |.bl k=>if k=true then(mc ρ).bind fun c=>oE (g' b.pv c.pv)else .ok (.sh (.bl false))
 |_=>.bad
noncomputable def OS.andThen:OS->(ag->OS)->OS
 |.nx ρ,k=>k ρ
 |o,_=>o
noncomputable def OS.turn:OS->(ag->OS)->OS
 |.nx ρ,k=>k ρ
 |.ct ρ,k=>k ρ
 |.bk ρ,_=>.nx ρ
 |o,_=>o
noncomputable def aM(a b:ag->OS):ag->OS:=fun ρ=>(a ρ).andThen b
noncomputable def aU:ag->OS:=fun ρ=>.nx ρ
noncomputable def gj:RV->Option Sl
 |.sh x=>some (.sh x)
 |.fr xs=>some (.ow xs)
 |.al _=>none
noncomputable def aY(i:Nat)(me:ag->OE):ag->OS:=fun ρ=>(me ρ).bM ρ fun r=>match gj r with
 |some s=>.nx (ρ.set i (some s))
 |none=>.bad
noncomputable def bu(c:ag->OT)(m n:ag->OS):ag->OS:=fun ρ=>(c ρ).bM ρ fun b=>if b=true then m ρ else n ρ
noncomputable def ba(me:ag->OE):ag->OS:=fun ρ=>(me ρ).bM ρ fun r=>match r with
 |.al _=>.bad
 |r=>.rt ρ r
noncomputable def dm(i:Nat):ag->OS:=fun ρ=>match ρ[i]? with
 |some (some (.sh x))=>.rt ρ (.sh x)
 |some (some (.ow xs))=>.rt (ρ.set i none) (.fr xs)
 |_=>.bad
noncomputable def qZ(me:ag->OE):ag->OS:=fun ρ=>(me ρ).bM ρ fun _=>.nx ρ
noncomputable def oV(i:Nat)(ρ:ag):ag:=match ρ[i]? with
 |some (some (.ow xs))=>ρ.set i (some (.sh (.lst xs)))
 |_=>ρ
noncomputable def fj(i:Nat)(me:ag->OE):ag->OS:=fun ρ=>match ρ[i]? with
 | some (some (.ow xs))=>(me ρ).bM ρ fun r=>match eX r with
   |some y=>if xs.length<lim then .nx (ρ.set i (some (.ow (xs++[y]))))else .bad
   |none=>.bad
 |_=>.bad
noncomputable def qR(i:Nat)(me:ag->OE):ag->OS:=fun ρ=>match ρ[i]? with
 | some (some (.ow xs))=>(me ρ).bM ρ fun r=>match r with
   |.fr ys=>if xs.length+ys.length<=lim then .nx (ρ.set i (some (.ow (xs++ys))))else .bad
   |_=>.bad
 |_=>.bad
noncomputable def gm(i:Nat)(mb:ag->OS):List PV->ag->OS
 |[],ρ=>.nx ρ
 |x ::xs,ρ=>(mb (ρ.set i (some (.sh x)))).turn (gm i mb xs)
noncomputable def n6:RV->Option (List PV)
 |.sh (.lst xs)=>some xs
 |.fr xs=>some xs
 |_=>none
noncomputable def iQ(i:Nat)(ml:ag->OE)(mb:ag->OS):ag->OS:=fun ρ=>(ml ρ).bM ρ fun r=>match n6 r with
 |some xs=>gm i mb xs ρ
 |none=>.bad
noncomputable def iV(n:Nat):List PV:=(List.range n).map fun k:Nat=>PV.int (k:Int)
noncomputable def bI(mc:ag->OT)(mb:ag->OS):Nat->ag->OS
 |0,_=>.bad
 |n+1,ρ=>(mc ρ).bM ρ fun b=>if b=true then(mb ρ).turn (bI mc mb n)else .nx ρ
noncomputable def lF:PV->Option Int
 |.int i=>some i
 |_=>none
noncomputable def gB(m:ag->OE):ag->OE:=fun ρ=>(m ρ).bind fun r=>match r.pv with
 |.int i=>.ok (.sh (.int i))
 |_=>.bad
noncomputable def qy(xs:List PV)(lo hi:Option Int):List PV:=(xs.drop (vZ xs.length 0 lo)).take (vZ xs.length xs.length hi - vZ xs.length 0 lo)
noncomputable def yy(x:PV)(lo hi:Option Int):Option RV:=match x with
 |.lst xs=>some (.fr (qy xs lo hi))
 |_=>none
noncomputable def rY(ma ml mh:ag->OE):ag->OE:=fun ρ=>(ma ρ).bind fun a=>(ml ρ).bind fun l=>(mh ρ).bind fun h=>oE (yy a.pv (lF l.pv) (lF h.pv))
noncomputable def df(ι:List Nat)(ρ:ag):ag:=ι.map fun i=>(ρ[i]?).join
noncomputable def cR(me:ag->OE)(ρ:ag):List PV->OA
 |[]=>.ok []
 | x ::xs=>(me (ρ++[some (.sh x)])).fe fun r=>match eX r with
   |some y=>(cR me ρ xs).fe fun ys=>.ok (y ::ys)
   |none=>.bad
noncomputable def noX:OA->OE
 |.ok xs=>if xs.length<=lim then .ok (.fr xs)else .bad
 |_=>.bad
noncomputable def oR(ml:ag->OE)(ι:List Nat)(me:ag->OE):ag->OE:=fun ρ=>(ml ρ).bind fun r=>match r.pv with
 |.lst xs=>noX (cR me (df ι ρ) xs)
 |_=>.bad
noncomputable def xK(mn:ag->OE)(ι:List Nat)(me:ag->OE):ag->OE:=fun ρ=>(mn ρ).bind fun r=>match r.pv with
 |.int j=>if -(2 ^ 62)<=j /\ j<2 ^ 62 then noX (cR me (df ι ρ) (iV j.toNat))else .bad
 |_=>.bad
noncomputable def xQ(c:String)(ma:ag->OA):ag->OS:=fun ρ=>(ma ρ).bM ρ fun xs=>if xs.length<=lim then .exc ρ c []else .bad
noncomputable def wO:OS->OS
 |.exc _ _ _=>.bad
 |o=>o
noncomputable def Dj(mb:ag->OS)(takes:String->Option Bool)(ms:ag->OS):ag->OS:=fun ρ=>match mb ρ with
 | .exc ρ' c fs=>(match takes c with
   |some true=>wO (ms ρ')
   |some false=>.exc ρ' c fs
   |none=>.bad)
 |o=>o
noncomputable def IL(i:Nat):OS->OS
 |.nx ρ=>.nx (ρ.set i none)
 |.bk ρ=>.bk (ρ.set i none)
 |.ct ρ=>.ct (ρ.set i none)
 |o=>o
noncomputable def p0(i:Nat)(mb:ag->OS)(takes:String->Option Bool)(ms:ag->OS):ag->OS:=fun ρ=>match mb ρ with
 | .exc ρ' c fs=>(match takes c with
   |some true=>IL i (wO (ms (ρ'.set i (some (.ex c fs)))))
   |some false=>.exc ρ' c fs
   |none=>.bad)
 |o=>o
noncomputable def DD(i:Nat)(under:String->Bool):ag->OE:=fun ρ=>match ρ[i]? with
 |some (some (.ex c _))=>if under c=true then .ok (.sh (.bl true))else .bad
 |_=>.bad
noncomputable def fin:OS->OE
 |.nx _=>.ok (.sh .non)
 |.rt _ (.al _)=>.bad
 |.rt _ r=>.ok r
 |.exc _ c fs=>.exc c fs
 |_=>.bad
noncomputable def eW(n:Nat)(xs:List PV):ag:=xs.map (fun x=>some (.sh x))++List.replicate (n - xs.length) none
noncomputable def fnP(np n:Nat)(m:ag->OS):List PV->OE:=fun xs=>if xs.length=np then fin (m (eW n xs))else .bad
noncomputable def fuel:Nat:=100000
noncomputable def eD(i:Nat)(m:ag->OS):ag->OS:=fun ρ=>m (oV i ρ)
noncomputable def sL(i:Nat)(g:PV->PV->Option RV)(me:ag->OE):ag->OS:=fun ρ=>match ρ[i]? with
 | some (some (.sh x))=>(me ρ).bM ρ fun r=>match g x r.pv with
   |some (.sh z)=>.nx (ρ.set i (some (.sh z)))
   |_=>.bad
 |_=>.bad
noncomputable def bW:PV->Bool
 |.non=>true
 |_=>false
noncomputable def vX:PV->PV->Option RV
 |x,.non=>some (.sh (.bl (bW x)))
 |_,_=>none
noncomputable def nQ:PV->PV->Option RV
 |x,.non=>some (.sh (.bl (!bW x)))
 |_,_=>none
@[simp] theorem jw(i:Nat)(ρ:ag):aj i ρ=(match ρ[i]? with
  |some (some (.sh x))=>.ok (.sh x)
  |some (some (.ow xs))=>.ok (.al xs)
  |_=>.bad):=rfl
@[simp] theorem uS(g:PV->PV->Option RV)(ma mb:ag->OE)(ρ:ag):mOp g ma mb ρ=((ma ρ).bind fun a=>(mb ρ).bind fun b=>oE (g a.pv b.pv)):=rfl
@[simp] theorem o8(me:ag->OE)(mr:ag->OA)(ρ:ag):ah me mr ρ=((me ρ).fe fun r=>match eX r with
  |some x=>(mr ρ).fe fun xs=>.ok (x ::xs)
  |none=>.bad):=rfl
@[simp] theorem Nu(ma:ag->OA)(ρ:ag):b2 ma ρ=((ma ρ).bind fun xs=>if xs.length<=lim then .ok (.fr xs)else .bad):=rfl
@[simp] theorem NJ(ma:ag->OA)(ρ:ag):gp ma ρ=((ma ρ).bind fun xs=>if xs.length<=lim then .ok (.sh (.tup xs))else .bad):=rfl
@[simp] theorem yH(f:List PV->OE)(ma:ag->OA)(ρ:ag):aQ f ma ρ=((ma ρ).bind f):=rfl
@[simp] theorem Fs(g:PV->Option RV)(ma:ag->OE)(ρ:ag):mUn g ma ρ=((ma ρ).bind fun a=>oE (g a.pv)):=rfl
@[simp] theorem Eb(ma:ag->OE)(ρ:ag):dS ma ρ=((ma ρ).fD fun r=>oT (pq r.pv)):=rfl
@[simp] theorem F0(ma:ag->OE)(ρ:ag):aE ma ρ=((ma ρ).fD fun r=>match r.pv with
  |.bl b=>.ok b
  |_=>.bad):=rfl
@[simp] theorem MS(m:ag->OT)(ρ:ag):tL m ρ=((m ρ).fD fun b=>.ok (!b)):=rfl
@[simp] theorem F9(m n:ag->OT)(ρ:ag):sY m n ρ=((m ρ).fD fun b=>if b=true then n ρ else .ok false):=rfl
@[simp] theorem M8(m n:ag->OT)(ρ:ag):C8 m n ρ=((m ρ).fD fun b=>if b=true then .ok true else n ρ):=rfl
@[simp] theorem Mv(m n:ag->OE)(ρ:ag):tK m n ρ=((m ρ).bind fun r=>match r.pv with
  |.bl b=>if b=true then n ρ else .ok (.sh (.bl false))
  |_=>.bad):=rfl
@[simp] theorem NB(m n:ag->OE)(ρ:ag):Jt m n ρ=((m ρ).bind fun r=>match r.pv with
  |.bl b=>if b=true then .ok (.sh (.bl true))else n ρ
  |_=>.bad):=rfl
@[simp] theorem MI(m:ag->OE)(ρ:ag):DZ m ρ=((m ρ).bind fun r=>match r.pv with
  |.bl b=>.ok (.sh (.bl (!b)))
  |_=>.bad):=rfl
@[simp] theorem NM(c:ag->OT)(m n:ag->OE)(ρ:ag):jX c m n ρ=((c ρ).bind fun b=>if b=true then m ρ else n ρ):=rfl
@[simp] theorem LL(g g':PV->PV->Option RV)(ma mb mc:ag->OE)(ρ:ag):fM g g' ma mb mc ρ=((ma ρ).bind fun a=>(mb ρ).bind fun b=>(oE (g a.pv b.pv)).bind fun r=>match r.pv with
  |.bl k=>if k=true then(mc ρ).bind fun c=>oE (g' b.pv c.pv)else .ok (.sh (.bl false))
  |_=>.bad):=rfl
@[simp] theorem xp(a b:ag->OS)(ρ:ag):aM a b ρ=((a ρ).andThen b):=rfl
@[simp] theorem Mu(ρ:ag):aU  ρ=(.nx ρ):=rfl
@[simp] theorem JL(i:Nat)(me:ag->OE)(ρ:ag):aY i me ρ=((me ρ).bM ρ fun r=>match gj r with
  |some s=>.nx (ρ.set i (some s))
  |none=>.bad):=rfl
@[simp] theorem IG(c:ag->OT)(m n:ag->OS)(ρ:ag):bu c m n ρ=((c ρ).bM ρ fun b=>if b=true then m ρ else n ρ):=rfl
@[simp] theorem D4(me:ag->OE)(ρ:ag):ba me ρ=((me ρ).bM ρ fun r=>match r with
  |.al _=>.bad
  |r=>.rt ρ r):=rfl
@[simp] theorem Lv(i:Nat)(ρ:ag):dm i ρ=(match ρ[i]? with
  |some (some (.sh x))=>.rt ρ (.sh x)
  |some (some (.ow xs))=>.rt (ρ.set i none) (.fr xs)
  |_=>.bad):=rfl
@[simp] theorem MA(me:ag->OE)(ρ:ag):qZ me ρ=((me ρ).bM ρ fun _=>.nx ρ):=rfl
@[simp] theorem Lw(i:Nat)(me:ag->OE)(ρ:ag):fj i me ρ=(match ρ[i]? with
  | some (some (.ow xs))=>(me ρ).bM ρ fun r=>match eX r with
    |some y=>if xs.length<lim then .nx (ρ.set i (some (.ow (xs++[y]))))else .bad
    |none=>.bad
  |_=>.bad):=rfl
@[simp] theorem Lx(i:Nat)(me:ag->OE)(ρ:ag):qR i me ρ=(match ρ[i]? with
  | some (some (.ow xs))=>(me ρ).bM ρ fun r=>match r with
    |.fr ys=>if xs.length+ys.length<=lim then .nx (ρ.set i (some (.ow (xs++ys))))else .bad
    |_=>.bad
  |_=>.bad):=rfl
@[simp] theorem ML(i:Nat)(ml:ag->OE)(mb:ag->OS)(ρ:ag):iQ i ml mb ρ=((ml ρ).bM ρ fun r=>match n6 r with
  |some xs=>gm i mb xs ρ
  |none=>.bad):=rfl
@[simp] theorem Mz(m:ag->OE)(ρ:ag):gB m ρ=((m ρ).bind fun r=>match r.pv with
  |.int i=>.ok (.sh (.int i))
  |_=>.bad):=rfl
@[simp] theorem NC(ma ml mh:ag->OE)(ρ:ag):rY ma ml mh ρ=((ma ρ).bind fun a=>(ml ρ).bind fun l=>(mh ρ).bind fun h=>oE (yy a.pv (lF l.pv) (lF h.pv))):=rfl
@[simp] theorem Fl(ml:ag->OE)(ι:List Nat)(me:ag->OE)(ρ:ag):oR ml ι me ρ=((ml ρ).bind fun r=>match r.pv with
  |.lst xs=>noX (cR me (df ι ρ) xs)
  |_=>.bad):=rfl
@[simp] theorem Mo(mn:ag->OE)(ι:List Nat)(me:ag->OE)(ρ:ag):xK mn ι me ρ=((mn ρ).bind fun r=>match r.pv with
  |.int j=>if -(2 ^ 62)<=j /\ j<2 ^ 62 then noX (cR me (df ι ρ) (iV j.toNat))else .bad
  |_=>.bad):=rfl
@[simp] theorem Ms(c:String)(ma:ag->OA)(ρ:ag):xQ c ma ρ=((ma ρ).bM ρ fun xs=>if xs.length<=lim then .exc ρ c []else .bad):=rfl
@[simp] theorem Ng(mb:ag->OS)(takes:String->Option Bool)(ms:ag->OS)(ρ:ag):Dj mb takes ms ρ=(match mb ρ with
  | .exc ρ' c fs=>(match takes c with
    |some true=>wO (ms ρ')
    |some false=>.exc ρ' c fs
    |none=>.bad)
  |o=>o):=rfl
@[simp] theorem Me(i:Nat)(mb:ag->OS)(takes:String->Option Bool)(ms:ag->OS)(ρ:ag):p0 i mb takes ms ρ=(match mb ρ with
  | .exc ρ' c fs=>(match takes c with
    |some true=>IL i (wO (ms (ρ'.set i (some (.ex c fs)))))
    |some false=>.exc ρ' c fs
    |none=>.bad)
  |o=>o):=rfl
@[simp] theorem Nf(i:Nat)(under:String->Bool)(ρ:ag):DD i under ρ=(match ρ[i]? with
  |some (some (.ex c _))=>if under c=true then .ok (.sh (.bl true))else .bad
  |_=>.bad):=rfl
@[simp] theorem Dv(i:Nat)(m:ag->OS)(ρ:ag):eD i m ρ=(m (oV i ρ)):=rfl
@[simp] theorem NL(i:Nat)(g:PV->PV->Option RV)(me:ag->OE)(ρ:ag):sL i g me ρ=(match ρ[i]? with
  | some (some (.sh x))=>(me ρ).bM ρ fun r=>match g x r.pv with
    |some (.sh z)=>.nx (ρ.set i (some (.sh z)))
    |_=>.bad
  |_=>.bad):=rfl
@[simp] theorem GC(x:PV)(ρ:ag):mC x ρ=.ok (.sh x):=rfl
@[simp] theorem Ei(ρ:ag):aI ρ=.ok []:=rfl
@[simp] theorem ij(r:RV)(f:RV->OE):OE.bind (.ok r) f=f r:=rfl
@[simp] theorem Jp(c:String)(fs:XF)(f:RV->OE):OE.bind (.exc c fs) f=.exc c fs:=rfl
@[simp] theorem I0{p:Prop}[Decidable p](x y:OE)(f:RV->OE):OE.bind (if p then x else y) f=if p then OE.bind x f else OE.bind y f:=by split<;>rfl
@[simp] theorem Kd(r:RV)(f:RV->OT):OE.fD (.ok r) f=f r:=rfl
@[simp] theorem Il(c:String)(fs:XF)(f:RV->OT):OE.fD (.exc c fs) f=.exc c fs:=rfl
@[simp] theorem HK{p:Prop}[Decidable p](x y:OE)(f:RV->OT):OE.fD (if p then x else y) f=if p then OE.fD x f else OE.fD y f:=by split<;>rfl
@[simp] theorem pZ(r:RV)(f:RV->OA):OE.fe (.ok r) f=f r:=rfl
@[simp] theorem HE(c:String)(fs:XF)(f:RV->OA):OE.fe (.exc c fs) f=.exc c fs:=rfl
@[simp] theorem Ic{p:Prop}[Decidable p](x y:OE)(f:RV->OA):OE.fe (if p then x else y) f=if p then OE.fe x f else OE.fe y f:=by split<;>rfl
@[simp] theorem Lq(r:Bool)(f:Bool->OE):OT.bind (.ok r) f=f r:=rfl
@[simp] theorem KP(c:String)(fs:XF)(f:Bool->OE):OT.bind (.exc c fs) f=.exc c fs:=rfl
@[simp] theorem Jj{p:Prop}[Decidable p](x y:OT)(f:Bool->OE):OT.bind (if p then x else y) f=if p then OT.bind x f else OT.bind y f:=by split<;>rfl
@[simp] theorem JZ(r:Bool)(f:Bool->OT):OT.fD (.ok r) f=f r:=rfl
@[simp] theorem HW(c:String)(fs:XF)(f:Bool->OT):OT.fD (.exc c fs) f=.exc c fs:=rfl
@[simp] theorem HI{p:Prop}[Decidable p](x y:OT)(f:Bool->OT):OT.fD (if p then x else y) f=if p then OT.fD x f else OT.fD y f:=by split<;>rfl
@[simp] theorem rP(r:List PV)(f:List PV->OE):OA.bind (.ok r) f=f r:=rfl
@[simp] theorem I9(c:String)(fs:XF)(f:List PV->OE):OA.bind (.exc c fs) f=.exc c fs:=rfl
@[simp] theorem Kc{p:Prop}[Decidable p](x y:OA)(f:List PV->OE):OA.bind (if p then x else y) f=if p then OA.bind x f else OA.bind y f:=by split<;>rfl
@[simp] theorem ql(r:List PV)(f:List PV->OA):OA.fe (.ok r) f=f r:=rfl
@[simp] theorem Iw(c:String)(fs:XF)(f:List PV->OA):OA.fe (.exc c fs) f=.exc c fs:=rfl
@[simp] theorem HH{p:Prop}[Decidable p](x y:OA)(f:List PV->OA):OA.fe (if p then x else y) f=if p then OA.fe x f else OA.fe y f:=by split<;>rfl
@[simp] theorem eL(ρ:ag)(r:RV)(f:RV->OS):OE.bM ρ (.ok r) f=f r:=rfl
@[simp] theorem Hy(ρ:ag)(c:String)(fs:XF)(f:RV->OS):OE.bM ρ (.exc c fs) f=.exc ρ c fs:=rfl
@[simp] theorem HU{p:Prop}[Decidable p](ρ:ag)(x y:OE)(f:RV->OS):OE.bM ρ (if p then x else y) f=if p then OE.bM ρ x f else OE.bM ρ y f:=by split<;>rfl
@[simp] theorem fu(ρ:ag)(r:Bool)(f:Bool->OS):OT.bM ρ (.ok r) f=f r:=rfl
@[simp] theorem Ib(ρ:ag)(c:String)(fs:XF)(f:Bool->OS):OT.bM ρ (.exc c fs) f=.exc ρ c fs:=rfl
@[simp] theorem Hw{p:Prop}[Decidable p](ρ:ag)(x y:OT)(f:Bool->OS):OT.bM ρ (if p then x else y) f=if p then OT.bM ρ x f else OT.bM ρ y f:=by split<;>rfl
@[simp] theorem KN(ρ:ag)(r:List PV)(f:List PV->OS):OA.bM ρ (.ok r) f=f r:=rfl
@[simp] theorem HZ(ρ:ag)(c:String)(fs:XF)(f:List PV->OS):OA.bM ρ (.exc c fs) f=.exc ρ c fs:=rfl
@[simp] theorem HR{p:Prop}[Decidable p](ρ:ag)(x y:OA)(f:List PV->OS):OA.bM ρ (if p then x else y) f=if p then OA.bM ρ x f else OA.bM ρ y f:=by split<;>rfl
@[simp] theorem qm(ρ:ag)(k:ag->OS):(OS.nx ρ).andThen k=k ρ:=rfl
@[simp] theorem o7(ρ:ag)(k:ag->OS):(OS.nx ρ).turn k=k ρ:=rfl
@[simp] theorem Lf(ρ:ag)(k:ag->OS):(OS.bk ρ).andThen k=OS.bk ρ:=rfl
@[simp] theorem MB(ρ:ag)(k:ag->OS):(OS.bk ρ).turn k=.nx ρ:=rfl
@[simp] theorem Jn(ρ:ag)(k:ag->OS):(OS.ct ρ).andThen k=OS.ct ρ:=rfl
@[simp] theorem ME(ρ:ag)(k:ag->OS):(OS.ct ρ).turn k=k ρ:=rfl
@[simp] theorem va(ρ:ag)(r:RV)(k:ag->OS):(OS.rt ρ r).andThen k=OS.rt ρ r:=rfl
@[simp] theorem BB(ρ:ag)(r:RV)(k:ag->OS):(OS.rt ρ r).turn k=OS.rt ρ r:=rfl
@[simp] theorem HY(ρ:ag)(c:String)(fs:XF)(k:ag->OS):(OS.exc ρ c fs).andThen k=OS.exc ρ c fs:=rfl
@[simp] theorem L6(ρ:ag)(c:String)(fs:XF)(k:ag->OS):(OS.exc ρ c fs).turn k=OS.exc ρ c fs:=rfl
@[simp] theorem Ih{p:Prop}[Decidable p](x y:OS)(k:ag->OS):OS.andThen (if p then x else y) k=if p then x.andThen k else y.andThen k:=by split<;>rfl
@[simp] theorem LC{p:Prop}[Decidable p](x y:OS)(k:ag->OS):OS.turn (if p then x else y) k=if p then x.turn k else y.turn k:=by split<;>rfl
@[simp] theorem MZ(ρ:ag):fin (.nx ρ)=.ok (.sh .non):=rfl
@[simp] theorem Nj(ρ:ag)(x:PV):fin (.rt ρ (.sh x))=.ok (.sh x):=rfl
@[simp] theorem Ni(ρ:ag)(x:List PV):fin (.rt ρ (.fr x))=.ok (.fr x):=rfl
@[simp] theorem MK(ρ:ag)(c:String)(fs:XF):fin (.exc ρ c fs)=.exc c fs:=rfl
@[simp] theorem MD{p:Prop}[Decidable p](x y:OS):fin (if p then x else y)=if p then fin x else fin y:=by split<;>rfl
@[simp] theorem Oc(x:PV):RV.pv (.sh x)=x:=rfl
@[simp] theorem HD(x:List PV):RV.pv (.fr x)=.lst x:=rfl
@[simp] theorem HF(x:List PV):RV.pv (.al x)=.lst x:=rfl
@[simp] theorem Ci(r:RV):oE (some r)=.ok r:=rfl
@[simp] theorem Mt(r:Bool):oT (some r)=.ok r:=rfl
@[simp] theorem Lo(i:Nat)(mb:ag->OS)(ρ:ag):gm i mb [] ρ=.nx ρ:=rfl
@[simp] theorem uJ(i:Nat)(mb:ag->OS)(x:PV)(xs:List PV)(ρ:ag):gm i mb (x ::xs) ρ=(mb (ρ.set i (some (.sh x)))).turn (gm i mb xs):=rfl
@[simp] theorem M0(i j:Int):eV (.int i) (.int j)=some (.sh (.int (i+j))):=rfl
@[simp] theorem NQ(i j:Int):tT (.int i) (.int j)=some (.sh (.int (i - j))):=rfl
@[simp] theorem M7(i j:Int):AA (.int i) (.int j)=if((decide (-(2 ^ 64)<i)&&decide (i<2 ^ 64))||(decide (-(2 ^ 64)<j)&&decide (j<2 ^ 64)))=true then some (.sh (.int (i*j)))else none:=rfl
@[simp] theorem NN(i j:Int):Du (.int i) (.int j)=if(decide (0<j)&&decide (j<1073741824))=true then some (.sh (.int (i/j)))else none:=rfl
@[simp] theorem NI(i j:Int):uI (.int i) (.int j)=if decide (0<j)=true then some (.sh (.int (i%j)))else none:=rfl
@[simp] theorem Of(i j:Int):gLt (.int i) (.int j)=some (.sh (.bl (decide (i<j)))):=rfl
@[simp] theorem NX(i j:Int):gLe (.int i) (.int j)=some (.sh (.bl (decide (i<=j)))):=rfl
@[simp] theorem NR(i j:Int):gGt (.int i) (.int j)=some (.sh (.bl (decide (j<i)))):=rfl
@[simp] theorem N3(i j:Int):gGe (.int i) (.int j)=some (.sh (.bl (decide (j<=i)))):=rfl
@[simp] theorem Ob(i j:Int):gEq (.int i) (.int j)=some (.sh (.bl (decide (i=j)))):=rfl
@[simp] theorem N5(i j:Int):gNe (.int i) (.int j)=some (.sh (.bl (!decide (i=j)))):=rfl
@[simp] theorem Oa(i j:Bool):gEq (.bl i) (.bl j)=some (.sh (.bl (decide (i=j)))):=rfl
@[simp] theorem Oe(i j:Bool):gNe (.bl i) (.bl j)=some (.sh (.bl (!decide (i=j)))):=rfl
@[simp] theorem Lg(xs:List PV):ku (.lst xs)=some (.sh (.int xs.length)):=rfl
@[simp] theorem M6(xs:List PV):ku (.tup xs)=some (.sh (.int xs.length)):=rfl
@[simp] theorem Nn(xs:List PV)(i:Int):bR (.lst xs) (.int i)=(atP xs i).map .sh:=rfl
@[simp] theorem MY(xs:List PV)(i:Int):cT (.tup xs) (.int i)=(atP xs i).map .sh:=rfl
@[simp] theorem Nz(xs ys:List PV):gy (.lst xs) (.lst ys)=if xs.length+ys.length<=lim then some (.fr (xs++ys))else none:=rfl
@[simp] theorem Nw{p:Prop}[Decidable p](x y:Option RV):oE (if p then x else y)=if p then oE x else oE y:=by split<;>rfl
@[simp] theorem M5(b:Bool):pq (.bl b)=some b:=rfl
@[simp] theorem MX(i:Int):pq (.int i)=some (i != 0):=rfl
@[simp] theorem Nh(xs:List PV):pq (.lst xs)=some (!xs.isEmpty):=rfl
@[simp] theorem M4(xs:List PV):pq (.tup xs)=some (!xs.isEmpty):=rfl
@[simp] theorem M9:pq .non=some false:=rfl
@[simp] theorem Lu(i:Int):isP "int" (.int i)=some true:=rfl
@[simp] theorem K2(i:Int):isP "bool" (.int i)=some false:=rfl
@[simp] theorem Ju(i:Bool):isP "bool" (.bl i)=some true:=rfl
@[simp] theorem Kt(xs:List PV):isP "list" (.lst xs)=some true:=rfl
@[simp] theorem Lp(xs:List PV):qC (.lst xs)=some (.fr xs):=rfl
@[simp] theorem Lr(xs:List PV):qC (.tup xs)=some (.fr xs):=rfl
@[simp] theorem Nq(xs:List PV)(lo hi:Option Int):yy (.lst xs) lo hi=some (.fr (qy xs lo hi)):=rfl
@[simp] theorem MO:lF .non=none:=rfl
@[simp] theorem MH(i:Int):lF (.int i)=some i:=rfl
@[simp] theorem Nt(i:Int):ua (.int i)=some (.sh (.int (-i))):=rfl
@[simp] theorem MT(i:Int):yY (.int i)=some (.sh (.int i)):=rfl
@[simp] theorem Mx(i:Bool):yY (.bl i)=some (.sh (.int (if i then 1 else 0))):=rfl
@[simp] theorem yE(x:PV):eX (.sh x)=some x:=rfl
@[simp] theorem MF(x:List PV):eX (.fr x)=some (.lst x):=rfl
@[simp] theorem GN(x:PV):gj (.sh x)=some (.sh x):=rfl
@[simp] theorem MJ(x:List PV):gj (.fr x)=some (.ow x):=rfl
@[simp] theorem Mg(np n:Nat)(m:ag->OS)(xs:List PV):fnP np n m xs=if xs.length=np then fin (m (eW n xs))else .bad:=rfl
@[simp] theorem FN(n:Nat)(xs:List PV):eW n xs=xs.map (fun x=>some (.sh x))++List.replicate (n - xs.length) none:=rfl
@[simp] theorem IV(xs:List PV):n6 (.sh (.lst xs))=some xs:=rfl
@[simp] theorem MN(xs:List PV):n6 (.fr xs)=some xs:=rfl
@[simp] theorem Nk(x:PV):vX x .non=some (.sh (.bl (bW x))):=rfl
@[simp] theorem MR(x:PV):nQ x .non=some (.sh (.bl (!bW x))):=rfl
@[simp] theorem Ex(xs:List PV):noX (.ok xs)=if xs.length<=lim then .ok (.fr xs)else .bad:=rfl
@[simp] theorem KH(me:ag->OE)(ρ:ag):cR me ρ []=.ok []:=rfl
@[simp] theorem KO(f:RV->OE):OE.bind .bad f=.bad:=rfl
@[simp] theorem HQ(f:RV->OT):OE.fD .bad f=.bad:=rfl
@[simp] theorem HB(f:RV->OA):OE.fe .bad f=.bad:=rfl
@[simp] theorem IB(f:Bool->OE):OT.bind .bad f=.bad:=rfl
@[simp] theorem HM(f:Bool->OT):OT.fD .bad f=.bad:=rfl
@[simp] theorem Km(f:List PV->OE):OA.bind .bad f=.bad:=rfl
@[simp] theorem HS(f:List PV->OA):OA.fe .bad f=.bad:=rfl
@[simp] theorem H0(ρ:ag)(f:RV->OS):OE.bM ρ .bad f=.bad:=rfl
@[simp] theorem Ie(ρ:ag)(f:Bool->OS):OT.bM ρ .bad f=.bad:=rfl
@[simp] theorem Iv(ρ:ag)(f:List PV->OS):OA.bM ρ .bad f=.bad:=rfl
@[simp] theorem Ig(k:ag->OS):OS.bad.andThen k=.bad:=rfl
@[simp] theorem LJ(k:ag->OS):OS.bad.turn k=.bad:=rfl
@[simp] theorem MC:fin .bad=.bad:=rfl
@[simp] theorem MQ:oE none=.bad:=rfl
@[simp] theorem MG:oT none=.bad:=rfl
@[simp] theorem MV(x:List PV):eX (.al x)=none:=rfl
@[simp] theorem My(x:List PV):gj (.al x)=none:=rfl
@[simp] theorem Od:(0<=lim)=True:=by simp[lim]
@[simp] theorem N4:(1<=lim)=True:=by simp[lim]
@[simp] theorem NY:(2<=lim)=True:=by simp[lim]
@[simp] theorem N7:(3<=lim)=True:=by simp[lim]
@[simp] theorem NV:(4<=lim)=True:=by simp[lim]
@[simp] theorem N8:(5<=lim)=True:=by simp[lim]
@[simp] theorem NT:(6<=lim)=True:=by simp[lim]
@[simp] theorem N9:(7<=lim)=True:=by simp[lim]
@[simp] theorem NU:(8<=lim)=True:=by simp[lim]
@[simp] theorem NZ:(9<=lim)=True:=by simp[lim]
@[simp] theorem NF:(10<=lim)=True:=by simp[lim]
@[simp] theorem Nl:(11<=lim)=True:=by simp[lim]
@[simp] theorem Np:(12<=lim)=True:=by simp[lim]
@[simp] theorem ND:(13<=lim)=True:=by simp[lim]
@[simp] theorem Nd:(14<=lim)=True:=by simp[lim]
@[simp] theorem Na:(15<=lim)=True:=by simp[lim]
@[simp] theorem NK:(16<=lim)=True:=by simp[lim]
theorem cx{n:Nat}(h:n<=1000000):n<=lim:=by unfold lim;omega
theorem yw{n:Nat}(h:n<=1000000):n<lim:=by unfold lim;omega
theorem jf{α:Type}(xs:List α)(k:Nat):atP xs (k:Int)=xs[k]?:=by
 unfold atP ixP
 by_cases h:k<xs.length
 . simp[h]
 . simp[h]
@[simp] theorem NS{α:Type}(xs:List α):atP xs 0=xs[0]?:=jf xs 0
@[simp] theorem N6{α:Type}(xs:List α):atP xs 1=xs[1]?:=jf xs 1
@[simp] theorem Mw{α:Type}(xs:List α)(n:Nat):atP xs (no_index (OfNat.ofNat n:Int))=xs[n]?:=jf xs n
theorem Kg{α:Type}(xs:List α)(i:Int)(h:0<=i):atP xs i=xs[i.toNat]?:=by
 have:=jf xs i.toNat
 rwa [Int.toNat_of_nonneg h]at this
@[simp] theorem NW(T:String)(ma:ag->OE)(ρ:ag):mIs T ma ρ=(ma ρ).bind fun a=>oE ((isP T a.pv).map fun b=>.sh (.bl b)):=rfl
@[simp] theorem Jf(ns:List Int):qw (ns.map .int)=some ns:=by
  induction ns with
  |nil=>rfl
  |cons n ns ih=>show(qw (ns.map .int)).map (n ::·)=_;rw[ih];rfl
@[simp] theorem Ap(ns:List Bool):jV (ns.map .bl)=some ns:=by
  induction ns with
  |nil=>rfl
  |cons n ns ih=>show(jV (ns.map .bl)).map (n ::·)=_;rw[ih];rfl
@[simp] theorem KS(n:Nat):(iV n).length=n:=by simp[iV]
theorem lJ{me:ag->OE}{ρ:ag}{α:Type}{g:α->PV}{f:α->PV}(l:List α)(h:∀ a∈l,me (ρ++[some (.sh (g a))])=.ok (.sh (f a))):cR me ρ (l.map g)=.ok (l.map f):=by
 induction l with
 |nil=>rfl
 | cons a l ih=>
   have h1:=h a (List.mem_cons_self)
   have h2:=ih fun b hb=>h b (List.mem_cons_of_mem _ hb)
   simp[cR,h1,h2]
noncomputable def Gp(i:Nat)(mk mv:ag->OE):ag->OS:=fun ρ=>match ρ[i]? with
 | some (some (.ow xs))=>(mv ρ).bM ρ fun r=>match eX r with
   | some y=>(mk ρ).bM ρ fun kk=>match kk.pv with
     | .int k=>match ixP xs.length k with
       |some j=>.nx (ρ.set i (some (.ow (xs.set j y))))
       |none=>.bad
     |_=>.bad
   |none=>.bad
 |_=>.bad
@[simp] theorem Nx(i:Nat)(mk mv:ag->OE)(ρ:ag):Gp i mk mv ρ=match ρ[i]? with
  | some (some (.ow xs))=>(mv ρ).bM ρ fun r=>match eX r with
    | some y=>(mk ρ).bM ρ fun kk=>match kk.pv with
      | .int k=>match ixP xs.length k with
        |some j=>.nx (ρ.set i (some (.ow (xs.set j y))))
        |none=>.bad
      |_=>.bad
    |none=>.bad
  |_=>.bad:=rfl
end L2.P
namespace L2.P
open PySem PySem.Spec PyProof.Rows L2 L2.E
mutual
noncomputable def Rep(K:PySem.W.Frag)(S:Hp):PV->V->Prop
 |.non,v=>v=.non
 |.bl b,v=>v=.bl b
 |.int i,v=>v=.int i
 |.str s,v=>v=.str s
 |.lst xs,v=>∃ p vs,v=.ref p /\ SqL K S p vs /\ bG K S xs vs
 |.tup xs,v=>∃ p vs,v=.ref p /\ SqT K S p vs /\ bG K S xs vs
noncomputable def bG(K:PySem.W.Frag)(S:Hp):List PV->List V->Prop
 |[],vs=>vs=[]
 |x ::xs,vs=>∃ v r,vs=v ::r /\ Rep K S x v /\ bG K S xs r
end
theorem _root_.L2.aJ.tup{K:PySem.W.Frag}(e:aJ H H')(h:SqT K H a xs):SqT K H' a xs:=by
 rcases h with(h|⟨o,h⟩)|h
 . exact .inl (.inl (e _ _ h))
 . exact .inl (.inr ⟨o,e _ _ h⟩)
 . exact .inr h
section
variable{K:PySem.W.Frag}{S S':Hp}
mutual
theorem Rep.mono(s:aJ S S'):∀{x:PV} {v:V},Rep K S x v->Rep K S' x v
 |.non,_,h=>by unfold Rep at h ⊢;exact h
 |.bl _,_,h=>by unfold Rep at h ⊢;exact h
 |.int _,_,h=>by unfold Rep at h ⊢;exact h
 |.str _,_,h=>by unfold Rep at h ⊢;exact h
 | .lst _,_,h=>by
   unfold Rep at h ⊢
   obtain⟨p,vs,e,q,r⟩:=h
   exact⟨p,vs,e,aJ.seq s q,bG.mono s r⟩
 | .tup _,_,h=>by
   unfold Rep at h ⊢
   obtain⟨p,vs,e,q,r⟩:=h
   exact⟨p,vs,e,aJ.tup s q,bG.mono s r⟩
theorem bG.mono(s:aJ S S'):∀{xs:List PV} {vs:List V},bG K S xs vs->bG K S' xs vs
 |[],_,h=>by unfold bG at h ⊢;exact h
 | _ ::_,_,h=>by
   unfold bG at h ⊢
   obtain⟨v,r,e,q,t⟩:=h
   exact⟨v,r,e,Rep.mono s q,bG.mono s t⟩
end
theorem bG.nil:bG K S [] []:=by unfold bG;rfl
theorem bG.cons(h:Rep K S x v)(t:bG K S xs vs):bG K S (x ::xs) (v ::vs):=by unfold bG;exact⟨v,vs,rfl,h,t⟩
theorem bG.nil_inv(h:bG K S [] vs):vs=[]:=by unfold bG at h;exact h
theorem bG.cons_inv(h:bG K S (x ::xs) vs):∃ v r,vs=v ::r /\ Rep K S x v /\ bG K S xs r:=by unfold bG at h;exact h
theorem bG.append(h:bG K S xs vs)(t:bG K S ys us):bG K S (xs++ys) (vs++us):=by
 induction xs generalizing vs with
 |nil=>rw[h.nil_inv];exact t
 | cons x xs ih=>
   obtain⟨v,r,rfl,q,h'⟩:=h.cons_inv;exact .cons q (ih h')
theorem bG.length{xs:List PV}{vs:List V}(h:bG K S xs vs):vs.length=xs.length:=by
 induction xs generalizing vs with
 |nil=>rw[h.nil_inv];rfl
 | cons x xs ih=>
   obtain⟨v,r,rfl,q,h'⟩:=h.cons_inv;simp[ih h']
theorem bG.get(h:bG K S xs vs):∀{i:Nat} {x:PV},xs[i]?=some x->∃ v,vs[i]?=some v /\ Rep K S x v:=by
 induction xs generalizing vs with
 |nil=>intro i x e;simp at e
 | cons y xs ih=>
   obtain⟨v,r,rfl,q,h'⟩:=h.cons_inv;intro i x e
   cases i with
   |zero=>simp at e;subst e;exact⟨v,rfl,q⟩
   |succ i=>simp at e;obtain⟨u,e1,e2⟩:=ih h' e;exact⟨u,by simpa using e1,e2⟩
theorem bG.EV{xs:List PV}{vs:List V}(h:bG K S xs vs){i:Nat}{v:V}(e:vs[i]?=some v):∃ x,xs[i]?=some x /\ Rep K S x v:=by
 have hi:i<xs.length:=by rw[<- h.length];exact(List.getElem?_eq_some_iff.mp e).1
 obtain⟨u,e1,e2⟩:=h.get (i:=i) (x:=xs[i]) (by simp[hi]);rw[e]at e1;cases e1
 exact⟨_,by simp[hi],e2⟩
theorem bG.take{xs:List PV}{vs:List V}(h:bG K S xs vs):∀ n,bG K S (xs.take n) (vs.take n):=by
 induction xs generalizing vs with
 |nil=>intro n;rw[h.nil_inv];simpa using bG.nil
 | cons y xs ih=>
   obtain⟨v,r,rfl,q,h'⟩:=h.cons_inv;intro n
   cases n with
   |zero=>exact .nil
   |succ n=>exact .cons q (ih h' n)
theorem bG.drop{xs:List PV}{vs:List V}(h:bG K S xs vs):∀ n,bG K S (xs.drop n) (vs.drop n):=by
 induction xs generalizing vs with
 |nil=>intro n;rw[h.nil_inv];simpa using bG.nil
 | cons y xs ih=>
   obtain⟨v,r,rfl,q,h'⟩:=h.cons_inv;intro n
   cases n with
   |zero=>exact .cons q h'
   |succ n=>exact ih h' n
theorem bG.ints{ns:List Int}:bG K S (ns.map .int) (ns.map V.int):=by
 induction ns with
 |nil=>exact .nil
 |cons n ns ih=>exact .cons (by unfold Rep;rfl) ih
theorem bG.zX{ns:List Int}(h:bG K S (ns.map .int) vs):vs=ns.map V.int:=by
 induction ns generalizing vs with
 |nil=>exact h.nil_inv
 | cons n ns ih=>
   obtain⟨v,r,rfl,q,h'⟩:=h.cons_inv;unfold Rep at q;rw[ih h',q];rfl
theorem bG.set{xs:List PV}{vs:List V}(h:bG K S xs vs)(q:Rep K S x v):∀ i,bG K S (xs.set i x) (vs.set i v):=by
 induction xs generalizing vs with
 |nil=>intro i;rw[h.nil_inv];exact .nil
 | cons y xs ih=>
   obtain⟨u,r,rfl,qu,h'⟩:=h.cons_inv;intro i
   cases i with
   |zero=>exact .cons q h'
   |succ i=>exact .cons qu (ih h' i)
end
noncomputable def oy(K:PySem.W.Frag)(cls:String->Option Addr)(S H:Hp)(c:String)(fs:XF)(a C:Addr):Prop:=
 cls c=some C /\ ∃ dx,H a=some (se a C dx) /\ (fs=[] \/ ∃ d us,dx=some d /\ H d=some (.xd us) /\ fs.map (·.1)=us.map (·.1) /\ bG K S (fs.map (·.2)) (us.map (·.2)))
noncomputable def isX:HO->Bool
 |.ext _=>true
 |.xd _=>true
 |_=>false
noncomputable def EU(K:PySem.W.Frag)(S:Hp)(kvs:List (Int×PV))(us:List (Key×V)):Prop:=Paired (fun (p:Int×PV) (q:Key×V)=>q.1=Sum.inl p.1 /\ Rep K S p.2 q.2) kvs us
noncomputable def zF(K:PySem.W.Frag)(S:Hp)(kvs:List (List Int×PV))(us:List (List Key×V)):Prop:=Paired (fun (p:List Int×PV) (q:List Key×V)=>q.1=p.1.map Sum.inl /\ Rep K S p.2 q.2) kvs us
theorem EU.mono{K:PySem.W.Frag}(s:aJ S S'):∀{kvs:List (Int×PV)} {us:List (Key×V)},EU K S kvs us->EU K S' kvs us
 |_,_,.nil=>.nil
 |_,_,.cons h t=>.cons ⟨h.1,Rep.mono s h.2⟩ (EU.mono s t)
theorem zF.mono{K:PySem.W.Frag}(s:aJ S S'):∀{kvs:List (List Int×PV)} {us:List (List Key×V)},zF K S kvs us->zF K S' kvs us
 |_,_,.nil=>.nil
 |_,_,.cons h t=>.cons ⟨h.1,Rep.mono s h.2⟩ (zF.mono s t)
mutual
noncomputable def bO(K:PySem.W.Frag)(cls:String->Option Addr)(S H:Hp):OV->V->List Addr->Prop
 |.sh x,v,fp=>fp=[] /\ Rep K S x v
 |.ol ts,v,fp=>∃ p vs f,v=.ref p /\ H p=some (.lst vs) /\ fp=p ::f /\ bH K cls S H ts vs f
 |.ob c ks ts,v,fp=>∃ p C dx us f,v=.ref p /\ cls c=some C /\ H p=some (.ins C dx us) /\ H dx=some (.own p) /\ us.map (·.1)=ks /\ fp=p ::dx ::f /\ bH K cls S H ts (us.map (·.2)) f
 |.di kvs,v,fp=>∃ p us,v=.ref p /\ H p=some (.dK us) /\ fp=[p] /\ EU K S kvs us
 |.dt kvs,v,fp=>∃ p us,v=.ref p /\ H p=some (.dT us) /\ fp=[p] /\ zF K S kvs us
noncomputable def bH(K:PySem.W.Frag)(cls:String->Option Addr)(S H:Hp):List OV->List V->List Addr->Prop
 |[],vs,fp=>vs=[] /\ fp=[]
 |t ::ts,vs,fp=>∃ v r f1 f2,vs=v ::r /\ fp=f1++f2 /\ bO K cls S H t v f1 /\ bH K cls S H ts r f2
end
noncomputable def t5(K:PySem.W.Frag)(cls:String->Option Addr)(Av G S H:Hp)(i:Nat):Sl->V->List Addr->Prop
 |.sh x,v,fp=>fp=[] /\ Rep K S x v
 |.ow xs,v,fp=>∃ p vs,v=.ref p /\ fp=[p] /\ G p=none /\ S p=none /\ H p=some (.lst vs) /\ bG K S xs vs
 |.ex c fs,v,fp=>fp=[] /\ ∃ a C,v=.ref a /\ oy K cls S H c fs a C
 |.tr io t,v,fp=>bO K cls S H t v fp /\ fp.Nodup /\ (∀ a∈fp,G a=none /\ S a=none) /\ (io=true->Av i=some (.lst [v]))
 |.bo t,v,fp=>fp=[] /\ ∃ f,bO K cls S G t v f
noncomputable def Im(K:PySem.W.Frag)(cls:String->Option Addr)(G S H:Hp):Sl->V->Prop
 |.sh x,v=>Rep K S x v
 |.ow xs,v=>∃ p vs,v=.ref p /\ G p=none /\ S p=none /\ H p=some (.lst vs) /\ bG K S xs vs
 |.ex c fs,v=>∃ a C,v=.ref a /\ oy K cls S H c fs a C
 |_,_=>True
noncomputable def kY(K:PySem.W.Frag)(B S H:Hp):RV->V->Prop
 |.sh x,v=>Rep K S x v
 |.fr xs,v=>∃ p vs,v=.ref p /\ B p=none /\ S p=none /\ H p=some (.lst vs) /\ bG K S xs vs
 |.al xs,v=>∃ p vs,v=.ref p /\ SqL K H p vs /\ bG K S xs vs
noncomputable def RdV(K:PySem.W.Frag)(S H:Hp):PV->V->Prop
 |.lst xs,v=>∃ p vs,v=.ref p /\ SqL K H p vs /\ bG K S xs vs
 |x,v=>Rep K S x v
structure SRF(K:PySem.W.Frag)(cls:String->Option Addr)(Av G S₀:Hp)(ρ:ag)(σ:St)(S H:Hp)(F:Nat->List Addr):Prop where
 gh:aJ G H
 s0:aJ S₀ S
 sh:aJ S H
 new:∀ b,S b≠none->S₀ b≠none \/ G b=none
 own:∀(i:Nat) (s:Sl),ρ[i]?=some (some s)->∃ v,σ[i]?=some (some v) /\ t5 K cls Av G S H i s v (F i)
 apart:∀ i j a,a∈F i->a∈F j->i=j
 live:∀ i a,a∈F i->(∃ o,H a=some o /\ isX o=false) /\ G a=none /\ S a=none
 len:ρ.length=σ.length
noncomputable def SR(K:PySem.W.Frag)(cls:String->Option Addr)(Av G S₀:Hp)(ρ:ag)(σ:St)(S H:Hp):Prop:=∃ F,SRF K cls Av G S₀ ρ σ S H F
section
variable{K:PySem.W.Frag}{cls:String->Option Addr}{Av G S₀ S S' H H' B:Hp}{ρ:ag}{σ:St}{F:Nat->List Addr}
theorem SR.gh(I:SR K cls Av G S₀ ρ σ S H):aJ G H:=let ⟨_,J⟩:=I;J.gh
theorem SR.s0(I:SR K cls Av G S₀ ρ σ S H):aJ S₀ S:=let ⟨_,J⟩:=I;J.s0
theorem SR.sh(I:SR K cls Av G S₀ ρ σ S H):aJ S H:=let ⟨_,J⟩:=I;J.sh
theorem SR.new(I:SR K cls Av G S₀ ρ σ S H):∀ b,S b≠none->S₀ b≠none \/ G b=none:=let ⟨_,J⟩:=I;J.new
theorem SR.len(I:SR K cls Av G S₀ ρ σ S H):ρ.length=σ.length:=let ⟨_,J⟩:=I;J.len
theorem t5.one(h:t5 K cls Av G S H i s v fp):Im K cls G S H s v:=by
 cases s with
 |sh x=>exact h.2
 |ow xs=>obtain⟨p,vs,e,_,r⟩:=h;exact⟨p,vs,e,r⟩
 |ex c fs=>exact h.2
 |tr io t=>trivial
 |bo t=>trivial
theorem SR.good(I:SR K cls Av G S₀ ρ σ S H)(i:Nat)(s:Sl)(e:ρ[i]?=some (some s)):∃ v,σ[i]?=some (some v) /\ Im K cls G S H s v:=by
 obtain⟨F,J⟩:=I;obtain⟨v,e1,r⟩:=J.own i s e
 exact⟨v,e1,r.one⟩
theorem oy.mono(h:oy K cls S H c fs a C)(s:aJ S S')(g:aJ H H'):oy K cls S' H' c fs a C:=by
 obtain⟨h1,dx,h2,h3⟩:=h
 refine⟨h1,dx,g _ _ h2,?_⟩
 rcases h3 with h3|⟨d,us,e1,e2,e3,e4⟩
 . exact .inl h3
 . exact .inr ⟨d,us,e1,g _ _ e2,e3,e4.mono s⟩
theorem oy.Ml(h:oy K cls S H c fs a C)(s:aJ S S')(g:∀ b o,isX o=true->H b=some o->H' b=some o):oy K cls S' H' c fs a C:=by
 obtain⟨h1,dx,h2,h3⟩:=h
 refine⟨h1,dx,g _ _ rfl h2,?_⟩
 rcases h3 with h3|⟨d,us,e1,e2,e3,e4⟩
 . exact .inl h3
 . exact .inr ⟨d,us,e1,g _ _ rfl e2,e3,e4.mono s⟩
mutual
theorem bO.mono(s:aJ S S'):∀{t:OV} {v:V} {fp:List Addr},bO K cls S H t v fp->(∀ a∈fp,∀ o,H a=some o->H' a=some o)->bO K cls S' H' t v fp
 |.sh _,_,_,h,_=>by unfold bO at h ⊢;exact⟨h.1,Rep.mono s h.2⟩
 | .ol _,_,_,h,g=>by
   unfold bO at h ⊢
   obtain⟨p,vs,f,e,q,e2,r⟩:=h;subst e2
   exact⟨p,vs,f,e,g p (by simp) _ q,rfl,bH.mono s r fun a ha=>g a (by simp[ha])⟩
 | .ob _ _ _,_,_,h,g=>by
   unfold bO at h ⊢
   obtain⟨p,C,dx,us,f,e,c,q,q2,k,e2,r⟩:=h;subst e2
   exact⟨p,C,dx,us,f,e,c,g p (by simp) _ q,g dx (by simp) _ q2,k,rfl,bH.mono s r fun a ha=>g a (by simp[ha])⟩
 | .di _,_,_,h,g=>by
   unfold bO at h ⊢
   obtain⟨p,us,e,q,e2,r⟩:=h;subst e2
   exact⟨p,us,e,g p (by simp) _ q,rfl,r.mono s⟩
 | .dt _,_,_,h,g=>by
   unfold bO at h ⊢
   obtain⟨p,us,e,q,e2,r⟩:=h;subst e2
   exact⟨p,us,e,g p (by simp) _ q,rfl,r.mono s⟩
theorem bH.mono(s:aJ S S'):∀{ts:List OV} {vs:List V} {fp:List Addr},bH K cls S H ts vs fp->(∀ a∈fp,∀ o,H a=some o->H' a=some o)->bH K cls S' H' ts vs fp
 |[],_,_,h,_=>by unfold bH at h ⊢;exact h
 | _ ::_,_,_,h,g=>by
   unfold bH at h ⊢
   obtain⟨v,r,f1,f2,e,e2,q,t⟩:=h;subst e2
   exact⟨v,r,f1,f2,e,rfl,bO.mono s q fun a ha=>g a (List.mem_append_left _ ha),bH.mono s t fun a ha=>g a (List.mem_append_right _ ha)⟩
end
mutual
theorem bO.live:∀{t:OV} {v:V} {fp:List Addr},bO K cls S H t v fp->∀ a∈fp,∃ o,H a=some o /\ isX o=false
 |.sh _,_,_,h,a,ha=>by unfold bO at h;rw[h.1]at ha;cases ha
 | .ol _,_,_,h,a,ha=>by
   unfold bO at h;obtain⟨p,vs,f,e,q,e2,r⟩:=h;subst e2
   rcases List.mem_cons.mp ha with z|z
   . subst z;exact⟨_,q,rfl⟩
   . exact bH.live r a z
 | .ob _ _ _,_,_,h,a,ha=>by
   unfold bO at h;obtain⟨p,C,dx,us,f,e,c,q,q2,k,e2,r⟩:=h;subst e2
   rcases List.mem_cons.mp ha with z|z
   . subst z;exact⟨_,q,rfl⟩
   . rcases List.mem_cons.mp z with z|z
     . subst z;exact⟨_,q2,rfl⟩
     . exact bH.live r a z
 | .di _,_,_,h,a,ha=>by
   unfold bO at h;obtain⟨p,us,e,q,e2,r⟩:=h;subst e2
   have z:a=p:=by simpa using ha
   subst z
   exact⟨_,q,rfl⟩
 | .dt _,_,_,h,a,ha=>by
   unfold bO at h;obtain⟨p,us,e,q,e2,r⟩:=h;subst e2
   have z:a=p:=by simpa using ha
   subst z
   exact⟨_,q,rfl⟩
theorem bH.live:∀{ts:List OV} {vs:List V} {fp:List Addr},bH K cls S H ts vs fp->∀ a∈fp,∃ o,H a=some o /\ isX o=false
 |[],_,_,h,a,ha=>by unfold bH at h;rw[h.2]at ha;cases ha
 | _ ::_,_,_,h,a,ha=>by
   unfold bH at h;obtain⟨v,r,f1,f2,e,e2,q,t⟩:=h;subst e2
   rcases List.mem_append.mp ha with z|z
   . exact bO.live q a z
   . exact bH.live t a z
end
theorem t5.mono(h:t5 K cls Av G S H i sl v fp)(s:aJ S S')(g:∀ a∈fp,∀ o,H a=some o->H' a=some o)(x:∀ b o,isX o=true->H b=some o->H' b=some o)(n:∀ a∈fp,S' a=none):t5 K cls Av G S' H' i sl v fp:=by
 cases sl with
 |sh y=>exact⟨h.1,Rep.mono s h.2⟩
 | ow xs=>
   obtain⟨p,vs,e,e2,h1,h2,h3,h4⟩:=h;subst e2
   exact⟨p,vs,e,rfl,h1,n p (by simp),g p (by simp) _ h3,h4.mono s⟩
 |ex c fs=>obtain⟨e,a,C,e2,q⟩:=h;exact⟨e,a,C,e2,q.Ml s x⟩
 |tr io t=>exact⟨h.1.mono s g,h.2.1,fun a ha=>⟨(h.2.2.1 a ha).1,n a ha⟩,h.2.2.2⟩
 |bo t=>obtain⟨e,f,r⟩:=h;exact⟨e,f,r.mono s fun _ _ _ z=>z⟩
theorem RdV.mono(h:RdV K S H x v)(s:aJ S S')(g:aJ H H'):RdV K S' H' x v:=by
 cases x with
 |lst xs=>obtain⟨p,vs,e,q,r⟩:=h;exact⟨p,vs,e,aJ.seq g q,r.mono s⟩
 |non=>exact Rep.mono s h
 |bl b=>exact Rep.mono s h
 |int i=>exact Rep.mono s h
 |str x=>exact Rep.mono s h
 |tup xs=>exact Rep.mono s h
theorem Rep.rd(h:Rep K S x v)(g:aJ S H):RdV K S H x v:=by
 cases x with
 |lst xs=>unfold Rep at h;obtain⟨p,vs,e,q,r⟩:=h;exact⟨p,vs,e,aJ.seq g q,r⟩
 |non=>exact h
 |bl b=>exact h
 |int i=>exact h
 |str x=>exact h
 |tup xs=>exact h
theorem kY.rd{r:RV}(h:kY K B S H r v)(g:aJ S H):RdV K S H r.pv v:=by
 cases r with
 |sh x=>exact Rep.rd h g
 |fr xs=>obtain⟨p,vs,e,_,_,q,r⟩:=h;exact⟨p,vs,e,SqL.new q,r⟩
 |al xs=>exact h
theorem SRF.change(I:SRF K cls Av G S₀ ρ σ S H F)(gh:aJ G H')(s:aJ S S')(sh:aJ S' H')(new:∀ b,S' b≠none->S₀ b≠none \/ G b=none)
  (g:∀ i a,a∈F i->∀ o,H a=some o->H' a=some o) (x:∀ b o,isX o=true->H b=some o->H' b=some o) (n:∀ i a,a∈F i->S' a=none):SRF K cls Av G S₀ ρ σ S' H' F where
 gh:=gh
 s0:=I.s0.trans s
 sh:=sh
 new:=new
 own:=fun i t e=>by
  obtain⟨v,e1,r⟩:=I.own i t e
  exact⟨v,e1,r.mono s (fun a ha=>g i a ha) x fun a ha=>n i a ha⟩
 apart:=I.apart
 live:=fun i a ha=>by
  obtain⟨⟨o,h1,h2⟩,h3,_⟩:=I.live i a ha
  exact⟨⟨o,g i a ha o h1,h2⟩,h3,n i a ha⟩
 len:=I.len
theorem SRF.same(I:SRF K cls Av G S₀ ρ σ S H F)(g:aJ H H'):SRF K cls Av G S₀ ρ σ S H' F:=
 I.change (I.gh.trans g) (aJ.refl _) (I.sh.trans g) I.new (fun _ _ _ o e=>g _ _ e) (fun _ _ _ e=>g _ _ e) fun i a ha=>(I.live i a ha).2.2
theorem SR.same(I:SR K cls Av G S₀ ρ σ S H)(g:aJ H H'):SR K cls Av G S₀ ρ σ S H':=let ⟨F,J⟩:=I;⟨F,J.same g⟩
theorem set_inv{α:Type}{l:List (Option α)}{x:Option α}{s:α}(h:(l.set i x)[j]?=some (some s)):(j=i /\ x=some s /\ i<l.length) \/ (j≠i /\ l[j]?=some (some s)):=by
 by_cases e:j=i
 . subst e;rw[List.getElem?_set]at h;simp only[if_true]at h;split at h
   . rename_i hl;exact .inl ⟨rfl,Option.some.inj h,hl⟩
   . cases h
 . rw[List.getElem?_set_ne (Ne.symm e)]at h;exact .inr ⟨e,h⟩
theorem Js{α:Type}{l:List (Option α)}{x:Option α}(h:i<l.length):(l.set i x)[i]?=some x:=by
 rw[List.getElem?_set];simp[h]
noncomputable def pb(F:Nat->List Addr)(i:Nat)(fp:List Addr):Nat->List Addr:=fun j=>if j=i then fp else F j
theorem je:pb F i fp i=fp:=by unfold pb;rw[if_pos rfl]
theorem ft(h:j≠i):pb F i fp j=F j:=by unfold pb;rw[if_neg h]
theorem SRF.put(I:SRF K cls Av G S₀ ρ σ S H F)(h:∀ t,s=some t->∃ v,u=some v /\ t5 K cls Av G S H i t v fp)
  (hl:∀ a∈fp,(∃ o,H a=some o /\ isX o=false) /\ G a=none /\ S a=none) (ap:∀ j a,j≠i->a∈fp->a∉F j):SRF K cls Av G S₀ (ρ.set i s) (σ.set i u) S H (pb F i fp) where
 gh:=I.gh
 s0:=I.s0
 sh:=I.sh
 new:=I.new
 own:=fun j t e=>by
  rcases set_inv e with⟨rfl,e1,hl⟩|⟨ne,e1⟩
  . obtain⟨v,e2,r⟩:=h t e1
    exact⟨v,by rw[Js (by rw[<- I.len];exact hl),e2],by rw[je];exact r⟩
  . rw[List.getElem?_set_ne (Ne.symm ne),ft ne];exact I.own j t e1
 apart:=fun j k a h1 h2=>by
  by_cases ej:j=i
  . by_cases ek:k=i
    . rw[ej,ek]
    . subst ej;rw[je]at h1;rw[ft ek]at h2;exact absurd h2 (ap k a ek h1)
  . by_cases ek:k=i
    . subst ek;rw[je]at h2;rw[ft ej]at h1;exact absurd h1 (ap j a ej h2)
    . rw[ft ej]at h1;rw[ft ek]at h2;exact I.apart j k a h1 h2
 live:=fun j a ha=>by
  by_cases ej:j=i
  . subst ej;rw[je]at ha;exact hl a ha
  . rw[ft ej]at ha;exact I.live j a ha
 len:=by simp[I.len]
theorem SR.y8(I:SR K cls Av G S₀ ρ σ S H)(h:Rep K S x v):SR K cls Av G S₀ (ρ.set i (some (.sh x))) (σ.set i (some v)) S H:=by
 obtain⟨F,J⟩:=I
 exact⟨_,J.put (fp:=[]) (fun t e=>by cases e;exact⟨v,rfl,rfl,h⟩) (fun a ha=>nomatch ha) fun j a _ ha=>nomatch ha⟩
theorem SR.Ce(I:SR K cls Av G S₀ ρ σ S H):SR K cls Av G S₀ (ρ.set i none) (σ.set i v) S H:=by
 obtain⟨F,J⟩:=I
 exact⟨_,J.put (fp:=[]) (fun t e=>nomatch e) (fun a ha=>nomatch ha) fun j a _ ha=>nomatch ha⟩
theorem lH{α:Type}{l:List α}{x:α}(h:l[i]?=some x):l.set i x=l:=by
 apply List.ext_getElem?;intro j
 by_cases e:i=j
 . subst e;rw[List.getElem?_set,if_pos rfl,if_pos (List.getElem?_eq_some_iff.mp h).1,h]
 . rw[List.getElem?_set_ne e]
theorem SR.drop(I:SR K cls Av G S₀ ρ σ S H):SR K cls Av G S₀ (ρ.set i none) σ S H:=by
 cases e:σ[i]? with
 |some v=>have:=I.Ce (i:=i) (v:=v);rwa [lH e]at this
 | none=>
   have h1:σ.length<=i:=List.getElem?_eq_none_iff.mp e
   rw[List.set_eq_of_length_le (by rw[I.len];exact h1)];exact I
theorem SR.Mq(I:SR K cls Av G S₀ ρ σ S H)(h:oy K cls S H c fs a C):SR K cls Av G S₀ (ρ.set i (some (.ex c fs))) (σ.set i (some (.ref a))) S H:=by
 obtain⟨F,J⟩:=I
 exact⟨_,J.put (fp:=[]) (fun t e=>by cases e;exact⟨.ref a,rfl,rfl,a,C,rfl,h⟩) (fun a ha=>nomatch ha) fun j a _ ha=>nomatch ha⟩
theorem SR.mut(I:SR K cls Av G S₀ ρ σ S H)(hi:ρ[i]?=some (some (.ow xs)))(hv:σ[i]?=some (some (.ref p)))(hr:bG K S ys us):SR K cls Av G S₀ (ρ.set i (some (.ow ys))) σ S (upd H p (.lst us)):=by
 obtain⟨F,J⟩:=I;obtain⟨v,e1,q,vs,e2,e3,hG,hS,hH,_⟩:=J.own i _ hi;rw[hv]at e1;cases e1;cases e2
 have J1:SRF K cls Av G S₀ (ρ.set i none) (σ.set i none) S H (pb F i []):=J.put (fun t e=>nomatch e) (fun a ha=>nomatch ha) fun j a _ ha=>nomatch ha
 have off:∀ j a,a∈pb F i [] j->a≠p:=fun j a ha z=>by
  by_cases ej:j=i
  . subst ej;rw[je]at ha;cases ha
  . rw[ft ej]at ha;exact ej (J.apart j i a ha (by rw[e3,z];simp))
 have J2:=J1.change (H':=upd H p (.lst us)) (J.gh.upd hG) (aJ.refl _) (J.sh.upd hS) J.new (fun j a ha o h=>by rw[bf (off j a ha)];exact h)
  (fun b o hx h=>by
    rw[bf]
    . exact h
    . intro z;rw[z,hH]at h;cases h;cases hx)
  fun j a ha=>(J1.live j a ha).2.2
 have J3:=J2.put (i:=i) (s:=some (.ow ys)) (u:=some (.ref p)) (fp:=[p]) (fun t e=>by cases e;exact⟨_,rfl,p,us,rfl,rfl,hG,hS,bz,hr⟩) (fun a ha=>by
  have z:a=p:=by simpa using ha
  subst z
  exact⟨⟨_,bz,rfl⟩,hG,hS⟩) fun j a hj ha hz=>by
   have z:a=p:=by simpa using ha
   exact off j a hz z
 rw[List.set_set,List.set_set,lH hv]at J3
 exact⟨_,J3⟩
theorem SR.LX(I:SR K cls Av G S₀ ρ σ S H)(hi:ρ[i]?=some (some (.ow xs))):∃ S',aJ S S' /\ SR K cls Av G S₀ (ρ.set i (some (.sh (.lst xs)))) σ S' H:=by
 obtain⟨F,J⟩:=I;obtain⟨v,hv,p,vs,e2,e3,hG,hS,hH,hr⟩:=J.own i _ hi;subst e2
 have J1:SRF K cls Av G S₀ (ρ.set i none) (σ.set i none) S H (pb F i []):=J.put (fun t e=>nomatch e) (fun a ha=>nomatch ha) fun j a _ ha=>nomatch ha
 have off:∀ j a,a∈pb F i [] j->a≠p:=fun j a ha z=>by
  by_cases ej:j=i
  . subst ej;rw[je]at ha;cases ha
  . rw[ft ej]at ha;exact ej (J.apart j i a ha (by rw[e3,z];simp))
 have J2:=J1.change (S':=upd S p (.lst vs)) (H':=H) J.gh (aJ.new hS) (fun b u h=>by
   by_cases e:b=p
   . subst e;rw[bz]at h;cases h;exact hH
   . rw[bf e]at h;exact J.sh b u h) (fun b h=>by
   by_cases e:b=p
   . subst e;exact .inr hG
   . rw[bf e]at h;exact J.new b h) (fun _ _ _ _ h=>h) (fun _ _ _ h=>h) fun j a ha=>by
     rw[bf (off j a ha)];exact(J1.live j a ha).2.2
 have J3:=J2.put (i:=i) (s:=some (.sh (.lst xs))) (u:=some (.ref p)) (fp:=[]) (fun t e=>by
  cases e
  refine⟨_,rfl,rfl,?_⟩
  unfold Rep
  exact⟨p,vs,rfl,SqL.new bz,hr.mono (aJ.new hS)⟩) (fun a ha=>nomatch ha) fun j a _ ha=>nomatch ha
 rw[List.set_set,List.set_set,lH hv]at J3
 exact⟨_,aJ.new hS,_,J3⟩
end
structure bg(S H S' H':Hp):Prop where
 s:aJ S S'
 g:aJ H H'
 sh:aJ S' H'
 new:∀ b,S' b≠none->S b≠none \/ H b=none
theorem bg.refl(h:aJ S H):bg S H S H:=⟨aJ.refl _,aJ.refl _,h,fun _ z=>.inl z⟩
theorem bg.trans(a:bg S H S1 H1)(b:bg S1 H1 S2 H2):bg S H S2 H2:=
 ⟨a.s.trans b.s,a.g.trans b.g,b.sh,fun x h=>by
   rcases b.new x h with z|z
   . exact a.new x z
   . exact .inr (a.g.free z)⟩
theorem SRF.grow{K:PySem.W.Frag}{cls:String->Option Addr}{F:Nat->List Addr}(I:SRF K cls Av G S₀ ρ σ S H F)(w:bg S H S' H'):SRF K cls Av G S₀ ρ σ S' H' F:=
 I.change (I.gh.trans w.g) w.s w.sh (fun b h=>by
  rcases w.new b h with z|z
  . exact I.new b z
  . exact .inr (I.gh.free z)) (fun i a _ o h=>w.g _ _ h) (fun b o _ h=>w.g _ _ h) fun i a ha=>by
    obtain⟨⟨o,h1,_⟩,_,h3⟩:=I.live i a ha
    cases q:S' a with
    |none=>rfl
    | some o=>
      rcases w.new a (by rw[q];simp)with z|z
      . exact absurd h3 z
      . rw[h1]at z;cases z
theorem SR.grow{K:PySem.W.Frag}{cls:String->Option Addr}(I:SR K cls Av G S₀ ρ σ S H)(w:bg S H S' H'):SR K cls Av G S₀ ρ σ S' H':=let ⟨F,J⟩:=I;⟨F,J.grow w⟩
theorem SR.LG{K:PySem.W.Frag}{cls:String->Option Addr}{ρ:ag}{σ:St}(I:SR K cls Av G S₀ ρ σ S H)(w:bg S H S' H')(h:kY K H S' H' (.fr xs) v):SR K cls Av G S₀ (ρ.set i (some (.ow xs))) (σ.set i (some v)) S' H':=by
 obtain⟨F,J⟩:=I;obtain⟨p,vs,rfl,hB,hS,hH,hr⟩:=h;have hG:=J.gh.free hB
 refine⟨_,(J.grow w).put (fp:=[p]) (fun t e=>by cases e;exact⟨_,rfl,p,vs,rfl,rfl,hG,hS,hH,hr⟩) (fun a ha=>?_) fun j a _ ha hz=>?_⟩
 . have z:a=p:=by simpa using ha
   subst z
   exact⟨⟨_,hH,rfl⟩,hG,hS⟩
 . have z:a=p:=by simpa using ha
   subst z;obtain⟨⟨o,h1,_⟩,_⟩:=J.live j a hz;rw[hB]at h1;cases h1
theorem bg.heap(h:aJ S H)(hp:H p=none):bg S H S (upd H p o):=⟨aJ.refl _,aJ.new hp,h.trans (aJ.new hp),fun _ z=>.inl z⟩
theorem bg.both(h:aJ S H)(hp:H p=none):bg S H (upd S p o) (upd H p o):=by
 have hS:=h.free hp
 refine⟨aJ.new hS,aJ.new hp,fun b u z=>?_,fun b z=>?_⟩
 . by_cases e:b=p
   . subst e;rw[bz]at z ⊢;exact z
   . rw[bf e]at z ⊢;exact h b u z
 . by_cases e:b=p
   . subst e;exact .inr hp
   . rw[bf e]at z;exact .inl z
section
variable(K:PySem.W.Frag)(cls:String->Option Addr)(W:XW)
noncomputable def kG(σ:St)(S H:Hp)(Q:VK):OE->Prop
 |.ok r=>∀ v S' H',bg S H S' H'->kY K H S' H' r v->Q v H'
 |.exc c fs=>∀ a C S' H',bg S H S' H'->oy K cls S' H' c fs a C->W (.ref C) (some a) σ H'
 |.bad=>False
noncomputable def sV(σ:St)(S H:Hp)(Q:Bool->Hp->Prop):OT->Prop
 |.ok b=>∀ S' H',bg S H S' H'->Q b H'
 |.exc c fs=>∀ a C S' H',bg S H S' H'->oy K cls S' H' c fs a C->W (.ref C) (some a) σ H'
 |.bad=>False
noncomputable def wK(σ:St)(S H:Hp)(Q:List V->Hp->Prop):OA->Prop
 |.ok xs=>∀ vs S' H',bg S H S' H'->bG K S' xs vs->Q vs H'
 |.exc c fs=>∀ a C S' H',bg S H S' H'->oy K cls S' H' c fs a C->W (.ref C) (some a) σ H'
 |.bad=>False
noncomputable def eP(Av G S₀:Hp)(S:Hp)(D:Ends):OS->Prop
 |.nx ρ=>∀ σ' S' H',SR K cls Av G S₀ ρ σ' S' H'->aJ S S'->D.nx σ' H'
 |.bk ρ=>∀ σ' S' H',SR K cls Av G S₀ ρ σ' S' H'->aJ S S'->D.bk σ' H'
 |.ct ρ=>∀ σ' S' H',SR K cls Av G S₀ ρ σ' S' H'->aJ S S'->D.ct σ' H'
 |.rt ρ r=>∀ v σ' S' H',SR K cls Av G S₀ ρ σ' S' H'->aJ S S'->kY K G S' H' r v->D.rt v H'
 |.exc ρ c fs=>∀ a C σ' S' H',SR K cls Av G S₀ ρ σ' S' H'->aJ S S'->oy K cls S' H' c fs a C->W (.ref C) (some a) σ' H'
 |.bad=>False
noncomputable def JE(te:TE)(m:ag->OE):Prop:=∀ Av G S₀ ρ σ S H Q,SR K cls Av G S₀ ρ σ S H->kG K cls W σ S H Q (m ρ)->te σ H Q
noncomputable def JT(te:TT)(m:ag->OT):Prop:=∀ Av G S₀ ρ σ S H Q,SR K cls Av G S₀ ρ σ S H->sV K cls W σ S H Q (m ρ)->te σ H Q
noncomputable def JA(te:TA)(m:ag->OA):Prop:=∀ Av G S₀ ρ σ S H Q,SR K cls Av G S₀ ρ σ S H->wK K cls W σ S H Q (m ρ)->te σ H Q
noncomputable def JS(ts:TS)(m:ag->OS):Prop:=∀ Av G S₀ ρ σ S H D,SR K cls Av G S₀ ρ σ S H->eP K cls W Av G S₀ S D (m ρ)->ts D σ H
end
section
variable{K:PySem.W.Frag}{cls:String->Option Addr}{W:XW}{Av G S₀ S S' H H' B B':Hp}{ρ:ag}{σ:St}{Q:VK}
theorem kY.back(h:kY K B' S H r v)(g:aJ B B'):kY K B S H r v:=by
 cases r with
 |sh x=>exact h
 |fr xs=>obtain⟨p,vs,e,h1,h2⟩:=h;exact⟨p,vs,e,g.free h1,h2⟩
 |al xs=>exact h
theorem kG.back(w:bg S H S1 H1)(h:kG K cls W σ S H Q o):kG K cls W σ S1 H1 Q o:=by
 cases o with
 |ok r=>exact fun v S' H' w' r=>h v S' H' (w.trans w') (r.back w.g)
 |exc c fs=>exact fun a C S' H' w' r=>h a C S' H' (w.trans w') r
 |bad=>exact h
theorem sV.back{Q:Bool->Hp->Prop}(w:bg S H S1 H1)(h:sV K cls W σ S H Q o):sV K cls W σ S1 H1 Q o:=by
 cases o with
 |ok r=>exact fun S' H' w'=>h S' H' (w.trans w')
 |exc c fs=>exact fun a C S' H' w' r=>h a C S' H' (w.trans w') r
 |bad=>exact h
theorem wK.back{Q:List V->Hp->Prop}(w:bg S H S1 H1)(h:wK K cls W σ S H Q o):wK K cls W σ S1 H1 Q o:=by
 cases o with
 |ok r=>exact fun v S' H' w' r=>h v S' H' (w.trans w') r
 |exc c fs=>exact fun a C S' H' w' r=>h a C S' H' (w.trans w') r
 |bad=>exact h
theorem eP.back(s:aJ S S1)(h:eP K cls W Av G S₀ S D o):eP K cls W Av G S₀ S1 D o:=by
 cases o with
 |nx ρ=>exact fun σ' S' H' I s'=>h σ' S' H' I (s.trans s')
 |bk ρ=>exact fun σ' S' H' I s'=>h σ' S' H' I (s.trans s')
 |ct ρ=>exact fun σ' S' H' I s'=>h σ' S' H' I (s.trans s')
 |rt ρ r=>exact fun v σ' S' H' I s'=>h v σ' S' H' I (s.trans s')
 |exc ρ c fs=>exact fun a C σ' S' H' I s'=>h a C σ' S' H' I (s.trans s')
 |bad=>exact h
theorem JE.go{m:ag->OE}{f:RV->OE}(h:JE K cls W te m)(I:SR K cls Av G S₀ ρ σ S H)(p:kG K cls W σ S H Q ((m ρ).bind f))
  (k:∀ r v S1 H1,SR K cls Av G S₀ ρ σ S1 H1->bg S H S1 H1->kY K H S1 H1 r v->kG K cls W σ S1 H1 Q (f r)->Q' v H1):te σ H Q':=by
 refine h Av G S₀ ρ σ S H Q' I ?_
 cases e:m ρ with
 |ok r=>rw[e]at p;exact fun v S1 H1 w r1=>k r v S1 H1 (I.grow w) w r1 (p.back w)
 |exc c fs=>rw[e]at p;exact p
 |bad=>rw[e]at p;exact p
theorem JE.goT{m:ag->OE}{f:RV->OT}{Q:Bool->Hp->Prop}(h:JE K cls W te m)(I:SR K cls Av G S₀ ρ σ S H)(p:sV K cls W σ S H Q ((m ρ).fD f))
  (k:∀ r v S1 H1,SR K cls Av G S₀ ρ σ S1 H1->bg S H S1 H1->kY K H S1 H1 r v->sV K cls W σ S1 H1 Q (f r)->Q' v H1):te σ H Q':=by
 refine h Av G S₀ ρ σ S H Q' I ?_
 cases e:m ρ with
 |ok r=>rw[e]at p;exact fun v S1 H1 w r1=>k r v S1 H1 (I.grow w) w r1 (p.back w)
 |exc c fs=>rw[e]at p;exact p
 |bad=>rw[e]at p;exact p
theorem JE.goS{m:ag->OE}{f:RV->OS}(h:JE K cls W te m)(I:SR K cls Av G S₀ ρ σ S H)(p:eP K cls W Av G S₀ S D ((m ρ).bM ρ f))
  (k:∀ r v S1 H1,SR K cls Av G S₀ ρ σ S1 H1->bg S H S1 H1->kY K H S1 H1 r v->eP K cls W Av G S₀ S1 D (f r)->Q' v H1):te σ H Q':=by
 refine h Av G S₀ ρ σ S H Q' I ?_
 cases e:m ρ with
 |ok r=>rw[e]at p;exact fun v S1 H1 w r1=>k r v S1 H1 (I.grow w) w r1 (p.back w.s)
 |exc c fs=>rw[e]at p;exact fun a C S' H' w x=>p a C σ S' H' (I.grow w) w.s x
 |bad=>rw[e]at p;exact p
theorem JT.go{m:ag->OT}{f:Bool->OE}{Q':Bool->Hp->Prop}(h:JT K cls W te m)(I:SR K cls Av G S₀ ρ σ S H)(p:kG K cls W σ S H Q ((m ρ).bind f))
  (k:∀ b S1 H1,SR K cls Av G S₀ ρ σ S1 H1->bg S H S1 H1->kG K cls W σ S1 H1 Q (f b)->Q' b H1):te σ H Q':=by
 refine h Av G S₀ ρ σ S H Q' I ?_
 cases e:m ρ with
 |ok r=>rw[e]at p;exact fun S1 H1 w=>k r S1 H1 (I.grow w) w (p.back w)
 |exc c fs=>rw[e]at p;exact p
 |bad=>rw[e]at p;exact p
theorem JT.goT{m:ag->OT}{f:Bool->OT}{Q Q':Bool->Hp->Prop}(h:JT K cls W te m)(I:SR K cls Av G S₀ ρ σ S H)(p:sV K cls W σ S H Q ((m ρ).fD f))
  (k:∀ b S1 H1,SR K cls Av G S₀ ρ σ S1 H1->bg S H S1 H1->sV K cls W σ S1 H1 Q (f b)->Q' b H1):te σ H Q':=by
 refine h Av G S₀ ρ σ S H Q' I ?_
 cases e:m ρ with
 |ok r=>rw[e]at p;exact fun S1 H1 w=>k r S1 H1 (I.grow w) w (p.back w)
 |exc c fs=>rw[e]at p;exact p
 |bad=>rw[e]at p;exact p
theorem JT.goS{m:ag->OT}{f:Bool->OS}{Q':Bool->Hp->Prop}(h:JT K cls W te m)(I:SR K cls Av G S₀ ρ σ S H)(p:eP K cls W Av G S₀ S D ((m ρ).bM ρ f))
  (k:∀ b S1 H1,SR K cls Av G S₀ ρ σ S1 H1->bg S H S1 H1->eP K cls W Av G S₀ S1 D (f b)->Q' b H1):te σ H Q':=by
 refine h Av G S₀ ρ σ S H Q' I ?_
 cases e:m ρ with
 |ok r=>rw[e]at p;exact fun S1 H1 w=>k r S1 H1 (I.grow w) w (p.back w.s)
 |exc c fs=>rw[e]at p;exact fun a C S' H' w x=>p a C σ S' H' (I.grow w) w.s x
 |bad=>rw[e]at p;exact p
theorem JA.go{m:ag->OA}{f:List PV->OE}{Q':List V->Hp->Prop}(h:JA K cls W te m)(I:SR K cls Av G S₀ ρ σ S H)(p:kG K cls W σ S H Q ((m ρ).bind f))
  (k:∀ xs vs S1 H1,SR K cls Av G S₀ ρ σ S1 H1->bg S H S1 H1->bG K S1 xs vs->kG K cls W σ S1 H1 Q (f xs)->Q' vs H1):te σ H Q':=by
 refine h Av G S₀ ρ σ S H Q' I ?_
 cases e:m ρ with
 |ok r=>rw[e]at p;exact fun v S1 H1 w r1=>k r v S1 H1 (I.grow w) w r1 (p.back w)
 |exc c fs=>rw[e]at p;exact p
 |bad=>rw[e]at p;exact p
theorem JA.goA{m:ag->OA}{f:List PV->OA}{Q Q':List V->Hp->Prop}(h:JA K cls W te m)(I:SR K cls Av G S₀ ρ σ S H)(p:wK K cls W σ S H Q ((m ρ).fe f))
  (k:∀ xs vs S1 H1,SR K cls Av G S₀ ρ σ S1 H1->bg S H S1 H1->bG K S1 xs vs->wK K cls W σ S1 H1 Q (f xs)->Q' vs H1):te σ H Q':=by
 refine h Av G S₀ ρ σ S H Q' I ?_
 cases e:m ρ with
 |ok r=>rw[e]at p;exact fun v S1 H1 w r1=>k r v S1 H1 (I.grow w) w r1 (p.back w)
 |exc c fs=>rw[e]at p;exact p
 |bad=>rw[e]at p;exact p
theorem JA.goS{m:ag->OA}{f:List PV->OS}{Q':List V->Hp->Prop}(h:JA K cls W te m)(I:SR K cls Av G S₀ ρ σ S H)(p:eP K cls W Av G S₀ S D ((m ρ).bM ρ f))
  (k:∀ xs vs S1 H1,SR K cls Av G S₀ ρ σ S1 H1->bg S H S1 H1->bG K S1 xs vs->eP K cls W Av G S₀ S1 D (f xs)->Q' vs H1):te σ H Q':=by
 refine h Av G S₀ ρ σ S H Q' I ?_
 cases e:m ρ with
 |ok r=>rw[e]at p;exact fun v S1 H1 w r1=>k r v S1 H1 (I.grow w) w r1 (p.back w.s)
 |exc c fs=>rw[e]at p;exact fun a C S' H' w x=>p a C σ S' H' (I.grow w) w.s x
 |bad=>rw[e]at p;exact p
theorem ae:JE K cls W (vV i) (aj i):=by
 intro Av G S₀ ρ σ S H Q I p;unfold aj at p;split at p
 . rename_i x e;obtain⟨v,e1,r⟩:=I.good i _ e
   exact⟨v,e1,p v S H (bg.refl I.sh) r⟩
 . rename_i xs e;obtain⟨v,e1,a,vs,e2,_,_,h3,h4⟩:=I.good i _ e
   exact⟨v,e1,p v S H (bg.refl I.sh) ⟨a,vs,e2,SqL.new h3,h4⟩⟩
 . exact p.elim
theorem xt(h:∀ S,Rep K S x v):JE K cls W (tC v) (mC x):=fun Av G S₀ ρ σ S H Q I p=>p v S H (bg.refl I.sh) (h S)
theorem ak:JE K cls W (tC (.int n)) (mC (.int n)):=xt fun _=>by unfold Rep;rfl
theorem HV:JE K cls W (tC (.bl n)) (mC (.bl n)):=xt fun _=>by unfold Rep;rfl
theorem b7:JE K cls W (tC .non) (mC .non):=xt fun _=>by unfold Rep;rfl
theorem aN:JE K cls W (tC (.str n)) (mC (.str n)):=xt fun _=>by unfold Rep;rfl
theorem kL{ns:List Int}(h:∀ S,SqT K S p (ns.map V.int)):JE K cls W (tC (.ref p)) (mC (.tup (ns.map .int))):=xt fun S=>by unfold Rep;exact⟨p,_,rfl,h S,bG.ints⟩
noncomputable def JR(K:PySem.W.Frag)(r:R2)(g:PV->PV->Option RV):Prop:=∀ S H x y v u rr Q,aJ S H->RdV K S H x v->RdV K S H y u->g x y=some rr ->
 (∀ z S' H',bg S H S' H'->kY K H S' H' rr z->Q z H')->r v u H Q
theorem au{g:PV->PV->Option RV}{ma mb:ag->OE}(hr:JR K r g)(ha:JE K cls W ta ma)(hb:JE K cls W tb mb):JE K cls W (tOp r ta tb) (mOp g ma mb):=by
 intro Av G S₀ ρ σ S H Q I p
 refine ha.go I p fun a v S1 H1 I1 w1 r1 p1=>hb.go I1 p1 fun b u S2 H2 I2 w2 r2 p2=>?_
 cases e:g a.pv b.pv with
 |none=>rw[e]at p2;exact p2.elim
 | some rr=>
   rw[e]at p2;exact hr S2 H2 a.pv b.pv v u rr Q I2.sh ((r1.rd I1.sh).mono w2.s w2.g) (r2.rd I2.sh) e p2
theorem du(h:RdV K S H (.int i) v):v=.int i:=by unfold RdV Rep at h;exact h
theorem nr(h:RdV K S H (.bl i) v):v=.bl i:=by unfold RdV Rep at h;exact h
theorem kq(h:RdV K S H (.str i) v):v=.str i:=by unfold RdV Rep at h;exact h
theorem iy(h:RdV K S H .non v):v=.non:=by unfold RdV Rep at h;exact h
theorem fY(h:RdV K S H (.lst xs) v):∃ p vs,v=.ref p /\ SqL K H p vs /\ bG K S xs vs:=h
theorem mH(h:RdV K S H (.tup xs) v):∃ p vs,v=.ref p /\ SqT K S p vs /\ bG K S xs vs:=by unfold RdV Rep at h;exact h
theorem FE{C:Int->Int->Prop}{c:Int->Int->Bool}{f:Int->Int->PV}{fv:Int->Int->V}(hc:∀ i j,c i j=true->C i j)(hf:∀ S i j,Rep K S (f i j) (fv i j)):JR K (rI C fv) (gI c f):=by
 intro S H x y v u rr Q I hx hy e k;unfold gI at e;split at e
 . rename_i i j;split at e
   . rename_i hcc;cases e
     exact⟨i,j,du hx,du hy,hc i j hcc,k _ S H (bg.refl I) (hf S i j)⟩
   . cases e
 . cases e
theorem sq{f:Int->Int->PV}{fv:Int->Int->V}(hf:∀ S i j,Rep K S (f i j) (fv i j)):JR K (rI0 fv) (gI (fun _ _=>true) f):=by
 intro S H x y v u rr Q I hx hy e k;unfold gI at e;split at e
 . rename_i i j;simp only[if_true]at e;cases e
   exact⟨i,j,du hx,du hy,k _ S H (bg.refl I) (hf S i j)⟩
 . cases e
theorem dh:JR K (rI0 fun i j=>.int (i+j)) eV:=sq fun _ _ _=>by unfold Rep;rfl
theorem lP:JR K (rI0 fun i j=>.int (i - j)) tT:=sq fun _ _ _=>by unfold Rep;rfl
theorem vI:JR K (rI Fu fun i j=>.int (i*j)) AA:=FE (fun i j h=>by simpa [Fu,Bool.or_eq_true,Bool.and_eq_true,decide_eq_true_eq]using h) fun _ _ _=>by unfold Rep;rfl
theorem ug:JR K (rI ID fun i j=>.int (i/j)) Du:=FE (fun i j h=>by simpa [ID,Bool.and_eq_true,decide_eq_true_eq]using h) fun _ _ _=>by unfold Rep;rfl
theorem lY:JR K (rI (fun _ j=>0<j) fun i j=>.int (i%j)) uI:=FE (fun i j h=>by simpa using h) fun _ _ _=>by unfold Rep;rfl
theorem gL:JR K (rI0 fun i j=>.bl (decide (i<j))) gLt:=sq fun _ _ _=>by unfold Rep;rfl
theorem iO:JR K (rI0 fun i j=>.bl (decide (i<=j))) gLe:=sq fun _ _ _=>by unfold Rep;rfl
theorem CB:JR K (rI0 fun i j=>.bl (decide (j<i))) gGt:=sq fun _ _ _=>by unfold Rep;rfl
theorem LF:JR K (rI0 fun i j=>.bl (decide (j<=i))) gGe:=sq fun _ _ _=>by unfold Rep;rfl
theorem Ft(hx:RdV K S H x v)(hy:RdV K S H y u)(e:eqS x y=some b):Jl v u=true /\ decide (v=u)=b:=by
 unfold eqS at e;split at e
 all_goals first
  |(have h1:=iy hx;subst h1;have h2:=iy hy;subst h2;cases e;exact⟨rfl,by simp⟩)
  |(have h1:=iy hx;subst h1;have h2:=du hy;subst h2;cases e;exact⟨rfl,by simp⟩)
  |(have h1:=du hx;subst h1;have h2:=iy hy;subst h2;cases e;exact⟨rfl,by simp⟩)
  |(have h1:=iy hx;subst h1;have h2:=nr hy;subst h2;cases e;exact⟨rfl,by simp⟩)
  |(have h1:=nr hx;subst h1;have h2:=iy hy;subst h2;cases e;exact⟨rfl,by simp⟩)
  |(have h1:=iy hx;subst h1;have h2:=kq hy;subst h2;cases e;exact⟨rfl,by simp⟩)
  |(have h1:=kq hx;subst h1;have h2:=iy hy;subst h2;cases e;exact⟨rfl,by simp⟩)
  |(have h1:=du hx;subst h1;have h2:=du hy;subst h2;cases e;exact⟨rfl,by simp⟩)
  |(have h1:=nr hx;subst h1;have h2:=nr hy;subst h2;cases e;exact⟨rfl,by simp⟩)
  |(have h1:=kq hx;subst h1;have h2:=kq hy;subst h2;cases e;exact⟨rfl,by simp⟩)
  |(have h1:=du hx;subst h1;have h2:=kq hy;subst h2;cases e;exact⟨rfl,by simp⟩)
  |(have h1:=kq hx;subst h1;have h2:=du hy;subst h2;cases e;exact⟨rfl,by simp⟩)
  |(have h1:=nr hx;subst h1;have h2:=kq hy;subst h2;cases e;exact⟨rfl,by simp⟩)
  |(have h1:=kq hx;subst h1;have h2:=nr hy;subst h2;cases e;exact⟨rfl,by simp⟩)
  |cases e
theorem bS:JR K rEq gEq:=by
 intro S H x y v u rr Q I hx hy e k;obtain⟨b,e1,e2⟩:=Option.map_eq_some_iff.mp e;obtain⟨h1,h2⟩:=Ft hx hy e1
 refine⟨h1,k _ S H (bg.refl I) ?_⟩
 subst e2;show Rep K S _ _;unfold Rep;rw[h2]
theorem wY:JR K rNe gNe:=by
 intro S H x y v u rr Q I hx hy e k;obtain⟨b,e1,e2⟩:=Option.map_eq_some_iff.mp e;obtain⟨h1,h2⟩:=Ft hx hy e1
 refine⟨h1,k _ S H (bg.refl I) ?_⟩
 subst e2;show Rep K S _ _;unfold Rep;rw[h2]
end
section
variable{K:PySem.W.Frag}{cls:String->Option Addr}{W:XW}{Av G S₀ S S' H H' B B':Hp}{ρ:ag}{σ:St}{Q:VK}
theorem kY.share(h:kY K H S1 H1 r v)(w:bg S H S1 H1)(e:eX r=some x):∃ S2,bg S H S2 H1 /\ aJ S1 S2 /\ Rep K S2 x v:=by
 cases r with
 |sh y=>cases e;exact⟨S1,w,aJ.refl _,h⟩
 |al xs=>cases e
 | fr xs=>
   cases e;obtain⟨p,vs,rfl,hB,hS,hH,hr⟩:=h
   refine⟨upd S1 p (.lst vs),⟨w.s.trans (aJ.new hS),w.g,fun b u z=>?_,fun b z=>?_⟩,aJ.new hS,?_⟩
   . by_cases e:b=p
     . subst e;rw[bz]at z;cases z;exact hH
     . rw[bf e]at z;exact w.sh b u z
   . by_cases e:b=p
     . subst e;exact .inr hB
     . rw[bf e]at z;exact w.new b z
   . unfold Rep
     exact⟨p,vs,rfl,SqL.new bz,hr.mono (aJ.new hS)⟩
theorem av:JA K cls W km aI:=fun Av G S₀ ρ σ S H Q I p=>p [] S H (bg.refl I.sh) .nil
theorem af{me:ag->OE}{mr:ag->OA}(he:JE K cls W te me)(ht:JA K cls W t mr):JA K cls W (ib te t) (ah me mr):=by
 intro Av G S₀ ρ σ S H Q I p;refine he Av G S₀ ρ σ S H _ I ?_;unfold ah at p
 cases e:me ρ with
 |exc c fs=>rw[e]at p;exact p
 |bad=>rw[e]at p;exact p
 | ok r=>
   rw[e]at p;intro v S1 H1 w1 r1;simp only[OE.fe]at p
   cases es:eX r with
   |none=>rw[es]at p;exact p.elim
   | some x=>
     rw[es]at p;obtain⟨S2,w2,s2,rx⟩:=r1.share w1 es
     refine ht.goA (I.grow w2) (p.back w2) fun xs vs S3 H3 I3 w3 r3 p3=>?_
     exact p3 (v ::vs) S3 H3 (bg.refl I3.sh) (.cons (Rep.mono w3.s rx) r3)
theorem Ep:lim=sizeLine:=by decide
theorem aX{ma:ag->OA}(h:JA K cls W t ma):JE K cls W (Jd t) (b2 ma):=by
 intro Av G S₀ ρ σ S H Q I p
 refine h.go I p fun xs vs S1 H1 I1 w1 r1 p1=>?_
 split at p1
 . rename_i hl
   refine⟨by rw[r1.length];exact hl,fun q hq=>p1 (.ref q) S1 _ (bg.heap I1.sh hq) ⟨q,vs,rfl,hq,I1.sh.free hq,bz,r1⟩⟩
 . exact p1.elim
theorem cH{ma:ag->OA}(h:JA K cls W t ma):JE K cls W (IU t) (gp ma):=by
 intro Av G S₀ ρ σ S H Q I p
 refine h.go I p fun xs vs S1 H1 I1 w1 r1 p1=>?_
 split at p1
 . rename_i hl
   refine⟨by rw[r1.length];exact hl,fun q hq=>p1 (.ref q) _ _ (bg.both I1.sh hq) ?_⟩
   show Rep K _ _ _;unfold Rep
   exact⟨q,vs,rfl,SqT.new bz,r1.mono (bg.both (o:=.tup vs) I1.sh hq).s⟩
 . exact p1.elim
noncomputable def LZ(K:PySem.W.Frag)(cls:String->Option Addr)(S H:Hp)(Q:VK)(E:XK):OE->Prop
 |.ok r=>∀ v S' H',bg S H S' H'->kY K H S' H' r v->Q v H'
 |.exc c fs=>∀ a C S' H',bg S H S' H'->oy K cls S' H' c fs a C->E (.ref C) (some a) H'
 |.bad=>False
noncomputable def spP(K:PySem.W.Frag)(cls:String->Option Addr)(f:List PV->OE):Sp:=fun vs H Q E=>∃ S xs,aJ S H /\ bG K S xs vs /\ LZ K cls S H Q E (f xs)
theorem aB{ma:ag->OA}{f:List PV->OE}(h:JA K cls W t ma):JE K cls W (sy (spP K cls f) [] W t) (aQ f ma):=by
 intro Av G S₀ ρ σ S H Q I p
 refine h.go I p fun xs vs S1 H1 I1 w1 r1 p1=>?_
 show spP K cls f (vs++[]) H1 Q _;rw[List.append_nil]
 refine⟨S1,xs,I1.sh,r1,?_⟩
 cases e:f xs with
 |ok r=>rw[e]at p1;exact p1
 |exc c fs=>rw[e]at p1;exact p1
 |bad=>rw[e]at p1;exact p1
noncomputable def JU(K:PySem.W.Frag)(r:List V->Hp->VK->Prop)(g:PV->Option RV):Prop:=∀ S H x v rr Q,aJ S H->RdV K S H x v->g x=some rr ->
 (∀ z S' H',bg S H S' H'->kY K H S' H' rr z->Q z H')->r [v] H Q
theorem dO{r:List V->Hp->VK->Prop}{g:PV->Option RV}{ma:ag->OE}(hr:JU K r g)(ha:JE K cls W ta ma):JE K cls W (tCB r (ib ta km)) (mUn g ma):=by
 intro Av G S₀ ρ σ S H Q I p
 refine ha.go I p fun a v S1 H1 I1 w1 r1 p1=>?_
 show r [v] H1 Q
 cases e:g a.pv with
 |none=>rw[e]at p1;exact p1.elim
 |some rr=>rw[e]at p1;exact hr S1 H1 a.pv v rr Q I1.sh (r1.rd I1.sh) e p1
theorem uU{r:V->Hp->VK->Prop}{g:PV->Option RV}{ma:ag->OE}(hr:JU K (fun vs H Q=>∃ v,vs=[v] /\ r v H Q) g)(ha:JE K cls W ta ma):JE K cls W (tUn r ta) (mUn g ma):=by
 intro Av G S₀ ρ σ S H Q I p
 refine ha.go I p fun a v S1 H1 I1 w1 r1 p1=>?_
 cases e:g a.pv with
 |none=>rw[e]at p1;exact p1.elim
 | some rr=>
   rw[e]at p1;obtain⟨u,e1,h⟩:=hr S1 H1 a.pv v rr Q I1.sh (r1.rd I1.sh) e p1;cases e1;exact h
theorem qh:JU K (fun vs H Q=>∃ v,vs=[v] /\ rU (fun i=>.int (-i)) v H Q) ua:=by
 intro S H x v rr Q I hx e k
 cases x with
 |int i=>cases e;exact⟨v,rfl,i,du hx,k _ S H (bg.refl I) (by show Rep K S _ _;unfold Rep;rfl)⟩
 |_=>cases e
theorem fq:JU K (fun xs H Q=>∃ p ys,xs=[.ref p] /\ (SqL K H p ys \/ SqT K H p ys) /\ Q (.int ys.length) H) ku:=by
 intro S H x v rr Q I hx e k
 cases x with
 | lst xs=>
   cases e;obtain⟨p,vs,rfl,hq,r⟩:=fY hx
   exact⟨p,vs,rfl,.inl hq,k _ S H (bg.refl I) (by show Rep K S _ _;unfold Rep;rw[r.length])⟩
 | tup xs=>
   cases e;obtain⟨p,vs,rfl,hq,r⟩:=mH hx
   exact⟨p,vs,rfl,.inr (aJ.tup I hq),k _ S H (bg.refl I) (by show Rep K S _ _;unfold Rep;rw[r.length])⟩
 |_=>cases e
theorem B9:JU K (fun xs H Q=>(∃ i,xs=[.int i] /\ Q (.int i) H) \/ ∃ k,xs=[.bl k] /\ Q (.int (if k then 1 else 0)) H) yY:=by
 intro S H x v rr Q I hx e k
 cases x with
 |int i=>cases e;exact .inl ⟨i,by rw[du hx],k _ S H (bg.refl I) (by show Rep K S _ _;unfold Rep;rfl)⟩
 |bl b=>cases e;exact .inr ⟨b,by rw[nr hx],k _ S H (bg.refl I) (by show Rep K S _ _;unfold Rep;rfl)⟩
 |_=>cases e
theorem By:JU K (fun xs H Q=>∃ p ys,xs=[.ref p] /\ (SqL K H p ys \/ SqT K H p ys) /\ ∀ l,H l=none->Q (.ref l) (upd H l (.lst ys))) qC:=by
 intro S H x v rr Q I hx e k
 cases x with
 | lst xs=>
   cases e;obtain⟨p,vs,rfl,hq,r⟩:=fY hx
   exact⟨p,vs,rfl,.inl hq,fun l hl=>k _ S _ (bg.heap I hl) ⟨l,vs,rfl,hl,I.free hl,bz,r⟩⟩
 | tup xs=>
   cases e;obtain⟨p,vs,rfl,hq,r⟩:=mH hx
   exact⟨p,vs,rfl,.inr (aJ.tup I hq),fun l hl=>k _ S _ (bg.heap I hl) ⟨l,vs,rfl,hl,I.free hl,bz,r⟩⟩
 |_=>cases e
theorem KQ{α:Type}(xs:List α)(i:Int):atP xs i=L2.atI xs i:=rfl
theorem bG.atI(h:bG K S xs vs)(e:atP xs i=some x):∃ v,L2.atI vs i=some v /\ Rep K S x v:=by
 rw[KQ]at e
 unfold L2.atI at e ⊢
 rw[h.length]
 cases q:ixN xs.length i with
 |none=>rw[q]at e;cases e
 |some j=>rw[q]at e;exact h.get e
theorem bE:JR K (LI K) bR:=by
 intro S H x y v u rr Q I hx hy e k;unfold bR at e;split at e
 . rename_i xs i;obtain⟨z,e1,e2⟩:=Option.map_eq_some_iff.mp e;obtain⟨p,vs,rfl,hq,r⟩:=fY hx;obtain⟨w,e3,rw'⟩:=r.atI e1;subst e2
   exact⟨p,vs,i,w,rfl,du hy,hq,e3,k _ S H (bg.refl I) rw'⟩
 . cases e
theorem b4:JR K (LK K) cT:=by
 intro S H x y v u rr Q I hx hy e k;unfold cT at e;split at e
 . rename_i xs i;obtain⟨z,e1,e2⟩:=Option.map_eq_some_iff.mp e;obtain⟨p,vs,rfl,hq,r⟩:=mH hx;obtain⟨w,e3,rw'⟩:=r.atI e1;subst e2
   exact⟨p,vs,i,w,rfl,du hy,aJ.tup I hq,e3,k _ S H (bg.refl I) rw'⟩
 . cases e
end
section
variable{K:PySem.W.Frag}{cls:String->Option Addr}{W:XW}{Av G S₀ S S' H H' B B':Hp}{ρ:ag}{σ:St}{Q:VK}
theorem gY:JR K (HJ K) gy:=by
 intro S H x y v u rr Q I hx hy e k;unfold gy at e;split at e
 . rename_i xs ys;split at e
   . rename_i hl;cases e;obtain⟨p,vs,rfl,hq,r⟩:=fY hx;obtain⟨p2,vs2,rfl,hq2,r2⟩:=fY hy
     exact⟨p,p2,vs,vs2,rfl,rfl,hq,hq2,by rw[r.length,r2.length];exact hl,fun l hn=>k _ S _ (bg.heap I hn) ⟨l,_,rfl,hn,I.free hn,bz,r.append r2⟩⟩
   . cases e
 . cases e
theorem xi{xs:List PV}{ns:List Int}(h:qw xs=some ns):xs=ns.map .int:=by
 induction xs generalizing ns with
 |nil=>cases h;rfl
 | cons x xs ih=>
   cases x with
   | int i=>
     obtain⟨ms,e1,e2⟩:=Option.map_eq_some_iff.mp h;subst e2;rw[ih e1];rfl
   |_=>cases h
theorem GR{x y:PV}{v u:V}{b:Bool}(hx:RdV K S H x v)(hy:RdV K S H y u)(e:Gh x y=some b):
  ∃(p q:Addr) (ns ms:List Int),v=.ref p /\ u=.ref q /\ SqL K H p (ns.map V.int) /\ SqL K H q (ms.map V.int) /\ b=decide (ns=ms):=by
 unfold Gh at e;split at e
 . rename_i xs ys;split at e
   . rename_i a b' e1 e2;cases e;obtain⟨p,vs,rfl,hq,r⟩:=fY hx;obtain⟨p2,vs2,rfl,hq2,r2⟩:=fY hy;rw[xi e1]at r;rw[xi e2]at r2;rw[r.zX]at hq;rw[r2.zX]at hq2
     exact⟨p,p2,a,b',rfl,rfl,hq,hq2,rfl⟩
   . cases e
 . cases e
theorem JM{A:Around}(hu:A.units+64<cLine):JR K (LO K A false) Jo:=by
 intro S H x y v u rr Q I hx hy e k;obtain⟨b,e1,e2⟩:=Option.map_eq_some_iff.mp e;obtain⟨p,q,ns,ms,rfl,rfl,h1,h2,rfl⟩:=GR hx hy e1;subst e2
 exact⟨p,q,ns,ms,rfl,rfl,h1,h2,hu,k _ S H (bg.refl I) (by show Rep K S _ _;unfold Rep;simp)⟩
theorem AE{xs:List PV}{vs:List V}{bs:List Bool}(h:jV xs=some bs)(r:bG K S xs vs):vs=bs.map V.bl:=by
 induction xs generalizing bs vs with
 |nil=>cases h;exact r.nil_inv
 | cons x xs ih=>
   cases x with
   | bl i=>
     obtain⟨ms,e1,e2⟩:=Option.map_eq_some_iff.mp h;subst e2;obtain⟨v,t,rfl,h1,h2⟩:=r.cons_inv;unfold Rep at h1;rw[ih e1 h2,h1];rfl
   |_=>cases h
theorem Bn{A:Around}(hh:A.handled=none):JU K (fun xs H Q=>∃(p:Addr) (bs:List Bool),xs=[.ref p] /\ SqL K H p (bs.map V.bl) /\ A.handled=none /\ Q (.bl (bs.all id)) H) xv:=by
 intro S H x v rr Q I hx e k
 cases x with
 | lst xs=>
   obtain⟨bs,e1,e2⟩:=Option.map_eq_some_iff.mp e;obtain⟨p,vs,rfl,hq,r⟩:=fY hx;rw[AE e1 r]at hq;subst e2
   exact⟨p,bs,rfl,hq,hh,k _ S H (bg.refl I) (by show Rep K S _ _;unfold Rep;rfl)⟩
 |_=>cases e
theorem JB{T:String}{x:PV}{v:V}{b:Bool}(s:aJ S H)(hx:RdV K S H x v)(e:isP T x=some b):IsV K T v H b:=by
 cases x with
 | int i=>
   have:=du hx;subst this;simp only[isP]at e;split at e
   . cases e;exact .inl ⟨by assumption,rfl⟩
   . split at e
     . rename_i h;cases e;rcases h with h|h|h|h
       . exact .inr (.inl ⟨h,rfl⟩)
       . exact .inr (.inr (.inl ⟨h,rfl⟩))
       . exact .inr (.inr (.inr (.inl ⟨h,rfl⟩)))
       . exact .inr (.inr (.inr (.inr ⟨h,rfl⟩)))
     . cases e
 | bl i=>
   have:=nr hx;subst this;simp only[isP]at e;split at e
   . rename_i h;cases e;rcases h with h|h
     . exact .inl ⟨h,rfl⟩
     . exact .inr (.inl ⟨h,rfl⟩)
   . split at e
     . rename_i h;cases e;rcases h with h|h|h
       . exact .inr (.inr (.inl ⟨h,rfl⟩))
       . exact .inr (.inr (.inr (.inl ⟨h,rfl⟩)))
       . exact .inr (.inr (.inr (.inr ⟨h,rfl⟩)))
     . cases e
 | non=>
   have:=iy hx;subst this;simp only[isP]at e;split at e
   . rename_i h;cases e;rcases h with h|h|h|h|h
     . exact .inl ⟨h,rfl⟩
     . exact .inr (.inl ⟨h,rfl⟩)
     . exact .inr (.inr (.inl ⟨h,rfl⟩))
     . exact .inr (.inr (.inr (.inl ⟨h,rfl⟩)))
     . exact .inr (.inr (.inr (.inr ⟨h,rfl⟩)))
   . cases e
 | str i=>
   have:=kq hx;subst this;simp only[isP]at e;split at e
   . cases e;exact .inr (.inr (.inr (.inr ⟨by assumption,rfl⟩)))
   . split at e
     . rename_i h;cases e;rcases h with h|h|h|h
       . exact .inl ⟨h,rfl⟩
       . exact .inr (.inl ⟨h,rfl⟩)
       . exact .inr (.inr (.inl ⟨h,rfl⟩))
       . exact .inr (.inr (.inr (.inl ⟨h,rfl⟩)))
     . cases e
 | lst xs=>
   obtain⟨p,vs,rfl,hq,r⟩:=fY hx;refine .inl ⟨⟨vs,hq⟩,?_⟩;simp only[isP]at e;split at e
   . cases e;exact .inr (.inr (.inl ⟨by assumption,rfl⟩))
   . split at e
     . rename_i h;cases e;rcases h with h|h|h|h
       . exact .inl ⟨h,rfl⟩
       . exact .inr (.inl ⟨h,rfl⟩)
       . exact .inr (.inr (.inr (.inl ⟨h,rfl⟩)))
       . exact .inr (.inr (.inr (.inr ⟨h,rfl⟩)))
     . cases e
 | tup xs=>
   obtain⟨p,vs,rfl,hq,r⟩:=mH hx;refine .inr ⟨⟨vs,aJ.tup s hq⟩,?_⟩;simp only[isP]at e;split at e
   . cases e;exact .inr (.inr (.inr (.inl ⟨by assumption,rfl⟩)))
   . split at e
     . rename_i h;cases e;rcases h with h|h|h|h
       . exact .inl ⟨h,rfl⟩
       . exact .inr (.inl ⟨h,rfl⟩)
       . exact .inr (.inr (.inl ⟨h,rfl⟩))
       . exact .inr (.inr (.inr (.inr ⟨h,rfl⟩)))
     . cases e
theorem yp{T:String}{ta:TE}{ma:ag->OE}(ha:JE K cls W ta ma):
  JE K cls W (tCB (fun xs H Q=>∃ x T b,xs=[x,.ty T] /\ IsV K T x H b /\ Q (.bl b) H) (ib ta (ib (tC (.ty T)) km))) (mIs T ma):=by
 intro Av G S₀ ρ σ S H Q I p
 refine ha.go I p fun a v S1 H1 I1 w1 r1 p1=>?_
 show ∃ x T' b,[v,V.ty T]=[x,V.ty T'] /\ _
 dsimp only at p1
 cases e:isP T a.pv with
 |none=>rw[e]at p1;exact p1.elim
 | some b=>
   rw[e]at p1
   exact⟨v,T,b,rfl,JB I1.sh (r1.rd I1.sh) e,p1 _ S1 H1 (bg.refl I1.sh) (by show Rep K S1 _ _;unfold Rep;rfl)⟩
end
section
variable{K:PySem.W.Frag}{cls:String->Option Addr}{W:XW}{Av G S₀ S S' H H' B B':Hp}{ρ:ag}{σ:St}{Q:VK}
theorem qJ{xs:List PV}{vs:List V}(h:bG K S xs vs):vs.isEmpty=xs.isEmpty:=by
 cases xs with
 |nil=>rw[h.nil_inv];rfl
 |cons x xs=>obtain⟨v,r,rfl,_⟩:=h.cons_inv;rfl
theorem BV(s:aJ S H)(hx:RdV K S H x v)(e:pq x=some b):AZ K v H b:=by
 cases x with
 |non=>have:=iy hx;subst this;cases e;rfl
 |bl c=>have:=nr hx;subst this;cases e;rfl
 |int i=>have:=du hx;subst this;cases e;rfl
 |str z=>cases e
 | lst xs=>
   obtain⟨p,vs,rfl,hq,r⟩:=fY hx;cases e;exact .inl ⟨vs,hq,by rw[qJ r]⟩
 | tup xs=>
   obtain⟨p,vs,rfl,hq,r⟩:=mH hx;cases e;exact .inr (.inl ⟨vs,aJ.tup s hq,by rw[qJ r]⟩)
theorem dR{ma:ag->OE}(ha:JE K cls W ta ma):JT K cls W (fun σ H Q=>ta σ H fun x H'=>∃ k,AZ K x H' k /\ Q k H') (dS ma):=by
 intro Av G S₀ ρ σ S H Q I p
 refine ha.goT I p fun r v S1 H1 I1 w1 r1 p1=>?_
 cases e:pq r.pv with
 |none=>rw[e]at p1;exact p1.elim
 |some b=>rw[e]at p1;exact⟨b,BV I1.sh (r1.rd I1.sh) e,p1 S1 H1 (bg.refl I1.sh)⟩
theorem ve{r:RV}(h:r.pv=.bl b)(r1:kY K H S1 H1 r v)(s:aJ S1 H1):v=.bl b:=by
 have:=r1.rd s;rw[h]at this;exact nr this
theorem az{ma:ag->OE}(ha:JE K cls W ta ma):JT K cls W (xa ta) (aE ma):=by
 intro Av G S₀ ρ σ S H Q I p
 refine ha.goT I p fun r v S1 H1 I1 w1 r1 p1=>?_
 cases e:r.pv with
 |bl b=>rw[e]at p1;exact⟨b,ve e r1 I1.sh,p1 S1 H1 (bg.refl I1.sh)⟩
 |_=>rw[e]at p1;exact p1.elim
theorem rR{ma:ag->OT}(ha:JT K cls W ta ma):JT K cls W (Hs ta) (tL ma):=by
 intro Av G S₀ ρ σ S H Q I p
 exact ha.goT I p fun b S1 H1 I1 w1 p1=>p1 S1 H1 (bg.refl I1.sh)
theorem rX{ma mb:ag->OT}(ha:JT K cls W ta ma)(hb:JT K cls W tb mb):JT K cls W (Jc ta tb) (sY ma mb):=by
 intro Av G S₀ ρ σ S H Q I p
 refine ha.goT I p fun b S1 H1 I1 w1 p1=>?_
 cases b with
 |true=>exact u3 (hb Av G S₀ ρ σ S1 H1 Q I1 p1)
 |false=>exact uV (p1 S1 H1 (bg.refl I1.sh))
theorem Ck{ma mb:ag->OT}(ha:JT K cls W ta ma)(hb:JT K cls W tb mb):JT K cls W (tOr ta tb) (C8 ma mb):=by
 intro Av G S₀ ρ σ S H Q I p
 refine ha.goT I p fun b S1 H1 I1 w1 p1=>?_
 cases b with
 |false=>exact uV (hb Av G S₀ ρ σ S1 H1 Q I1 p1)
 |true=>exact u3 (p1 S1 H1 (bg.refl I1.sh))
theorem kb:kY K B S H (.sh (.bl b)) (.bl b):=by show Rep K S _ _;unfold Rep;rfl
theorem x5{ma mb:ag->OE}(ha:JE K cls W ta ma)(hb:JE K cls W tb mb):JE K cls W (ES ta tb) (tK ma mb):=by
 intro Av G S₀ ρ σ S H Q I p
 refine ha.go I p fun r v S1 H1 I1 w1 r1 p1=>?_
 cases e:r.pv with
 | bl b=>
   rw[e]at p1
   refine⟨b,ve e r1 I1.sh,?_⟩
   cases b with
   |true=>exact u3 (hb Av G S₀ ρ σ S1 H1 Q I1 p1)
   |false=>exact uV (p1 _ S1 H1 (bg.refl I1.sh) kb)
 |_=>rw[e]at p1;exact p1.elim
theorem Mi{ma mb:ag->OE}(ha:JE K cls W ta ma)(hb:JE K cls W tb mb):JE K cls W (JY ta tb) (Jt ma mb):=by
 intro Av G S₀ ρ σ S H Q I p
 refine ha.go I p fun r v S1 H1 I1 w1 r1 p1=>?_
 cases e:r.pv with
 | bl b=>
   rw[e]at p1
   refine⟨b,ve e r1 I1.sh,?_⟩
   cases b with
   |false=>exact uV (hb Av G S₀ ρ σ S1 H1 Q I1 p1)
   |true=>exact u3 (p1 _ S1 H1 (bg.refl I1.sh) kb)
 |_=>rw[e]at p1;exact p1.elim
theorem Ky{ma:ag->OE}(ha:JE K cls W ta ma):JE K cls W (E4 ta) (DZ ma):=by
 intro Av G S₀ ρ σ S H Q I p
 refine ha.go I p fun r v S1 H1 I1 w1 r1 p1=>?_
 cases e:r.pv with
 |bl b=>rw[e]at p1;exact⟨b,ve e r1 I1.sh,p1 _ S1 H1 (bg.refl I1.sh) kb⟩
 |_=>rw[e]at p1;exact p1.elim
theorem iP{mc:ag->OT}{ma mb:ag->OE}(hc:JT K cls W tc mc)(ha:JE K cls W ta ma)(hb:JE K cls W tb mb):JE K cls W (tIf tc ta tb) (jX mc ma mb):=by
 intro Av G S₀ ρ σ S H Q I p
 refine hc.go I p fun b S1 H1 I1 w1 p1=>?_
 cases b with
 |true=>exact u3 (ha Av G S₀ ρ σ S1 H1 Q I1 p1)
 |false=>exact uV (hb Av G S₀ ρ σ S1 H1 Q I1 p1)
theorem fA{g g':PV->PV->Option RV}{ma mb mc:ag->OE}(hr:JR K r g)(hr':JR K r' g')(ha:JE K cls W ta ma)(hb:JE K cls W tb mb)(hc:JE K cls W tc mc):
  JE K cls W (uw r r' ta tb tc) (fM g g' ma mb mc):=by
 intro Av G S₀ ρ σ S H Q I p
 refine ha.go I p fun a v S1 H1 I1 w1 r1 p1=>hb.go I1 p1 fun b u S2 H2 I2 w2 r2 p2=>?_
 cases e:g a.pv b.pv with
 |none=>rw[e]at p2;exact p2.elim
 | some rr=>
   rw[e]at p2
   refine hr S2 H2 a.pv b.pv v u rr _ I2.sh ((r1.rd I1.sh).mono w2.s w2.g) (r2.rd I2.sh) e fun z S3 H3 w3 r3=>?_
   have I3:=I2.grow w3;simp only[oE,OE.bind]at p2
   cases e3:rr.pv with
   | bl k=>
     rw[e3]at p2;have hz:=ve e3 r3 I3.sh
     refine⟨k,hz,?_⟩
     cases k with
     |false=>exact uV (p2 _ S3 H3 w3 kb)
     | true=>
       refine u3 (hc.go I3 (p2.back w3) fun c y S4 H4 I4 w4 r4 p4=>?_)
       cases e4:g' b.pv c.pv with
       |none=>rw[e4]at p4;exact p4.elim
       |some r'=>rw[e4]at p4;exact hr' S4 H4 b.pv c.pv u y r' Q I4.sh (((r2.rd I2.sh).mono w3.s w3.g).mono w4.s w4.g) (r4.rd I4.sh) e4 p4
   |_=>rw[e3]at p2;exact p2.elim
theorem aw{ma mb:ag->OS}(ha:JS K cls W ta ma)(hb:JS K cls W tb mb):JS K cls W (IY ta tb) (aM ma mb):=by
 intro Av G S₀ ρ σ S H D I p;refine ha Av G S₀ ρ σ S H _ I ?_;unfold aM at p
 cases e:ma ρ with
 |nx ρ'=>rw[e]at p;exact fun σ' S' H' I' s'=>hb Av G S₀ ρ' σ' S' H' D I' (p.back s')
 |bk ρ'=>rw[e]at p;exact p
 |ct ρ'=>rw[e]at p;exact p
 |rt ρ' r=>rw[e]at p;exact p
 |exc ρ' c fs=>rw[e]at p;exact p
 |bad=>rw[e]at p;exact p
theorem aG:JS K cls W Et aU:=fun Av G S₀ ρ σ S H D I p=>p σ S H I (aJ.refl _)
theorem aR{me:ag->OE}(he:JE K cls W te me):JS K cls W (vJ te (jP i)) (aY i me):=by
 intro Av G S₀ ρ σ S H D I p
 refine he.goS I p fun r v S1 H1 I1 w1 r1 p1=>?_
 show D.nx (σ.set i (some v)) H1
 cases r with
 |sh x=>exact p1 _ S1 H1 (I1.y8 r1) (aJ.refl _)
 |fr xs=>exact p1 _ S1 H1 (I.LG w1 r1) (aJ.refl _)
 |al xs=>exact p1.elim
theorem aT{mc:ag->OT}{ma mb:ag->OS}(hc:JT K cls W tc mc)(ha:JS K cls W ta ma)(hb:JS K cls W tb mb):JS K cls W (G6 tc ta tb) (bu mc ma mb):=by
 intro Av G S₀ ρ σ S H D I p
 refine hc.goS I p fun b S1 H1 I1 w1 p1=>?_
 cases b with
 |true=>exact u3 (ha Av G S₀ ρ σ S1 H1 D I1 p1)
 |false=>exact uV (hb Av G S₀ ρ σ S1 H1 D I1 p1)
theorem aD{me:ag->OE}(he:JE K cls W te me):JS K cls W (Hc te) (ba me):=by
 intro Av G S₀ ρ σ S H D I p
 refine he.goS I p fun r v S1 H1 I1 w1 r1 p1=>?_
 cases r with
 |sh x=>exact p1 v σ S1 H1 I1 (aJ.refl _) r1
 |fr xs=>exact p1 v σ S1 H1 I1 (aJ.refl _) (r1.back I.gh)
 |al xs=>exact p1.elim
theorem cO:JS K cls W (Hc (vV i)) (dm i):=by
 intro Av G S₀ ρ σ S H D I p;unfold dm at p;split at p
 . rename_i x e;obtain⟨v,e1,r⟩:=I.good i _ e
   exact⟨v,e1,p v σ S H I (aJ.refl _) r⟩
 . rename_i xs e;obtain⟨v,e1,a,vs,e2,h1,h2,h3,h4⟩:=I.good i _ e
   exact⟨v,e1,p v σ S H I.drop (aJ.refl _) ⟨a,vs,e2,h1,h2,h3,h4⟩⟩
 . exact p.elim
theorem uc{me:ag->OE}(he:JE K cls W te me):JS K cls W (q8 te) (qZ me):=by
 intro Av G S₀ ρ σ S H D I p
 exact he.goS I p fun r v S1 H1 I1 w1 r1 p1=>p1 σ S1 H1 I1 (aJ.refl _)
theorem dX{m:ag->OS}(h:JS K cls W ts m):JS K cls W ts (eD i m):=by
 intro Av G S₀ ρ σ S H D I p;unfold eD oV at p;split at p
 . rename_i xs e;obtain⟨S',s,J⟩:=I.LX e;exact h Av G S₀ _ σ S' H D J (p.back s)
 . exact h Av G S₀ ρ σ S H D I p
theorem iU{me:ag->OE}(he:JE K cls W te me):JS K cls W (q8 (tBM K "list" x6 (vV i) (ib te km))) (fj i me):=by
 intro Av G S₀ ρ σ S H D I p;unfold fj at p;split at p
 . rename_i xs e;obtain⟨v,e1,a,vs,rfl,h1,h2,h3,h4⟩:=I.good i _ e
   refine⟨_,e1,.inl ⟨rfl,_,SqL.new h3⟩,?_⟩
   refine he Av G S₀ ρ σ S H _ I ?_
   cases em:me ρ with
   |exc c fs=>rw[em]at p;exact fun a C S' H' w x=>p a C σ S' H' (I.grow w) w.s x
   |bad=>rw[em]at p;exact p
   | ok r=>
     rw[em]at p;intro u S1 H1 w1 r1;simp only[OE.bM]at p
     cases es:eX r with
     |none=>rw[es]at p;exact p.elim
     | some y=>
       rw[es]at p
       dsimp only at p
       split at p
       . rename_i hl;obtain⟨S2,w2,s2,rx⟩:=r1.share w1 es;have I2:=I.grow w2
         refine⟨a,vs,u,rfl,rfl,w2.g _ _ h3,by rw[h4.length];exact hl,?_⟩
         exact p σ S2 _ (I2.mut e e1 ((h4.mono w2.s).append (.cons rx .nil))) w2.s
       . exact p.elim
 . exact p.elim
theorem DA{me:ag->OE}(he:JE K cls W te me):JS K cls W (q8 (tBM K "list" Cm (vV i) (ib te km))) (qR i me):=by
 intro Av G S₀ ρ σ S H D I p;unfold qR at p;split at p
 . rename_i xs e;obtain⟨v,e1,a,vs,rfl,h1,h2,h3,h4⟩:=I.good i _ e
   refine⟨_,e1,.inl ⟨rfl,_,SqL.new h3⟩,?_⟩
   refine he.goS I p fun r u S1 H1 I1 w1 r1 p1=>?_
   cases r with
   | fr ys=>
     dsimp only at p1
     split at p1
     . rename_i hl;obtain⟨b,us,rfl,k1,k2,k3,k4⟩:=r1
       refine⟨a,b,vs,us,rfl,rfl,w1.g _ _ h3,k3,by rw[h4.length,k4.length];exact hl,?_⟩
       exact p1 σ S1 _ (I1.mut e e1 ((h4.mono w1.s).append k4)) (aJ.refl _)
     . exact p1.elim
   |sh x=>exact p1.elim
   |al ys=>exact p1.elim
 . exact p.elim
theorem sg{mb:ag->OS}{D:Ends}{N:St->Hp->Prop}(hb:JS K cls W tb mb)(I:SR K cls Av G S₀ ρ σ S H)(hx:Rep K S x v)
  (p:eP K cls W Av G S₀ S D (gm i mb (x ::xs) ρ)) (hN:∀ ρ' σ' S' H',SR K cls Av G S₀ ρ' σ' S' H'->aJ S S'->eP K cls W Av G S₀ S' D (gm i mb xs ρ')->N σ' H'):
  jP i v σ H fun σ2 H2=>tb { D with nx:=N,ct:=N,bk:=D.nx } σ2 H2:=by
 refine hb Av G S₀ _ _ S H _ (I.y8 hx) ?_;rw[uJ]at p
 cases e:mb (ρ.set i (some (.sh x)))with
 |nx ρ'=>rw[e]at p;exact fun σ' S' H' I' s'=>hN ρ' σ' S' H' I' s' (p.back s')
 |ct ρ'=>rw[e]at p;exact fun σ' S' H' I' s'=>hN ρ' σ' S' H' I' s' (p.back s')
 |bk ρ'=>rw[e]at p;exact p
 |rt ρ' r=>rw[e]at p;exact p
 |exc ρ' c fs=>rw[e]at p;exact p
 |bad=>rw[e]at p;exact p
theorem mw{ml:ag->OE}{mb:ag->OS}(hl:JE K cls W tl ml)(hb:JS K cls W tb mb):JS K cls W (CK (zE K tl) (jP i) tb) (iQ i ml mb):=by
 intro Av G S₀ ρ σ S H D I p;refine hl Av G S₀ ρ σ S H _ I ?_;unfold iQ at p
 cases em:ml ρ with
 |exc c fs=>rw[em]at p;exact fun a C S' H' w x=>p a C σ S' H' (I.grow w) w.s x
 |bad=>rw[em]at p;exact p
 | ok r=>
   rw[em]at p;intro v S1 H1 w1 r1;simp only[OE.bM]at p
   cases ei:n6 r with
   |none=>rw[ei]at p;exact p.elim
   | some xs=>
     rw[ei]at p
     have es:eX r=some (.lst xs):=by
      cases r with
      |sh y=>cases y<;>cases ei<;>rfl
      |fr ys=>cases ei;rfl
      |al ys=>cases ei
     obtain⟨S2,w2,s2,rx⟩:=r1.share w1 es;have I2:=I.grow w2;unfold Rep at rx;obtain⟨a,vs,rfl,hq,hr⟩:=rx
     refine⟨a,rfl,⟨vs,aJ.seq I2.sh hq⟩,?_⟩
     refine y7 (xs:=vs) (fun k σ' H'=>∃ ρ' S',SR K cls Av G S₀ ρ' σ' S' H' /\ aJ S2 S' /\ eP K cls W Av G S₀ S' D (gm i mb (xs.drop k) ρ'))
      ⟨ρ,S2,I2,aJ.refl _,p.back w2.s⟩ ?_ ?_ ?_
     . rintro k σ' H' _ ⟨ρ',S',I',s',_⟩
       exact aJ.seq (s'.trans I'.sh) hq
     . rintro k x σ' H' hx ⟨ρ',S',I',s',p'⟩
       obtain⟨y,hy,ry⟩:=hr.EV hx
       have hd:xs.drop k=y ::xs.drop (k+1):=by
        have hk:k<xs.length:=(List.getElem?_eq_some_iff.mp hy).1
        rw[List.drop_eq_getElem_cons hk]
        congr 1
        have:=List.getElem?_eq_getElem hk;rw[hy]at this
        exact(Option.some.inj this).symm
       rw[hd]at p'
       exact sg hb I' (Rep.mono s' ry) p' fun ρ2 σ2 S3 H3 I3 s3 p3=>⟨ρ2,S3,I3,s'.trans s3,p3⟩
     . rintro σ' H' ⟨ρ',S',I',s',p'⟩
       rw[List.drop_of_length_le (by rw[hr.length];exact Nat.le_refl _)]at p';exact p' σ' S' H' I' (aJ.refl _)
theorem jr{mc:ag->OT}{mb:ag->OS}(hc:JT K cls W tc mc)(hb:JS K cls W tb mb):JS K cls W (Br tc tb) (bI mc mb n):=by
 intro Av G S₀ ρ σ S H D I p
 refine⟨fun m σ' H'=>∃ ρ' S',SR K cls Av G S₀ ρ' σ' S' H' /\ aJ S S' /\ eP K cls W Av G S₀ S' D (bI mc mb m ρ'),⟨n,ρ,S,I,aJ.refl _,p⟩,?_⟩
 rintro m σ1 H1 ⟨ρ1,S1,I1,s1,p1⟩
 cases m with
 |zero=>exact p1.elim
 | succ m=>
   unfold bI at p1
   refine hc.goS I1 p1 fun b S2 H2 I2 w2 p2=>?_
   cases b with
   |false=>exact uV (p2 σ1 S2 H2 I2 (aJ.refl _))
   | true=>
     refine u3 ⟨fun σ' H'=>∃ ρ' S',SR K cls Av G S₀ ρ' σ' S' H' /\ aJ S S' /\ eP K cls W Av G S₀ S' D (bI mc mb m ρ'),fun σ' H' h=>⟨m,Nat.lt_succ_self m,h⟩,?_⟩;refine hb Av G S₀ ρ1 σ1 S2 H2 _ I2 ?_;simp only[if_true]at p2
     cases e:mb ρ1 with
     |nx ρ'=>rw[e]at p2;exact fun σ' S' H' I' s'=>⟨ρ',S',I',(s1.trans w2.s).trans s',p2.back s'⟩
     |ct ρ'=>rw[e]at p2;exact fun σ' S' H' I' s'=>⟨ρ',S',I',(s1.trans w2.s).trans s',p2.back s'⟩
     |bk ρ'=>rw[e]at p2;exact p2
     |rt r=>rw[e]at p2;exact p2
     |exc ρ' c fs=>rw[e]at p2;exact p2
     |bad=>rw[e]at p2;exact p2
end
section
variable{K:PySem.W.Frag}{cls:String->Option Addr}{W:XW}{Av G S₀ S S' H H' B B':Hp}{ρ:ag}{σ:St}{Q:VK}
noncomputable def Fz:V->Option Int
 |.int i=>some i
 |_=>none
noncomputable def JO(K:PySem.W.Frag)(cls:String->Option Addr)(W:XW)(to:TO)(m:ag->OE):Prop:=∀ Av G S₀ ρ σ S H (Q:Option Int->Hp->Prop),SR K cls Av G S₀ ρ σ S H ->
 kG K cls W σ S H (fun v H'=>Q (Fz v) H') (m ρ)->to σ H Q
theorem uk:JO K cls W yo (mC .non):=fun Av G S₀ ρ σ S H Q I p=>p .non S H (bg.refl I.sh) (by show Rep K S _ _;unfold Rep;rfl)
theorem kT{m:ag->OE}(h:JE K cls W te m):JO K cls W (EO te) (gB m):=by
 intro Av G S₀ ρ σ S H Q I p
 refine h.go I p fun r v S1 H1 I1 w1 r1 p1=>?_
 cases e:r.pv with
 | int i=>
   rw[e]at p1
   have hv:v=.int i:=by have:=r1.rd I1.sh;rw[e]at this;exact du this
   exact⟨i,hv,p1 (.int i) S1 H1 (bg.refl I1.sh) (by show Rep K S1 _ _;unfold Rep;rfl)⟩
 |_=>rw[e]at p1;exact p1.elim
theorem JO.go{m:ag->OE}{f:RV->OE}{Q':Option Int->Hp->Prop}(h:JO K cls W to m)(I:SR K cls Av G S₀ ρ σ S H)(p:kG K cls W σ S H Q ((m ρ).bind f))
  (k:∀ r v S1 H1,SR K cls Av G S₀ ρ σ S1 H1->bg S H S1 H1->kY K H S1 H1 r v->kG K cls W σ S1 H1 Q (f r)->Q' (Fz v) H1):to σ H Q':=by
 refine h Av G S₀ ρ σ S H Q' I ?_
 cases e:m ρ with
 |ok r=>rw[e]at p;exact fun v S1 H1 w r1=>k r v S1 H1 (I.grow w) w r1 (p.back w)
 |exc c fs=>rw[e]at p;exact p
 |bad=>rw[e]at p;exact p
theorem part_of(h:RdV K S H x v):Fz v=lF x:=by
 cases x with
 |int i=>rw[du h];rfl
 |non=>rw[iy h];rfl
 |bl b=>rw[nr h];rfl
 |str b=>rw[kq h];rfl
 |lst xs=>obtain⟨p,vs,rfl,_⟩:=fY h;rfl
 |tup xs=>obtain⟨p,vs,rfl,_⟩:=mH h;rfl
theorem bG.cut(h:bG K S xs vs)(lo hi:Option Int):bG K S (qy xs lo hi) (C6 vs lo hi):=by
 have es:∀ n d o,vZ n d o=HT.sIx n d o:=fun n d o=>by cases o<;>rfl
 unfold qy C6;simp only[es];rw[h.length]
 exact(h.drop _).take _
theorem sG{ma ml mh:ag->OE}(ha:JE K cls W te ma)(hl:JO K cls W tl ml)(hh:JO K cls W th mh):JE K cls W (tSl (L0 K) te tl th) (rY ma ml mh):=by
 intro Av G S₀ ρ σ S H Q I p
 refine ha.go I p fun a v S1 H1 I1 w1 r1 p1=>hl.go I1 p1 fun l u S2 H2 I2 w2 r2 p2=>hh.go I2 p2 fun h z S3 H3 I3 w3 r3 p3=>?_
 rw[part_of (r2.rd I2.sh),part_of (r3.rd I3.sh)];have ra:=((r1.rd I1.sh).mono w2.s w2.g).mono w3.s w3.g
 cases e:a.pv with
 | lst xs=>
   rw[e]at p3 ra;obtain⟨q,vs,rfl,hq,hr⟩:=fY ra
   exact⟨q,vs,rfl,hq,fun b hb=>p3 _ S3 _ (bg.heap I3.sh hb) ⟨b,_,rfl,hb,I3.sh.free hb,bz,hr.cut _ _⟩⟩
 |_=>rw[e]at p3;exact p3.elim
theorem join_some{α:Type}{o:Option (Option α)}{s:α}(h:o.join=some s):o=some (some s):=by
 cases o with
 |none=>cases h
 | some x=>cases x with
   |none=>cases h
   |some y=>rw[show y=s from Option.some.inj h]
theorem Gn{α:Type}{l:List (Option α)}{ι:List Nat}{j:Nat}{s:α}(h:(ι.map fun i=>(l[i]?).join)[j]?=some (some s)):∃ i,ι[j]?=some i /\ l[i]?=some (some s):=by
 rw[List.getElem?_map]at h
 cases e:ι[j]? with
 |none=>rw[e]at h;cases h
 |some i=>rw[e]at h;exact⟨i,rfl,join_some (Option.some.inj h)⟩
noncomputable def HN(ι:List Nat)(Av:Hp):Hp:=fun j=>match ι[j]? with
 |some i=>Av i
 |none=>none
noncomputable def zH(ι:List Nat)(F:Nat->List Addr):Nat->List Addr:=fun j=>match ι[j]? with
 |some i=>F i
 |none=>[]
theorem t5.at(h:t5 K cls Av G S H i s v fp)(e:Av' j=Av i):t5 K cls Av' G S H j s v fp:=by
 cases s with
 |sh x=>exact h
 |ow xs=>exact h
 |ex c fs=>exact h
 |tr io t=>exact⟨h.1,h.2.1,h.2.2.1,fun z=>by rw[e];exact h.2.2.2 z⟩
 |bo t=>exact h
theorem SR.pick{ι:List Nat}{x:PV}{v:V}(I:SR K cls Av G S₀ ρ σ S H)(hι:ι.Nodup)(hx:Rep K S x v):SR K cls (HN ι Av) G S₀ (df ι ρ++[some (.sh x)]) (L2.E.pick ι σ++[some v]) S H:=by
 obtain⟨F,J⟩:=I
 have hl:(df ι ρ).length=(L2.E.pick ι σ).length:=by unfold df L2.E.pick;simp
 have hp:(df ι ρ).length=ι.length:=by unfold df;simp
 refine⟨zH ι F,J.gh,J.s0,J.sh,J.new,fun j s e=>?_,fun j k a h1 h2=>?_,fun j a h=>?_,by unfold df L2.E.pick;simp⟩
 . by_cases hj:j<(df ι ρ).length
   . rw[List.getElem?_append_left hj]at e;obtain⟨i,e1,e2⟩:=Gn e;obtain⟨u,e3,r⟩:=J.own i s e2
     refine⟨u,?_,?_⟩
     . rw[List.getElem?_append_left (by rw[<- hl];exact hj)];unfold L2.E.pick;rw[List.getElem?_map,e1];show some (σ[i]?).join=_;rw[e3];rfl
     . unfold zH;rw[e1];exact r.at (by unfold HN;rw[e1])
   . have hj':(df ι ρ).length<=j:=Nat.le_of_not_lt hj
     rw[List.getElem?_append_right hj']at e
     have h0:j - (df ι ρ).length=0:=by
      by_cases h:j - (df ι ρ).length=0
      . exact h
      . rw[List.getElem?_eq_none (by simp;omega)]at e;cases e
     rw[h0]at e;cases e
     refine⟨v,?_,?_,hx⟩
     . rw[List.getElem?_append_right (by rw[<- hl];exact hj'),<- hl,h0];rfl
     . unfold zH;rw[List.getElem?_eq_none (by rw[<- hp];exact hj')]
 . unfold zH at h1 h2
   cases e1:ι[j]? with
   |none=>rw[e1]at h1;cases h1
   | some i=>
     cases e2:ι[k]? with
     |none=>rw[e2]at h2;cases h2
     | some i'=>
       rw[e1]at h1;rw[e2]at h2;have z:=J.apart i i' a h1 h2;subst z;obtain⟨ha,ea⟩:=List.getElem?_eq_some_iff.mp e1;obtain⟨hb,eb⟩:=List.getElem?_eq_some_iff.mp e2
       exact(List.getElem_inj hι).mp (ea.trans eb.symm)
 . unfold zH at h
   cases e1:ι[j]? with
   |none=>rw[e1]at h;cases h
   |some i=>rw[e1]at h;exact J.live i a h
theorem EB{me:ag->OE}(h:cR me ρ (x ::xs)=.ok ys):∃ r y zs,me (ρ++[some (.sh x)])=.ok r /\ eX r=some y /\ cR me ρ xs=.ok zs /\ ys=y ::zs:=by
 unfold cR at h
 cases e:me (ρ++[some (.sh x)])with
 | ok r=>
   rw[e]at h;simp only[OE.fe]at h
   cases e2:eX r with
   |none=>rw[e2]at h;cases h
   | some y=>
     rw[e2]at h
     dsimp only at h
     cases e3:cR me ρ xs with
     |ok zs=>rw[e3]at h;cases h;exact⟨r,y,zs,rfl,e2,rfl,rfl⟩
     |exc c fs=>rw[e3]at h;cases h
     |bad=>rw[e3]at h;cases h
 |exc c fs=>rw[e]at h;cases h
 |bad=>rw[e]at h;cases h
theorem sC{J:It}{ι:List Nat}{me:ag->OE}{xs ys:List PV}(hι:ι.Nodup)(he:JE K cls (fun _ _ _ _=>False) te me)(I:SR K cls Av G S₀ ρ σ S H)(hy:cR me (df ι ρ) xs=.ok ys)(hl:ys.length<=lim)
  (go:∀ k H' x,aJ H H'->xs[k]?=some x->J.go k H' /\ ∀ v H2,J.yld k H' v H2->H2=H' /\ Rep K S x v) (stop:∀ H',aJ H H'->J.stop xs.length H')
  (hQ:∀ D S' H',bg S H S' H'->H D=none->S' D=none->(∃ us,H' D=some (.lst us) /\ bG K S' ys us)->Q (.ref D) H'):
  ∀ D,H D=none->∃ W:Nat->Nat->List V->Hp->Prop,(∃ m,W 0 m [] (upd H D (.lst []))) /\ ∀ i m us H',W i m us H' ->
    H' D=some (.lst us) /\ ((J.stop i H' /\ Q (.ref D) H') \/ (J.go i H' /\ ∀ x H2,J.yld i H' x H2->te (L2.E.pick ι σ++[some x]) H2 fun y H3=>H3 D=some (.lst us) /\ us.length<sizeLine /\ ∃ m',m'<m /\ W (i+1) m' (us++[y]) (upd H3 D (.lst (us++[y]))))):=by
 intro D nD
 refine⟨fun k m us H'=>m+k=xs.length /\ H' D=some (.lst us) /\ ∃ S' zs ws,aJ S S' /\ aJ H H' /\ aJ S' H' /\ (∀ b,S' b≠none->S b≠none \/ (H b=none /\ b≠D)) /\ bG K S' zs us /\ cR me (df ι ρ) (xs.drop k)=.ok ws /\ ys=zs++ws,
  ⟨xs.length,rfl,bz,S,[],ys,aJ.refl _,aJ.new nD,I.sh.trans (aJ.new nD),fun b z=>.inl z,.nil,hy,rfl⟩,?_⟩
 rintro k m us H' ⟨hm,hD,S',zs,ws,s1,g1,sh1,n1,r1,e1,rfl⟩
 refine⟨hD,?_⟩
 have hSD:S' D=none:=by
  cases q:S' D with
  |none=>rfl
  | some o=>
    rcases n1 D (by rw[q];simp)with z|⟨_,z⟩
    . exact absurd (I.sh.free nD) z
    . exact absurd rfl z
 by_cases hk:k<xs.length
 . refine .inr ?_
   have hx:xs[k]?=some xs[k]:=by simp[hk]
   obtain⟨hgo,hyld⟩:=go k H' xs[k] g1 hx
   refine⟨hgo,fun v H2 hv=>?_⟩
   obtain⟨rfl,rv⟩:=hyld v H2 hv;rw[List.drop_eq_getElem_cons hk]at e1;obtain⟨r,y,zs',em,es,e2,rfl⟩:=EB e1
   have I1:SR K cls Av G S₀ ρ σ S' H2:=I.grow ⟨s1,g1,sh1,fun b z=>by
    rcases n1 b z with z|⟨z,_⟩
    . exact .inl z
    . exact .inr z⟩
   refine he _ G S₀ _ _ S' H2 _ (I1.pick hι (Rep.mono s1 rv)) ?_;rw[em];intro u S2 H3 w2 r2;obtain⟨S3,w3,s3,ru⟩:=r2.share w2 es
   have hl2:(zs++y ::zs').length<=lim:=hl
   have hSD3:S3 D=none:=by
    cases q:S3 D with
    |none=>rfl
    | some o=>
      rcases w3.new D (by rw[q];simp)with z|z
      . exact absurd hSD z
      . rw[hD]at z;cases z
   refine⟨w3.g _ _ hD,?_,m - 1,by omega,by omega,bz,S3,zs++[y],zs',s1.trans w3.s,(g1.trans w3.g).upd nD,w3.sh.upd hSD3,fun b z=>?_,(r1.mono w3.s).append (.cons ru .nil),e2,by simp⟩
   . rw[r1.length,<- Ep];rw[List.length_append,List.length_cons]at hl2;omega
   . rcases w3.new b z with z|z
     . exact n1 b z
     . refine .inr ⟨g1.free z,fun e=>?_⟩;rw[e,hD]at z;cases z
 . have hk':k=xs.length:=by omega
   subst hk';refine .inl ⟨stop H' g1,?_⟩;rw[List.drop_length]at e1;cases e1
   exact hQ D S' H' ⟨s1,g1,sh1,fun b z=>by
    rcases n1 b z with z|⟨z,_⟩
    . exact .inl z
    . exact .inr z⟩ nD hSD ⟨us,hD,by rw[List.append_nil];exact r1⟩
theorem oi{ml me:ag->OE}{ι:List Nat}(hι:ι.Nodup)(hl:JE K cls W tl ml)(he:JE K cls (fun _ _ _ _=>False) te me):JE K cls W (uD (zE K tl) ι te) (oR ml ι me):=by
 intro Av G S₀ ρ σ S H Q I p
 refine hl.go I p fun r v S1 H1 I1 w1 r1 p1=>?_
 have ra:=r1.rd I1.sh
 cases e:r.pv with
 | lst xs=>
   rw[e]at p1 ra;obtain⟨a,vs,rfl,hq,hr⟩:=fY ra
   refine⟨a,rfl,⟨vs,hq⟩,?_⟩
   dsimp only at p1
   cases em:cR me (df ι ρ) xs with
   |exc c fs=>rw[em]at p1;exact p1.elim
   |bad=>rw[em]at p1;exact p1.elim
   | ok ys=>
     rw[em]at p1;simp only[noX]at p1;split at p1
     . rename_i hlen
       refine sC hι he I1 em hlen (fun k H' x g hx=>?_) (fun H' g=>⟨vs,aJ.seq g hq,by rw[hr.length];exact Nat.le_refl _⟩) fun D S' H' w nD sD ⟨us,hD,rr⟩=>p1 (.ref D) S' H' w ⟨D,us,rfl,nD,sD,hD,rr⟩
       obtain⟨u,hu,ru⟩:=hr.get hx
       refine⟨⟨vs,u,aJ.seq g hq,hu⟩,?_⟩
       rintro v' H2 ⟨rfl,hv⟩
       have:=hv vs (aJ.seq g hq);rw[hu]at this;cases this
       exact⟨rfl,ru⟩
     . exact p1.elim
 |_=>rw[e]at p1;exact p1.elim
theorem Ai{mn me:ag->OE}{ι:List Nat}(hι:ι.Nodup)(hn:JE K cls W tn mn)(he:JE K cls (fun _ _ _ _=>False) te me):JE K cls W (uD (DR (ib tn km)) ι te) (xK mn ι me):=by
 intro Av G S₀ ρ σ S H Q I p
 refine hn.go I p fun r v S1 H1 I1 w1 r1 p1=>?_
 have ra:=r1.rd I1.sh
 cases e:r.pv with
 | int j=>
   rw[e]at p1 ra;have hv:=du ra;subst hv
   dsimp only at p1
   split at p1
   . rename_i hj
     refine⟨j,rfl,hj.1,hj.2,?_⟩
     cases em:cR me (df ι ρ) (iV j.toNat)with
     |exc c fs=>rw[em]at p1;exact p1.elim
     |bad=>rw[em]at p1;exact p1.elim
     | ok ys=>
       rw[em]at p1;simp only[noX]at p1;split at p1
       . rename_i hlen
         have hln:(iV j.toNat).length=j.toNat:=by unfold iV;simp
         refine sC hι he I1 em hlen (fun k H' x g hx=>?_) (fun H' g=>by rw[hln];exact Nat.le_refl _) fun D S' H' w nD sD ⟨us,hD,rr⟩=>p1 (.ref D) S' H' w ⟨D,us,rfl,nD,sD,hD,rr⟩
         have hk:k<j.toNat:=by rw[<- hln];exact(List.getElem?_eq_some_iff.mp hx).1
         refine⟨hk,?_⟩
         rintro v' H2 ⟨rfl,rfl⟩
         refine⟨rfl,?_⟩
         have:x=.int (k:Int):=by
          unfold iV at hx;rw[List.getElem?_map,List.getElem?_range hk]at hx
          exact(Option.some.inj hx).symm
         subst this;unfold Rep;rw[Int.zero_add]
       . exact p1.elim
   . exact p1.elim
 |_=>rw[e]at p1;exact p1.elim
theorem Fe{ma:ag->OA}(hc:cls c=some C)(ha:JA K cls W t ma):JS K cls W (Bx C W t) (xQ c ma):=by
 intro Av G S₀ ρ σ S H D I p
 refine ha.goS I p fun xs vs S1 H1 I1 w1 r1 p1=>?_
 split at p1
 . rename_i hl
   refine⟨by rw[r1.length];exact hl,fun a hn=>p1 a C σ S1 _ (I1.grow (bg.heap I1.sh hn)) (aJ.refl _) ⟨hc,none,bz,.inl rfl⟩⟩
 . exact p1.elim
theorem A2(h:eP K cls W Av G S₀ S D (wO o)):eP K cls W' Av G S₀ S D o:=by
 cases o with
 |exc ρ c fs=>exact h.elim
 |nx ρ=>exact h
 |bk ρ=>exact h
 |ct ρ=>exact h
 |rt ρ r=>exact h
 |bad=>exact h
theorem K6{tb:XW->TS}{mb ms:ag->OS}{takes:String->Option Bool}(hb:∀ W,JS K cls W (tb W) mb)(hs:JS K cls (fun _ _ _ _=>False) ts ms)(hT:∀ c C b,cls c=some C->takes c=some b->tj K T C b):
  JS K cls W (Di K tb T ts none W) (Dj mb takes ms):=by
 intro Av G S₀ ρ σ S H D I p;refine hb _ Av G S₀ ρ σ S H D I ?_;unfold Dj at p
 cases e:mb ρ with
 | exc ρ' c fs=>
   rw[e]at p
   dsimp only at p
   intro a C σ' S' H' I' s' x H2 g2
   cases et:takes c with
   |none=>rw[et]at p;exact p.elim
   | some b=>
     rw[et]at p
     refine⟨C,b,rfl,hT c C b x.1 et,?_⟩
     have I2:=I'.same g2
     cases b with
     |true=>exact u3 (hs Av G S₀ ρ' σ' S' H2 _ I2 (A2 (p.back s')))
     |false=>exact uV (p a C σ' S' H2 I2 s' (x.mono (aJ.refl _) g2))
 |nx ρ'=>rw[e]at p;exact p
 |bk ρ'=>rw[e]at p;exact p
 |ct ρ'=>rw[e]at p;exact p
 |rt ρ' r=>rw[e]at p;exact p
 |bad=>rw[e]at p;exact p
theorem D3{tb:XW->TS}{mb ms:ag->OS}{takes:String->Option Bool}(hb:∀ W,JS K cls W (tb W) mb)(hs:JS K cls (fun _ _ _ _=>False) ts ms)(hT:∀ c C b,cls c=some C->takes c=some b->tj K T C b):
  JS K cls W (Di K tb T ts (some i) W) (p0 i mb takes ms):=by
 intro Av G S₀ ρ σ S H D I p;refine hb _ Av G S₀ ρ σ S H D I ?_;unfold p0 at p
 cases e:mb ρ with
 | exc ρ' c fs=>
   rw[e]at p
   dsimp only at p
   intro a C σ' S' H' I' s' x H2 g2
   cases et:takes c with
   |none=>rw[et]at p;exact p.elim
   | some b=>
     rw[et]at p
     refine⟨C,b,rfl,hT c C b x.1 et,?_⟩
     have I2:=I'.same g2;have x2:=x.mono (aJ.refl _) g2
     cases b with
     | true=>
       refine u3 (hs Av G S₀ _ _ S' H2 _ (I2.Mq (i:=i) x2) ?_)
       dsimp only at p
       cases eo:ms (ρ'.set i (some (.ex c fs)))with
       |exc ρ c fs=>rw[eo]at p;exact p.elim
       |nx ρ=>rw[eo]at p;exact fun σ3 S3 H3 I3 s3=>p (σ3.set i none) S3 H3 I3.Ce (s'.trans s3)
       |bk ρ=>rw[eo]at p;exact fun σ3 S3 H3 I3 s3=>p (σ3.set i none) S3 H3 I3.Ce (s'.trans s3)
       |ct ρ=>rw[eo]at p;exact fun σ3 S3 H3 I3 s3=>p (σ3.set i none) S3 H3 I3.Ce (s'.trans s3)
       |rt ρ r=>rw[eo]at p;exact fun v σ3 S3 H3 I3 s3 r3=>p v σ3 S3 H3 I3 (s'.trans s3) r3
       |bad=>rw[eo]at p;exact p.elim
     |false=>exact uV (p a C σ' S' H2 I2 s' x2)
 |nx ρ'=>rw[e]at p;exact p
 |bk ρ'=>rw[e]at p;exact p
 |ct ρ'=>rw[e]at p;exact p
 |rt ρ' r=>rw[e]at p;exact p
 |bad=>rw[e]at p;exact p
theorem Jx{under:String->Bool}(hT:∀ c C,cls c=some C->under c=true->∃ bm,n5 K C bm /\ ((∃ B bmB,T=.ref B /\ n5 K B bmB /\ (Value.ref C ::bm).contains (.ref B)=true) \/ (T=.ty "ValueError" /\ bm.contains (.type "ValueError")=true))):
  JE K cls W (tCB (fun xs H Q=>∃ a T C dx bm,xs=[.ref a,T] /\ H a=some (se a C dx) /\ n5 K C bm /\ ((∃ B bmB,T=.ref B /\ n5 K B bmB /\ (Value.ref C ::bm).contains (.ref B)=true) \/ (T=.ty "ValueError" /\ bm.contains (.type "ValueError")=true)) /\ Q (.bl true) H) (ib (vV i) (ib (tC T) km))) (DD i under):=by
 intro Av G S₀ ρ σ S H Q I p;unfold DD at p;split at p
 . rename_i c fs e;obtain⟨v,e1,a,C,rfl,hc,dx,hx,_⟩:=I.good i _ e;split at p
   . rename_i hu;obtain⟨bm,h1,h2⟩:=hT c C hc hu
     exact⟨_,e1,a,T,C,dx,bm,rfl,hx,h1,h2,p _ S H (bg.refl I.sh) kb⟩
   . exact p.elim
 . exact p.elim
theorem bG.begin(h:bG K S xs vs)(N:List Str)(i:Nat)(s:Sl)(e:(eW N.length xs)[i]?=some (some s)):∃ x v,s=.sh x /\ (L2.start N vs)[i]?=some (some v) /\ Rep K S x v:=by
 unfold eW at e
 by_cases hi:i<xs.length
 . rw[List.getElem?_append_left (by simpa using hi),List.getElem?_map]at e
   have hx:xs[i]?=some xs[i]:=by simp[hi]
   rw[hx]at e;cases e;obtain⟨v,hv,r⟩:=h.get hx
   refine⟨_,v,rfl,?_,r⟩
   unfold L2.start;rw[List.getElem?_append_left (by rw[List.length_map,h.length];exact hi),List.getElem?_map,hv];rfl
 . rw[List.getElem?_append_right (by simpa using hi)]at e;rw[List.getElem?_replicate]at e
   split at e<;>cases e
theorem NO{P:Program}{w:World}{mg:Str->Option Value}{base:Heap}{x qual:Str}{st:Stmt}{f:Addr}{fd:FuncData}{N ps:List Str}{k:Nat}{m:ag->OS}(F:Fun K x qual st f fd)(Sc:aP N ps (ay st))
  (hbody:∀(cdv:Value) (A:Around) (outer:List Env) (s:Shared) (H:Hp) (E:XK),gN k (A.deeper (envOfC qual (ay st) s.heap.objs.size f cdv)) ->
    ∃ t,PSs (sv (CXE P w) P w K mg base N qual (ay st) f cdv A outer s H E) (dk st) t /\ JS K cls (fun C a _ H=>∀ H',aJ H H'->E C a H') t m):bF P w K mg base (CXE P w) (k+1) f fd ps (spP K cls (fnP ps.length N.length m)):=by
 refine okX F Sc (fun vs H Q E h=>?_) fun cdv A outer s H vs Q E hr h=>?_
 . obtain⟨S,xs,_,r,q⟩:=h;unfold fnP at q;split at q
   . rw[r.length];assumption
   . exact q.elim
 . obtain⟨S,xs,sS,r,q⟩:=h;unfold fnP at q;split at q
   . rename_i hl;obtain⟨t,ht,J⟩:=hbody cdv A outer s H E hr
     refine⟨t,ht,?_⟩
     refine J (fun _=>none) H S (eW N.length xs) (start N vs) S H _ ⟨fun _=>[],aJ.refl _,aJ.refl _,sS,fun _ z=>.inl z,fun i s e=>?_,fun i j a h=>(nomatch h),fun i a h=>(nomatch h),?_⟩ ?_
     . obtain⟨x,v,rfl,e1,rx⟩:=r.begin N i s e
       exact⟨v,e1,rfl,rx⟩
     . unfold eW L2.start;simp[r.length]
     . cases e:m (eW N.length xs)with
       |nx ρ'=>rw[e]at q;exact fun σ' S' H' I' s'=>q .non S' H' ⟨I'.s0,I'.gh,I'.sh,I'.new⟩ (by show Rep K S' _ _;unfold Rep;rfl)
       |bk ρ'=>rw[e]at q;exact q.elim
       |ct ρ'=>rw[e]at q;exact q.elim
       |bad=>rw[e]at q;exact q.elim
       | rt ρ' r=>
         rw[e]at q
         cases r with
         |al ys=>exact q.elim
         |sh y=>exact fun v σ' S' H' b' s' rr=>q v S' H' ⟨b'.s0,b'.gh,b'.sh,b'.new⟩ rr
         |fr ys=>exact fun v σ' S' H' b' s' rr=>q v S' H' ⟨b'.s0,b'.gh,b'.sh,b'.new⟩ rr
       | exc ρ' c fs=>
         rw[e]at q
         exact fun a C σ' S' H' I' s' x H2 g2=>q a C S' H2 ⟨I'.s0,I'.gh.trans g2,I'.sh.trans g2,I'.new⟩ (x.mono (aJ.refl _) g2)
   . exact q.elim
noncomputable def yz(K:PySem.W.Frag):Sp:=fun vs H Q _=>∃(a:Addr) (ns:List Int),vs=[.ref a] /\ SqL K H a (ns.map V.int) /\ ns.length<=63 /\ ∀ H',Q (.bl true) H'
theorem Gd{f:List PV->OE}(h:∀ ns:List Int,ns.length<=63->f [.lst (ns.map .int)]=.ok (.sh (.bl true)))(vs:List V)(H:Hp)(Q:VK)(E:XK)(q:yz K vs H Q E):spP K cls f vs H Q E:=by
 obtain⟨a,ns,rfl,hS,hl,q⟩:=q
 refine⟨H,[.lst (ns.map .int)],aJ.refl _,.cons (by unfold Rep;exact⟨a,_,rfl,hS,bG.ints⟩) .nil,?_⟩
 rw[h ns hl];intro v S' H' w r
 have:v=.bl true:=by have r':Rep K S' (.bl true) v:=r;unfold Rep at r';exact r'
 subst this;exact q H'
end
section
variable{K:PySem.W.Frag}{cls:String->Option Addr}{W:XW}{Av G S₀ S S' H H' B B':Hp}{ρ:ag}{σ:St}{Q:VK}
theorem FV{i:Nat}{te:TE}{me:ag->OE}{f:Int->Int->Int}(he:JE K cls W te me):JS K cls W (FY i te (ipI f)) (sL i (gI (fun _ _=>true) fun i j=>.int (f i j)) me):=by
 intro Av G S₀ ρ σ S H D I p;unfold sL at p;split at p
 . rename_i x e;obtain⟨v,e1,r⟩:=I.good i _ e
   refine⟨v,e1,he.goS I p fun rr u S1 H1 I1 w1 r1 p1=>?_⟩
   have ra:=r1.rd I1.sh
   cases x with
   | int a=>
     cases eb:rr.pv with
     | int b=>
       rw[eb]at p1 ra
       have r':Rep K S (.int a) v:=r
       unfold Rep at r';subst r'
       exact⟨a,b,rfl,du ra,p1 _ S1 H1 (I1.y8 (by unfold Rep;rfl)) (aJ.refl _)⟩
     |_=>rw[eb]at p1;exact p1.elim
   |_=>cases eb:rr.pv<;>(rw[eb]at p1;exact p1.elim)
 . exact p.elim
theorem gu{i:Nat}{te:TE}{me:ag->OE}(he:JE K cls W te me):JS K cls W (FY i te (ipI fun i j=>i+j)) (sL i eV me):=FV he
theorem wt{x:PV}{v:V}(h:RdV K S H x v):decide (v=.non)=bW x:=by
 cases x with
 |non=>rw[iy h];rfl
 |bl b=>rw[nr h];rfl
 |int b=>rw[du h];rfl
 |str b=>rw[kq h];rfl
 |lst xs=>obtain⟨p,vs,rfl,_⟩:=fY h;rfl
 |tup xs=>obtain⟨p,vs,rfl,_⟩:=mH h;rfl
theorem sI:JR K (fun x y H Q=>y=.non /\ Q (.bl (decide (x=.non))) H) vX:=by
 intro S H x y v u rr Q I hx hy e k;unfold vX at e;split at e
 . cases e
   exact⟨iy hy,k _ S H (bg.refl I) (by rw[wt hx];exact kb)⟩
 . cases e
theorem qU:JR K (fun x y H Q=>y=.non /\ Q (.bl (!decide (x=.non))) H) nQ:=by
 intro S H x y v u rr Q I hx hy e k;unfold nQ at e;split at e
 . cases e
   exact⟨iy hy,k _ S H (bg.refl I) (by rw[wt hx];exact kb)⟩
 . cases e
end
end L2.P
namespace L2
open PySem PySem.Spec PyProof.Rows
structure QE(X:Cx)(e:Expr)(t:TE):Prop where
 out:PE X e t
structure QA(X:Cx)(es:List Expr)(t:TA):Prop where
 out:PA X es t
structure QS(X:Cx)(st:Stmt)(t:TS):Prop where
 out:PS X st t
structure QSs(X:Cx)(st:List Stmt)(t:TS):Prop where
 out:PSs X st t
structure QT(X:Cx)(e:Expr)(t:TT):Prop where
 out:PT X e t
structure QW(X:Cx)(e:Expr)(t:TT):Prop where
 out:PW X e t
structure QI(X:Cx)(tg e:Expr)(t:TI):Prop where
 out:PI X tg e t
structure QG(X:Cx)(e:Expr)(t:TG):Prop where
 out:PG X e t
structure QO(X:Cx)(e:Option Expr)(t:TO):Prop where
 out:PO X e t
end L2
namespace L2
theorem qau(h:True:=by first|rfl|decide|exact .inl rfl|exact .inr rfl|exact .inr (.inl rfl)|exact .inr (.inr rfl)|assumption|(intro _;rfl)|with_unfolding_all rfl):True:=h
end L2
namespace L2.E
open PySem PySem.Spec PyProof.Rows L2
theorem Hx:QE X (Expr.Constant (Const.bool b) j pos) (tC (V.bl b)):=⟨LP ⟩
theorem ax:QE X (Expr.Constant (Const.int i) j pos) (tC (V.int i)):=⟨IS ⟩
theorem aO:QE X (Expr.Constant (Const.str x) j pos) (tC (V.str x)):=⟨IZ ⟩
theorem b9:QE X (Expr.Constant Const.none j pos) (tC V.non):=⟨JH ⟩
theorem qv{X:Cx}(h1:Nat)(h4:autoParam (X.N[h1]?=some x) qau._auto_1)(h5:autoParam (Vis X.env.scope x) qau._auto_1)(h6:autoParam ((x==Str.ofString "__debug__")=false) qau._auto_1)(h7:autoParam ((x==Str.ofString "__classdict__")=false) qau._auto_1):QE X (Expr.Name x pos) (vV h1):=⟨pv h1 h4 h5 h6 h7⟩
theorem aK{X:Cx}(h5:Gl X x)(h6:X.mg x=some u)(h7:RelV v u)(h8:autoParam ((x==Str.ofString "__debug__")=false) qau._auto_1):QE X (Expr.Name x pos) (tC v):=⟨GA h5 h6 h7 h8⟩
theorem um{X:Cx}(h5:Gl X x)(h6:X.mg x=none)(h7:bootBuiltins x=some u)(h8:RelV v u)(h9:autoParam (x≠Str.ofString "__name__") qau._auto_1)(h10:autoParam ((x==Str.ofString "__debug__")=false) qau._auto_1):QE X (Expr.Name x pos) (tC v):=⟨GX h5 h6 h7 h8 h9 h10⟩
theorem Ll(h4:QE X a ta):QE X (Expr.UnaryOp UnaryOp.Not a pos) (E4 ta):=⟨Kx h4.out⟩
theorem vE{r:V->Hp->VK->Prop}(h6:UnR X (unaryOp op) r)(h7:QE X a ta):QE X (Expr.UnaryOp op a pos) (tUn r ta):=⟨LQ h6 h7.out⟩
theorem bj(h8:OpR X (binaryOp op) r)(h9:QE X a ta)(h10:QE X b tb):QE X (Expr.BinOp a op b pos) (tOp r ta tb):=⟨L5 h8 h9.out h10.out⟩
theorem j1(h8:OpR X (compareOp op) r)(h9:QE X a ta)(h10:QE X b tb)(h11:behindInMarks op b=false):QE X (Expr.Compare a [op] [b] pos) (tOp r ta tb):=⟨Hq h8 h9.out h10.out h11⟩
theorem u2(h12:OpR X (compareOp op) r)(h13:OpR X (compareOp op') r')(h14:QE X a ta)(h15:QE X b tb)(h16:QE X c tc)(h17:autoParam (lastMarks [op,op'] [b,c]=false) qau._auto_1):QE X (Expr.Compare a [op,op'] [b,c] pos) (uw r r' ta tb tc):=⟨DJ h12 h13 h14.out h15.out h16.out h17⟩
theorem uL(h5:QE X a t):QE X (Expr.BoolOp op [a] pos) t:=⟨IH h5.out⟩
theorem xU{X:Cx}{a:Expr}{b:Expr}{ta:TE}{tb:TE}{pos:Pos}{rest:List Expr}(h7:QE X a ta)(h8:QE X (Expr.BoolOp BoolOp.And (b ::rest) pos) tb):QE X (Expr.BoolOp BoolOp.And (a ::b ::rest) pos) (ES ta tb):=⟨Kb h7.out h8.out⟩
theorem Md{X:Cx}{a:Expr}{b:Expr}{ta:TE}{tb:TE}{pos:Pos}{rest:List Expr}(h7:QE X a ta)(h8:QE X (Expr.BoolOp BoolOp.Or (b ::rest) pos) tb):QE X (Expr.BoolOp BoolOp.Or (a ::b ::rest) pos) (JY ta tb):=⟨Mn h7.out h8.out⟩
theorem dn(h8:QT X c tA)(h9:QE X a ta)(h10:QE X b tb):QE X (Expr.IfExp c a b pos) (tIf tA ta tb):=⟨FO h8.out h9.out h10.out⟩
theorem aW(h4:QA X es t):QE X (Expr.List es pos) (Jd t):=⟨Ku h4.out⟩
theorem cM(h5:QA X es t):QE X (Expr.Tuple es x1 pos) (IU t):=⟨JG h5.out⟩
theorem lN{X:Cx}{e:Expr}{te:TE}{lo:Option Expr}{hi:Option Expr}{tl:TO}{th:TO}{pos:Pos}{p2:Pos}{r:V->Option Int->Option Int->Hp->VK->Prop}(h10:SlR X r)(h11:QE X e te)(h12:QO X lo tl)(h13:QO X hi th):QE X (Expr.Subscript e (Expr.Slice lo hi none p2) pos) (tSl r te tl th):=⟨FI h10 h11.out h12.out h13.out⟩
theorem Mb(h7:IxR X r)(h8:QE X a ta)(h9:QE X b tb)(h10:xR b):QE X (Expr.Subscript a b pos) (tOp r ta tb):=⟨LV h7 h8.out h9.out h10⟩
theorem kS{X:Cx}{cl:List (Str×Addr)}(h12:my X scope cl M ι x)(h13:X.calm=true)(h14:QI X (Expr.Name x px) iter wi)(h15:∀(C:Addr) (s₀:Shared) (H₀:Hp) (ex:List Addr),QE (blk X scope cl (M++[x]) C s₀ H₀ ex) elt te)(h16:autoParam (∀(v:Value),foldedSetIterable iter X.env v=pure v) qau._auto_1):QE X (Expr.ListComp elt [Comprehension.mk (Expr.Name x px) iter [] 0] scope pos) (uD wi ι te):=⟨G7 h12 h13 h14.out (fun z0 z1 z2 z3=>(h15 z0 z1 z2 z3).out) h16⟩
theorem FQ{X:Cx}{x:Str}(h15:bF X.prog X.w X.K X.mg X.base (CXE X.prog X.w) k f fd ps sp)(h16:gN k X.A)(h17:Gl X x)(h18:X.mg x=some (Value.ref f))(h19:PySem.W.keepIn X.K (Value.ref f)=true)(h20:Binds X.K fd ps ds)(h21:Vals dvs ds)(h22:Thr X W)(h23:QA X (e ::es) t)(h24:autoParam ((x==Str.ofString "__debug__")=false) qau._auto_1)(h25:autoParam (starEach (e ::es) X.env=(false,eval e X.env) ::starEach es X.env) qau._auto_1)(h26:autoParam ((List.any (backTo pos (starEach es X.env)) fun x=>x.fst)=false) qau._auto_1):QE X (Expr.Call (Expr.Name x p) (e ::es) [] pos) (sy sp dvs W t):=⟨E9 h15 h16 h17 h18 h19 h20 h21 h22 h23.out h24 h25 h26⟩
theorem iH{X:Cx}{x:Str}{p:Pos}{pos:Pos}{e:Expr}{es:List Expr}{t:TA}{id:String}{r:List V->Hp->VK->Prop}(h9:pJ X (Value.builtin id) r)(h10:Gl X x)(h11:X.mg x=none)(h12:bootBuiltins x=some (Value.builtin id))(h13:QA X (e ::es) t)(h14:autoParam (x≠Str.ofString "__name__") qau._auto_1)(h15:autoParam ((x==Str.ofString "__debug__")=false) qau._auto_1)(h16:autoParam (starEach (e ::es) X.env=(false,eval e X.env) ::starEach es X.env) qau._auto_1)(h17:autoParam ((List.any (backTo pos (starEach es X.env)) fun x=>x.fst)=false) qau._auto_1):QE X (Expr.Call (Expr.Name x p) (e ::es) [] pos) (tCB r t):=⟨EK h9 h10 h11 h12 h13.out h14 h15 h16 h17⟩
theorem sH{X:Cx}{x:Str}{r:List V->Hp->VK->Prop}(h9:pJ X (Value.type T) r)(h10:Gl X x)(h11:X.mg x=none)(h12:bootBuiltins x=some (Value.type T))(h13:QA X (e ::es) t)(h14:autoParam (x≠Str.ofString "__name__") qau._auto_1)(h15:autoParam ((x==Str.ofString "__debug__")=false) qau._auto_1)(h16:autoParam (starEach (e ::es) X.env=(false,eval e X.env) ::starEach es X.env) qau._auto_1)(h17:autoParam ((List.any (backTo pos (starEach es X.env)) fun x=>x.fst)=false) qau._auto_1):QE X (Expr.Call (Expr.Name x p) (e ::es) [] pos) (tCB r t):=⟨Dm h9 h10 h11 h12 h13.out h14 h15 h16 h17⟩
theorem Io{X:Cx}{o:Expr}{e:Expr}{es:List Expr}{to:TE}{t:TA}{name:Str}{apos:Pos}{cpos:Pos}{T:String}{id:String}{r:V->List V->Hp->VK->Prop}(h12:PlainAttrs T)(h13:Slot T name id)(h14:typeOf (Value.builtin id)=pure (Value.type "method_descriptor"))(h15:MtR X id r)(h16:QE X o to)(h17:QA X (e ::es) t)(h18:autoParam (attributeBase o name X.env (eval o X.env)=eval o X.env) qau._auto_1)(h19:autoParam ((((List.all (backTo cpos (starEach (e ::es) X.env)) fun x=>!x.fst)&&List.all (backToKw cpos (keywordEach [] X.env)) fun x=>Option.isSome x.fst)&&Decidable.decide ((List.length (e ::es)+List.length ([]:List Keyword)+if List.isEmpty ([]:List Keyword)=true then 0 else 1)<30))=true) qau._auto_1)(h20:autoParam ((apos.endLine==cpos.line)=true) qau._auto_1)(h21:autoParam (starEach (e ::es) X.env=(false,eval e X.env) ::starEach es X.env) qau._auto_1)(h22:autoParam ((List.any (backTo cpos (starEach es X.env)) fun x=>x.fst)=false) qau._auto_1):QE X (Expr.Call (Expr.Attribute o name apos) (e ::es) [] cpos) (tBM X.K T r to t):=⟨Mc h12 h13 h14 h15 h16.out h17.out h18 h19 h20 h21 h22⟩
theorem E6{X:Cx}{o:Expr}{to:TE}{name:Str}{apos:Pos}{cpos:Pos}{T:String}{id:String}{r:V->List V->Hp->VK->Prop}(h9:PlainAttrs T)(h10:Slot T name id)(h11:typeOf (Value.builtin id)=pure (Value.type "method_descriptor"))(h12:MtR X id r)(h13:QE X o to)(h14:autoParam (attributeBase o name X.env (eval o X.env)=eval o X.env) qau._auto_1)(h15:autoParam ((apos.endLine==cpos.line)=true) qau._auto_1):QE X (Expr.Call (Expr.Attribute o name apos) [] [] cpos) (Kv X.K T r to):=⟨IK h9 h10 h11 h12 h13.out h14 h15⟩
theorem uo:QO X none yo:=⟨FU ⟩
theorem kR(h3:QE X e te):QO X (some e) (EO te):=⟨Gz h3.out⟩
theorem aq:QA X [] km:=⟨Je ⟩
theorem aa(h5:QE X e te)(h6:QA X es t)(h7:autoParam (isStar e=false) qau._auto_1):QA X (e ::es) (ib te t):=⟨E5 h5.out h6.out h7⟩
theorem eH(h8:OpR X (compareOp op) r)(h9:QE X a ta)(h10:QE X b tb)(h11:behindInMarks op b=false):QT X (Expr.Compare a [op] [b] pos) (xa (tOp r ta tb)):=⟨G0 h8 h9.out h10.out h11⟩
theorem iB(h12:OpR X (compareOp op) r)(h13:OpR X (compareOp op') r')(h14:QE X a ta)(h15:QE X b tb)(h16:QE X c tc)(h17:autoParam (lastMarks [op,op'] [b,c]=false) qau._auto_1):QT X (Expr.Compare a [op,op'] [b,c] pos) (xa (uw r r' ta tb tc)):=⟨Er h12 h13 h14.out h15.out h16.out h17⟩
theorem qg(h4:QT X a tA):QT X (Expr.UnaryOp UnaryOp.Not a pos) (Hs tA):=⟨KJ h4.out⟩
theorem dq{X:Cx}(h3:QE X a ta)(h4:∀(whole:Sem Value),
 isTrue a X.env whole=do
  let v <- whole
  standAt (Expr.pos a)
  holding [v] (truthy v)):QT X a fun σ H Q=>ta σ H fun x H'=>∃ k,AZ X.K x H' k /\ Q k H':=⟨E0 h3.out h4⟩
theorem qH(h3:QW X e t):QT X e t:=⟨PW.pt h3.out⟩
theorem rL(h4:QT X a tA):QW X (Expr.BoolOp BoolOp.And [a] pos) tA:=⟨GF h4.out⟩
theorem xX(h4:QT X a tA):QW X (Expr.BoolOp BoolOp.Or [a] pos) tA:=⟨Ln h4.out⟩
theorem sO{X:Cx}{a:Expr}{b:Expr}{pos:Pos}{tA:TT}{tB':TT}{rest:List Expr}(h7:QT X a tA)(h8:QW X (Expr.BoolOp BoolOp.And (b ::rest) pos) tB'):QW X (Expr.BoolOp BoolOp.And (a ::b ::rest) pos) (Jc tA tB'):=⟨Jh h7.out h8.out⟩
theorem BM{X:Cx}{a:Expr}{b:Expr}{pos:Pos}{tA:TT}{tB':TT}{rest:List Expr}(h7:QT X a tA)(h8:QW X (Expr.BoolOp BoolOp.Or (b ::rest) pos) tB'):QW X (Expr.BoolOp BoolOp.Or (a ::b ::rest) pos) (tOr tA tB'):=⟨LW h7.out h8.out⟩
theorem wm{X:Cx}(h6:Gl X (Str.ofString "range"))(h7:X.mg (Str.ofString "range")=none)(h8:QA X [a] ta)(h9:autoParam (starEach [a] X.env=[(false,eval a X.env)]) qau._auto_1):QI X tg (Expr.Call (Expr.Name (Str.ofString "range") p) [a] [] pos) (DR ta):=⟨DB h6 h7 h8.out h9⟩
theorem fR{X:Cx}(h4:QE X l tl):QI X tg l (zE X.K tl):=⟨Gk h4.out⟩
theorem Ew{X:Cx}(h4:QE X l tl):QI X tg l (Jv X.K tl):=⟨Ki h4.out⟩
theorem Lh{X:Cx}{pos:Pos}(h7:List.Nodup X.N)(h8:X.N[i]?=some x)(h9:Loc X.env.scope x)(h10:QE X e te)(h11:autoParam (swapsWith e (some (Expr.Name x pos')) pos.line X.env=pure false) qau._auto_1)(h12:autoParam (X.fn x=true \/ List.lookup x X.env.scope.names=some NameKind.local) qau._auto_1):QS X (Stmt.Assign [Expr.Name x pos'] e pos) (vJ te (jP i)):=⟨Kn h7 h8 h9 h10.out h11 h12⟩
theorem Kk{X:Cx}{pos:Pos}(h6:QE X e te)(h7:QG X tg g)(h8:autoParam (swapsWithSole [tg] e pos.line X.env=pure false) qau._auto_1)(h9:autoParam (swappedStores [tg] e X.env=pure none) qau._auto_1)(h10:autoParam (List.map (fun x=>x.snd) (assignEach [tg] X.env)=[assign tg X.env]) qau._auto_1):QS X (Stmt.Assign [tg] e pos) (vJ te g):=⟨Jm h6.out h7.out h8 h9 h10⟩
theorem oJ{X:Cx}(h9:List.Nodup X.N)(h10:X.N[i]?=some x)(h11:Loc X.env.scope x)(h12:QE X e te)(h13:PIp X op ti)(h14:autoParam (X.fn x=true \/ List.lookup x X.env.scope.names=some NameKind.local) qau._auto_1):QS X (Stmt.AugAssign (Expr.Name x pos') op e pos) (FY i te ti):=⟨KD h9 h10 h11 h12.out h13 h14⟩
theorem aS(h8:QT X c tc)(h9:QSs X a t)(h10:QSs X b u):QS X (Stmt.If c a b pos) (G6 tc t u):=⟨LY h8.out h9.out h10.out⟩
theorem aA(h4:QE X e te):QS X (Stmt.Return (some e) pos) (Hc te):=⟨IT h4.out⟩
theorem oX{X:Cx}{pos:Pos}(h4:QE X e te)(h5:autoParam (swapsWith e none pos.line X.env=pure false) qau._auto_1):QS X (Stmt.Expr e pos) (q8 te):=⟨Gf h4.out h5⟩
theorem jq{X:Cx}(h6:PassesOwn (model X.prog X.w) X.A X.env X.xe)(h7:QT X c tc)(h8:QSs X body tb):QS X (Stmt.While c body [] pos) (Br tc tb):=⟨ED h6 h7.out h8.out⟩
theorem lA{X:Cx}(h8:PassesOwn (model X.prog X.w) X.A X.env X.xe)(h9:X.calm=true)(h10:QI X tg iter wi)(h11:QG X tg g)(h12:QSs X body tb)(h13:autoParam (∀(x:Value),foldedSetIterable iter X.env x=pure x) qau._auto_1):QS X (Stmt.For tg iter body [] pos) (CK wi g tb):=⟨Kl h8 h9 h10.out h11.out h12.out h13⟩
theorem DW{X:Cx}{x:Str}{np:Pos}{cpos:Pos}{pos:Pos}{e₀:Expr}{rest:List Expr}{t:TA}{W:XW}{C:Addr}{B:String}{newId:String}{initId:String}{bm:List Value}(h14:Thr X W)(h15:X.A.handled=none)(h16:ExcBaseFacts B newId initId bm)(h17:Gl X x)(h18:X.mg x=some (Value.ref C))(h19:PySem.W.excIn X.K C bm newId=true)(h20:QA X (e₀ ::rest) t)(h21:autoParam (starEach (e₀ ::rest) X.env=(false,eval e₀ X.env) ::starEach rest X.env) qau._auto_1)(h22:autoParam ((List.any (backTo cpos (starEach rest X.env)) fun x=>x.fst)=false) qau._auto_1)(h23:autoParam ((x==Str.ofString "__debug__")=false) qau._auto_1):QS X (Stmt.Raise (some (Expr.Call (Expr.Name x np) (e₀ ::rest) [] cpos)) none pos) (Bx C W t):=⟨DK h14 h15 h16 h17 h18 h19 h20.out h21 h22 h23⟩
theorem JF{X:Cx}{tb:XW->TS}(h12:X.stack=X.env ::X.outer /\ X.env.frame=some X.env.locals)(h13:∀(pn:List (Addr×Obj)) (xe:Value->Shared->Prop) (W:XW),Thr (ot X pn xe) W->PassesOwn (model X.prog X.w) X.A X.env xe->QSs (ot X pn xe) body (tb W))(h14:Gl X x)(h15:X.mg x=some (Value.ref T))(h16:∀(a:Addr),QSs (hand X a) (b₀ ::suite) ts)(h17:Thr X W₀)(h18:autoParam ((x==Str.ofString "__debug__")=false) qau._auto_1):QS X (Stmt.Try body [ExceptHandler.ExceptHandler (some (Expr.Name x np)) none (b₀ ::suite) hpos] [] [] pos) (Di X.K tb T ts none W₀):=⟨Ko h12 (fun z0 z1 z2 z3 z4=>(h13 z0 z1 z2 z3 z4).out) h14 h15 (fun z0=>(h16 z0).out) h17 h18⟩
theorem DQ{X:Cx}{tb:XW->TS}(h14:X.stack=X.env ::X.outer /\ X.env.frame=some X.env.locals)(h15:List.Nodup X.N)(h16:X.N[i]?=some n)(h17:List.lookup n X.env.scope.names=some NameKind.local)(h18:∀(pn:List (Addr×Obj)) (xe:Value->Shared->Prop) (W:XW),Thr (ot X pn xe) W->PassesOwn (model X.prog X.w) X.A X.env xe->QSs (ot X pn xe) body (tb W))(h19:Gl X x)(h20:X.mg x=some (Value.ref T))(h21:∀(a:Addr),QSs (hand X a) (b₀ ::suite) ts)(h22:Thr X W₀)(h23:autoParam ((x==Str.ofString "__debug__")=false) qau._auto_1):QS X (Stmt.Try body [ExceptHandler.ExceptHandler (some (Expr.Name x np)) (some n) (b₀ ::suite) hpos] [] [] pos) (Di X.K tb T ts (some i) W₀):=⟨D6 h14 h15 h16 h17 (fun z0 z1 z2 z3 z4=>(h18 z0 z1 z2 z3 z4).out) h19 h20 (fun z0=>(h21 z0).out) h22 h23⟩
theorem iI{X:Cx}(h4:List.Nodup X.N)(h5:X.N[i]?=some x)(h6:Loc X.env.scope x)(h7:autoParam (X.fn x=true \/ List.lookup x X.env.scope.names=some NameKind.local) qau._auto_1):QG X (Expr.Name x pos) (jP i):=⟨Hj h4 h5 h6 h7⟩
theorem aF:QSs X [] Et:=⟨FT ⟩
theorem ao{X:Cx}{st:Stmt}{t:TS}(h3:QS X st t):QSs X [st] t:=⟨Hf h3.out⟩
theorem ai{X:Cx}{st:Stmt}{rest:List Stmt}{t:TS}{u:TS}(h5:QS X st t)(h6:QSs X rest u):QSs X (st ::rest) (IY t u):=⟨FD h5.out h6.out⟩
end L2.E
namespace L2.P
open PySem PySem.Spec PyProof.Rows L2 L2.E
theorem cQ{K:PySem.W.Frag}{cls:String->Option Addr}{P:Program}{w:World}{mg:Str->Option Value}{base:Heap}{x qual:Str}{st:Stmt}{f:Addr}{fd:FuncData}{N ps:List Str}{k:Nat}{m:ag->OS}(F:Fun K x qual st f fd)(Sc:aP N ps (ay st))
  (hbody:∀(cdv:Value) (A:Around) (outer:List Env) (s:Shared) (H:Hp) (E:XK),gN k (A.deeper (envOfC qual (ay st) s.heap.objs.size f cdv)) ->
    ∃ t,QSs (sv (CXE P w) P w K mg base N qual (ay st) f cdv A outer s H E) (dk st) t /\ JS K cls (fun C a _ H=>∀ H',aJ H H'->E C a H') t m):bF P w K mg base (CXE P w) (k+1) f fd ps (spP K cls (fnP ps.length N.length m)):=
 NO F Sc fun cdv A outer s H E hr=>let ⟨t,h1,h2⟩:=hbody cdv A outer s H E hr;⟨t,h1.out,h2⟩
end L2.P
namespace L2.E
open PySem PySem.Spec PyProof.Rows L2
end L2.E
namespace L2.P
open PySem PySem.Spec PyProof.Rows L2 L2.E
end L2.P
namespace L2.E
open PySem PySem.Spec PyProof.Rows L2
section
variable{prog:Program}{w:World}{A:Around}{E:Value->Shared->Prop}{s:Shared}{K:PySem.W.Frag}{x C:Addr}{name:Str}{v:Value}
open PySem.W in
open PySem.W in
end
noncomputable def LB(a C:Addr)(dx:Option Addr)(h:Heap):Prop:=∃ o t,h.get? a=some o /\ o.cls=.ref C /\ o.dict=dx /\ o.data=.fields #[.ref t,.none,.none,.none,.bool false,.none]
theorem LB.exc{a C:Addr}{dx:Option Addr}{h:Heap}(x:LB a C dx h):FL a C dx h:=let ⟨o,t,e,c,d,f⟩:=x;⟨o,_,e,c,d,f,rfl⟩
section
variable{prog:Program}{w:World}{A:Around}{E:Value->Shared->Prop}{s:Shared}{K:PySem.W.Frag}{x C:Addr}{name:Str}{v:Value}{tk:Tok}
open PySem.W in
end
section
variable{prog:Program}{w:World}{A:Around}{E:Value->Shared->Prop}{hh:Heap}{g:Array GenState}{d:Drawn}{t:Nat}{os:OsState}{K:PySem.W.Frag}{x C:Addr}{name:Str}{v:Value}{tk:Tok}
open PySem.W in
end
section
variable{prog:Program}{w:World}{A:Around}{E:Value->Shared->Prop}{s:Shared}{K:PySem.W.Frag}{x C:Addr}{name:Str}{v:Value}
open PySem.W in
end
section
variable{prog:Program}{w:World}{A:Around}{E:Value->Shared->Prop}{h:Heap}{g:Array GenState}{d:Drawn}{t:Nat}{os:OsState}{K:PySem.W.Frag}
variable{nm q:Str}{C N:Addr}{bs bm bmB:List Value}{hdct:Bool}{sn:List Str}{sub:List Value}{ab:Bool}{col:Option Bool}{dd:Option Addr}{k0 k1 k2 k3 k5:Option Value}{B newId initId:String}
open PySem.W in
open PySem.W in
end
theorem JQ{X:Cx}{o i:Expr}{to ti:TE}{t:FX}{pos:Pos}(ho:QE X o to)(hi:QE X i ti)(hs:IE X t)
  (ha:∀ v,assign (.Subscript o i pos) X.env v=(do
    let ov <- holding [v] (eval o X.env)
    let iv <- holding [v,ov] (eval i X.env)
    standAt pos
    holding [v,ov,iv] (setItem ov iv v)
    release [v,ov,iv] []):=by intro _;rfl):QG X (.Subscript o i pos) (K4 to ti t):=⟨K3 ho.out hi.out hs ha⟩
end L2.E
namespace L2.P
open PySem PySem.Spec PyProof.Rows L2 L2.E
section
variable{K:PySem.W.Frag}{cls:String->Option Addr}{W:XW}{S H:Hp}
theorem KC{i:Nat}{tk tv:TE}{mk mv:ag->OE}(hk:JE K cls W tk mk)(hv:JE K cls W tv mv):JS K cls W (vJ tv (K4 (vV i) tk Iq)) (Gp i mk mv):=by
 intro Av G S₀ ρ σ S H D I p;unfold Gp at p;split at p
 . rename_i xs e;refine hv Av G S₀ ρ σ S H _ I ?_
   cases em:mv ρ with
   |exc c fs=>rw[em]at p;exact fun a C S' H' w x=>p a C σ S' H' (I.grow w) w.s x
   |bad=>rw[em]at p;exact p
   | ok r=>
     rw[em]at p;intro u S1 H1 w1 r1;simp only[OE.bM]at p
     cases es:eX r with
     |none=>rw[es]at p;exact p.elim
     | some y=>
       rw[es]at p;obtain⟨S2,w2,s2,rx⟩:=r1.share w1 es;have I2:=I.grow w2;obtain⟨v,e1,a,vs,rfl,h1,h2,h3,h4⟩:=I2.good i _ e
       refine⟨_,e1,?_⟩
       refine hk.goS I2 (p.back w2.s) fun kk z S3 H3 I3 w3 r3 p3=>?_
       have rk:=r3.rd I3.sh
       cases ek:kk.pv with
       | int k=>
         rw[ek]at p3 rk;have hz:=du rk;subst hz
         dsimp only at p3
         cases ej:ixP xs.length k with
         |none=>rw[ej]at p3;exact p3.elim
         | some j=>
           rw[ej]at p3
           refine⟨a,vs,k,j,rfl,rfl,w3.g _ _ h3,by rw[h4.length];exact ej,?_⟩
           exact p3 σ S3 _ (I3.mut e e1 ((h4.mono w3.s).set (Rep.mono w3.s rx) j)) (aJ.refl _)
       |_=>rw[ek]at p3;exact p3.elim
 . exact p.elim
end
end L2.P
namespace L2.P
open PySem
inductive Stp where
 |ix (k:Nat)|fd (f:Str)
noncomputable def nN:List Str->List OV->Str->Option OV
 |k ::ks,t ::ts,f=>if k=f then some t else nN ks ts f
 |_,_,_=>none
noncomputable def vO:List Str->List OV->Str->OV->List OV
 |k ::ks,t ::ts,f,u=>if k=f then u ::ts else t ::vO ks ts f u
 |_,ts,_,_=>ts
noncomputable def OV.at1:OV->Stp->Option OV
 |.ol ts,.ix k=>ts[k]?
 |.ob _ ks ts,.fd f=>nN ks ts f
 |_,_=>none
noncomputable def OV.EM:OV->Stp->OV->OV
 |.ol ts,.ix k,u=>.ol (ts.set k u)
 |.ob c ks ts,.fd f,u=>.ob c ks (vO ks ts f u)
 |t,_,_=>t
noncomputable def OV.get:OV->List Stp->Option OV
 |t,[]=>some t
 |t,s ::π=>(t.at1 s).bind fun u=>u.get π
noncomputable def OV.put:OV->List Stp->OV->OV
 |_,[],u=>u
 | t,s ::π,u=>match t.at1 s with
   |some t'=>t.EM s (t'.put π u)
   |none=>t
noncomputable def slT:Sl->Option OV
 |.tr _ t=>some t
 |.bo t=>some t
 |_=>none
noncomputable def kh(i:Nat)(ρ:ag):Option OV:=match ρ[i]? with
 |some (some s)=>slT s
 |_=>none
abbrev MP:=ag->Option (List Stp)
noncomputable def eK:MP:=fun _=>some []
noncomputable def pIx(i:Nat)(mp:MP)(mk:ag->OE):MP:=fun ρ=>match kh i ρ with
 | some t=>(match mp ρ with
   | some π=>(match t.get π with
     | some (.ol ts)=>(match mk ρ with
       | .ok r=>(match r.pv with
         |.int k=>(ixP ts.length k).map fun j=>π++[.ix j]
         |_=>none)
       |_=>none)
     |_=>none)
   |none=>none)
 |none=>none
noncomputable def subAt(i:Nat)(mp:MP)(ρ:ag):Option OV:=match kh i ρ with
 | some t=>(match mp ρ with
   |some π=>t.get π
   |none=>none)
 |none=>none
noncomputable def pFd(i:Nat)(mp:MP)(f:Str)(ok:String->Bool):MP:=fun ρ=>match subAt i mp ρ with
 |some (.ob c ks ts)=>if(ok c&&(nN ks ts f).isSome)=true then(mp ρ).map fun π=>π++[.fd f]else none
 |_=>none
noncomputable def zi:List OV->Option (List PV)
 |[]=>some []
 |.sh x ::r=>(zi r).map (x ::·)
 |_ ::_=>none
@[simp] theorem wc(xs:List PV):zi (xs.map .sh)=some xs:=by
  induction xs with
  |nil=>rfl
  |cons x xs ih=>show(zi (xs.map .sh)).map (x ::·)=_;rw[ih];rfl
noncomputable def sU(i:Nat)(mp:MP):ag->OE:=fun ρ=>match subAt i mp ρ with
 |some (.sh x)=>.ok (.sh x)
 | some (.ol ts)=>(match zi ts with
   |some xs=>.ok (.al xs)
   |none=>.bad)
 |_=>.bad
noncomputable def q9(i:Nat)(mp:MP):ag->OT:=fun ρ=>match subAt i mp ρ with
 |some (.ol ts)=>.ok (!ts.isEmpty)
 |_=>.bad
inductive OD where
 |ok (t:OV)|exc (c:String) (fs:XF)|bad
inductive ODs where
 |ok (ts:List OV)|exc (c:String) (fs:XF)|bad
noncomputable def mD(me:ag->OE):ag->OD:=fun ρ=>match me ρ with
 |.ok (.sh x)=>.ok (.sh x)
 |.ok (.fr xs)=>.ok (.ol (xs.map .sh))
 |.ok (.al _)=>.bad
 |.exc c fs=>.exc c fs
 |.bad=>.bad
noncomputable def mDc(md:ag->OD)(mr:ag->ODs):ag->ODs:=fun ρ=>match md ρ with
 | .ok t=>(match mr ρ with
   |.ok ts=>.ok (t ::ts)
   |.exc c fs=>.exc c fs
   |.bad=>.bad)
 |.exc c fs=>.exc c fs
 |.bad=>.bad
noncomputable def tD(i:Nat)(md:ag->OD):ag->OS:=fun ρ=>match md ρ with
 |.ok t=>.nx (ρ.set i (some (.tr false t)))
 |.exc c fs=>.exc ρ c fs
 |.bad=>.bad
noncomputable def Bf(i:Nat)(mp:MP)(ρ:ag)(k:OV->(OV->ag)->OS):OS:=match ρ[i]? with
 | some (some (.tr io t))=>(match mp ρ with
   | some π=>(match t.get π with
     |some u=>k u fun u'=>ρ.set i (some (.tr io (t.put π u')))
     |none=>.bad)
   |none=>.bad)
 |_=>.bad
noncomputable def nY(i:Nat)(mp:MP)(md:ag->OD):ag->OS:=fun ρ=>Bf i mp ρ fun u put=>match u with
 | .ol ts=>(match md ρ with
   |.ok x=>if ts.length<lim then .nx (put (.ol (ts++[x])))else .bad
   |.exc c fs=>.exc ρ c fs
   |.bad=>.bad)
 |_=>.bad
noncomputable def Ff(i:Nat)(mp:MP)(f:Str)(okc:String->Bool)(md:ag->OD):ag->OS:=fun ρ=>match md ρ with
 | .ok x=>Bf i mp ρ fun u put=>(match u with
   |.ob c ks ts=>if(okc c&&decide (ks.length<1000))=true then(if ks.contains f=true then .nx (put (.ob c ks (vO ks ts f x)))else .nx (put (.ob c (ks++[f]) (ts++[x]))))else .bad
   |_=>.bad)
 |.exc c fs=>.exc ρ c fs
 |.bad=>.bad
inductive OX where
 |ok (ρ:ag) (s:Sl)|exc (ρ:ag) (c:String) (fs:XF)|bad
noncomputable def slO:OV->Sl
 |.sh x=>.sh x
 |t=>.tr false t
noncomputable def pQ(i:Nat)(mp:MP):ag->OX:=fun ρ=>match ρ[i]? with
 | some (some (.tr io t))=>(match mp ρ with
   | some π=>(match t.get π with
     | some (.ol ts)=>(match ts.getLast? with
       |some x=>.ok (ρ.set i (some (.tr io (t.put π (.ol ts.dropLast))))) (slO x)
       |none=>.bad)
     |_=>.bad)
   |none=>.bad)
 |_=>.bad
noncomputable def nio:Sl->Bool
 |.tr true _=>false
 |.bo _=>false
 |_=>true
noncomputable def oG(i:Nat)(m:ag->OX):ag->OS:=fun ρ=>match m ρ with
 |.ok ρ' s=>if nio s then .nx (ρ'.set i (some s))else .bad
 |.exc ρ' c fs=>.exc ρ' c fs
 |.bad=>.bad
noncomputable def G9(neg:Bool)(m:ag->OX)(a b:ag->OS):ag->OS:=fun ρ=>match m ρ with
 | .ok ρ' (.sh x)=>(match pq x with
   |some k=>if(k != neg)=true then a ρ' else b ρ'
   |none=>.bad)
 |.ok _ _=>.bad
 |.exc ρ' c fs=>.exc ρ' c fs
 |.bad=>.bad
mutual
noncomputable def pvO:OV->Option PV
 |.sh x=>some x
 |.ol ts=>(Mm ts).map .lst
 |.ob _ _ _=>none
 |.di _=>none
 |.dt _=>none
noncomputable def Mm:List OV->Option (List PV)
 |[]=>some []
 |t ::ts=>(pvO t).bind fun x=>(Mm ts).map (x ::·)
end
noncomputable def MW(i:Nat)(ρ:ag):ag:=match ρ[i]? with
 | some (some (.tr false t))=>(match pvO t with
   |some x=>ρ.set i (some (.sh x))
   |none=>ρ)
 |_=>ρ
inductive OI where
 |ok (x:PV) (outs:List (Option OV))|exc (c:String) (fs:XF) (outs:List (Option OV))|bad
inductive Arg where
 |e (me:ag->OE)|t (i:Nat) (mp:MP)|b (i:Nat) (mp:MP)
noncomputable def xh:Option Sl->Option OV
 |some (.tr true t)=>some t
 |_=>none
noncomputable def AR(np:Nat):OS->OI
 |.nx ρ=>.ok .non ((ρ.take np).map xh)
 |.rt ρ (.sh x)=>.ok x ((ρ.take np).map xh)
 |.exc ρ c fs=>.exc c fs ((ρ.take np).map xh)
 |_=>.bad
noncomputable def mQ(n:Nat)(as:List Sl):ag:=as.map some++List.replicate (n - as.length) none
noncomputable def fnI(np n:Nat)(m:ag->OS)(as:List Sl):OI:=if as.length=np then AR np (m (mQ n as))else .bad
noncomputable def mK(a:Arg)(ρ:ag):Option Sl:=match a with
 | .e me=>(match me ρ with
   |.ok r=>(eX r).map .sh
   |_=>none)
 | .t i mp=>(match ρ[i]? with
   |some (some (.tr _ t))=>((mp ρ).bind fun π=>t.get π).map (.tr true)
   |_=>none)
 |.b i mp=>(subAt i mp ρ).map .bo
noncomputable def lG:List Arg->ag->Option (List Sl)
 |[],_=>some []
 |a ::as,ρ=>(mK a ρ).bind fun s=>(lG as ρ).map (s ::·)
noncomputable def lu(ρ₀:ag):Arg->Option OV->ag->ag
 | .t i mp,some u,ρ=>(match ρ[i]? with
   | some (some (.tr io t))=>(match mp ρ₀ with
     |some π=>ρ.set i (some (.tr io (t.put π u)))
     |none=>ρ.set i none)
   |_=>ρ.set i none)
 |.t i _,none,ρ=>ρ.set i none
 |_,_,ρ=>ρ
noncomputable def fQ(ρ₀:ag):List Arg->List (Option OV)->ag->ag
 |[],_,ρ=>ρ
 |a ::as,us,ρ=>fQ ρ₀ as us.tail (lu ρ₀ a us.head?.join ρ)
noncomputable def xD(f:List Sl->OI)(as:List Arg):ag->OX:=fun ρ=>match lG as ρ with
 | some ss=>(match f ss with
   |.ok x outs=>.ok (fQ ρ as outs ρ) (.sh x)
   |.exc c fs outs=>.exc (fQ ρ as outs ρ) c fs
   |.bad=>.bad)
 |none=>.bad
noncomputable def xW(f:List Sl->OI)(as:List Arg):ag->OE:=fun ρ=>match lG as ρ with
 | some ss=>(match f ss with
   |.ok x _=>.ok (.sh x)
   |.exc c fs _=>.exc c fs
   |.bad=>.bad)
 |none=>.bad
noncomputable def recv(c:String)(m:Str):Option Sl->Bool
 |some (.tr true (.ob c' ks _))=>c'==c && !ks.contains m
 |some (.bo (.ob c' ks _))=>c'==c && !ks.contains m
 |_=>false
noncomputable def oh(c:String)(m:Str)(f:List Sl->OI)(as:List Arg):ag->OX:=fun ρ=>match as with
 |a ::_=>if recv c m (mK a ρ)=true then xD f as ρ else .bad
 |[]=>.bad
noncomputable def m9(c:String)(m:Str)(f:List Sl->OI)(as:List Arg):ag->OE:=fun ρ=>match as with
 |a ::_=>if recv c m (mK a ρ)=true then xW f as ρ else .bad
 |[]=>.bad
noncomputable def w9(c:String)(f:List Sl->OI):ag->OD:=fun _=>match f [.tr true (.ob c [] [])]with
 |.ok .non (some t ::_)=>.ok t
 |_=>.bad
noncomputable def lU(i j:Nat)(mb:ag->OS):List PV->ag->OS
 |[],ρ=>.nx ρ
 |.tup [x,y] ::xs,ρ=>(mb ((ρ.set i (some (.sh x))).set j (some (.sh y)))).turn (lU i j mb xs)
 |_ ::_,_=>.bad
noncomputable def tJ(k:Nat):List PV->List PV
 |[]=>[]
 |x ::xs=>.tup [.int k,x] ::tJ (k+1) xs
noncomputable def BC(i j:Nat)(ml:ag->OE)(mb:ag->OS):ag->OS:=fun ρ=>(ml ρ).bM ρ fun r=>match n6 r with
 |some xs=>lU i j mb (tJ 0 xs) ρ
 |none=>.bad
noncomputable def nG(ml:ag->OE)(ι:List Nat)(me:ag->OE):ag->OE:=fun ρ=>(ml ρ).bind fun r=>match r.pv with
 |.tup xs=>noX (cR me (df ι ρ) xs)
 |_=>.bad
noncomputable def fB(mc:ag->OT)(me:ag->OE)(ρ:ag):List PV->OA
 |[]=>.ok []
 | x ::xs=>(match mc (ρ++[some (.sh x)])with
   | .ok true=>(me (ρ++[some (.sh x)])).fe fun r=>(match eX r with
     |some y=>(fB mc me ρ xs).fe fun ys=>.ok (y ::ys)
     |none=>.bad)
   |.ok false=>fB mc me ρ xs
   |_=>.bad)
noncomputable def n8(ml:ag->OE)(ι:List Nat)(mc:ag->OT)(me:ag->OE):ag->OE:=fun ρ=>(ml ρ).bind fun r=>match r.pv with
 |.lst xs=>noX (fB mc me (df ι ρ) xs)
 |_=>.bad
noncomputable def Hn(ma ms:ag->OE):ag->OE:=fun ρ=>(ma ρ).bind fun a=>(ms ρ).bind fun k=>match a.pv,k.pv with
 |.lst xs,.int k=>if k=-1 then .ok (.fr xs.reverse)else .bad
 |_,_=>.bad
noncomputable def NH:PV->Option RV
 |.lst xs=>some (.sh (.tup xs))
 |.tup xs=>some (.sh (.tup xs))
 |_=>none
mutual
noncomputable def dW:PV->PV->Bool
 |.non,y=>(match y with|.non=>true|_=>false)
 |.bl a,y=>(match y with|.bl b=>a==b|.int j=>(if a then 1 else 0)==j|_=>false)
 |.int i,y=>(match y with|.bl b=>i==(if b then 1 else 0)|.int j=>i==j|_=>false)
 |.str x,y=>(match y with|.str z=>x==z|_=>false)
 |.lst xs,y=>(match y with|.lst ys=>pW xs ys|_=>false)
 |.tup xs,y=>(match y with|.tup ys=>pW xs ys|_=>false)
noncomputable def pW:List PV->List PV->Bool
 |[],ys=>(match ys with|[]=>true|_ ::_=>false)
 |x ::xs,ys=>(match ys with|y ::ys=>dW x y&&pW xs ys|[]=>false)
end
mutual
noncomputable def pf:PV->Nat->Bool
 |.str x,_=>x.cps.all (·<0x110000)
 |.lst xs,n=>(match n with|0=>false|n+1=>tq xs n)
 |.tup xs,n=>(match n with|0=>false|n+1=>tq xs n)
 |_,_=>true
noncomputable def tq:List PV->Nat->Bool
 |[],_=>true
 |x ::xs,n=>pf x n&&tq xs n
end
noncomputable def zD:PV->PV->Option RV:=fun x y=>if(pf x 64&&pf y 64)=true then some (.sh (.bl (dW x y)))else none
theorem AU(ns:List Int):∀ ms:List Int,pW (ns.map .int) (ms.map .int)=decide (ns=ms):=by
 induction ns with
 |nil=>intro ms;cases ms<;>simp[pW]
 | cons n ns ih=>
   intro ms
   cases ms with
   |nil=>simp[pW]
   |cons m ms=>simp[pW,dW,ih,Bool.beq_eq_decide_eq]
theorem Bv(ns:List Int)(n:Nat):tq (ns.map .int) n=true:=by
 induction ns with
 |nil=>simp[tq]
 |cons n ns ih=>simp[tq,pf,ih]
noncomputable def cU:PV->Bool
 |.lst _=>false
 |.tup _=>false
 |_=>true
noncomputable def ir:PV->PV->Option Bool
 |x,.tup ys=>if ys.all cU=true then some (ys.any fun y=>dW y x)else none
 |x,.lst ys=>if ys.all cU=true then some (ys.any fun y=>dW y x)else none
 |_,_=>none
noncomputable def gIn:PV->PV->Option RV:=fun x y=>(ir x y).map fun b=>.sh (.bl b)
noncomputable def ke:PV->PV->Option RV:=fun x y=>(ir x y).map fun b=>.sh (.bl (!b))
noncomputable def FA(kvs:List (Int×PV)):PV->Option RV
 |.int n=>some (.sh (.bl (kvs.lookup n).isSome))
 |_=>none
noncomputable def Cz(kvs:List (Int×PV)):PV->Option RV
 |.int n=>(kvs.lookup n).map .sh
 |_=>none
noncomputable def gc(kvs:List (Int×PV)):PV->Option RV
 |.int n=>some (.sh ((kvs.lookup n).getD .non))
 |_=>none
noncomputable def Cc:RV->Option (List PV)
 |.sh (.lst xs)=>some xs
 |.sh (.tup xs)=>some xs
 |.fr xs=>some xs
 |_=>none
noncomputable def B1(i:Nat)(ml:ag->OE)(mb:ag->OS):ag->OS:=fun ρ=>(ml ρ).bM ρ fun r=>match Cc r with
 |some xs=>gm i mb xs ρ
 |none=>.bad
end L2.P
namespace L2
open PySem PySem.Spec PyProof.Rows
section
variable{X:Cx}{pins:List (Addr×Obj)}{σ:St}{H:Hp}{s:Shared}{h':Heap}
theorem Inv.CP{t':Nat}{its:List Addr}{a:Addr}{o:HO}(I:Inv X pins σ H s)(k:∀ b u,b∉its->s.heap.get? b=some u->h'.get? b=some u)(hf:∀ b∈its,pe X pins H b)
  (hp:s.heap.objs.size<=a) (new:iC X.prog X.w (upd H a o) h' a o):Inv X pins σ (upd H a o) { s with heap:=h',toks:=t' }:=by
 have hn:=I.hok.fresh hp
 have nit:∀ b u,H b=some u->b∉its:=fun b u e z=>by rw[(hf b z).1]at e;cases e
 refine I.step (g':=s.gens) (d':=s.drawn) (ch:=its) (fun b hb=>?_) (fun b u _ _ hc e _=>k b u hc e) (fun b u _ _ hc e _=>⟨u.slots,k b u hc e⟩)
  (fun b u _ q n=>by rw[bf (Nat.ne_of_lt (Nat.lt_of_lt_of_le (Heap.lt_size q) hp))];exact n)
  (fun b u hc e=>⟨u,k b u hc e⟩) (fun b xs q=>by rw[bf (cy q hn)];exact q) (fun b u xs q=>by rw[bf (cy q hn)];exact q) (fun b ps q=>⟨#[],by rw[bf (cy q hn),q];simp⟩) (fun m hm=>?_) (fun b u e=>?_) I.bare
 . obtain⟨_,f1,f2,f3,f4,f5⟩:=hf b hb
   exact⟨f3,f1,f4,f5⟩
 . obtain⟨ob,es,ep,ho,r⟩:=hm
   exact⟨ob,es,ep,k _ ob (fun z=>(hf _ z).2.1 rfl) ho,r⟩
 . by_cases hb:b=a
   . subst hb;rw[bz]at e;cases e;exact new
   . rw[bf hb]at e
     refine(I.hok b u e).qE (fun c v hc q=>k c v ?_ q) (fun c q=>by rw[bf (cy q hn)];exact q) fun c xs q=>by rw[bf (cy q hn)];exact q
     rcases hc with z|z
     . rw[z];exact nit b u e
     . exact nit c _ z
end
noncomputable def Ite(K:PySem.W.Frag)(a:Addr):It:=
 ⟨fun i H=>∃ xs x,SqL K H a xs /\ xs[i]?=some x,fun i H v H'=>∃ t x,(∀ xs,SqL K H a xs->xs[i]?=some x) /\ H t=none /\ v=.ref t /\ H'=upd H t (.tup [.int i,x]),fun i H=>∃ xs,SqL K H a xs /\ xs.length<=i⟩
theorem CO{P:Program}{w:World}{K:PySem.W.Frag}{elts:List Expr}{k:Nat}{pos:Pos}(a e it:Addr)(hei:e≠it):
  Turn P w K (.Tuple elts k pos) (Ite K a) [e,it] e (fun i h=>(∃ old,IsEnum h e it i old) /\ h.IsListIter it a i) where
 mem:=by simp
 obj:=fun i h st b hb=>by
  obtain⟨⟨old,h1⟩,o,h2,c,d⟩:=st
  rcases List.mem_cons.mp hb with z|z
  . subst z;exact⟨_,h1,fun v z=>by cases z⟩
  . have z':b=it:=by simpa using z
    subst z';exact⟨o,h2,fun v z=>by rw[d]at z;cases z⟩
 keep:=fun i h h' st k=>by
  obtain⟨⟨old,h1⟩,h2⟩:=st
  exact⟨⟨old,k e (by simp) _ h1⟩,h2.at fun o x=>k it (by simp) o x⟩
 item:=by
  intro X hP hw hK hc i pins s σ H E I hf st hg;subst hP hw hK;obtain⟨xs,x,hq,hx⟩:=hg;obtain⟨its,rv,p,hz⟩:=I.list hq;obtain⟨u,hu,ru⟩:=rv.get hx;obtain⟨⟨old,he⟩,hit⟩:=st
  refine wpAny_pyNext_enum_item he hit p.isList (x:=u) (by simpa using hu) hei fun h1 ho hit1 hT hsz hk=>⟨_,rfl,?_⟩
  refine wpAny_letOwnedTupleGo_enum ho fun h2 he2 hs2=>?_
  have hT2:h2.get? s.heap.objs.size=some { cls:=.type "tuple",data:=.seq #[.int i s.toks,u] }:=(hs2.2 _ (Nat.ne_of_gt (Heap.lt_size he))).trans hT
  have nH:H s.heap.objs.size=none:=I.hok.fresh (Nat.le_refl _)
  refine⟨.ref s.heap.objs.size,upd H s.heap.objs.size (.tup [.int i,x]),I.CP (its:=[e,it]) (t':=s.toks+1) (fun b o hb q=>?_) hf (Nat.le_refl _) ?_,rfl,⟨_,x,fun ys hy=>by rw[I.Ao hy hq];exact hx,nH,rfl,rfl⟩,⟨⟨u,by simpa using he2⟩,?_⟩,fun b hb=>?_⟩
  . have nb:b≠e /\ b≠it:=by simpa using hb
    exact(hs2.2 b nb.1).trans (hk b o nb.1 nb.2 q)
  . exact⟨by show 2<=sizeLine;decide,[.int i s.toks,u],.cons ⟨_,rfl⟩ (.cons ru .nil),⟨_,hT2,rfl,_,rfl⟩⟩
  . exact hit1.at fun o y=>(hs2.2 it hei.symm).trans y
  . have:b < s.heap.objs.size:=by
     rcases List.mem_cons.mp hb with z|z
     . subst z;exact Heap.lt_size he
     . have z':b=it:=by simpa using z
       subst z';obtain⟨_,y,_⟩:=hit;exact Heap.lt_size y
    rw[bf (Nat.ne_of_lt this)]
    exact(hf b hb).1
 done:=by
  intro X hP hw hK hc i pins s σ H E I hf st hg;subst hP hw hK;obtain⟨xs,hq,hx⟩:=hg;obtain⟨its,rv,p,hz⟩:=I.list hq;obtain⟨⟨old,he⟩,hit⟩:=st;obtain⟨f0,f1,f2,f3,f4,f5⟩:=hf it (by simp);have hl:=rv.length
  exact wpAny_pyNext_enum_end (I.ok.hd hc) he hit p.isList (by simp;omega) fun h' eb=>⟨rfl,I.turned (t':=s.toks) (fun b o hb e=>eb b o hb e) f0 f1 f3 f4 f5⟩
 self:=fun _ _ _ _ _ st h=>by
  obtain⟨⟨old,he⟩,_⟩:=st;exact wpAny_pyIter_enum he h
section
variable{X:Cx}
noncomputable def E7(K:PySem.W.Frag)(ta:TA):TI:=fun σ H R=>ta σ H fun vs H1=>∃ a,vs=[.ref a] /\ (∃ xs,SqL K H1 a xs) /\ R (Ite K a) H1
theorem GZ{elts:List Expr}{k:Nat}{tp:Pos}{a:Expr}{ta:TA}{p pos:Pos}(hg:Gl X "enumerate")(hm:X.mg "enumerate" = none)(ha:PA X [a] ta)(hs:starEach [a] X.env=[(false,eval a X.env)]:=by rfl):
  PI X (.Tuple elts k tp) (.Call (.Name "enumerate" p) [a] [] pos) (E7 X.K ta):=by
 intro pins s σ H R I h;refine Call_ (rN I hg hm (show bootBuiltins "enumerate" = some (.type "enumerate") by rfl) (PyProof.Rows.callWith_type1 (thn (ha pos pins s σ H _ I h) fun us s1 ⟨vs,H1,I1,r1,q1⟩=>?_) hs rfl));obtain⟨l,e,⟨xs,hq⟩,q⟩:=q1;subst e
 cases r1 with
 | cons r rr=>
   cases rr;cases r;obtain⟨its,rv,p,hz⟩:=I1.list hq
   refine call_enumerate_list p.isList fun h' he hit hsz hk=>?_
   refine wpAny_pyIter_enum he ?_
   have I2:Inv X pins σ H1 { s1 with heap:=h' }:=I1.kept (t':=s1.toks) hk
   refine⟨s1.heap.objs.size+1,[s1.heap.objs.size+1,s1.heap.objs.size],_,_,H1,rfl,I2,CO l _ _ (Nat.succ_ne_self _),⟨⟨.none,he⟩,hit⟩,fun b hb=>?_,q⟩
   have:s1.heap.objs.size<=b:=by
    rcases List.mem_cons.mp hb with z|z
    . subst z;exact Nat.le_succ _
    . have z':b=s1.heap.objs.size:=by simpa using z
      subst z';exact Nat.le_refl _
   exact I1.zJ this (I1.hok.fresh this)
end
theorem E1{K:PySem.W.Frag}{a:Addr}{xs:List V}{g:TG}{tb:TS}{D:Ends}{σ:St}{H:Hp}(Pv:Nat->St->Hp->Prop)(h0:Pv 0 σ H)(hl:∀ i σ H,i<=xs.length->Pv i σ H->SqL K H a xs)
  (hs:∀ i x σ H t,xs[i]?=some x->Pv i σ H->H t=none->g (.ref t) σ (upd H t (.tup [.int i,x])) fun σ2 H2=>tb { D with nx:=Pv (i+1),ct:=Pv (i+1),bk:=D.nx } σ2 H2) (hd:∀ σ H,Pv xs.length σ H->D.nx σ H):
  ∃ W:Nat->Nat->St->Hp->Prop,(∃ m,W 0 m σ H) /\ ∀ i m σ H,W i m σ H ->
    ((Ite K a).stop i H /\ D.nx σ H) \/ ((Ite K a).go i H /\ ∃ N:St->Hp->Prop,(∀ σ' H',N σ' H'->∃ m',m'<m /\ W (i+1) m' σ' H') /\ ∀ x H',(Ite K a).yld i H x H'->g x σ H' fun σ2 H2=>tb { D with nx:=N,ct:=N,bk:=D.nx } σ2 H2):=by
 refine⟨fun i m σ H=>m=xs.length - i /\ i<=xs.length /\ Pv i σ H,⟨xs.length,by simp,Nat.zero_le _,h0⟩,?_⟩
 rintro i m σ H ⟨rfl,hi,p⟩
 have q:=hl i σ H hi p
 by_cases hlt:i<xs.length
 . refine .inr ⟨⟨xs,xs[i],q,by simp[hlt]⟩,Pv (i+1),fun σ' H' p'=>⟨xs.length - (i+1),by omega,rfl,hlt,p'⟩,fun x H' y=>?_⟩;obtain⟨t,z,y1,y3,e1,e2⟩:=y;subst e1 e2;exact hs i z σ _ t (y1 xs q) p y3
 . have e:i=xs.length:=by omega
   subst e;exact .inl ⟨⟨xs,q,Nat.le_refl _⟩,hd σ H p⟩
end L2
namespace L2.P
open PySem PySem.Spec PyProof.Rows L2 L2.E PySem.SeqAt
mutual
noncomputable def dOf:PV->PyData
 |.non=>.none
 |.bl b=>.bool b
 |.int i=>.int i
 |.str x=>.str x
 |.lst xs=>.list (rH xs)
 |.tup xs=>.tuple (rH xs)
noncomputable def rH:List PV->List PyData
 |[]=>[]
 |x ::xs=>dOf x ::rH xs
end
mutual
theorem BH:∀ x y:PV,PyData.eqv (dOf x) (dOf y)=dW x y
 |.non,y=>by cases y<;>simp[dOf,PyData.eqv,dW]
 |.bl a,y=>by cases y<;>simp[dOf,PyData.eqv,dW]
 |.int a,y=>by cases y<;>simp[dOf,PyData.eqv,dW]
 |.str a,y=>by cases y<;>simp[dOf,PyData.eqv,dW]
 |.lst xs,y=>by cases y<;>simp[dOf,PyData.eqv,dW,uF xs]
 |.tup xs,y=>by cases y<;>simp[dOf,PyData.eqv,dW,uF xs]
theorem uF:∀ xs ys:List PV,PyData.eqvAll (rH xs) (rH ys)=pW xs ys
 |[],ys=>by cases ys<;>simp[rH,PyData.eqvAll,pW]
 |x ::xs,ys=>by cases ys<;>simp[rH,PyData.eqvAll,pW,BH x,uF xs]
end
mutual
theorem DN:∀(x:PV) (n:Nat),pf x n=true->(dOf x).canLay0=true /\ (dOf x).depth<=n
 |.non,n,h=>by simp[dOf,PyData.canLay0,PyData.depth]
 |.bl a,n,h=>by simp[dOf,PyData.canLay0,PyData.depth]
 |.int a,n,h=>by simp[dOf,PyData.canLay0,PyData.depth]
 |.str a,n,h=>by simp[dOf,PyData.canLay0,PyData.depth];exact h
 | .lst xs,n,h=>by
   cases n with
   |zero=>simp[pf]at h
   | succ n=>
     have:=yC xs n (by simpa [pf]using h);simp[dOf,PyData.canLay0,PyData.depth]
     exact⟨this.1,by omega⟩
 | .tup xs,n,h=>by
   cases n with
   |zero=>simp[pf]at h
   | succ n=>
     have:=yC xs n (by simpa [pf]using h);simp[dOf,PyData.canLay0,PyData.depth]
     exact⟨this.1,by omega⟩
theorem yC:∀(xs:List PV) (n:Nat),tq xs n=true->PyData.canLayAll0 (rH xs)=true /\ PyData.depthAll (rH xs)<=n
 |[],n,h=>by simp[rH,PyData.canLayAll0,PyData.depthAll]
 | x ::xs,n,h=>by
   simp[tq]at h;have h1:=DN x n h.1;have h2:=yC xs n h.2;simp[rH,PyData.canLayAll0,PyData.depthAll]
   exact⟨⟨h1.1,h2.1⟩,by omega⟩
end
section
variable{X:Cx}{pins:List (Addr×Obj)}{σ:St}{H:Hp}{s:Shared}
mutual
theorem vt(I:Inv X pins σ H s):∀(x:PV) (v:V) (u:Value),Rep X.K H x v->RelV v u->∃ as,Reads s.heap u (dOf x) as
 |.non,v,u,h,r=>by unfold Rep at h;subst h;cases r;exact⟨_,.none⟩
 |.bl b,v,u,h,r=>by unfold Rep at h;subst h;cases r;exact⟨_,.bool b⟩
 |.int i,v,u,h,r=>by unfold Rep at h;subst h;obtain⟨t,rfl⟩:=r;exact⟨_,.int i t⟩
 |.str x,v,u,h,r=>by unfold Rep at h;subst h;obtain⟨t,rfl⟩:=r;exact⟨_,.str x t⟩
 | .lst xs,v,u,h,r=>by
   unfold Rep at h;obtain⟨p,vs,rfl,hq,hr⟩:=h;cases r;obtain⟨its,rv,pl,hz⟩:=I.list hq;obtain⟨as,ra⟩:=nU I xs vs its hr rv;obtain⟨o,e,c,n,d⟩:=pl.isList
   exact⟨_,.list (xs:=rH xs) e c d (by simpa using ra)⟩
 | .tup xs,v,u,h,r=>by
   unfold Rep at h;obtain⟨p,vs,rfl,hq,hr⟩:=h;cases r;obtain⟨its,rv,pl,hz⟩:=I.tuple hq;obtain⟨as,ra⟩:=nU I xs vs its hr rv;obtain⟨o,e,c,n,d⟩:=pl
   exact⟨_,.tuple (xs:=rH xs) e c d (by simpa using ra)⟩
theorem nU(I:Inv X pins σ H s):∀(xs:List PV) (vs:List V) (us:List Value),bG X.K H xs vs->Vals vs us->∃ as,ReadsAll s.heap us (rH xs) as
 |[],vs,us,h,r=>by rw[h.nil_inv]at r;cases r;exact⟨_,.nil⟩
 | x ::xs,vs,us,h,r=>by
   obtain⟨v,t,rfl,h1,h2⟩:=h.cons_inv
   cases r with
   | cons r1 r2=>
     obtain⟨as,ra⟩:=vt I x _ _ h1 r1;obtain⟨bs,rb⟩:=nU I xs _ _ h2 r2
     exact⟨_,.cons ra rb⟩
end
noncomputable def L1(K:PySem.W.Frag)(A:Around)(neg:Bool):R2:=fun v u H Q=>∃ x y,Rep K H x v /\ Rep K H y u /\ (pf x 64&&pf y 64)=true /\ A.units+64<cLine /\ Q (.bl (if neg then !dW x y else dW x y)) H
theorem xj{x:PV}(h:pf x 64=true):shaped (dOf x)=true:=by
 have:=DN x 64 h;unfold shaped;simp[this]
theorem Ef:OpR X (compareOp .Eq) (L1 X.K X.A false):=by
 intro pins s σ H v u a b Q I rx ry h;obtain⟨x,y,h1,h2,ok,hu,q⟩:=h;rw[Bool.and_eq_true]at ok;obtain⟨as,ra⟩:=vt I x v a h1 rx;obtain⟨bs,rb⟩:=vt I y u b h2 ry;refine eq_dataH ra rb (xj ok.1) (xj ok.2) hu ⟨.bl _,H,I,rfl,?_⟩;rw[BH];exact q
end
section
variable{K:PySem.W.Frag}{S H:Hp}
theorem RdV.rep{x:PV}{v:V}(h:RdV K S H x v)(s:aJ S H):Rep K H x v:=by
 cases x with
 |lst xs=>obtain⟨p,vs,e,q,r⟩:=h;unfold Rep;exact⟨p,vs,e,q,r.mono s⟩
 |non=>exact Rep.mono s h
 |bl b=>exact Rep.mono s h
 |int i=>exact Rep.mono s h
 |str x=>exact Rep.mono s h
 |tup xs=>exact Rep.mono s h
theorem E2{A:Around}(hu:A.units+64<cLine):JR K (L1 K A false) zD:=by
 intro S H x y v u rr Q I hx hy e k;unfold zD at e;split at e
 . rename_i ok;cases e
   exact⟨x,y,hx.rep I,hy.rep I,ok,hu,k _ S H (bg.refl I) kb⟩
 . cases e
end
section
variable{X:Cx}{K:PySem.W.Frag}{S H:Hp}
theorem uq{x:PV}{v:V}(h:Rep K H x v)(f:cU x=true):pD v=true:=by
 cases x with
 |lst xs=>cases f
 |tup xs=>cases f
 |non=>unfold Rep at h;subst h;rfl
 |bl b=>unfold Rep at h;subst h;rfl
 |int b=>unfold Rep at h;subst h;rfl
 |str b=>unfold Rep at h;subst h;rfl
theorem Gv{x y:PV}{v u:V}(h:Rep K H x v)(k:Rep K H y u)(f:cU x=true)(g:cU y=true):eqV u v=dW y x:=by
 cases x<;>first|(cases f;done)|skip
 all_goals(unfold Rep at h;subst h;cases y<;>first|(cases g;done)|(unfold Rep at k;subst k;simp[eqV,dW]))
theorem wI{xs:List PV}{vs:List V}(h:bG K H xs vs)(f:xs.all cU=true):vs.all pD=true:=by
 induction xs generalizing vs with
 |nil=>rw[h.nil_inv];rfl
 | cons x xs ih=>
   obtain⟨v,r,rfl,h1,h2⟩:=h.cons_inv
   rw[List.all_cons,Bool.and_eq_true]at f ⊢
   exact⟨uq h1 f.1,ih h2 f.2⟩
theorem zf{x:PV}{v:V}{xs:List PV}{vs:List V}(hx:Rep K H x v)(g:cU x=true)(h:bG K H xs vs)(f:xs.all cU=true):inV v vs=xs.any fun y=>dW y x:=by
 induction xs generalizing vs with
 |nil=>rw[h.nil_inv];rfl
 | cons y xs ih=>
   obtain⟨u,r,rfl,h1,h2⟩:=h.cons_inv;rw[List.all_cons,Bool.and_eq_true]at f;have:=ih h2 f.2
   unfold inV at this ⊢
   rw[List.any_cons,List.any_cons,this,Gv hx h1 g f.1]
theorem zd{x:PV}{xs:List PV}(g:cU x=false)(f:xs.all cU=true):(xs.any fun y=>dW y x)=false:=by
 induction xs with
 |nil=>rfl
 | cons y xs ih=>
   rw[List.all_cons,Bool.and_eq_true]at f;rw[List.any_cons,ih f.2,Bool.or_false];have f1:=f.1
   cases y<;>first|(cases f1;done)|(cases x<;>first|(cases g;done)|simp[dW])
theorem xM{α:Type}(l:List α):(l.any fun _=>false)=false:=by induction l<;>simp_all
theorem rG{A:Around}{s:Shared}{pins:List (Addr×Obj)}{σ:St}(I:Inv X pins σ H s)(hu:A.units<cLine){x:PV}{v:V}{a:Value}(hx:Rep X.K H x v)(ra:RelV v a)(g:cU x=false):
  ∀{xs:List PV} {vs:List V} {us:List Value},bG X.K H xs vs->Vals vs us->xs.all cU=true->∀ u∈us,EqAt A s u a false:=by
 intro xs
 induction xs with
 |nil=>intro vs us h r _ u hu;rw[h.nil_inv]at r;cases r;cases hu
 | cons y xs ih=>
   intro vs us h r f u hm;obtain⟨w,t,rfl,h1,h2⟩:=h.cons_inv;rw[List.all_cons,Bool.and_eq_true]at f
   cases r with
   | cons r1 r2=>
     rcases List.mem_cons.mp hm with rfl|hm
     . cases x with
       |non=>cases g
       |bl b=>cases g
       |int b=>cases g
       |str b=>cases g
       | lst zs=>
         unfold Rep at hx;obtain⟨p,us',rfl,hq,_⟩:=hx;cases ra;obtain⟨its,_,pl,_⟩:=I.list hq
         cases y with
         |non=>unfold Rep at h1;subst h1;cases r1;exact EqAt.none_list pl.isList hu
         |bl b=>unfold Rep at h1;subst h1;cases r1;exact EqAt.bool_list b pl.isList hu
         |int b=>unfold Rep at h1;subst h1;obtain⟨t',rfl⟩:=r1;exact EqAt.int_list b t' pl.isList hu
         |str b=>unfold Rep at h1;subst h1;obtain⟨t',rfl⟩:=r1;exact EqAt.str_list b t' pl.isList hu
         |lst _=>cases f.1
         |tup _=>cases f.1
       | tup zs=>
         unfold Rep at hx;obtain⟨p,us',rfl,hq,_⟩:=hx;cases ra;obtain⟨its,_,pl,_⟩:=I.tuple hq
         cases y with
         |non=>unfold Rep at h1;subst h1;cases r1;exact EqAt.none_tuple pl hu
         |bl b=>unfold Rep at h1;subst h1;cases r1;exact EqAt.bool_tuple b pl hu
         |int b=>unfold Rep at h1;subst h1;obtain⟨t',rfl⟩:=r1;exact EqAt.int_tuple b t' pl hu
         |str b=>unfold Rep at h1;subst h1;obtain⟨t',rfl⟩:=r1;exact EqAt.str_tuple b t' pl hu
         |lst _=>cases f.1
         |tup _=>cases f.1
     . exact ih h2 r2 f.2 u hm
noncomputable def DS(K:PySem.W.Frag)(A:Around)(neg:Bool):R2:=fun v u H Q=>∃ x ys p vs,Rep K H x v /\ u=.ref p /\ (SqL K H p vs \/ SqT K H p vs) /\ bG K H ys vs /\ ys.all cU=true /\ A.units+64<cLine /\ Q (.bl (if neg then !(ys.any fun y=>dW y x)else ys.any fun y=>dW y x)) H
theorem iJ:OpR X (compareOp .In) (DS X.K X.A false):=by
 intro pins s σ H v u a b Q I rx ry h;obtain⟨x,ys,p,vs,hx,rfl,hq,hr,hf,hu,q⟩:=h
 cases g:cU x with
 |true=>exact CZ pins s σ H v _ a b Q I rx ry ⟨p,vs,rfl,hq,uq hx g,wI hr hf,by rw[zf hx g hr hf];exact q⟩
 | false=>
   rw[zd g hf]at q;cases ry
   rcases hq with hq|hq
   . obtain⟨its,r,pl,hz⟩:=I.list hq;refine SeqAt.in_listAt (fun _=>false) pl.isList (fun w hw=>rG I (by show X.A.units+1<cLine;omega) hx rx g hr r hf w (by simpa using hw)) ⟨.bl _,H,I,rfl,?_⟩;rw[show(its.toArray.any fun _=>false)=false by simp[xM]];exact q
   . obtain⟨its,r,pl,hz⟩:=I.tuple hq;refine SeqAt.in_tupleAt (fun _=>false) pl (fun w hw=>rG I (by show X.A.units+1<cLine;omega) hx rx g hr r hf w (by simpa using hw)) ⟨.bl _,H,I,rfl,?_⟩;rw[show(its.toArray.any fun _=>false)=false by simp[xM]];exact q
theorem sN:OpR X (compareOp .NotIn) (DS X.K X.A true):=by
 intro pins s σ H v u a b Q I rx ry h;obtain⟨x,ys,p,vs,hx,rfl,hq,hr,hf,hu,q⟩:=h
 cases g:cU x with
 |true=>exact xC pins s σ H v _ a b Q I rx ry ⟨p,vs,rfl,hq,uq hx g,wI hr hf,by rw[zf hx g hr hf];exact q⟩
 | false=>
   rw[zd g hf]at q;cases ry
   rcases hq with hq|hq
   . obtain⟨its,r,pl,hz⟩:=I.list hq;refine SeqAt.notIn_listAt (fun _=>false) pl.isList (fun w hw=>rG I (by show X.A.units+1<cLine;omega) hx rx g hr r hf w (by simpa using hw)) ⟨.bl _,H,I,rfl,?_⟩;rw[show(its.toArray.any fun _=>false)=false by simp[xM]];exact q
   . obtain⟨its,r,pl,hz⟩:=I.tuple hq;refine SeqAt.notIn_tupleAt (fun _=>false) pl (fun w hw=>rG I (by show X.A.units+1<cLine;omega) hx rx g hr r hf w (by simpa using hw)) ⟨.bl _,H,I,rfl,?_⟩;rw[show(its.toArray.any fun _=>false)=false by simp[xM]];exact q
theorem B7{A:Around}{neg:Bool}{x y:PV}{v u:V}{b:Bool}{Q:VK}(hu:A.units+64<cLine)(I:aJ S H)(hx:RdV K S H x v)(hy:RdV K S H y u)(e:ir x y=some b)(k:∀ z S' H',bg S H S' H'->kY K H S' H' (.sh (.bl (if neg then !b else b))) z->Q z H'):DS K A neg v u H Q:=by
 cases y with
 | tup ys=>
   simp only[ir]at e
   by_cases hf:ys.all cU=true
   . rw[if_pos hf]at e;cases e;obtain⟨p,vs,rfl,hq,hr⟩:=mH hy
     exact⟨x,ys,p,vs,hx.rep I,rfl,.inr (aJ.tup I hq),hr.mono I,hf,hu,k _ S H (bg.refl I) kb⟩
   . rw[if_neg hf]at e;cases e
 | lst ys=>
   simp only[ir]at e
   by_cases hf:ys.all cU=true
   . rw[if_pos hf]at e;cases e;obtain⟨p,vs,rfl,hq,hr⟩:=fY hy
     exact⟨x,ys,p,vs,hx.rep I,rfl,.inl hq,hr.mono I,hf,hu,k _ S H (bg.refl I) kb⟩
   . rw[if_neg hf]at e;cases e
 |_=>simp only[ir]at e;cases e
theorem kO{A:Around}(hu:A.units+64<cLine):JR K (DS K A false) gIn:=by
 intro S H x y v u rr Q I hx hy e k;obtain⟨b,e1,e2⟩:=Option.map_eq_some_iff.mp e;subst e2;exact B7 hu I hx hy e1 k
theorem uG{A:Around}(hu:A.units+64<cLine):JR K (DS K A true) ke:=by
 intro S H x y v u rr Q I hx hy e k;obtain⟨b,e1,e2⟩:=Option.map_eq_some_iff.mp e;subst e2;exact B7 hu I hx hy e1 k
end
end L2.P
namespace L2.P
open PySem PySem.Spec PyProof.Rows L2 L2.E
section
variable{K:PySem.W.Frag}{cls:String->Option Addr}{W:XW}{Av G S₀ S S' H H' B B':Hp}{ρ:ag}{σ:St}{Q:VK}
noncomputable abbrev g2(K:PySem.W.Frag)(i j:Nat):TG:=Jg K 2 (BS (jP i) (BS (jP j) Ka))
theorem Bo{mb:ag->OS}{D:Ends}{N:St->Hp->Prop}(hb:JS K cls W tb mb)(I:SR K cls Av G S₀ ρ σ S H)(hx:Rep K S x v)(hy:Rep K S y u)(ht:SqT K H t [v,u])
  (p:eP K cls W Av G S₀ S D (lU i j mb (.tup [x,y] ::xs) ρ)) (hN:∀ ρ' σ' S' H',SR K cls Av G S₀ ρ' σ' S' H'->aJ S S'->eP K cls W Av G S₀ S' D (lU i j mb xs ρ')->N σ' H'):
  g2 K i j (.ref t) σ H fun σ2 H2=>tb { D with nx:=N,ct:=N,bk:=D.nx } σ2 H2:=by
 refine⟨t,_,rfl,ht,rfl,_,_,rfl,_,_,rfl,rfl,?_⟩
 refine hb Av G S₀ _ _ S H _ ((I.y8 hx).y8 hy) ?_;unfold lU at p
 cases e:mb ((ρ.set i (some (.sh x))).set j (some (.sh y)))with
 |nx ρ'=>rw[e]at p;exact fun σ' S' H' I' s'=>hN ρ' σ' S' H' I' s' (p.back s')
 |ct ρ'=>rw[e]at p;exact fun σ' S' H' I' s'=>hN ρ' σ' S' H' I' s' (p.back s')
 |bk ρ'=>rw[e]at p;exact p
 |rt ρ' r=>rw[e]at p;exact p
 |exc ρ' c fs=>rw[e]at p;exact p
 |bad=>rw[e]at p;exact p
theorem AV(xs:List PV):∀(k n:Nat) (y:PV),xs[k]?=some y->tJ (n+k) (xs.drop k)=.tup [.int ((n+k:Nat):Int),y] ::tJ (n+(k+1)) (xs.drop (k+1)):=by
 intro k n y hy
 have hk:k<xs.length:=(List.getElem?_eq_some_iff.mp hy).1
 rw[List.drop_eq_getElem_cons hk]
 have:xs[k]=y:=(List.getElem?_eq_some_iff.mp hy).2
 rw[this];rfl
theorem GY{ml:ag->OE}{mb:ag->OS}(hl:JE K cls W tl ml)(hb:JS K cls W tb mb):JS K cls W (CK (E7 K (ib tl km)) (g2 K i j) tb) (BC i j ml mb):=by
 intro Av G S₀ ρ σ S H D I p;refine hl Av G S₀ ρ σ S H _ I ?_;unfold BC at p
 cases em:ml ρ with
 |exc c fs=>rw[em]at p;exact fun a C S' H' w x=>p a C σ S' H' (I.grow w) w.s x
 |bad=>rw[em]at p;exact p
 | ok r=>
   rw[em]at p;intro v S1 H1 w1 r1;simp only[OE.bM]at p
   cases ei:n6 r with
   |none=>rw[ei]at p;exact p.elim
   | some xs=>
     rw[ei]at p
     have es:eX r=some (.lst xs):=by
      cases r with
      |sh y=>cases y<;>cases ei<;>rfl
      |fr ys=>cases ei;rfl
      |al ys=>cases ei
     obtain⟨S2,w2,s2,rx⟩:=r1.share w1 es;have I2:=I.grow w2;unfold Rep at rx;obtain⟨a,vs,rfl,hq,hr⟩:=rx
     show ∃ a',[V.ref a]=[V.ref a'] /\ _
     refine⟨a,rfl,⟨vs,aJ.seq I2.sh hq⟩,?_⟩
     refine E1 (xs:=vs) (fun k σ' H'=>∃ ρ' S',SR K cls Av G S₀ ρ' σ' S' H' /\ aJ S2 S' /\ eP K cls W Av G S₀ S' D (lU i j mb (tJ (0+k) (xs.drop k)) ρ'))
      ⟨ρ,S2,I2,aJ.refl _,p.back w2.s⟩ ?_ ?_ ?_
     . rintro k σ' H' _ ⟨ρ',S',I',s',_⟩
       exact aJ.seq (s'.trans I'.sh) hq
     . rintro k x σ' H' t hx ⟨ρ',S',I',s',p'⟩ ht
       obtain⟨y,hy,ry⟩:=hr.EV hx;rw[AV xs k 0 y hy]at p'
       have w3:bg S' H' S' (upd H' t (.tup [.int k,x])):=bg.heap I'.sh ht
       refine Bo hb (I'.grow w3) (x:=.int ((0+k:Nat):Int)) (v:=.int k) (by unfold Rep;rw[Nat.zero_add]) (Rep.mono s' ry) (SqT.new bz) p' fun ρ2 σ2 S3 H3 I3 s3 p3=>⟨ρ2,S3,I3,s'.trans s3,p3⟩
     . rintro σ' H' ⟨ρ',S',I',s',p'⟩
       rw[List.drop_of_length_le (by rw[hr.length];exact Nat.le_refl _)]at p';exact p' σ' S' H' I' (aJ.refl _)
end
end L2.P
namespace L2.E
open PySem PySem.Spec PyProof.Rows L2
theorem GS{X:Cx}(hg:Gl X "enumerate")(hm:X.mg "enumerate" = none)(ha:QA X [a] ta)(hs:starEach [a] X.env=[(false,eval a X.env)]:=by rfl):
  QI X (.Tuple elts k tp) (.Call (.Name "enumerate" p) [a] [] pos) (E7 X.K ta):=⟨GZ hg hm ha.out hs⟩
structure QGs(X:Cx)(es:List Expr)(t:TGs):Prop where
 out:PGs X es t
theorem Gs:QGs X [] Ka:=⟨GU⟩
theorem zT{X:Cx}(h1:QG X e t)(h2:QGs X es u)
  (hs:(assignEach (e ::es) X.env).map (·.2)=assign e X.env ::(assignEach es X.env).map (·.2):=by rfl):QGs X (e ::es) (BS t u):=⟨Eo h1.out h2.out hs⟩
theorem KW{X:Cx}(hc:X.calm=true)(h:QGs X es t)
  (hn:(assignEach es X.env).length=n:=by rfl) (hst:(assignEach es X.env).findIdx? (·.1)=none:=by rfl):QG X (.Tuple es k pos) (Jg X.K n t):=⟨Jb hc h.out hn hst⟩
end L2.E
namespace L2.P
open PySem PySem.Spec PyProof.Rows L2 L2.E
section
variable{K:PySem.W.Frag}{cls:String->Option Addr}{W:XW}{Av G S₀ S S' H H' B B':Hp}{ρ:ag}{σ:St}{Q:VK}{F:Nat->List Addr}
theorem bH.length{ts:List OV}{vs:List V}(h:bH K cls S H ts vs f):vs.length=ts.length:=by
 induction ts generalizing vs f with
 |nil=>unfold bH at h;rw[h.1];rfl
 | cons t ts ih=>
   unfold bH at h;obtain⟨v,r,f1,f2,rfl,_,_,h2⟩:=h;simp[ih h2]
theorem bH.cons_inv(h:bH K cls S H (t ::ts) vs fp):∃ v r f1 f2,vs=v ::r /\ fp=f1++f2 /\ bO K cls S H t v f1 /\ bH K cls S H ts r f2:=by unfold bH at h;exact h
theorem bH.cons(h:bO K cls S H t v f1)(r:bH K cls S H ts vs f2):bH K cls S H (t ::ts) (v ::vs) (f1++f2):=by unfold bH;exact⟨v,vs,f1,f2,rfl,rfl,h,r⟩
theorem bH.nil:bH K cls S H [] [] []:=by unfold bH;exact⟨rfl,rfl⟩
theorem bH.append(h:bH K cls S H ts vs f)(k:bH K cls S H us ws g):bH K cls S H (ts++us) (vs++ws) (f++g):=by
 induction ts generalizing vs f with
 |nil=>unfold bH at h;rw[h.1,h.2];exact k
 | cons t ts ih=>
   obtain⟨v,r,f1,f2,rfl,rfl,h1,h2⟩:=h.cons_inv;have:=bH.cons h1 (ih h2);rw[List.append_assoc];exact this
theorem bH.shs{xs:List PV}(h:bG K S xs vs):bH K cls S H (xs.map .sh) vs []:=by
 induction xs generalizing vs with
 |nil=>rw[h.nil_inv];exact .nil
 | cons x xs ih=>
   obtain⟨v,r,rfl,h1,h2⟩:=h.cons_inv;exact bH.cons (f1:=[]) (by unfold bO;exact⟨rfl,h1⟩) (ih h2)
theorem bH.flat(e:zi ts=some xs)(h:bH K cls S H ts vs f):bG K S xs vs /\ f=[]:=by
 induction ts generalizing xs vs f with
 |nil=>cases e;unfold bH at h;rw[h.1,h.2];exact⟨.nil,rfl⟩
 | cons t ts ih=>
   cases t with
   | sh x=>
     obtain⟨ys,e1,e2⟩:=Option.map_eq_some_iff.mp e;subst e2;obtain⟨v,r,f1,f2,rfl,rfl,h1,h2⟩:=h.cons_inv;unfold bO at h1;obtain⟨h3,h4⟩:=ih e1 h2
     exact⟨.cons h1.2 h3,by rw[h1.1,h4];rfl⟩
   |ol _=>cases e
   |ob _ _ _=>cases e
   |di _=>cases e
   |dt _=>cases e
theorem bH.at{ts:List OV}{vs:List V}{f:List Addr}(h:bH K cls S H ts vs f)(e:ts[k]?=some u):
  ∃ w f1 rest,vs[k]?=some w /\ bO K cls S H u w f1 /\ f.Perm (f1++rest) /\
    ∀ S' H' u' w' f',aJ S S'->bO K cls S' H' u' w' f'->(∀ a∈rest,∀ o,H a=some o->H' a=some o)->∃ g,bH K cls S' H' (ts.set k u') (vs.set k w') g /\ g.Perm (f'++rest):=by
 induction ts generalizing vs f k with
 |nil=>simp at e
 | cons t ts ih=>
   obtain⟨v,r,f1,f2,rfl,rfl,h1,h2⟩:=h.cons_inv
   cases k with
   | zero=>
     simp at e;subst e
     refine⟨v,f1,f2,rfl,h1,List.Perm.refl _,fun S' H' u' w' f' s r' g=>?_⟩
     exact⟨f'++f2,bH.cons r' (h2.mono s g),List.Perm.refl _⟩
   | succ k=>
     simp at e;obtain⟨w,g1,rest,e1,r1,p1,c1⟩:=ih h2 e
     refine⟨w,g1,f1++rest,by simpa using e1,r1,?_,fun S' H' u' w' f' s r' g=>?_⟩
     . have:(f1++f2).Perm (f1++(g1++rest)):=List.Perm.append_left f1 p1
       refine this.trans ?_;rw[<- List.append_assoc,<- List.append_assoc];exact List.Perm.append_right rest List.perm_append_comm
     . obtain⟨g2,r2,p2⟩:=c1 S' H' u' w' f' s r' fun a ha=>g a (List.mem_append_right _ ha)
       refine⟨f1++g2,bH.cons (h1.mono s fun a ha=>g a (List.mem_append_left _ ha)) r2,?_⟩
       refine(List.Perm.append_left f1 p2).trans ?_
       rw[<- List.append_assoc,<- List.append_assoc];exact List.Perm.append_right rest List.perm_append_comm
theorem BK{ts:List OV}(h:nN ks ts f=some u):∃ k,ts[k]?=some u /\ ks[k]?=some f /\ (∀ u',vO ks ts f u'=ts.set k u') /\ ∀{α:Type} (us:List (Str×α)),us.map (·.1)=ks->us.lookup f=(us.map (·.2))[k]?:=by
 induction ks generalizing ts with
 |nil=>simp[nN]at h
 | cons g ks ih=>
   cases ts with
   |nil=>simp[nN]at h
   | cons t ts=>
     unfold nN at h;split at h
     . rename_i e;subst e;cases h
       refine⟨0,rfl,rfl,fun u'=>by simp[vO],fun us eu=>?_⟩
       cases us with
       |nil=>cases eu
       | cons q us=>
         simp at eu;obtain⟨a,b⟩:=q;simp at eu;rw[<- eu.1];simp[List.lookup]
     . rename_i ne;obtain⟨k,e1,e2,e3,e4⟩:=ih h
       refine⟨k+1,by simpa using e1,by simpa using e2,fun u'=>by simp[vO,ne,e3],fun us eu=>?_⟩
       cases us with
       |nil=>cases eu
       | cons q us=>
         obtain⟨a,b⟩:=q;simp at eu
         have:(f==a)=false:=by rw[eu.1];simpa using Ne.symm ne
         simp[List.lookup,this,e4 us eu.2]
noncomputable def wo(H:Hp):Stp->V->V->Prop
 |.ix k,v,w=>∃ p vs,v=.ref p /\ H p=some (.lst vs) /\ vs[k]?=some w
 |.fd f,v,w=>∃ p C dx us,v=.ref p /\ H p=some (.ins C dx us) /\ us.lookup f=some w
noncomputable def jl(H:Hp):V->List Stp->V->Prop
 |v,[],w=>w=v
 |v,s ::π,w=>∃ u,wo H s v u /\ jl H u π w
theorem wo.inj(h:wo H s v w)(k:wo H s v w'):w=w':=by
 cases s with
 | ix n=>
   obtain⟨p,vs,rfl,e1,e2⟩:=h;obtain⟨p',vs',e3,e4,e5⟩:=k;cases e3;rw[e1]at e4;cases e4;rw[e2]at e5;cases e5;rfl
 | fd f=>
   obtain⟨p,C,dx,us,rfl,e1,e2⟩:=h;obtain⟨p',C',dx',us',e3,e4,e5⟩:=k;cases e3;rw[e1]at e4;cases e4;rw[e2]at e5;cases e5;rfl
theorem jl.inj:∀{v w w':V},jl H v π w->jl H v π w'->w=w':=by
 induction π with
 |nil=>intro v w w' h k;rw[h,k]
 | cons s π ih=>
   rintro v w w' ⟨u,h1,h2⟩ ⟨u',k1,k2⟩
   have:=h1.inj k1;subst this;exact ih h2 k2
theorem jl.snoc:∀{v w u:V},jl H v π w->wo H s w u->jl H v (π++[s]) u:=by
 induction π with
 |nil=>intro v w u h k;rw[h]at k;exact⟨u,k,rfl⟩
 | cons t π ih=>
   rintro v w u ⟨x,h1,h2⟩ k
   exact⟨x,h1,ih h2 k⟩
theorem jl.mono(g:aJ H H'):∀{v w:V},jl H v π w->jl H' v π w:=by
 induction π with
 |nil=>intro v w h;exact h
 | cons t π ih=>
   rintro v w ⟨x,h1,h2⟩
   refine⟨x,?_,ih h2⟩
   cases t with
   |ix k=>obtain⟨p,vs,e,e1,e2⟩:=h1;exact⟨p,vs,e,g _ _ e1,e2⟩
   |fd f=>obtain⟨p,C,dx,us,e,e1,e2⟩:=h1;exact⟨p,C,dx,us,e,g _ _ e1,e2⟩
theorem bO.step{t u:OV}{fp:List Addr}(h:bO K cls S H t v fp)(e:t.at1 s=some u):
  ∃ w f1 rest,wo H s v w /\ bO K cls S H u w f1 /\ fp.Perm (f1++rest) /\
    ∀ S' H' u' f',aJ S S'->bO K cls S' H' u' w f'->(∀ a∈rest,∀ o,H a=some o->H' a=some o)->∃ g,bO K cls S' H' (t.EM s u') v g /\ g.Perm (f'++rest):=by
 cases t with
 |sh x=>cases s<;>cases e
 |di x=>cases s<;>cases e
 |dt x=>cases s<;>cases e
 | ol ts=>
   cases s with
   |fd f=>cases e
   | ix k=>
     unfold bO at h;obtain⟨p,vs,f,rfl,hp,rfl,r⟩:=h;obtain⟨w,f1,rest,e1,r1,p1,c1⟩:=r.at e
     refine⟨w,f1,p ::rest,⟨p,vs,rfl,hp,e1⟩,r1,?_,fun S' H' u' f' s r' g=>?_⟩
     . exact(List.Perm.cons p p1).trans (List.perm_middle.symm)
     . obtain⟨g2,r2,p2⟩:=c1 S' H' u' w f' s r' fun a ha=>g a (by simp[ha])
       refine⟨p ::g2,?_,(List.Perm.cons p p2).trans List.perm_middle.symm⟩
       rw[lH e1]at r2;unfold OV.EM bO
       exact⟨p,vs,g2,rfl,g p (by simp) _ hp,rfl,r2⟩
 | ob c ks ts=>
   cases s with
   |ix k=>cases e
   | fd f=>
     unfold bO at h;obtain⟨p,C,dx,us,ff,rfl,hc,hp,hd,hk,rfl,r⟩:=h;obtain⟨k,e1,e2,e3,e4⟩:=BK e;obtain⟨w,f1,rest,q1,r1,p1,c1⟩:=r.at e1
     refine⟨w,f1,p ::dx ::rest,⟨p,C,dx,us,rfl,hp,by rw[e4 us hk];exact q1⟩,r1,?_,fun S' H' u' f' s r' g=>?_⟩
     . exact((List.Perm.cons p ((List.Perm.cons dx p1).trans List.perm_middle.symm))).trans List.perm_middle.symm
     . obtain⟨g2,r2,p2⟩:=c1 S' H' u' w f' s r' fun a ha=>g a (by simp[ha])
       refine⟨p ::dx ::g2,?_,(List.Perm.cons p ((List.Perm.cons dx p2).trans List.perm_middle.symm)).trans List.perm_middle.symm⟩
       rw[lH q1]at r2;unfold OV.EM bO
       exact⟨p,C,dx,us,g2,rfl,hc,g p (by simp) _ hp,g dx (by simp) _ hd,hk,rfl,by rw[e3];exact r2⟩
theorem bO.focus:∀{t u:OV} {v:V} {fp:List Addr},bO K cls S H t v fp->t.get π=some u ->
  ∃ w f1 rest,jl H v π w /\ bO K cls S H u w f1 /\ fp.Perm (f1++rest) /\
    ∀ S' H' u' f',aJ S S'->bO K cls S' H' u' w f'->(∀ a∈rest,∀ o,H a=some o->H' a=some o)->∃ g,bO K cls S' H' (t.put π u') v g /\ g.Perm (f'++rest):=by
 induction π with
 | nil=>
   intro t u v fp h e;cases e
   exact⟨v,fp,[],rfl,h,by simp,fun S' H' u' f' _ r' _=>⟨f',by unfold OV.put;exact r',by simp⟩⟩
 | cons s π ih=>
   intro t u v fp h e;unfold OV.get at e;obtain⟨t1,e1,e2⟩:=Option.bind_eq_some_iff.mp e;obtain⟨w1,f1,rest1,st,r1,p1,c1⟩:=h.step e1;obtain⟨w,f2,rest2,wk,r2,p2,c2⟩:=ih r1 e2
   refine⟨w,f2,rest2++rest1,⟨w1,st,wk⟩,r2,?_,fun S' H' u' f' s' r' g=>?_⟩
   . rw[<- List.append_assoc];exact p1.trans (List.Perm.append_right rest1 p2)
   . obtain⟨g1,q1,k1⟩:=c2 S' H' u' f' s' r' fun a ha=>g a (List.mem_append_left _ ha)
     obtain⟨g2,q2,k2⟩:=c1 S' H' _ g1 s' q1 fun a ha=>g a (List.mem_append_right _ ha)
     refine⟨g2,?_,?_⟩
     . unfold OV.put;rw[e1];exact q2
     . rw[<- List.append_assoc];exact k2.trans (List.Perm.append_right rest1 k1)
theorem SR.tree(I:SR K cls Av G S₀ ρ σ S H)(e:kh i ρ=some t):∃ v fp,σ[i]?=some (some v) /\ bO K cls S H t v fp:=by
 obtain⟨F,J⟩:=I;unfold kh at e
 cases q:ρ[i]? with
 |none=>rw[q]at e;cases e
 | some o=>
   cases o with
   |none=>rw[q]at e;cases e
   | some s=>
     rw[q]at e;obtain⟨v,e1,r⟩:=J.own i s q
     cases s with
     |tr io t'=>cases e;exact⟨v,_,e1,r.1⟩
     | bo t'=>
       cases e;obtain⟨_,f,r⟩:=r
       exact⟨v,f,e1,r.mono (aJ.refl _) fun _ _ _ h=>J.gh _ _ h⟩
     |sh x=>cases e
     |ow xs=>cases e
     |ex c fs=>cases e
noncomputable def JP(K:PySem.W.Frag)(cls:String->Option Addr)(te:TE)(i:Nat)(mp:MP):Prop:=∀ Av G S₀ ρ σ S H Q v0 t π,SR K cls Av G S₀ ρ σ S H->kh i ρ=some t->σ[i]?=some (some v0)->mp ρ=some π->(t.get π).isSome=true ->
 (∀ w S' H',bg S H S' H'->jl H' v0 π w->Q w H')->te σ H Q
theorem jv:JP K cls (vV i) i eK:=by
 intro Av G S₀ ρ σ S H Q v0 t π I e ev ep _ k;cases ep
 exact⟨v0,ev,k v0 S H (bg.refl I.sh) rfl⟩
theorem JP.sub(hp:JP K cls te i mp)(I:SR K cls Av G S₀ ρ σ S H)(e:subAt i mp ρ=some u)
  (k:∀ w S' H' f,bg S H S' H'->SR K cls Av G S₀ ρ σ S' H'->bO K cls S' H' u w f->Q w H'):te σ H Q:=by
 unfold subAt at e;split at e
 . rename_i t et;split at e
   . rename_i π eπ;obtain⟨v0,fp0,ev,_⟩:=I.tree et
     refine hp Av G S₀ ρ σ S H _ v0 t π I et ev eπ (by rw[e];rfl) fun w S1 H1 w1 wk=>?_
     obtain⟨v,fp,ev',ro⟩:=(I.grow w1).tree et;rw[ev]at ev';cases ev';obtain⟨w',f1,rest,wk',r',_,_⟩:=ro.focus e;have:=wk.inj wk';subst this;exact k w S1 H1 f1 w1 (I.grow w1) r'
   . cases e
 . cases e
theorem zA{ok:String->Bool}(hp:JP K cls te i mp)(ha:∀ c C,cls c=some C->ok c=true->Cls K C /\ lr K C f):JP K cls (IX K te f) i (pFd i mp f ok):=by
 intro Av G S₀ ρ σ S H Q v0 t π I e ev ep hs k;unfold pFd at ep;split at ep
 . rename_i c ks ts es;split at ep
   . rename_i hok;rw[Bool.and_eq_true]at hok;obtain⟨π0,e0,rfl⟩:=Option.map_eq_some_iff.mp ep
     have e1:t.get π0=some (.ob c ks ts):=by
      unfold subAt at es;rw[e]at es
      dsimp only at es
      rw[e0]at es;exact es
     refine hp Av G S₀ ρ σ S H _ v0 t π0 I e ev e0 (by rw[e1];rfl) fun w S1 H1 w1 wk=>?_
     have I1:=I.grow w1;obtain⟨v,fp,ev',ro⟩:=I1.tree e;rw[ev]at ev';cases ev';obtain⟨w',f1,rest,wk',r',_,_⟩:=ro.focus e1;have:=wk.inj wk';subst this;unfold bO at r';obtain⟨p,C,dx,us,ff,rfl,hcl,hp',hd,hk,rfl,r⟩:=r';obtain⟨a1,a2⟩:=ha c C hcl hok.1
     cases q:nN ks ts f with
     |none=>rw[q]at hok;cases hok.2
     | some u=>
       obtain⟨n,h1,h2,h3,h4⟩:=BK q
       have hn:n<(us.map (·.2)).length:=by rw[r.length];exact(List.getElem?_eq_some_iff.mp h1).1
       have hx:us.lookup f=some (us.map (·.2))[n]:=by rw[h4 us hk];exact List.getElem?_eq_getElem hn
       exact⟨p,C,dx,us,_,rfl,hp',a1,a2,hx,k _ S1 H1 w1 (wk'.snoc ⟨p,C,dx,us,rfl,hp',hx⟩)⟩
   . cases ep
 . cases ep
theorem BR(hp:JP K cls te i mp):JE K cls W te (sU i mp):=by
 intro Av G S₀ ρ σ S H Q I p;unfold sU at p;split at p
 . rename_i x e
   refine hp.sub I e fun w S1 H1 f w1 _ r=>?_
   unfold bO at r;exact p w S1 H1 w1 r.2
 . rename_i ts e;split at p
   . rename_i xs ex
     refine hp.sub I e fun w S1 H1 f w1 _ r=>?_
     unfold bO at r;obtain⟨q,vs,ff,rfl,hq,_,rs⟩:=r;exact p _ S1 H1 w1 ⟨q,vs,rfl,SqL.new hq,(rs.flat ex).1⟩
   . exact p.elim
 . exact p.elim
theorem Dc(hp:JP K cls te i mp):JT K cls W (fun σ H Q=>te σ H fun x H'=>∃ k,AZ K x H' k /\ Q k H') (q9 i mp):=by
 intro Av G S₀ ρ σ S H Q I p;unfold q9 at p;split at p
 . rename_i ts e
   refine hp.sub I e fun w S1 H1 f w1 _ r=>?_
   unfold bO at r;obtain⟨q,vs,ff,rfl,hq,_,rs⟩:=r
   refine⟨_,.inl ⟨vs,SqL.new hq,rfl⟩,?_⟩
   have:vs.isEmpty=ts.isEmpty:=by
    have:=rs.length
    cases vs<;>cases ts<;>simp_all
   rw[this];exact p S1 H1 w1
 . exact p.elim
end
section
variable{K:PySem.W.Frag}{cls:String->Option Addr}{W:XW}{Av G S₀ S S' H H' B B':Hp}{ρ:ag}{σ:St}{Q:VK}{F:Nat->List Addr}
theorem SRF.part{t u:OV}(J:SRF K cls Av G S₀ ρ σ S H F)(hi:ρ[i]?=some (some (.tr io t)))(hv:σ[i]?=some (some v0))(e:t.get π=some u):
  ∃ w f1 rest,jl H v0 π w /\ bO K cls S H u w f1 /\ (F i).Perm (f1++rest) /\ (f1++rest).Nodup /\ (∀ a∈f1,G a=none /\ S a=none) /\
    ∀ S' H' u' f',aJ S S'->aJ S' H'->aJ G H'->(∀ b,S' b≠none->S₀ b≠none \/ G b=none)->bO K cls S' H' u' w f'->f'.Nodup->(∀ a∈f',a∈f1 \/ H a=none)->(∀ a∈f',S' a=none) ->
      (∀ a o,a∉f1->H a=some o->H' a=some o)->(∀ a,S' a≠none->S a≠none \/ H a=none \/ a∈f1) ->
      ∃ g,SRF K cls Av G S₀ (ρ.set i (some (.tr io (t.put π u')))) σ S' H' (pb F i g) /\ g.Perm (f'++rest):=by
 obtain⟨v,ev,ro,nd,gs,hio⟩:=J.own i _ hi;rw[hv]at ev;cases ev;obtain⟨w,f1,rest,wk,r1,p1,c1⟩:=ro.focus e
 have nd1:(f1++rest).Nodup:=p1.nodup_iff.mp nd
 have in1:∀ a,a∈f1->a∈F i:=fun a ha=>p1.mem_iff.mpr (List.mem_append_left _ ha)
 have inr:∀ a,a∈rest->a∈F i:=fun a ha=>p1.mem_iff.mpr (List.mem_append_right _ ha)
 have off1:∀ a,a∈rest->a∉f1:=fun a ha hb=>(List.nodup_append.mp nd1).2.2 a hb a ha rfl
 refine⟨w,f1,rest,wk,r1,p1,nd1,fun a ha=>gs a (in1 a ha),fun S' H' u' f' s sh gh new r' nd' fr nS keep nw=>?_⟩
 obtain⟨g,rg,pg⟩:=c1 S' H' u' f' s r' fun a ha o h=>keep a o (off1 a ha) h
 have noS:∀ j a,a∈F j->a∉f1->S' a=none:=fun j a ha hb=>by
  cases q:S' a with
  |none=>rfl
  | some o=>
    obtain⟨⟨o',h1,_⟩,_,h3⟩:=J.live j a ha
    rcases nw a (by rw[q];simp)with z|z|z
    . exact absurd h3 z
    . rw[h1]at z;cases z
    . exact absurd z hb
 have J1:SRF K cls Av G S₀ (ρ.set i none) (σ.set i none) S H (pb F i []):=J.put (fun t e=>nomatch e) (fun a ha=>nomatch ha) fun j a _ ha=>nomatch ha
 have off:∀ j a,a∈pb F i [] j->a∉f1 /\ j≠i:=fun j a ha=>by
  by_cases ej:j=i
  . subst ej;rw[je]at ha;cases ha
  . rw[ft ej]at ha
    exact⟨fun hb=>ej (J.apart j i a ha (in1 a hb)),ej⟩
 have J2:=J1.change (S':=S') (H':=H') gh s sh new (fun j a ha o h=>keep a o (off j a ha).1 h)
  (fun b o hx h=>keep b o (fun hb=>by
    obtain⟨⟨o',h1,h2⟩,_⟩:=J.live i b (in1 b hb)
    rw[h]at h1;cases h1;rw[hx]at h2;cases h2) h)
  fun j a ha=>by
   have hj:=off j a ha;rw[ft hj.2]at ha;exact noS j a ha hj.1
 have mem:∀ a,a∈g->a∈f' \/ a∈rest:=fun a ha=>List.mem_append.mp (pg.mem_iff.mp ha)
 have hlive:∀ a∈g,(∃ o,H' a=some o /\ isX o=false) /\ G a=none /\ S' a=none:=fun a ha=>by
  refine⟨rg.live a ha,?_,?_⟩
  . rcases mem a ha with z|z
    . rcases fr a z with y|y
      . exact(gs a (in1 a y)).1
      . exact J.gh.free y
    . exact(gs a (inr a z)).1
  . rcases mem a ha with z|z
    . exact nS a z
    . exact noS i a (inr a z) (off1 a z)
 have ndg:g.Nodup:=pg.nodup_iff.mpr (List.nodup_append.mpr ⟨nd',(List.nodup_append.mp nd1).2.1,fun a ha b hb z=>by
  subst z
  rcases fr a ha with y|y
  . exact off1 a hb y
  . obtain⟨⟨o',h1,_⟩,_⟩:=J.live i a (inr a hb)
    rw[y]at h1;cases h1⟩)
 have J3:=J2.put (i:=i) (s:=some (.tr io (t.put π u'))) (u:=some v0) (fp:=g) (fun t' e=>by
  cases e
  exact⟨v0,rfl,rg,ndg,fun a ha=>⟨(hlive a ha).2.1,(hlive a ha).2.2⟩,hio⟩) hlive fun j a hj ha hz=>by
   rw[ft hj]at hz
   rcases mem a ha with z|z
   . rcases fr a z with y|y
     . exact hj (J.apart j i a hz (in1 a y))
     . obtain⟨⟨o',h1,_⟩,_⟩:=J.live j a hz;rw[y]at h1;cases h1
   . exact hj (J.apart j i a hz (inr a z))
 rw[List.set_set,List.set_set,lH hv]at J3
 have eF:pb (pb F i []) i g=pb F i g:=by
  funext j
  by_cases ej:j=i
  . subst ej;rw[je,je]
  . rw[ft ej,ft ej,ft ej]
 rw[eF]at J3
 exact⟨g,J3,pg⟩
theorem SRF.more(I:SRF K cls Av G S₀ ρ σ S H F)(h:∀ t,s=some t->∃ v,u=some v /\ t5 K cls Av G S H ρ.length t v fp)
  (hl:∀ a∈fp,(∃ o,H a=some o /\ isX o=false) /\ G a=none /\ S a=none) (ap:∀ j a,j<ρ.length->a∈fp->a∉F j):∃ F',SRF K cls Av G S₀ (ρ++[s]) (σ++[u]) S H F':=by
 refine⟨fun j=>if j<ρ.length then F j else if j=ρ.length then fp else[],I.gh,I.s0,I.sh,I.new,fun j t e=>?_,fun j k a h1 h2=>?_,fun j a ha=>?_,by simp[I.len]⟩
 . by_cases hj:j<ρ.length
   . rw[List.getElem?_append_left hj]at e;rw[List.getElem?_append_left (by rw[<- I.len];exact hj)];simp only[hj,if_true];exact I.own j t e
   . rw[List.getElem?_append_right (Nat.le_of_not_lt hj)]at e
     have h0:j - ρ.length=0:=by
      by_cases h:j - ρ.length=0
      . exact h
      . rw[List.getElem?_eq_none (by simp;omega)]at e;cases e
     rw[h0]at e
     have ej:j=ρ.length:=by omega
     obtain⟨v,e2,r⟩:=h t (Option.some.inj e)
     refine⟨v,?_,?_⟩
     . rw[List.getElem?_append_right (by rw[<- I.len];omega),<- I.len,h0,e2];rfl
     . subst ej;simp only[Nat.lt_irrefl,if_false,if_true];exact r
 . by_cases hj:j<ρ.length
   . simp only[hj,if_true]at h1
     by_cases hk:k<ρ.length
     . simp only[hk,if_true]at h2;exact I.apart j k a h1 h2
     . simp only[hk,if_false]at h2;split at h2
       . exact absurd h1 (ap j a hj h2)
       . cases h2
   . simp only[hj,if_false]at h1;split at h1
     . rename_i ej
       by_cases hk:k<ρ.length
       . simp only[hk,if_true]at h2;exact absurd h2 (ap k a hk h1)
       . simp only[hk,if_false]at h2;split at h2
         . rename_i ek;rw[ej,ek]
         . cases h2
     . cases h1
 . by_cases hj:j<ρ.length
   . simp only[hj,if_true]at ha;exact I.live j a ha
   . simp only[hj,if_false]at ha;split at ha
     . exact hl a ha
     . cases ha
theorem SR.fold(I:SR K cls Av G S₀ (ρ++[some s]) (σ++[some v]) S H)(hs:nio s=true):SR K cls Av G S₀ (ρ.set i (some s)) (σ.set i (some v)) S H:=by
 obtain⟨F,J⟩:=I
 have hlen:ρ.length=σ.length:=by have:=J.len;simpa using this
 obtain⟨v',ev,r⟩:=J.own ρ.length s (by simp)
 have ev':v'=v:=by
  rw[List.getElem?_append_right (by rw[hlen];exact Nat.le_refl _),hlen,Nat.sub_self]at ev
  cases ev;rfl
 subst ev'
 have J1:SRF K cls Av G S₀ ρ σ S H (fun j=>if j<ρ.length then F j else[]):=by
  refine⟨J.gh,J.s0,J.sh,J.new,fun j t e=>?_,fun j k a h1 h2=>?_,fun j a ha=>?_,hlen⟩
  . have hj:j<ρ.length:=(List.getElem?_eq_some_iff.mp e).1
    obtain⟨v2,e2,r2⟩:=J.own j t (by rw[List.getElem?_append_left hj];exact e);rw[List.getElem?_append_left (by rw[<- hlen];exact hj)]at e2;simp only[hj,if_true]
    exact⟨v2,e2,r2⟩
  . split at h1
    . split at h2
      . exact J.apart j k a h1 h2
      . cases h2
    . cases h1
  . split at ha
    . exact J.live j a ha
    . cases ha
 refine⟨_,J1.put (i:=i) (s:=some s) (u:=some v') (fp:=F ρ.length) (fun t e=>?_) (fun a ha=>J.live _ a ha) fun j a hj ha hz=>?_⟩
 . cases e
   refine⟨v',rfl,?_⟩
   cases s with
   |sh x=>exact r
   |ow xs=>exact r
   |ex c fs=>exact r
   | tr io t=>
     cases io with
     |true=>cases hs
     |false=>exact⟨r.1,r.2.1,r.2.2.1,fun z=>nomatch z⟩
   |bo t=>cases hs
 . split at hz
   . rename_i hj';have:=J.apart j ρ.length a hz ha;omega
   . cases hz
theorem SR.CA(I:SR K cls Av G S₀ (ρ++[s]) (σ++[u]) S H):SR K cls Av G S₀ ρ σ S H:=by
 obtain⟨F,J⟩:=I
 have hlen:ρ.length=σ.length:=by have:=J.len;simpa using this
 refine⟨F,J.gh,J.s0,J.sh,J.new,fun j t e=>?_,J.apart,J.live,hlen⟩
 have hj:j<ρ.length:=(List.getElem?_eq_some_iff.mp e).1
 obtain⟨v2,e2,r2⟩:=J.own j t (by rw[List.getElem?_append_left hj];exact e);rw[List.getElem?_append_left (by rw[<- hlen];exact hj)]at e2
 exact⟨v2,e2,r2⟩
noncomputable def D9(K:PySem.W.Frag)(cls:String->Option Addr)(B S H:Hp)(t:OV)(v:V):Prop:=∃ fp,bO K cls S H t v fp /\ fp.Nodup /\ ∀ a∈fp,B a=none /\ S a=none
noncomputable def LD(K:PySem.W.Frag)(cls:String->Option Addr)(W:XW)(σ:St)(S H:Hp)(Q:VK):OD->Prop
 |.ok t=>∀ v S' H',bg S H S' H'->D9 K cls H S' H' t v->Q v H'
 |.exc c fs=>∀ a C S' H',bg S H S' H'->oy K cls S' H' c fs a C->W (.ref C) (some a) σ H'
 |.bad=>False
noncomputable def JD(K:PySem.W.Frag)(cls:String->Option Addr)(W:XW)(te:TE)(m:ag->OD):Prop:=∀ Av G S₀ ρ σ S H Q,SR K cls Av G S₀ ρ σ S H->LD K cls W σ S H Q (m ρ)->te σ H Q
theorem D9.grow(h:D9 K cls B S H t v)(w:bg S H S1 H1):D9 K cls B S1 H1 t v:=by
 obtain⟨fp,r,nd,g⟩:=h
 refine⟨fp,r.mono w.s fun a _ o z=>w.g _ _ z,nd,fun a ha=>⟨(g a ha).1,?_⟩⟩
 obtain⟨o,h1,_⟩:=r.live a ha
 cases q:S1 a with
 |none=>rfl
 | some o'=>
   rcases w.new a (by rw[q];simp)with z|z
   . exact absurd (g a ha).2 z
   . rw[h1]at z;cases z
theorem Lm{me:ag->OE}(h:JE K cls W te me):JD K cls W te (mD me):=by
 intro Av G S₀ ρ σ S H Q I p;refine h Av G S₀ ρ σ S H Q I ?_;unfold mD at p
 cases e:me ρ with
 |exc c fs=>rw[e]at p;exact p
 |bad=>rw[e]at p;exact p
 | ok r=>
   rw[e]at p
   cases r with
   |sh x=>exact fun v S' H' w r=>p v S' H' w ⟨[],by unfold bO;exact⟨rfl,r⟩,List.nodup_nil,fun a ha=>nomatch ha⟩
   |al xs=>exact p.elim
   | fr xs=>
     intro v S' H' w r;obtain⟨q,vs,rfl,hB,hS,hH,hr⟩:=r;refine p _ S' H' w ⟨[q],by unfold bO;exact⟨q,vs,[],rfl,hH,rfl,.shs hr⟩,by simp,fun a ha=>?_⟩
     have z:a=q:=by simpa using ha
     subst z;exact⟨hB,hS⟩
theorem SR.Mh(I:SR K cls Av G S₀ ρ σ S H)(w:bg S H S' H')(h:D9 K cls H S' H' t v):SR K cls Av G S₀ (ρ.set i (some (.tr false t))) (σ.set i (some v)) S' H':=by
 obtain⟨F,J⟩:=I;obtain⟨fp,r,nd,g⟩:=h
 refine⟨_,(J.grow w).put (fp:=fp) (fun t' e=>by cases e;exact⟨v,rfl,r,nd,fun a ha=>⟨J.gh.free (g a ha).1,(g a ha).2⟩,fun z=>nomatch z⟩) (fun a ha=>⟨r.live a ha,J.gh.free (g a ha).1,(g a ha).2⟩) fun j a _ ha hz=>?_⟩
 obtain⟨⟨o,h1,_⟩,_⟩:=J.live j a hz;rw[(g a ha).1]at h1;cases h1
theorem BJ{md:ag->OD}(h:JD K cls W te md):JS K cls W (vJ te (jP i)) (tD i md):=by
 intro Av G S₀ ρ σ S H D I p;refine h Av G S₀ ρ σ S H _ I ?_;unfold tD at p
 cases e:md ρ with
 |exc c fs=>rw[e]at p;exact fun a C S' H' w x=>p a C σ S' H' (I.grow w) w.s x
 |bad=>rw[e]at p;exact p
 |ok t=>rw[e]at p;exact fun v S1 H1 w1 r1=>p _ S1 H1 (I.Mh w1 r1) w1.s
end
section
variable{K:PySem.W.Frag}{cls:String->Option Addr}{W:XW}{Av G S₀ S S' H H' B B':Hp}{ρ:ag}{σ:St}{Q:VK}{F:Nat->List Addr}
theorem bO.Ks{ts:List OV}{v:V}{fp:List Addr}(h:bO K cls S H (.ol ts) v fp):∃ p vs f,v=.ref p /\ H p=some (.lst vs) /\ fp=p ::f /\ bH K cls S H ts vs f:=by unfold bO at h;exact h
theorem SRF.yc{i:Nat}{io:Bool}{t:OV}{ts:List OV}{v0:V}{π:List Stp}(J:SRF K cls Av G S₀ ρ σ S H F)(hi:ρ[i]?=some (some (.tr io t)))(hv:σ[i]?=some (some v0))(e:t.get π=some (.ol ts)):
  ∃ q vs ff rest,jl H v0 π (.ref q) /\ H q=some (.lst vs) /\ vs.length=ts.length /\ bH K cls S H ts vs ff /\ (F i).Perm ((q ::ff)++rest) /\ ((q ::ff)++rest).Nodup /\
    ∀ S' H' ts' vs' f',bg S H S' H'->bH K cls S' H' ts' vs' f'->f'.Nodup->(∀ a∈f',a∈ff \/ (H a=none /\ S' a=none)) ->
      ∃ g,SRF K cls Av G S₀ (ρ.set i (some (.tr io (t.put π (.ol ts'))))) σ S' (upd H' q (.lst vs')) (pb F i g) /\ g.Perm ((q ::f')++rest):=by
 obtain⟨w,f1,rest,wk,r1,p1,nd1,gs,c⟩:=J.part hi hv e;obtain⟨q,vs,ff,rfl,hq,rfl,rs⟩:=r1.Ks
 refine⟨q,vs,ff,rest,wk,hq,rs.length,rs,p1,nd1,fun S' H' ts' vs' f' wg r' nd' fr=>?_⟩
 have hGq:=(gs q (by simp)).1;have hSq:=(gs q (by simp)).2
 have hS'q:S' q=none:=by
  cases z:S' q with
  |none=>rfl
  | some o=>
    rcases wg.new q (by rw[z];simp)with y|y
    . exact absurd hSq y
    . rw[hq]at y;cases y
 have nq:q∉f':=fun z=>by
  rcases fr q z with y|y
  . exact(List.nodup_cons.mp (List.nodup_append.mp nd1).1).1 y
  . rw[y.1]at hq;cases hq
 have nS:∀ a∈f',S' a=none:=fun a ha=>by
  rcases fr a ha with y|y
  . cases z:S' a with
    |none=>rfl
    | some o=>
      obtain⟨o',h1,_⟩:=rs.live a y
      rcases wg.new a (by rw[z];simp)with k|k
      . exact absurd (gs a (by simp[y])).2 k
      . rw[h1]at k;cases k
  . exact y.2
 refine c S' (upd H' q (.lst vs')) (.ol ts') (q ::f') wg.s (wg.sh.upd hS'q) ((J.gh.trans wg.g).upd hGq) (fun b h=>?_) ?_ (List.nodup_cons.mpr ⟨nq,nd'⟩) (fun a ha=>?_) (fun a ha=>?_) (fun a o hn h=>?_) fun a h=>?_
 . rcases wg.new b h with z|z
   . exact J.new b z
   . exact .inr (J.gh.free z)
 . unfold bO
   exact⟨q,vs',f',rfl,bz,rfl,r'.mono (aJ.refl _) fun a ha o h=>by rw[bf (fun z=>nq (by rw[<- z];exact ha))];exact h⟩
 . rcases List.mem_cons.mp ha with z|z
   . subst z;exact .inl (by simp)
   . rcases fr a z with y|y
     . exact .inl (by simp[y])
     . exact .inr y.1
 . rcases List.mem_cons.mp ha with z|z
   . subst z;exact hS'q
   . exact nS a z
 . rw[bf (fun z=>hn (by rw[z];simp))];exact wg.g _ _ h
 . rcases wg.new a h with z|z
   . exact .inl z
   . exact .inr (.inl z)
theorem JP.at{i:Nat}{te:TE}{mp:MP}{io:Bool}{t u:OV}{v0:V}{π:List Stp}{Q:VK}(hp:JP K cls te i mp)(I:SR K cls Av G S₀ ρ σ S H)(hi:ρ[i]?=some (some (.tr io t)))(hv:σ[i]?=some (some v0))(e0:mp ρ=some π)(e1:t.get π=some u)
  (k:∀ w S' H',bg S H S' H'->SR K cls Av G S₀ ρ σ S' H'->jl H' v0 π w->Q w H'):te σ H Q:=
 hp Av G S₀ ρ σ S H Q v0 t π I (by unfold kh;rw[hi];rfl) hv e0 (by rw[e1];rfl) fun w S1 H1 w1 wk=>k w S1 H1 w1 (I.grow w1) wk
theorem uX{i:Nat}{mp:MP}{k:OV->(OV->ag)->OS}{D:Ends}(p:eP K cls W Av G S₀ S D (Bf i mp ρ k)):∃ io t π u,ρ[i]?=some (some (.tr io t)) /\ mp ρ=some π /\ t.get π=some u /\ eP K cls W Av G S₀ S D (k u fun u'=>ρ.set i (some (.tr io (t.put π u')))):=by
 unfold Bf at p;split at p
 . rename_i io t hi;split at p
   . rename_i π e0;split at p
     . rename_i u e1
       exact⟨io,t,π,u,hi,e0,e1,p⟩
     . exact p.elim
   . exact p.elim
 . exact p.elim
theorem SR.val{i:Nat}{s:Sl}(I:SR K cls Av G S₀ ρ σ S H)(e:ρ[i]?=some (some s)):∃ v,σ[i]?=some (some v):=let ⟨v,h,_⟩:=I.good i s e;⟨v,h⟩
theorem AK{i:Nat}{te tx:TE}{mp:MP}{md:ag->OD}(hp:JP K cls te i mp)(hx:JD K cls W tx md):JS K cls W (q8 (tBM K "list" x6 te (ib tx km))) (nY i mp md):=by
 intro Av G S₀ ρ σ S H D I p;obtain⟨io,t,π,u,hi,e0,e1,p⟩:=uX p;obtain⟨v0,hv⟩:=I.val hi
 cases u with
 |sh x=>exact p.elim
 |ob c ks us=>exact p.elim
 |di x=>exact p.elim
 |dt x=>exact p.elim
 | ol ts=>
   dsimp only at p
   refine hp.at I hi hv e0 e1 fun w S1 H1 w1 I1 wk=>?_
   obtain⟨F,J1⟩:=I1;obtain⟨q,vs,ff,rest,wk',hq,hl,rs,_,nd,c⟩:=J1.yc hi hv e1;have:=wk.inj wk';subst this
   refine⟨.inl ⟨rfl,_,SqL.new hq⟩,?_⟩
   refine hx Av G S₀ ρ σ S1 H1 _ ⟨F,J1⟩ ?_
   cases ed:md ρ with
   |exc c fs=>rw[ed]at p;exact fun a C S' H' w x=>p a C σ S' H' (SR.grow ⟨F,J1⟩ w) (w1.s.trans w.s) x
   |bad=>rw[ed]at p;exact p
   | ok x=>
     rw[ed]at p
     dsimp only at p
     split at p
     . rename_i hlt;intro v S2 H2 w2 r2;obtain⟨fx,rx,ndx,gx⟩:=r2
       refine⟨q,vs,v,rfl,rfl,w2.g _ _ hq,by rw[hl];exact hlt,?_⟩
       have ndf:ff.Nodup:=(List.nodup_cons.mp (List.nodup_append.mp nd).1).2
       have apx:∀ a∈ff,a∉fx:=fun a ha hb=>by
        obtain⟨o,h1,_⟩:=rs.live a ha;rw[(gx a hb).1]at h1;cases h1
       obtain⟨g,J3,_⟩:=c S2 H2 (ts++[x]) (vs++[v]) (ff++(fx++[])) w2 ((rs.mono w2.s fun a _ o h=>w2.g _ _ h).append (.cons rx .nil)) (by
         rw[List.append_nil]
         exact List.nodup_append.mpr ⟨ndf,ndx,fun a ha b hb z=>by subst z;exact apx a ha hb⟩) (fun a ha=>by
         rw[List.append_nil]at ha
         rcases List.mem_append.mp ha with z|z
         . exact .inl z
         . exact .inr (gx a z))
       exact p σ S2 _ ⟨_,J3⟩ (w1.s.trans w2.s)
     . exact p.elim
end
section
variable{K:PySem.W.Frag}{cls:String->Option Addr}{W:XW}{Av G S₀ S S' H H' B B':Hp}{ρ:ag}{σ:St}{Q:VK}{F:Nat->List Addr}
noncomputable def HC(K:PySem.W.Frag)(cls:String->Option Addr)(W:XW)(Av G S₀:Hp)(σ:St)(S:Hp)(Q:VK):OX->Prop
 |.ok ρ' s=>∀ v S' H',SR K cls Av G S₀ (ρ'++[some s]) (σ++[some v]) S' H'->aJ S S'->Q v H'
 |.exc ρ' c fs=>∀ a C S' H',SR K cls Av G S₀ ρ' σ S' H'->aJ S S'->oy K cls S' H' c fs a C->W (.ref C) (some a) σ H'
 |.bad=>False
noncomputable def JX(K:PySem.W.Frag)(cls:String->Option Addr)(W:XW)(te:TE)(m:ag->OX):Prop:=∀ Av G S₀ ρ σ S H Q,SR K cls Av G S₀ ρ σ S H->HC K cls W Av G S₀ σ S Q (m ρ)->te σ H Q
theorem yP{i:Nat}{te:TE}{m:ag->OX}(h:JX K cls W te m):JS K cls W (vJ te (jP i)) (oG i m):=by
 intro Av G S₀ ρ σ S H D I p;refine h Av G S₀ ρ σ S H _ I ?_;unfold oG at p
 cases e:m ρ with
 |exc ρ' c fs=>rw[e]at p;exact fun a C S' H' I' s' x=>p a C σ S' H' I' s' x
 |bad=>rw[e]at p;exact p
 | ok ρ' s=>
   rw[e]at p
   dsimp only at p
   split at p
   . rename_i hs
     exact fun v S' H' I' s'=>p _ S' H' (I'.fold hs) s'
   . exact p.elim
theorem SR.IW{x:PV}{v:V}(I:SR K cls Av G S₀ (ρ++[some (.sh x)]) (σ++[some v]) S H):Rep K S x v:=by
 obtain⟨F,J⟩:=I
 have hlen:ρ.length=σ.length:=by have:=J.len;simpa using this
 obtain⟨v',ev,r⟩:=J.own ρ.length (.sh x) (by simp);rw[List.getElem?_append_right (by rw[hlen];exact Nat.le_refl _),hlen,Nat.sub_self]at ev;cases ev;exact r.2
theorem FZ{te:TE}{m:ag->OX}{ta tb:TS}{ma mb:ag->OS}(h:JX K cls W te m)(ha:JS K cls W ta ma)(hb:JS K cls W tb mb):
  JS K cls W (G6 (Hs (fun σ H Q=>te σ H fun x H'=>∃ k,AZ K x H' k /\ Q k H')) ta tb) (G9 true m ma mb):=by
 intro Av G S₀ ρ σ S H D I p;refine h Av G S₀ ρ σ S H _ I ?_;unfold G9 at p
 cases e:m ρ with
 |exc ρ' c fs=>rw[e]at p;exact fun a C S' H' I' s' x=>p a C σ S' H' I' s' x
 |bad=>rw[e]at p;exact p
 | ok ρ' s=>
   rw[e]at p
   cases s with
   | sh x=>
     dsimp only at p
     intro v S' H' I' s'
     cases et:pq x with
     |none=>rw[et]at p;exact p.elim
     | some k=>
       rw[et]at p
       refine⟨k,BV I'.sh (I'.IW.rd I'.sh) et,?_⟩
       cases k with
       |false=>exact u3 (ha Av G S₀ ρ' σ S' H' D I'.CA (p.back s'))
       |true=>exact uV (hb Av G S₀ ρ' σ S' H' D I'.CA (p.back s'))
   |ow xs=>exact p.elim
   |ex c fs=>exact p.elim
   |tr io t=>exact p.elim
   |bo t=>exact p.elim
theorem bH.last{ts:List OV}{vs:List V}{f:List Addr}{x:OV}(h:bH K cls S H ts vs f)(e:ts.getLast?=some x):∃ y f1 f2,vs[vs.length - 1]?=some y /\ bH K cls S H ts.dropLast vs.dropLast f1 /\ bO K cls S H x y f2 /\ f=f1++f2:=by
 induction ts generalizing vs f with
 |nil=>cases e
 | cons t ts ih=>
   obtain⟨v,r,f1,f2,rfl,rfl,h1,h2⟩:=h.cons_inv
   cases ts with
   | nil=>
     unfold bH at h2;obtain⟨rfl,rfl⟩:=h2;simp at e;subst e
     exact⟨v,[],f1,rfl,.nil,h1,by simp⟩
   | cons t2 ts2=>
     rw[List.getLast?_cons_cons]at e;obtain⟨y,g1,g2,e1,r1,r2,rfl⟩:=ih h2 e
     have hr:r≠[]:=by intro z;subst z;have:=h2.length;simp at this
     refine⟨y,f1++g1,g2,?_,?_,r2,by simp⟩
     . cases r with
       |nil=>exact absurd rfl hr
       |cons a r'=>simpa using e1
     . cases r with
       |nil=>exact absurd rfl hr
       |cons a r'=>exact bH.cons h1 r1
theorem GV{x:OV}{v:V}{fp:List Addr}{i:Nat}(h:bO K cls S H x v fp)(nd:fp.Nodup)(g:∀ a∈fp,G a=none /\ S a=none):t5 K cls Av G S H i (slO x) v fp:=by
 cases x with
 |sh y=>unfold bO at h;exact h
 |ol ts=>exact⟨h,nd,g,fun z=>nomatch z⟩
 |ob c ks ts=>exact⟨h,nd,g,fun z=>nomatch z⟩
 |di x=>exact⟨h,nd,g,fun z=>nomatch z⟩
 |dt x=>exact⟨h,nd,g,fun z=>nomatch z⟩
theorem B6{i:Nat}{te:TE}{mp:MP}(hp:JP K cls te i mp):JX K cls W (Kv K "list" Mf te) (pQ i mp):=by
 intro Av G S₀ ρ σ S H Q I p;unfold pQ at p;split at p
 . rename_i io t hi;split at p
   . rename_i π e0;split at p
     . rename_i ts e1;split at p
       . rename_i x ex;obtain⟨v0,hv⟩:=I.val hi
         refine hp.at I hi hv e0 e1 fun w S1 H1 w1 I1 wk=>?_
         obtain⟨F,J1⟩:=id I1;obtain⟨q,vs,ff,rest,wk',hq,hl,rs,pF,nd,c⟩:=J1.yc hi hv e1;have:=wk.inj wk';subst this;obtain⟨y,f1,f2,ey,ri,rx,rfl⟩:=rs.last ex
         have ndf:(f1++f2).Nodup:=(List.nodup_cons.mp (List.nodup_append.mp nd).1).2
         have nq:q∉f1++f2:=(List.nodup_cons.mp (List.nodup_append.mp nd).1).1
         refine⟨.inl ⟨rfl,_,SqL.new hq⟩,q,vs,y,rfl,rfl,hq,ey,?_⟩
         obtain⟨g,J3,pg⟩:=c S1 H1 ts.dropLast vs.dropLast f1 (bg.refl J1.sh) ri (List.nodup_append.mp ndf).1 fun a ha=>.inl (List.mem_append_left _ ha)
         have in2:∀ a∈f2,a∈F i:=fun a ha=>pF.mem_iff.mpr (by simp[ha])
         have rx':bO K cls S1 (upd H1 q (.lst vs.dropLast)) x y f2:=rx.mono (aJ.refl _) fun a ha o h=>by rw[bf (fun z=>nq (by rw[<- z];simp[ha]))];exact h
         have gs2:∀ a∈f2,G a=none /\ S1 a=none:=fun a ha=>(J1.live i a (in2 a ha)).2
         obtain⟨F',J4⟩:=J3.more (s:=some (slO x)) (u:=some y) (fp:=f2) (fun t' e=>by cases e;exact⟨y,rfl,GV rx' (List.nodup_append.mp ndf).2.1 gs2⟩) (fun a ha=>⟨rx'.live a ha,gs2 a ha⟩) fun j a hj ha hz=>by
          by_cases ej:j=i
          . subst ej;rw[je]at hz;have hm:=pg.mem_iff.mp hz;have hd:=List.nodup_append.mp nd
            rcases List.mem_append.mp hm with z|z
            . rcases List.mem_cons.mp z with z|z
              . subst z;exact nq (by simp[ha])
              . exact(List.nodup_append.mp ndf).2.2 a z a ha rfl
            . exact hd.2.2 a (by simp[ha]) a z rfl
          . rw[ft ej]at hz;exact ej (J1.apart j i a hz (in2 a ha))
         exact p y S1 _ ⟨F',J4⟩ w1.s
       . exact p.elim
     . exact p.elim
   . exact p.elim
 . exact p.elim
end
section
variable{K:PySem.W.Frag}{cls:String->Option Addr}{W:XW}{Av G S₀ S S' H H' B B':Hp}{ρ:ag}{σ:St}{Q:VK}{F:Nat->List Addr}
theorem Gj{ks:List Str}{us:List (Str×V)}{f:Str}{y:V}(hk:us.map (·.1)=ks){k:Nat}(hf:∀ j,ks[j]?=some f->k<=j)(he:ks[k]?=some f):(jC f y us).map (·.1)=ks /\ (jC f y us).map (·.2)=(us.map (·.2)).set k y:=by
 induction us generalizing ks k with
 |nil=>subst hk;cases he
 | cons q us ih=>
   obtain⟨g,x⟩:=q;subst hk;unfold jC
   by_cases e:g=f
   . rw[if_pos e]
     have k0:k=0:=by have:=hf 0 (by simp[e]);omega
     subst k0
     exact⟨rfl,rfl⟩
   . rw[if_neg e]
     cases k with
     |zero=>simp at he;exact absurd he e
     | succ k=>
       obtain⟨h1,h2⟩:=ih (ks:=us.map (·.1)) (k:=k) rfl (fun j hj=>by have:=hf (j+1) (by simpa using hj);omega) (by simpa using he);simp[h1,h2]
theorem Eg{us:List (Str×V)}{f:Str}{y:V}(h:f∉us.map (·.1)):jC f y us=us++[(f,y)]:=by
 induction us with
 |nil=>rfl
 | cons q us ih=>
   obtain⟨g,x⟩:=q;simp at h;unfold jC;rw[if_neg (fun z=>h.1 z.symm),ih (by simpa using h.2)];rfl
theorem A8{ks:List Str}{ts:List OV}{f:Str}(hl:ts.length=ks.length)(h:f∈ks):∃ k,ks[k]?=some f /\ (∀ j,ks[j]?=some f->k<=j) /\ k<ts.length /\ ∀ u,vO ks ts f u=ts.set k u:=by
 induction ks generalizing ts with
 |nil=>cases h
 | cons g ks ih=>
   cases ts with
   |nil=>cases hl
   | cons t ts=>
     by_cases e:g=f
     . subst e
       exact⟨0,rfl,fun j _=>Nat.zero_le _,by simp,fun u=>by simp[vO]⟩
     . obtain ⟨k,h1,h2,h3,h4⟩:=ih (ts:=ts) (by simpa using hl) (by
        rcases List.mem_cons.mp h with z|z
        . exact absurd z.symm e
        . exact z)
       refine⟨k+1,by simpa using h1,fun j hj=>?_,by simpa using h3,fun u=>by simp[vO,e,h4]⟩
       cases j with
       |zero=>simp at hj;exact absurd hj e
       |succ j=>have:=h2 j (by simpa using hj);omega
theorem F5{i:Nat}{te tx:TE}{mp:MP}{f:Str}{okc:String->Bool}{md:ag->OD}(hp:JP K cls te i mp)(hx:JD K cls W tx md)(ha:∀ c C,cls c=some C->okc c=true->Cls K C /\ lr K C f):JS K cls W (Kq K te tx f) (Ff i mp f okc md):=by
 intro Av G S₀ ρ σ S H D I p;refine hx Av G S₀ ρ σ S H _ I ?_;unfold Ff at p
 cases ed:md ρ with
 |exc c fs=>rw[ed]at p;exact fun a C S' H' w x=>p a C σ S' H' (I.grow w) w.s x
 |bad=>rw[ed]at p;exact p
 | ok x=>
   rw[ed]at p
   dsimp only at p
   obtain⟨io,t,π,u,hi,e0,e1,p⟩:=uX p;obtain⟨v0,hv⟩:=I.val hi
   cases u with
   |sh x=>exact p.elim
   |ol ts=>exact p.elim
   |di x=>exact p.elim
   |dt x=>exact p.elim
   | ob c ks ts=>
     dsimp only at p
     split at p
     . rename_i hok;rw[Bool.and_eq_true,decide_eq_true_eq]at hok;intro v S1 H1 w1 r1
       refine hp.at (I.grow w1) hi hv e0 e1 fun w S2 H2 w2 I2 wk=>?_
       obtain⟨F,J⟩:=id I;obtain⟨w0,f1,rest,wk',ro,pF,nd,gs,cc⟩:=J.part hi hv e1
       have wg:bg S H S2 H2:=w1.trans w2
       have:=wk.inj (wk'.mono wg.g);subst this;unfold bO at ro;obtain⟨q,C,dx,us,ff,rfl,hcl,hq,hd,hk,rfl,rs⟩:=ro;obtain⟨a1,a2⟩:=ha c C hcl hok.1;have nd1:=(List.nodup_append.mp nd).1
       have nq:q∉dx ::ff:=(List.nodup_cons.mp nd1).1
       have ndx':dx∉ff:=(List.nodup_cons.mp (List.nodup_cons.mp nd1).2).1
       have ndf:ff.Nodup:=(List.nodup_cons.mp (List.nodup_cons.mp nd1).2).2
       have hlen:us.length<1000:=by have:=congrArg List.length hk;simp at this;omega
       obtain⟨fx,rx,nx,gx⟩:=r1.grow w2
       refine⟨q,C,dx,us,rfl,wg.g _ _ hq,a1,a2,hlen,?_⟩
       have noS:∀ a∈q ::dx ::ff,S2 a=none:=fun a ha=>by
        cases z:S2 a with
        |none=>rfl
        | some o=>
          obtain⟨⟨o',h1,_⟩,_,h3⟩:=J.live i a (pF.mem_iff.mpr (List.mem_append_left _ ha))
          rcases wg.new a (by rw[z];simp)with y|y
          . exact absurd h3 y
          . rw[h1]at y;cases y
       have fin:∀ ks' ts' f',(jC f v us).map (·.1)=ks'->bH K cls S2 H2 ts' ((jC f v us).map (·.2)) f'->f'.Nodup->(∀ a∈f',a∈ff \/ (H a=none /\ S2 a=none)) ->
         SR K cls Av G S₀ (ρ.set i (some (.tr io (t.put π (.ob c ks' ts'))))) σ S2 (upd H2 q (.ins C dx (jC f v us))):=by
        intro ks' ts' f' hk' rs' nd' fr
        have nqf:q∉f':=fun z=>by
         rcases fr q z with y|y
         . exact nq (by simp[y])
         . rw[y.1]at hq;cases hq
        have ndf':dx∉f':=fun z=>by
         rcases fr dx z with y|y
         . exact ndx' y
         . rw[y.1]at hd;cases hd
        have ndq:dx≠q:=fun z=>nq (by simp[z])
        obtain⟨g,J3,_⟩:=cc S2 (upd H2 q (.ins C dx (jC f v us))) (.ob c ks' ts') (q ::dx ::f') wg.s (wg.sh.upd (noS q (by simp))) ((J.gh.trans wg.g).upd (gs q (by simp)).1) (fun b h=>by
          rcases wg.new b h with z|z
          . exact J.new b z
          . exact .inr (J.gh.free z)) (by
          unfold bO
          exact⟨q,C,dx,_,f',rfl,hcl,bz,by rw[bf ndq];exact wg.g _ _ hd,hk',rfl,rs'.mono (aJ.refl _) fun a ha o h=>by rw[bf (fun z=>nqf (by rw[<- z];exact ha))];exact h⟩)
         (List.nodup_cons.mpr ⟨fun z=>by
           rcases List.mem_cons.mp z with z|z
           . exact ndq z.symm
           . exact nqf z,List.nodup_cons.mpr ⟨ndf',nd'⟩⟩) (fun a ha=>by
           rcases List.mem_cons.mp ha with z|z
           . subst z;exact .inl (by simp)
           . rcases List.mem_cons.mp z with z|z
             . subst z;exact .inl (by simp)
             . rcases fr a z with y|y
               . exact .inl (by simp[y])
               . exact .inr y.1) (fun a ha=>by
           rcases List.mem_cons.mp ha with z|z
           . subst z;exact noS _ (by simp)
           . rcases List.mem_cons.mp z with z|z
             . subst z;exact noS _ (by simp)
             . rcases fr a z with y|y
               . exact noS a (by simp[y])
               . exact y.2) (fun a o hn h=>by rw[bf (fun z=>hn (by rw[z];simp))];exact wg.g _ _ h) fun a h=>by
           rcases wg.new a h with z|z
           . exact .inl z
           . exact .inr (.inl z)
        exact⟨_,J3⟩
       have hlts:ts.length=ks.length:=by rw[<- rs.length,<- hk];simp
       split at p
       . rename_i hc;obtain⟨k,h1,h2,h3,h4⟩:=A8 hlts (by simpa using hc);obtain⟨k1,k2⟩:=Gj (y:=v) hk h2 h1;obtain⟨w3,g1,rest3,e3,r3,p3,c3⟩:=rs.at (k:=k) (u:=ts[k]) (by simp[h3])
         obtain⟨g,rg,pg⟩:=c3 S2 H2 x v fx wg.s rx fun a _ o h=>wg.g _ _ h
         have inff:∀ a∈rest3,a∈ff:=fun a ha=>p3.mem_iff.mpr (List.mem_append_right _ ha)
         have ndr:rest3.Nodup:=(List.nodup_append.mp (p3.nodup_iff.mp ndf)).2.1
         have ndg:g.Nodup:=pg.nodup_iff.mpr (List.nodup_append.mpr ⟨nx,ndr,fun a ha b hb z=>by
          subst z;obtain⟨o,h1,_⟩:=rs.live a (inff a hb)
          rw[(gx a ha).1]at h1;cases h1⟩)
         have q1:=fin ks (ts.set k x) g k1 (by rw[k2];exact rg) ndg fun a ha=>by
          rcases List.mem_append.mp (pg.mem_iff.mp ha)with z|z
          . exact .inr (gx a z)
          . exact .inl (inff a z)
         rw[h4]at p;exact p σ S2 _ q1 wg.s
       . rename_i hc
         have hn:f∉us.map (·.1):=by rw[hk];simpa using hc
         have e2:=Eg (y:=v) hn
         have ndg:(ff++(fx++[])).Nodup:=by
          rw[List.append_nil]
          exact List.nodup_append.mpr ⟨ndf,nx,fun a ha b hb z=>by
           subst z;obtain⟨o,h1,_⟩:=rs.live a ha
           rw[(gx a hb).1]at h1;cases h1⟩
         have q1:=fin (ks++[f]) (ts++[x]) (ff++(fx++[])) (by rw[e2];simp[hk]) (by rw[e2,List.map_append];exact(rs.mono wg.s fun a _ o h=>wg.g _ _ h).append (.cons rx .nil)) ndg fun a ha=>by
          rw[List.append_nil]at ha
          rcases List.mem_append.mp ha with z|z
          . exact .inl z
          . exact .inr (gx a z)
         exact p σ S2 _ q1 wg.s
     . exact p.elim
end
open Classical in
noncomputable def minus(H:Hp)(Fc:Nat->List Addr):Hp:=fun a=>if ∃ k,a∈Fc k then none else H a
section
variable{K:PySem.W.Frag}{cls:String->Option Addr}{W:XW}{Av G S₀ S S' H H' B B':Hp}{ρ:ag}{σ:St}{Q:VK}{F Fc Fc':Nat->List Addr}
theorem As(h:a∈Fc k):minus H Fc a=none:=by unfold minus;rw[if_pos ⟨k,h⟩]
theorem ja(h:∀ k,a∉Fc k):minus H Fc a=H a:=by unfold minus;rw[if_neg (fun ⟨k,z⟩=>h k z)]
theorem vi:aJ (minus H Fc) H:=fun b u h=>by
 unfold minus at h;split at h
 . cases h
 . exact h
theorem lV(h:minus H Fc a=none):H a=none \/ ∃ k,a∈Fc k:=by
 unfold minus at h;split at h
 . rename_i z;exact .inr z
 . exact .inl h
noncomputable def Nr(K:PySem.W.Frag)(cls:String->Option Addr)(S H Hm:Hp):Sl->V->List Addr->Prop
 |.sh x,v,fp=>fp=[] /\ Rep K S x v
 |.tr true t,v,fp=>bO K cls S H t v fp /\ fp.Nodup
 |.bo t,v,fp=>fp=[] /\ ∃ f,bO K cls S Hm t v f
 |_,_,_=>False
structure EH(K:PySem.W.Frag)(cls:String->Option Addr)(vs:List V)(S H:Hp)(Fc:Nat->List Addr)(outs:List (Option OV))(S' H':Hp)(Fc':Nat->List Addr):Prop where
 s:aJ S S'
 sh:aJ S' H'
 keep:aJ (minus H Fc) H'
 new:∀ b,S' b≠none->S b≠none \/ H b=none \/ ∃ k,b∈Fc k
 out:∀ k t',outs[k]?=some (some t')->∃ u,vs[k]?=some u /\ bO K cls S' H' t' u (Fc' k) /\ (Fc' k).Nodup
 apart:∀ j k a,a∈Fc' j->a∈Fc' k->j=k
 live:∀ k a,a∈Fc' k->minus H Fc a=none /\ S' a=none
noncomputable def LN(K:PySem.W.Frag)(cls:String->Option Addr)(vs:List V)(S H:Hp)(Fc:Nat->List Addr)(Q:VK)(E:XK):OI->Prop
 |.ok x outs=>∀ v S' H' Fc',EH K cls vs S H Fc outs S' H' Fc'->Rep K S' x v->Q v H'
 |.exc c fs outs=>∀ a C S' H' Fc',EH K cls vs S H Fc outs S' H' Fc'->oy K cls S' H' c fs a C->E (.ref C) (some a) H'
 |.bad=>False
structure EI(K:PySem.W.Frag)(cls:String->Option Addr)(as:List Sl)(vs:List V)(S H:Hp)(Fc:Nat->List Addr):Prop where
 sh:aJ S H
 len:as.length=vs.length
 rel:∀(k:Nat) (s:Sl),as[k]?=some s->∃ v,vs[k]?=some v /\ Nr K cls S H (minus H Fc) s v (Fc k)
 apart:∀ j k a,a∈Fc j->a∈Fc k->j=k
 live:∀ k a,a∈Fc k->(∃ o,H a=some o /\ isX o=false) /\ S a=none
noncomputable def spI(K:PySem.W.Frag)(cls:String->Option Addr)(f:List Sl->OI):Sp:=fun vs H Q E=>∃ S as Fc,EI K cls as vs S H Fc /\ LN K cls vs S H Fc Q E (f as)
theorem GJ{as:List Sl}{vs:List V}{N:List Str}{i:Nat}{s:Sl}(hl:as.length=vs.length)(e:(mQ N.length as)[i]?=some (some s)):as[i]?=some s /\ (L2.start N vs)[i]?=some ((vs[i]?)):=by
 unfold mQ at e
 by_cases hi:i<as.length
 . rw[List.getElem?_append_left (by simpa using hi),List.getElem?_map]at e
   have hx:as[i]?=some as[i]:=by simp[hi]
   rw[hx]at e;cases e
   refine⟨hx,?_⟩
   unfold L2.start;rw[List.getElem?_append_left (by rw[List.length_map,<- hl];exact hi),List.getElem?_map]
   have hv:vs[i]?=some (vs[i]'(by rw[<- hl];exact hi)):=by simp[<- hl,hi]
   rw[hv];rfl
 . rw[List.getElem?_append_right (by simpa using hi)]at e;rw[List.getElem?_replicate]at e
   split at e<;>cases e
noncomputable def EF(vs:List V):Hp:=fun i=>(vs[i]?).map fun v=>.lst [v]
theorem SR.JN{ρ':ag}(A:aJ S H)(I:SR K cls (EF vs) (minus H Fc) S ρ' σ' S' H'):∃ Fc',EH K cls vs S H Fc ((ρ'.take np).map xh) S' H' Fc':=by
 obtain⟨F,J⟩:=I
 refine⟨F,J.s0,J.sh,J.gh,fun b h=>?_,fun k t' e=>?_,J.apart,fun k a ha=>(J.live k a ha).2⟩
 . rcases J.new b h with z|z
   . exact .inl z
   . rcases lV z with y|y
     . exact .inr (.inl y)
     . exact .inr (.inr y)
 . rw[List.getElem?_map]at e;obtain⟨s,e1,e2⟩:=Option.map_eq_some_iff.mp e
   have e3:ρ'[k]?=some s:=by
    rw[List.getElem?_take]at e1;split at e1
    . exact e1
    . cases e1
   cases s with
   |none=>cases e2
   | some s=>
     cases s with
     | tr io t=>
       cases io with
       |false=>cases e2
       | true=>
         cases e2;obtain⟨v,ev,ro,nd,_,hio⟩:=J.own k _ e3;have:=hio rfl;unfold EF at this;obtain⟨u,eu,e4⟩:=Option.map_eq_some_iff.mp this;cases e4
         exact⟨v,eu,ro,nd⟩
     |sh x=>cases e2
     |ow x=>cases e2
     |ex c fs=>cases e2
     |bo t=>cases e2
theorem y9{P:Program}{w:World}{mg:Str->Option Value}{base:Heap}{x qual:Str}{st:Stmt}{f:Addr}{fd:FuncData}{N ps:List Str}{k:Nat}{m:ag->OS}(Fn:Fun K x qual st f fd)(Sc:aP N ps (ay st))
  (hbody:∀(cdv:Value) (A:Around) (outer:List Env) (s:Shared) (H:Hp) (E:XK),gN k (A.deeper (envOfC qual (ay st) s.heap.objs.size f cdv)) ->
    ∃ t,QSs (sv (CXE P w) P w K mg base N qual (ay st) f cdv A outer s H E) (dk st) t /\ JS K cls (fun C a _ H=>∀ H',aJ H H'->E C a H') t m):bF P w K mg base (CXE P w) (k+1) f fd ps (spI K cls (fnI ps.length N.length m)):=by
 refine okX Fn Sc (fun vs H Q E h=>?_) fun cdv A outer s H vs Q E hr h=>?_
 . obtain⟨S,as,Fc,a,q⟩:=h;unfold fnI at q;split at q
   . rw[<- a.len];assumption
   . exact q.elim
 . obtain⟨S,as,Fc,a,q⟩:=h;unfold fnI at q;split at q
   . rename_i hl;obtain⟨t,ht,J⟩:=hbody cdv A outer s H E hr
     refine⟨t,ht.out,?_⟩
     have start:SR K cls (EF vs) (minus H Fc) S (mQ N.length as) (L2.start N vs) S H:=by
      refine⟨Fc,vi,aJ.refl _,a.sh,fun _ z=>.inl z,fun i s e=>?_,a.apart,fun i b hb=>⟨(a.live i b hb).1,As hb,(a.live i b hb).2⟩,?_⟩
      . obtain⟨e1,e2⟩:=GJ a.len e;obtain⟨v,ev,r⟩:=a.rel i s e1;rw[ev]at e2
        refine⟨v,e2,?_⟩
        cases s with
        |sh x=>exact r
        |ow x=>exact r.elim
        |ex c fs=>exact r.elim
        | tr io t=>
          cases io with
          |false=>exact r.elim
          |true=>exact⟨r.1,r.2,fun b hb=>⟨As hb,(a.live i b hb).2⟩,fun _=>by unfold EF;rw[ev];rfl⟩
        |bo t=>exact r
      . unfold mQ L2.start;simp[a.len]
     refine J (EF vs) (minus H Fc) S (mQ N.length as) (L2.start N vs) S H _ start ?_
     cases e:m (mQ N.length as)with
     |nx ρ'=>rw[e]at q;exact fun σ' S' H' I' s'=>let ⟨Fc',E'⟩:=I'.JN (np:=ps.length) a.sh;q .non S' H' Fc' E' (by unfold Rep;rfl)
     |bk ρ'=>rw[e]at q;exact q.elim
     |ct ρ'=>rw[e]at q;exact q.elim
     |bad=>rw[e]at q;exact q.elim
     | rt ρ' r=>
       rw[e]at q
       cases r with
       |al ys=>exact q.elim
       |fr ys=>exact q.elim
       |sh y=>exact fun v σ' S' H' I' s' rr=>let ⟨Fc',E'⟩:=I'.JN (np:=ps.length) a.sh;q v S' H' Fc' E' rr
     | exc ρ' c fs=>
       rw[e]at q
       exact fun b C σ' S' H' I' s' x H2 g2=>let ⟨Fc',E'⟩:=(I'.same g2).JN (np:=ps.length) a.sh;q b C S' H2 Fc' E' (x.mono (aJ.refl _) g2)
   . exact q.elim
noncomputable def AR1(K:PySem.W.Frag)(S H:Hp)(ρ:ag)(σ:St):Arg->Sl->V->Prop
 |.e _,.sh x,v=>Rep K S x v
 |.t i mp,.tr true u,v=>∃ io t π v0,ρ[i]?=some (some (.tr io t)) /\ mp ρ=some π /\ t.get π=some u /\ σ[i]?=some (some v0) /\ jl H v0 π v
 |.b i mp,.bo u,v=>∃ t π v0,kh i ρ=some t /\ mp ρ=some π /\ t.get π=some u /\ σ[i]?=some (some v0) /\ jl H v0 π v
 |_,_,_=>False
noncomputable def ARs(K:PySem.W.Frag)(S H:Hp)(ρ:ag)(σ:St):List Arg->List Sl->List V->Prop
 |[],ss,vs=>ss=[] /\ vs=[]
 |a ::as,ss,vs=>∃ s sr v vr,ss=s ::sr /\ vs=v ::vr /\ AR1 K S H ρ σ a s v /\ ARs K S H ρ σ as sr vr
theorem AR1.mono(h:AR1 K S H ρ σ a s v)(s1:aJ S S')(g:aJ H H'):AR1 K S' H' ρ σ a s v:=by
 cases a with
 |e me=>cases s<;>first|exact h.elim|exact Rep.mono s1 h
 | t i mp=>
   cases s with
   | tr io u=>
     cases io with
     |false=>exact h.elim
     |true=>obtain⟨io,t,π,v0,h1,h2,h3,h4,h5⟩:=h;exact⟨io,t,π,v0,h1,h2,h3,h4,h5.mono g⟩
   |_=>exact h.elim
 | b i mp=>
   cases s with
   |bo u=>obtain⟨t,π,v0,h1,h2,h3,h4,h5⟩:=h;exact⟨t,π,v0,h1,h2,h3,h4,h5.mono g⟩
   |_=>exact h.elim
theorem ARs.at:∀{ss:List Sl} {vs:List V} {k:Nat} {a:Arg},ARs K S H ρ σ as ss vs->as[k]?=some a->∃ s v,ss[k]?=some s /\ vs[k]?=some v /\ AR1 K S H ρ σ a s v:=by
 induction as with
 |nil=>intro ss vs k a _ e;simp at e
 | cons b as ih=>
   rintro ss vs k a ⟨s,sr,v,vr,rfl,rfl,h1,h2⟩ e
   cases k with
   |zero=>simp at e;subst e;exact⟨s,v,rfl,rfl,h1⟩
   |succ k=>simp at e;obtain⟨s',v',e1,e2,r⟩:=ih h2 e;exact⟨s',v',by simpa using e1,by simpa using e2,r⟩
theorem ARs.len{as:List Arg}:∀{ss:List Sl} {vs:List V},ARs K S H ρ σ as ss vs->ss.length=as.length /\ vs.length=as.length:=by
 induction as with
 |nil=>intro ss vs h;rw[h.1,h.2];exact⟨rfl,rfl⟩
 | cons b as ih=>
   rintro ss vs ⟨s,sr,v,vr,rfl,rfl,h1,h2⟩
   have:=ih h2;simp[this]
noncomputable def JAI(K:PySem.W.Frag)(cls:String->Option Addr)(t:TA)(as:List Arg):Prop:=∀ Av G S₀ ρ σ S H Q ss,SR K cls Av G S₀ ρ σ S H->lG as ρ=some ss->(∀ vs S' H',bg S H S' H'->ARs K S' H' ρ σ as ss vs->Q vs H')->t σ H Q
noncomputable def JA1(K:PySem.W.Frag)(cls:String->Option Addr)(te:TE)(a:Arg):Prop:=∀ Av G S₀ ρ σ S H Q s,SR K cls Av G S₀ ρ σ S H->mK a ρ=some s->(∀ v S' H',bg S H S' H'->AR1 K S' H' ρ σ a s v->Q v H')->te σ H Q
theorem Ij{me:ag->OE}(h:JE K cls W te me):JA1 K cls te (.e me):=by
 intro Av G S₀ ρ σ S H Q s I e k;unfold mK at e
 dsimp only at e
 refine h Av G S₀ ρ σ S H Q I ?_
 cases em:me ρ with
 |exc c fs=>rw[em]at e;cases e
 |bad=>rw[em]at e;cases e
 | ok r=>
   rw[em]at e;obtain⟨x,e1,rfl⟩:=Option.map_eq_some_iff.mp e;intro v S1 H1 w1 r1;obtain⟨S2,w2,s2,rx⟩:=r1.share w1 e1;exact k v S2 H1 w2 rx
theorem HA(h:JP K cls te i mp):JA1 K cls te (.t i mp):=by
 intro Av G S₀ ρ σ S H Q s I e k;unfold mK at e
 dsimp only at e
 split at e
 . rename_i io t hi;obtain⟨u,e1,rfl⟩:=Option.map_eq_some_iff.mp e;obtain⟨π,e2,e3⟩:=Option.bind_eq_some_iff.mp e1;obtain⟨v0,hv⟩:=I.val hi
   exact h.at I hi hv e2 e3 fun w S1 H1 w1 I1 wk=>k w S1 H1 w1 ⟨io,t,π,v0,hi,e2,e3,hv,wk⟩
 . cases e
theorem HG(h:JP K cls te i mp):JA1 K cls te (.b i mp):=by
 intro Av G S₀ ρ σ S H Q s I e k;unfold mK at e
 dsimp only at e
 obtain⟨u,e1,rfl⟩:=Option.map_eq_some_iff.mp e;unfold subAt at e1;split at e1
 . rename_i t et;split at e1
   . rename_i π eπ;obtain⟨v0,fp,hv,_⟩:=I.tree et
     exact h Av G S₀ ρ σ S H Q v0 t π I et hv eπ (by rw[e1];rfl) fun w S1 H1 w1 wk=>k w S1 H1 w1 ⟨t,π,v0,et,eπ,e1,hv,wk⟩
   . cases e1
 . cases e1
theorem uh:JAI K cls km []:=by
 intro Av G S₀ ρ σ S H Q ss I e k;cases e;exact k [] S H (bg.refl I.sh) ⟨rfl,rfl⟩
theorem y0(h:JA1 K cls te a)(r:JAI K cls t as):JAI K cls (ib te t) (a ::as):=by
 intro Av G S₀ ρ σ S H Q ss I e k;unfold lG at e;obtain⟨s,e1,e2⟩:=Option.bind_eq_some_iff.mp e;obtain⟨sr,e3,rfl⟩:=Option.map_eq_some_iff.mp e2
 refine h Av G S₀ ρ σ S H _ s I e1 fun v S1 H1 w1 h1=>?_
 refine r Av G S₀ ρ σ S1 H1 _ sr (I.grow w1) e3 fun vs S2 H2 w2 h2=>?_
 exact k (v ::vs) S2 H2 (w1.trans w2) ⟨s,sr,v,vs,rfl,rfl,h1.mono w2.s w2.g,h2⟩
end
section
variable{K:PySem.W.Frag}{cls:String->Option Addr}{W:XW}{Av G S₀ S S' H H' B B':Hp}{ρ:ag}{σ:St}{Q:VK}{F Fc Fc':Nat->List Addr}
noncomputable def cS:List Arg->List Nat
 |[]=>[]
 |.t i _ ::as=>i ::cS as
 |_ ::as=>cS as
noncomputable def rQ:List Arg->List Nat
 |[]=>[]
 |.b i _ ::as=>i ::rQ as
 |_ ::as=>rQ as
noncomputable def argsOk(as:List Arg):Bool:=decide (cS as).Nodup&&(rQ as).all fun i=>!(cS as).contains i
theorem gq{as:List Arg}{k i:Nat}{mp:MP}(h:as[k]?=some (.t i mp)):i∈cS as:=by
 induction as generalizing k with
 |nil=>simp at h
 | cons a as ih=>
   cases k with
   |zero=>simp at h;subst h;simp[cS]
   | succ k=>
     simp at h;have:=ih h
     cases a<;>simp[cS,this]
theorem Bb{as:List Arg}{k i:Nat}{mp:MP}(h:as[k]?=some (.b i mp)):i∈rQ as:=by
 induction as generalizing k with
 |nil=>simp at h
 | cons a as ih=>
   cases k with
   |zero=>simp at h;subst h;simp[rQ]
   | succ k=>
     simp at h;have:=ih h
     cases a<;>simp[rQ,this]
theorem mB{as:List Arg}(nd:(cS as).Nodup){j k i:Nat}{mp mp':MP}(h:as[j]?=some (.t i mp))(h':as[k]?=some (.t i mp')):j=k:=by
 induction as generalizing j k with
 |nil=>simp at h
 | cons a as ih=>
   cases j with
   | zero=>
     simp at h;subst h
     cases k with
     |zero=>rfl
     | succ k=>
       simp at h';have:=gq h';simp[cS]at nd;exact absurd this nd.1
   | succ j=>
     cases k with
     | zero=>
       simp at h';subst h';simp at h;have:=gq h;simp[cS]at nd;exact absurd this nd.1
     | succ k=>
       simp at h h'
       have nd':(cS as).Nodup:=by
        cases a with
        |t i' mp=>simp[cS]at nd;exact nd.2
        |e me=>exact nd
        |b i' mp=>exact nd
       rw[ih nd' h h']
theorem sM{as:List Arg}{i:Nat}(h:i∈cS as):∃(k:Nat) (mp:MP),as[k]?=some (.t i mp):=by
 induction as with
 |nil=>simp[cS]at h
 | cons a as ih=>
   cases a with
   | t j mp=>
     simp[cS]at h
     rcases h with h|h
     . subst h;exact⟨0,mp,rfl⟩
     . obtain⟨k,mp',e⟩:=ih h;exact⟨k+1,mp',by simpa using e⟩
   |e me=>obtain⟨k,mp',e⟩:=ih h;exact⟨k+1,mp',by simpa using e⟩
   |b j mp=>obtain⟨k,mp',e⟩:=ih h;exact⟨k+1,mp',by simpa using e⟩
theorem tw{as:List Arg}{ρ₀:ag}:∀{us:List (Option OV)} {ρ:ag} {i:Nat},i∉cS as->(fQ ρ₀ as us ρ)[i]?=ρ[i]?:=by
 induction as with
 |nil=>intro us ρ i _;rfl
 | cons a as ih=>
   intro us ρ i h;unfold fQ
   cases a with
   |e me=>rw[ih h];rfl
   |b j mp=>rw[ih h];rfl
   | t j mp=>
     simp[cS]at h;rw[ih h.2]
     have:∀ x:Option Sl,(ρ.set j x)[i]?=ρ[i]?:=fun x=>List.getElem?_set_ne (Ne.symm h.1)
     cases us.head?.join with
     |none=>exact this _
     | some u=>
       unfold lu;dsimp only;split
       . split
         . exact this _
         . exact this _
       . exact this _
theorem A4{as:List Arg}{ρ₀:ag}:∀{us:List (Option OV)} {ρ:ag} {i k:Nat} {mp:MP} {s:Sl},(cS as).Nodup->as[k]?=some (.t i mp)->(fQ ρ₀ as us ρ)[i]?=some (some s) ->
  ∃ io t π u,us[k]?=some (some u) /\ ρ[i]?=some (some (.tr io t)) /\ mp ρ₀=some π /\ s=.tr io (t.put π u):=by
 induction as with
 |nil=>intro us ρ i k mp s _ h;simp at h
 | cons a as ih=>
   intro us ρ i k mp s nd h e;unfold fQ at e
   cases k with
   | zero=>
     simp at h;subst h;simp[cS]at nd;rw[tw nd.1]at e
     cases us with
     | nil=>
       unfold lu at e;simp at e;rw[List.getElem?_set]at e;simp at e
     | cons u us=>
       cases u with
       | none=>
         unfold lu at e;simp at e;rw[List.getElem?_set]at e;simp at e
       | some u=>
         unfold lu at e;simp only[List.head?_cons,Option.join_some]at e;split at e
         . rename_i io t hi;split at e
           . rename_i π hπ;rw[List.getElem?_set]at e;simp at e
             exact⟨io,t,π,u,rfl,hi,hπ,e.2.symm⟩
           . rw[List.getElem?_set]at e;simp at e
         . rw[List.getElem?_set]at e;simp at e
   | succ k=>
     simp at h
     have nd':(cS as).Nodup:=by
      cases a with
      |t i' mp=>simp[cS]at nd;exact nd.2
      |e me=>exact nd
      |b i' mp=>exact nd
     obtain⟨io,t,π,u,e1,e2,e3,e4⟩:=ih nd' h e
     refine⟨io,t,π,u,?_,?_,e3,e4⟩
     . cases us with
       |nil=>simp at e1
       |cons _ us=>simpa using e1
     . cases a with
       |e me=>exact e2
       |b j mp=>exact e2
       | t j mp'=>
         have hij:i≠j:=by
          intro z;subst z;simp[cS]at nd;exact nd.1 (gq h)
         have:∀ x:Option Sl,(ρ.set j x)[i]?=ρ[i]?:=fun x=>List.getElem?_set_ne (Ne.symm hij)
         cases q:us.head?.join with
         |none=>rw[q]at e2;unfold lu at e2;simp only at e2;rw[this]at e2;exact e2
         | some u=>
           rw[q]at e2;unfold lu at e2;simp only at e2;split at e2
           . split at e2
             . rw[this]at e2;exact e2
             . rw[this]at e2;exact e2
           . rw[this]at e2;exact e2
theorem zM{as:List Arg}{ρ₀:ag}:∀{us:List (Option OV)} {ρ:ag},(fQ ρ₀ as us ρ).length=ρ.length:=by
 induction as with
 |nil=>intro us ρ;rfl
 | cons a as ih=>
   intro us ρ;unfold fQ;rw[ih];unfold lu;split
   . split
     . split<;>simp
     . simp
   . simp
   . rfl
theorem SR.Mr{as:List Arg}{ss:List Sl}{vs:List V}(I:SR K cls Av G S₀ ρ σ S H)(ok:argsOk as=true)(h:ARs K S H ρ σ as ss vs):
  ∃ Fc,EI K cls ss vs S H Fc /\ ∀ outs S' H' Fc',EH K cls vs S H Fc outs S' H' Fc'->SR K cls Av G S₀ (fQ ρ as outs ρ) σ S' H':=by
 obtain⟨F,J⟩:=I;unfold argsOk at ok;rw[Bool.and_eq_true,decide_eq_true_eq]at ok;obtain⟨nd,hb⟩:=ok
 have cell:∀ k:Nat,∃ d:List Addr×List Addr,(∀ i mp,as[k]?=some (.t i mp)->∃ io t π u v0 w,ss[k]?=some (.tr true u) /\ vs[k]?=some w /\ ρ[i]?=some (some (.tr io t)) /\ mp ρ=some π /\ t.get π=some u /\ σ[i]?=some (some v0) /\ bO K cls S H u w d.1 /\ (F i).Perm (d.1++d.2) /\ (d.1++d.2).Nodup /\ (io=true->Av i=some (.lst [v0])) /\
   ∀ S' H' u' f',aJ S S'->bO K cls S' H' u' w f'->(∀ a∈d.2,∀ o,H a=some o->H' a=some o)->∃ g,bO K cls S' H' (t.put π u') v0 g /\ g.Perm (f'++d.2)) /\ ((∀ i mp,as[k]?≠some (.t i mp))->d=([],[])):=by
  intro k
  by_cases hk:∃ i mp,as[k]?=some (.t i mp)
  . obtain⟨i,mp,e⟩:=hk;obtain⟨s,w,es,ev,r⟩:=h.at e
    cases s with
    | tr io' u=>
      cases io' with
      |false=>exact r.elim
      | true=>
        obtain⟨io,t,π,v0,h1,h2,h3,h4,h5⟩:=r;obtain⟨v,ev',ro,ndf,gs,hio⟩:=J.own i _ h1;rw[h4]at ev';cases ev';obtain⟨w',f1,rest,wk,r1,p1,c1⟩:=ro.focus h3;have:=h5.inj wk;subst this
        refine⟨(f1,rest),fun i' mp' e'=>?_,fun z=>absurd e (z i mp)⟩
        rw[e]at e'
        cases e'
        exact⟨io,t,π,u,v0,w,es,ev,h1,h2,h3,h4,r1,p1,p1.nodup_iff.mp ndf,hio,c1⟩
    |sh x=>exact r.elim
    |ow x=>exact r.elim
    |ex c fs=>exact r.elim
    |bo x=>exact r.elim
  . exact⟨([],[]),fun i mp e=>absurd ⟨i,mp,e⟩ hk,fun _=>rfl⟩
 obtain⟨d,hd⟩:=Classical.axiomOfChoice cell
 have tOf:∀ k a,a∈(d k).1->∃ i mp,as[k]?=some (.t i mp) /\ a∈F i:=by
  intro k a ha
  by_cases hk:∃ i mp,as[k]?=some (.t i mp)
  . obtain⟨i,mp,e⟩:=hk;obtain⟨io,t,π,u,v0,w,_,_,_,_,_,_,_,p1,_⟩:=(hd k).1 i mp e
    exact⟨i,mp,e,p1.mem_iff.mpr (List.mem_append_left _ ha)⟩
  . rw[(hd k).2 fun i mp e=>hk ⟨i,mp,e⟩]at ha;cases ha
 have hlen:=h.len
 have qE:∀ i a,a∈F i->(∀ k mp,as[k]?=some (.t i mp)->a∉(d k).1)->∀ k,a∉(d k).1:=by
  intro i a ha hn k hk;obtain⟨i',mp,e,ha'⟩:=tOf k a hk;have:=J.apart i i' a ha ha';subst this;exact hn k mp e hk
 refine⟨fun k=>(d k).1,⟨J.sh,by rw[hlen.1,hlen.2],fun k s es=>?_,fun j k a h1 h2=>?_,fun k a ha=>?_⟩,fun outs S' H' Fc' E=>?_⟩
 . have hk:k<as.length:=by rw[<- hlen.1];exact(List.getElem?_eq_some_iff.mp es).1
   obtain⟨s',w,es',ev,r⟩:=h.at (k:=k) (a:=as[k]) (by simp[hk]);rw[es]at es';cases es'
   refine⟨w,ev,?_⟩
   cases q:as[k]with
   | e me=>
     rw[q]at r
     have hz:=(hd k).2 fun i mp e=>by rw[List.getElem?_eq_getElem hk,q]at e;cases e
     cases s<;>first|exact r.elim|exact⟨by rw[hz],r⟩
   | t i mp=>
     have eq:as[k]?=some (.t i mp):=by rw[List.getElem?_eq_getElem hk,q]
     obtain⟨io,t,π,u,v0,w',es',ev',_,_,_,_,r1,_,nd1,_⟩:=(hd k).1 i mp eq;rw[es]at es';cases es';rw[ev]at ev';cases ev'
     exact⟨r1,(List.nodup_append.mp nd1).1⟩
   | b i mp=>
     have eq:as[k]?=some (.b i mp):=by rw[List.getElem?_eq_getElem hk,q]
     rw[q]at r
     have hz:=(hd k).2 fun i mp e=>by rw[eq]at e;cases e
     cases s with
     | bo u=>
       obtain⟨t,π,v0,h1,h2,h3,h4,h5⟩:=r
       refine⟨by rw[hz],?_⟩
       have nt:i∉cS as:=by
        have:=List.all_eq_true.mp hb i (Bb eq)
        simpa using this
       have ro:∃ f,bO K cls S (minus H fun k=>(d k).1) t v0 f:=by
        unfold kh at h1
        cases q1:ρ[i]? with
        |none=>rw[q1]at h1;cases h1
        | some o=>
          cases o with
          |none=>rw[q1]at h1;cases h1
          | some s1=>
            rw[q1]at h1;obtain⟨v,ev',r⟩:=J.own i s1 q1;rw[h4]at ev';cases ev'
            cases s1 with
            | tr io t'=>
              cases h1
              exact⟨_,r.1.mono (aJ.refl _) fun a ha o ho=>by
               rw[ja (qE i a ha fun k' mp' e'=>absurd (gq e') nt)];exact ho⟩
            | bo t'=>
              cases h1;obtain⟨_,f,r⟩:=r
              exact⟨f,r.mono (aJ.refl _) fun a ha o ho=>by
               rw[ja fun k' hk'=>?_]
               . exact J.gh _ _ ho
               . obtain⟨i',mp',_,ha'⟩:=tOf k' a hk'
                 rw[(J.live i' a ha').2.1]at ho;cases ho⟩
            |sh x=>cases h1
            |ow x=>cases h1
            |ex c fs=>cases h1
       obtain⟨f,ro⟩:=ro;obtain⟨w',f1,rest,wk,r1,_,_⟩:=ro.focus h3;have:=h5.inj (wk.mono vi);subst this
       exact⟨f1,r1⟩
     |sh x=>exact r.elim
     |ow x=>exact r.elim
     |ex c fs=>exact r.elim
     |tr io x=>exact r.elim
 . obtain⟨i,mp,e1,m1⟩:=tOf j a h1;obtain⟨i',mp',e2,m2⟩:=tOf k a h2;have:=J.apart i i' a m1 m2;subst this;exact mB nd e1 e2
 . obtain⟨i,mp,e1,m1⟩:=tOf k a ha
   exact⟨(J.live i a m1).1,(J.live i a m1).2.2⟩
 .
  have noS:∀ i a,a∈F i->(∀ k,a∉(d k).1)->S' a=none:=fun i a ha hn=>by
   cases z:S' a with
   |none=>rfl
   | some o=>
     obtain⟨⟨o',h1,_⟩,_,h3⟩:=J.live i a ha
     rcases E.new a (by rw[z];simp)with y|y|⟨k,y⟩
     . exact absurd h3 y
     . rw[h1]at y;cases y
     . exact absurd y (hn k)
  have keep:∀ a o,(∀ k,a∉(d k).1)->H a=some o->H' a=some o:=fun a o hn ho=>E.keep a o (by rw[ja hn];exact ho)
  have restOff:∀ k i mp,as[k]?=some (.t i mp)->∀ a∈(d k).2,a∈F i /\ ∀ k',a∉(d k').1:=fun k i mp e a ha=>by
   obtain⟨io,t,π,u,v0,w,_,_,_,_,_,_,_,p1,nd1,_⟩:=(hd k).1 i mp e
   have m:a∈F i:=p1.mem_iff.mpr (List.mem_append_right _ ha)
   refine⟨m,qE i a m fun k' mp' e' hk'=>?_⟩
   have:=mB nd e e';subst this
   exact(List.nodup_append.mp nd1).2.2 a hk' a ha rfl
  have gcell:∀ k:Nat,∃ g:List Addr,∀ i mp u',as[k]?=some (.t i mp)->outs[k]?=some (some u')->∀ io t π,ρ[i]?=some (some (.tr io t))->mp ρ=some π->∃ v0,σ[i]?=some (some v0) /\ (io=true->Av i=some (.lst [v0])) /\ bO K cls S' H' (t.put π u') v0 g /\ g.Perm (Fc' k++(d k).2):=by
   intro k
   by_cases hk:∃ i mp u',as[k]?=some (.t i mp) /\ outs[k]?=some (some u')
   . obtain⟨i,mp,u',e,eo⟩:=hk;obtain⟨io,t,π,u,v0,w,es,ev,h1,h2,h3,h4,r1,p1,nd1,hio,c1⟩:=(hd k).1 i mp e;obtain⟨w',ew,r',ndf'⟩:=E.out k u' eo;rw[ev]at ew;cases ew
     obtain⟨g,rg,pg⟩:=c1 S' H' u' (Fc' k) E.s r' fun a ha o ho=>keep a o (restOff k i mp e a ha).2 ho
     refine⟨g,fun i' mp' u'' e' eo' io' t' π' h1' h2'=>?_⟩
     rw[e]at e';cases e';rw[eo]at eo';cases eo';rw[h1]at h1';cases h1';rw[h2]at h2';cases h2'
     exact⟨v0,h4,hio,rg,pg⟩
   . exact⟨[],fun i mp u' e eo=>absurd ⟨i,mp,u',e,eo⟩ hk⟩
  obtain⟨g,hg⟩:=Classical.axiomOfChoice gcell
  have fcell:∀ i:Nat,∃ f:List Addr,(i∉cS as->f=F i) /\ ∀ k mp,as[k]?=some (.t i mp)->((∃ io t π u',ρ[i]?=some (some (.tr io t)) /\ mp ρ=some π /\ outs[k]?=some (some u'))->f=g k) /\ ((¬ ∃ io t π u',ρ[i]?=some (some (.tr io t)) /\ mp ρ=some π /\ outs[k]?=some (some u'))->f=[]):=by
   intro i
   by_cases hi:i∈cS as
   . obtain⟨k,mp,e⟩:=sM hi
     by_cases hx:∃ io t π u',ρ[i]?=some (some (.tr io t)) /\ mp ρ=some π /\ outs[k]?=some (some u')
     . refine⟨g k,fun z=>absurd hi z,fun k' mp' e'=>?_⟩
       have:=mB nd e e';subst this;rw[e]at e';cases e'
       exact⟨fun _=>rfl,fun z=>absurd hx z⟩
     . refine⟨[],fun z=>absurd hi z,fun k' mp' e'=>?_⟩
       have:=mB nd e e';subst this;rw[e]at e';cases e'
       exact⟨fun z=>absurd z hx,fun _=>rfl⟩
   . exact⟨F i,fun _=>rfl,fun k mp e=>absurd (gq e) hi⟩
  obtain⟨F',hF'⟩:=Classical.axiomOfChoice fcell
  have memF:∀ i a,a∈F' i->(i∉cS as /\ a∈F i /\ ∀ k,a∉(d k).1) \/ (∃ k mp,as[k]?=some (.t i mp) /\ F' i=g k /\ ((a∈Fc' k) \/ (a∈F i /\ ∀ k,a∉(d k).1)) /\ ∃ io t π u',ρ[i]?=some (some (.tr io t)) /\ mp ρ=some π /\ outs[k]?=some (some u')):=by
   intro i a ha
   by_cases hi:i∈cS as
   . obtain⟨k,mp,e⟩:=sM hi
     by_cases hx:∃ io t π u',ρ[i]?=some (some (.tr io t)) /\ mp ρ=some π /\ outs[k]?=some (some u')
     . have e1:=((hF' i).2 k mp e).1 hx;refine .inr ⟨k,mp,e,e1,?_,hx⟩;obtain⟨io,t,π,u',h1,h2,h3⟩:=hx;obtain⟨v0,_,_,rg,pg⟩:=hg k i mp u' e h3 io t π h1 h2;rw[e1]at ha
       rcases List.mem_append.mp (pg.mem_iff.mp ha)with z|z
       . exact .inl z
       . exact .inr (restOff k i mp e a z)
     . rw[((hF' i).2 k mp e).2 hx]at ha;cases ha
   . have e1:=(hF' i).1 hi;rw[e1]at ha;exact .inl ⟨hi,ha,qE i a ha fun k mp e=>absurd (gq e) hi⟩
  refine⟨F',?_,J.s0.trans E.s,E.sh,fun b hbn=>?_,fun i s e=>?_,fun i j a h1 h2=>?_,fun i a ha=>?_,?_⟩
  . intro b u hu;refine keep b u (fun k hk=>?_) (J.gh b u hu);obtain⟨i,mp,_,m⟩:=tOf k b hk;rw[(J.live i b m).2.1]at hu;cases hu
  . rcases E.new b hbn with z|z|⟨k,z⟩
    . exact J.new b z
    . exact .inr (J.gh.free z)
    . obtain⟨i,mp,_,m⟩:=tOf k b z;exact .inr (J.live i b m).2.1
  . by_cases hi:i∈cS as
    . obtain⟨k,mp,ek⟩:=sM hi;obtain⟨io,t,π,u,e1,e2,e3,rfl⟩:=A4 nd ek e;obtain⟨v0,h1,hio,rg,pg⟩:=hg k i mp u ek e1 io t π e2 e3;have e4:=((hF' i).2 k mp ek).1 ⟨io,t,π,u,e2,e3,e1⟩;rw[e4];obtain⟨w',ew,r',ndf'⟩:=E.out k u e1
      refine⟨v0,h1,rg,pg.nodup_iff.mpr (List.nodup_append.mpr ⟨ndf',?_,fun a ha b hb' z=>?_⟩),fun a ha=>?_,hio⟩
      . obtain⟨_,_,_,_,_,_,_,_,_,_,_,_,_,_,nd1,_⟩:=(hd k).1 i mp ek
        exact(List.nodup_append.mp nd1).2.1
      . subst z;obtain⟨m,off⟩:=restOff k i mp ek a hb';have:=(E.live k a ha).1;rw[ja off]at this;obtain⟨⟨o,ho,_⟩,_⟩:=J.live i a m;rw[this]at ho;cases ho
      . rcases List.mem_append.mp (pg.mem_iff.mp ha)with z|z
        . refine⟨?_,(E.live k a z).2⟩
          rcases lV (E.live k a z).1 with y|⟨k',y⟩
          . exact J.gh.free y
          . obtain⟨i',mp',_,m⟩:=tOf k' a y
            exact(J.live i' a m).2.1
        . obtain⟨m,off⟩:=restOff k i mp ek a z
          exact⟨(J.live i a m).2.1,noS i a m off⟩
    . rw[tw hi]at e;obtain⟨v,ev,r⟩:=J.own i s e;rw[(hF' i).1 hi]
      have off:∀ a∈F i,∀ k,a∉(d k).1:=fun a ha=>qE i a ha fun k mp e=>absurd (gq e) hi
      exact⟨v,ev,r.mono E.s (fun a ha o ho=>keep a o (off a ha) ho) (fun b o hx ho=>keep b o (fun k hk=>by
       obtain⟨i',mp',_,m⟩:=tOf k b hk;obtain⟨⟨o',h1,h2⟩,_⟩:=J.live i' b m
       rw[ho]at h1;cases h1;rw[hx]at h2;cases h2) ho) fun a ha=>noS i a ha (off a ha)⟩
  .
   have key:∀ i j a,a∈F' i->a∈F' j->(∃ k,a∈Fc' k)->∃ k mp,as[k]?=some (.t i mp) /\ a∈Fc' k:=by
    intro i j a ha _ ⟨k0,hk0⟩
    have no:∀ i',a∈F i'->¬ ∀ k,a∉(d k).1:=fun i' m off=>by
     have:=(E.live k0 a hk0).1;rw[ja off]at this;obtain⟨⟨o,ho,_⟩,_⟩:=J.live i' a m;rw[this]at ho;cases ho
    rcases memF i a ha with⟨_,m,off⟩|⟨k,mp,e,_,z,_⟩
    . exact absurd off (no i m)
    . rcases z with z|⟨m,off⟩
      . exact⟨k,mp,e,z⟩
      . exact absurd off (no i m)
   by_cases hk:∃ k,a∈Fc' k
   . obtain⟨k1,mp1,e1,z1⟩:=key i j a h1 h2 hk;obtain⟨k2,mp2,e2,z2⟩:=key j i a h2 h1 hk;have:=E.apart k1 k2 a z1 z2;subst this;rw[e1]at e2;cases e2;rfl
   . have fromF:∀ i,a ∈ F' i -> a ∈ F i:=fun i ha=>by
      rcases memF i a ha with⟨_,m,_⟩|⟨k,mp,e,_,z,_⟩
      . exact m
      . rcases z with z|⟨m,_⟩
        . exact absurd ⟨k,z⟩ hk
        . exact m
     exact J.apart i j a (fromF i h1) (fromF j h2)
  . rcases memF i a ha with⟨_,m,off⟩|⟨k,mp,e,eg,z,io,t,π,u',x1,x2,x3⟩
    . obtain⟨⟨o,ho,hx⟩,hg',_⟩:=J.live i a m
      exact⟨⟨o,keep a o off ho,hx⟩,hg',noS i a m off⟩
    . obtain⟨v0,_,_,rg,pg⟩:=hg k i mp u' e x3 io t π x1 x2;rw[eg]at ha
      refine⟨rg.live a ha,?_⟩
      rcases z with z|⟨m,off⟩
      . refine⟨?_,(E.live k a z).2⟩
        rcases lV (E.live k a z).1 with y|⟨k',y⟩
        . exact J.gh.free y
        . obtain⟨i',mp',_,m⟩:=tOf k' a y
          exact(J.live i' a m).2.1
      . exact⟨(J.live i a m).2.1,noS i a m off⟩
  . rw[zM];exact J.len
end
end L2.P
namespace L2.E
open PySem PySem.Spec PyProof.Rows L2
section
variable{X:Cx}{k:Nat}{f C:Addr}{fd:FuncData}{ps:List Str}{sp:Sp}{ds:List Value}{W:XW}{x m:Str}{p pos apos:Pos}{e o:Expr}{es:List Expr}{ta:TE}{t:TA}
noncomputable def yR(C:Addr)(m:Str)(sp:Sp)(W:XW)(ta:TE)(t:TA):TE:=fun σ H Q=>ta σ H fun x H1=>∃ a dx fs,x=.ref a /\ H1 a=some (.ins C dx fs) /\ fs.lookup m=none /\
 t σ H1 fun vs H2=>sp (x ::vs) H2 Q fun C a H'=>W C a σ H'
theorem Aa{pl:Sem Bool}(he:QE X o ta)(c:Cls X.K C)(hm:Meth X.K C m f)(F:bF X.prog X.w X.K X.mg X.base (CXE X.prog X.w) k f fd ps sp)(hr:gN k X.A)(hb:Binds X.K fd ps [])(hx:Thr X W)(ha:QA X (e ::es) t)
  (hst:starEach (e ::es) X.env=(false,eval e X.env) ::starEach es X.env:=by rfl) (hpl:(backTo pos (starEach es X.env)).any (·.1)=false:=by rfl)
  (ht:eval (.Call (.Attribute o m apos) (e ::es) [] pos) X.env=(do
    let ov <- eval o X.env
    standAt apos.atName
    let (f,first) <- holding [ov] (getMethod ov m pl)
    callWith pos f first (backTo pos (starEach (e ::es) X.env)) (backToKw pos (keywordEach [] X.env))):=by rfl):
  QE X (.Call (.Attribute o m apos) (e ::es) [] pos) (yR C m sp W ta t):=⟨by
 intro pins s σ H Q I h;refine PySem.W.methodCall_KW (pl:=pl) (thn (he.out pins s σ H _ I h) fun u s1 ⟨x,H1,I1,rx,a,dx,fs,ex,ea,l,q⟩=>?_) ht;subst ex
 obtain rfl:u=Value.ref a:=rx
 refine uY I1 ea c hm l ?_;refine PySem.W.callWith_K (first:=[.ref a]) (h₀:=X.base) I.ok.mod.kin hm.kp (thn (ha.out pos pins s1 σ H1 _ I1 q) fun us s2 ⟨vs,H2,I2,r,q2⟩=>⟨I2.kIn,?_⟩) hst hpl
 exact ue (us:=.ref a ::us) (vs:=.ref a ::vs) (dvs:=[]) F hr hb .nil hx I2 (.cons rfl r) (by rw[List.append_nil];exact q2)⟩
theorem we{pl:Sem Bool}(he:QE X o ta)(c:Cls X.K C)(hm:Meth X.K C m f)(F:bF X.prog X.w X.K X.mg X.base (CXE X.prog X.w) k f fd ps sp)(hr:gN k X.A)(hb:Binds X.K fd ps [])(hx:Thr X W)
  (ht:eval (.Call (.Attribute o m apos) [] [] pos) X.env=(do
    let ov <- eval o X.env
    standAt apos.atName
    let (f,first) <- holding [ov] (getMethod ov m pl)
    callWith pos f first (backTo pos (starEach [] X.env)) (backToKw pos (keywordEach [] X.env))):=by rfl):
  QE X (.Call (.Attribute o m apos) [] [] pos) (yR C m sp W ta km):=⟨by
 intro pins s σ H Q I h;refine PySem.W.methodCall_KW (pl:=pl) (thn (he.out pins s σ H _ I h) fun u s1 ⟨x,H1,I1,rx,a,dx,fs,ex,ea,l,q⟩=>?_) ht;subst ex
 obtain rfl:u=Value.ref a:=rx
 refine uY I1 ea c hm l ?_
 exact PySem.W.callWith_K0 (first:=[.ref a]) I1.kIn hm.kp (ue (us:=[.ref a]) (vs:=[.ref a]) (dvs:=[]) F hr hb .nil hx I1 (.cons rfl .nil) q)⟩
theorem wx(F:bF X.prog X.w X.K X.mg X.base (CXE X.prog X.w) k f fd ps sp)(hr:gN k X.A)(hg:Gl X x)(hm:X.mg x=some (.ref f))(hk:PySem.W.keepIn X.K (.ref f)=true)(hb:Binds X.K fd ps [])(hx:Thr X W)
  (hdb:(x==("__debug__":Str))=false:=by decide):QE X (.Call (.Name x p) [] [] pos) (sy sp [] W km):=⟨Dw F hr hg hm hk hb .nil hx hdb⟩
theorem EZ(M:Mk X.K C f)(F:bF X.prog X.w X.K X.mg X.base (CXE X.prog X.w) k f fd ps sp)(hr:gN (k+1) X.A)(hg:Gl X x)(hm:X.mg x=some (.ref C))(hb:Binds X.K fd ps [])(hdb:(x==("__debug__":Str))=false:=by decide):
  QE X (.Call (.Name x p) [] [] pos) (Fo C sp [] (fun _ _ _=>False) km):=⟨Fq M F hr hg hm hb .nil (fun pins σ H s e s' I h=>by obtain⟨a,C,dx,H',_,_,_,_,_,_,z⟩:=h;exact z.elim) hdb⟩
theorem u6{f:Str}(he:QE X e ta)(hb:attributeBase e f X.env (eval e X.env)=eval e X.env:=by rfl):QE X (.Attribute e f pos) (IX X.K ta f):=⟨K9 he.out hb⟩
theorem IQ{f:Str}{value:Expr}{tv:TE}{pos':Pos}(ha:QE X o ta)(hv:QE X value tv)(hs:swapsWith value (some (.Attribute o f pos')) pos.line X.env=pure false:=by rfl):QS X (.Assign [.Attribute o f pos'] value pos) (Kq X.K ta tv f):=⟨KR ha.out hv.out hs⟩
end
end L2.E
namespace L2.P
open PySem PySem.Spec PyProof.Rows L2 L2.E
section
variable{K:PySem.W.Frag}{cls:String->Option Addr}{W:XW}{Av G S₀ S S' H H' B B':Hp}{ρ:ag}{σ:St}{Q:VK}{F Fc Fc':Nat->List Addr}
theorem SR.more(I:SR K cls Av G S₀ ρ σ S H)(h:Rep K S x v):SR K cls Av G S₀ (ρ++[some (.sh x)]) (σ++[some v]) S H:=by
 obtain⟨F,J⟩:=I
 exact J.more (fp:=[]) (fun t e=>by cases e;exact⟨v,rfl,rfl,h⟩) (fun a ha=>nomatch ha) fun j a _ ha=>nomatch ha
theorem Bq{f:List Sl->OI}(ok:argsOk as=true)(I:SR K cls Av G S₀ ρ σ S1 H1)(s1:aJ S S1)(ar:ARs K S1 H1 ρ σ as ss vs)
  (p:HC K cls W Av G S₀ σ S Q (match f ss with
    |.ok x outs=>.ok (fQ ρ as outs ρ) (.sh x)
    |.exc c fs outs=>.exc (fQ ρ as outs ρ) c fs
    |.bad=>.bad)):spI K cls f vs H1 Q fun C a H'=>W C a σ H':=by
 obtain⟨Fc,A,fin⟩:=I.Mr ok ar
 refine⟨S1,ss,Fc,A,?_⟩
 cases e:f ss with
 |bad=>rw[e]at p;exact p
 |ok x outs=>rw[e]at p;exact fun v S' H' Fc' E r=>p v S' H' ((fin outs S' H' Fc' E).more r) (s1.trans E.s)
 |exc c fs outs=>rw[e]at p;exact fun a C S' H' Fc' E r=>p a C S' H' (fin outs S' H' Fc' E) (s1.trans E.s) r
theorem BO(hc:cls c=some C)(I:SR K cls Av G S₀ ρ σ S H)(r:AR1 K S H ρ σ a s v)(h:recv c m (some s)=true):∃ q dx us,v=.ref q /\ H q=some (.ins C dx us) /\ us.lookup m=none:=by
 have main:∀(ks:List Str) (ts:List OV) (f:List Addr),(c==c && !ks.contains m)=true->bO K cls S H (.ob c ks ts) v f->∃ q dx us,v=.ref q /\ H q=some (.ins C dx us) /\ us.lookup m=none:=by
  intro ks ts f hk ro;unfold bO at ro;obtain⟨q,C',dx,us,ff,rfl,hcl,hq,hd,hks,rfl,rs⟩:=ro;rw[hc]at hcl;cases hcl
  refine⟨q,dx,us,rfl,hq,?_⟩
  have hn:m∉us.map (·.1):=by rw[hks];simpa using hk
  clear hks hk rs hq
  induction us with
  |nil=>rfl
  | cons p us ih=>
    obtain⟨g,y⟩:=p;simp at hn
    have:(m==g)=false:=by simpa using hn.1
    simp[List.lookup,this,ih (by simpa using hn.2)]
 cases a with
 |e me=>cases s<;>first|exact r.elim|cases h
 | t i mp=>
   cases s with
   | tr io u=>
     cases io with
     |false=>cases h
     | true=>
       cases u with
       |sh x=>cases h
       |ol ts=>cases h
       |di x=>cases h
       |dt x=>cases h
       | ob c' ks ts=>
         obtain⟨io,t,π,v0,h1,h2,h3,h4,h5⟩:=r
         have h':(c'==c && !ks.contains m)=true:=h
         have hcc:c'=c:=by rw[Bool.and_eq_true]at h';simpa using h'.1
         subst hcc;obtain⟨v',fp,ev,ro⟩:=I.tree (i:=i) (t:=t) (by unfold kh;rw[h1];rfl);rw[h4]at ev;cases ev;obtain⟨w,f1,rest,wk,r1,_,_⟩:=ro.focus h3;have:=h5.inj wk;subst this;exact main ks ts f1 h' r1
   |sh x=>exact r.elim
   |ow x=>exact r.elim
   |ex c fs=>exact r.elim
   |bo x=>exact r.elim
 | b i mp=>
   cases s with
   | bo u=>
     cases u with
     |sh x=>cases h
     |ol ts=>cases h
     |di x=>cases h
     |dt x=>cases h
     | ob c' ks ts=>
       obtain⟨t,π,v0,h1,h2,h3,h4,h5⟩:=r
       have h':(c'==c && !ks.contains m)=true:=h
       have hcc:c'=c:=by rw[Bool.and_eq_true]at h';simpa using h'.1
       subst hcc;obtain⟨v',fp,ev,ro⟩:=I.tree h1;rw[h4]at ev;cases ev;obtain⟨w,f1,rest,wk,r1,_,_⟩:=ro.focus h3;have:=h5.inj wk;subst this;exact main ks ts f1 h' r1
   |sh x=>exact r.elim
   |ow x=>exact r.elim
   |ex c fs=>exact r.elim
   |tr io x=>exact r.elim
theorem yU{f:List Sl->OI}(hc:cls c=some C)(ok:argsOk (a ::as)=true)(ha:JA1 K cls ta a)(h:JAI K cls t as):JX K cls W (yR C m (spI K cls f) W ta t) (oh c m f (a ::as)):=by
 intro Av G S₀ ρ σ S H Q I p;unfold oh at p
 dsimp only at p
 split at p
 . rename_i hr;unfold xD at p
   cases e:lG (a ::as) ρ with
   |none=>rw[e]at p;exact p.elim
   | some ss=>
     rw[e]at p
     have e':=e
     unfold lG at e';obtain⟨s,e1,e2⟩:=Option.bind_eq_some_iff.mp e';obtain⟨sr,e3,rfl⟩:=Option.map_eq_some_iff.mp e2;rw[e1]at hr
     refine ha Av G S₀ ρ σ S H _ s I e1 fun v S1 H1 w1 r1=>?_
     have I1:=I.grow w1;obtain⟨q,dx,us,rfl,hq,hl⟩:=BO hc I1 r1 hr
     refine⟨q,dx,us,rfl,hq,hl,?_⟩
     refine h Av G S₀ ρ σ S1 H1 _ sr I1 e3 fun vs S2 H2 w2 ar=>?_
     exact Bq (ss:=s ::sr) ok (I1.grow w2) (w1.s.trans w2.s) ⟨s,sr,_,vs,rfl,rfl,r1.mono w2.s w2.g,ar⟩ p
 . exact p.elim
theorem Az{f:List Sl->OI}(ok:cS as=[])(I:SR K cls Av G S₀ ρ σ S H)(ar:ARs K S H ρ σ as ss vs)
  (p:kG K cls W σ S H Q (match f ss with
    |.ok x _=>.ok (.sh x)
    |.exc c fs _=>.exc c fs
    |.bad=>.bad)):spI K cls f vs H Q fun C a H'=>W C a σ H':=by
 have hm:minus H (fun _=>[])=H:=by funext a;exact ja fun k h=>nomatch h
 have hlen:=ar.len
 refine⟨S,ss,fun _=>[],⟨I.sh,by rw[hlen.1,hlen.2],fun k s es=>?_,fun j k a h=>(nomatch h),fun k a h=>(nomatch h)⟩,?_⟩
 . have hk:k<as.length:=by rw[<- hlen.1];exact(List.getElem?_eq_some_iff.mp es).1
   obtain⟨s',w,es',ev,r⟩:=ar.at (k:=k) (a:=as[k]) (by simp[hk]);rw[es]at es';cases es'
   refine⟨w,ev,?_⟩
   cases q:as[k]with
   | e me=>
     rw[q]at r
     cases s<;>first|exact r.elim|exact⟨rfl,r⟩
   | t i mp=>
     have:=gq (as:=as) (k:=k) (i:=i) (mp:=mp) (by rw[List.getElem?_eq_getElem hk,q]);rw[ok]at this;cases this
   | b i mp=>
     rw[q]at r
     cases s with
     | bo u=>
       obtain⟨t,π,v0,h1,h2,h3,h4,h5⟩:=r;obtain⟨v',fp,ev',ro⟩:=I.tree h1;rw[h4]at ev';cases ev';obtain⟨w',f1,rest,wk,r1,_,_⟩:=ro.focus h3;have:=h5.inj wk;subst this
       exact⟨rfl,f1,by rw[hm];exact r1⟩
     |sh x=>exact r.elim
     |ow x=>exact r.elim
     |ex c fs=>exact r.elim
     |tr io x=>exact r.elim
 . have gr:∀ {outs S' H' Fc'},EH K cls vs S H (fun _=>[]) outs S' H' Fc' -> bg S H S' H':=fun {outs S' H' Fc'} E=>⟨E.s,by have:=E.keep; rwa [hm] at this,E.sh,fun b hb=>by
    rcases E.new b hb with z|z|⟨k,z⟩
    . exact .inl z
    . exact .inr z
    . cases z⟩
   cases e:f ss with
   |bad=>rw[e]at p;exact p
   |ok x outs=>rw[e]at p;exact fun v S' H' Fc' E r=>p v S' H' (gr E) r
   |exc c fs outs=>rw[e]at p;exact fun a C S' H' Fc' E r=>p a C S' H' (gr E) r
theorem Aq{f:List Sl->OI}(hc:cls c=some C)(ok:cS (a ::as)=[])(ha:JA1 K cls ta a)(h:JAI K cls t as):JE K cls W (yR C m (spI K cls f) W ta t) (m9 c m f (a ::as)):=by
 intro Av G S₀ ρ σ S H Q I p;unfold m9 at p
 dsimp only at p
 split at p
 . rename_i hr;unfold xW at p
   cases e:lG (a ::as) ρ with
   |none=>rw[e]at p;exact p.elim
   | some ss=>
     rw[e]at p
     have e':=e
     unfold lG at e';obtain⟨s,e1,e2⟩:=Option.bind_eq_some_iff.mp e';obtain⟨sr,e3,rfl⟩:=Option.map_eq_some_iff.mp e2;rw[e1]at hr
     refine ha Av G S₀ ρ σ S H _ s I e1 fun v S1 H1 w1 r1=>?_
     have I1:=I.grow w1;obtain⟨q,dx,us,rfl,hq,hl⟩:=BO hc I1 r1 hr
     refine⟨q,dx,us,rfl,hq,hl,?_⟩
     refine h Av G S₀ ρ σ S1 H1 _ sr I1 e3 fun vs S2 H2 w2 ar=>?_
     exact Az (ss:=s ::sr) ok (I1.grow w2) ⟨s,sr,_,vs,rfl,rfl,r1.mono w2.s w2.g,ar⟩ (p.back (w1.trans w2))
 . exact p.elim
theorem Ha{f:List Sl->OI}(hc:cls c=some C):JD K cls W (Fo C (spI K cls f) [] (fun _ _ _=>False) km) (w9 c f):=by
 intro Av G S₀ ρ σ S H Q I p;unfold w9 at p
 show ∀ x dx,H x=none->H dx=none->dx≠x->_
 intro x dx hx hdx ne
 have gS:∀ a,H a=none->S a=none:=fun a h=>I.sh.free h
 let H1:=upd (upd H dx (.own x)) x (.ins C dx [])
 have h1x:H1 x=some (.ins C dx []):=bz
 have h1d:H1 dx=some (.own x):=by show upd _ x _ dx=_;rw[bf ne,bz]
 have h1o:∀ a,a≠x->a≠dx->H1 a=H a:=fun a n1 n2=>by show upd _ x _ a=_;rw[bf n1,bf n2]
 let Fc:Nat->List Addr:=fun k=>if k=0 then[x,dx]else[]
 have mF:∀ k a,a∈Fc k->k=0 /\ (a=x \/ a=dx):=fun k a h=>by
  have h':a∈(if k=0 then[x,dx]else[]):=h
  split at h'
  . rename_i e;exact⟨e,by simpa using h'⟩
  . cases h'
 have A:EI K cls [.tr true (.ob c [] [])] [.ref x] S H1 Fc:=by
  refine⟨fun b u h=>?_,rfl,fun k s e=>?_,fun j k a h1 h2=>?_,fun k a h=>?_⟩
  . have hb:=I.sh b u h;rw[h1o b (fun z=>by rw[z,hx]at hb;cases hb) (fun z=>by rw[z,hdx]at hb;cases hb)];exact hb
  . cases k with
    | zero=>
      cases e
      refine⟨.ref x,rfl,?_,?_⟩
      . unfold bO
        exact⟨x,C,dx,[],[],rfl,hc,h1x,h1d,rfl,rfl,.nil⟩
      . show[x,dx].Nodup
        simp[Ne.symm ne]
    |succ k=>simp at e
  . rw[(mF j a h1).1,(mF k a h2).1]
  . rcases(mF k a h).2 with z|z
    . subst z;exact⟨⟨_,h1x,rfl⟩,gS _ hx⟩
    . subst z;exact⟨⟨_,h1d,rfl⟩,gS _ hdx⟩
 refine⟨S,_,Fc,A,?_⟩
 have free:∀ a,minus H1 Fc a=none->H a=none:=fun a h=>by
  rcases lV h with z|⟨k,z⟩
  . by_cases n1:a=x
    . rw[n1];exact hx
    . by_cases n2:a=dx
      . rw[n2];exact hdx
      . rw[h1o a n1 n2]at z;exact z
  . rcases(mF k a z).2 with y|y
    . rw[y];exact hx
    . rw[y];exact hdx
 cases e:f [.tr true (.ob c [] [])]with
 |bad=>rw[e]at p;exact p.elim
 |exc c fs outs=>rw[e]at p;exact p.elim
 | ok y outs=>
   rw[e]at p
   cases y with
   | non=>
     cases outs with
     |nil=>exact p.elim
     | cons o outs=>
       cases o with
       |none=>exact p.elim
       | some t=>
         dsimp only at p
         intro v S' H' Fc' E r;unfold Rep at r
         refine⟨r,p (.ref x) S' H' ⟨E.s,fun b u h=>?_,E.sh,fun b h=>?_⟩ ?_⟩
         . have n1:b≠x:=fun z=>by rw[z,hx]at h;cases h
           have n2:b≠dx:=fun z=>by rw[z,hdx]at h;cases h
           refine E.keep b u ?_;rw[ja fun k z=>?_]
           . exact(h1o b n1 n2).trans h
           . rcases(mF k b z).2 with y|y
             . exact n1 y
             . exact n2 y
         . rcases E.new b h with z|z|⟨k,z⟩
           . exact .inl z
           . refine .inr ?_
             by_cases n1:b=x
             . rw[n1];exact hx
             . by_cases n2:b=dx
               . rw[n2];exact hdx
               . exact(h1o b n1 n2).symm.trans z
           . rcases(mF k b z).2 with y|y
             . rw[y];exact .inr hx
             . rw[y];exact .inr hdx
         . obtain⟨u,eu,ro,nd⟩:=E.out 0 t rfl;cases eu
           exact⟨Fc' 0,ro,nd,fun a ha=>⟨free a (E.live 0 a ha).1,(E.live 0 a ha).2⟩⟩
   |bl b=>exact p.elim
   |int b=>exact p.elim
   |str b=>exact p.elim
   |lst b=>exact p.elim
   |tup b=>exact p.elim
end
end L2.P
namespace L2.E
open PySem PySem.Spec PyProof.Rows L2
noncomputable def xA(wi:TI)(ι:List Nat)(tc:TT)(te:TE):TE:=fun σ H Q=>wi σ H fun J H1=>∀ D,H1 D=none->∃ W:Nat->Nat->List V->Hp->Prop,(∃ m,W 0 m [] (upd H1 D (.lst []))) /\ ∀ i m ys H,W i m ys H ->
 H D=some (.lst ys) /\ ((J.stop i H /\ Q (.ref D) H) \/ (J.go i H /\ ∀ x H',J.yld i H x H'->tc (pick ι σ++[some x]) H' fun b H3=>H3 D=some (.lst ys) /\ if b=true then
   te (pick ι σ++[some x]) H3 fun y H2=>H2 D=some (.lst ys) /\ ys.length<sizeLine /\ ∃ m',m'<m /\ W (i+1) m' (ys++[y]) (upd H2 D (.lst (ys++[y])))else ∃ m',m'<m /\ W (i+1) m' ys H3))
section
variable{X:Cx}{scope:Scope}{cl:List (Str×Addr)}{M:List Str}{ι:List Nat}{x:Str}
theorem Dq{elt iter c:Expr}{px pos:Pos}{wi:TI}{tc:TT}{te:TE}(S:my X scope cl M ι x)(hc:X.calm=true)(hi:PI X (.Name x px) iter wi)(hcd:∀ C s₀ H₀ ex,PT (blk X scope cl (M++[x]) C s₀ H₀ ex) c tc)(he:∀ C s₀ H₀ ex,PE (blk X scope cl (M++[x]) C s₀ H₀ ex) elt te)
  (hs:∀ v,foldedSetIterable iter X.env v=pure v:=by intro _;rfl):PE X (.ListComp elt [⟨.Name x px,iter,[c],0⟩] scope pos) (xA wi ι tc te):=by
 intro pins s σ H Q I h;rw[eval_ListComp];refine wpAny_comprehension_free (use:=none) rfl hs S.clos S.kind (fun y hy hl=>?_) (wpAny_mono (hi pins s σ H _ I h) (fun v s1 h1=>wpAny_mono h1 (fun itv s2 h2=>?_) fun _ _ z=>z) fun _ _ z=>z)
 . have q:=List.all_eq_true.mp S.locs y hy;rw[hl]at q
   simpa using q
 obtain⟨it,fp,tn,J,H2,rfl,I2,T,st2,f2,hW⟩:=h2;have I3:=I2.Hb (ys:=[]) (its:=[]) (t':=s2.toks) .nil (Nat.zero_le _);obtain⟨W,⟨m0,w0⟩,turn⟩:=hW s2.heap.objs.size I2.fresh
 have fpo:∀ b∈fp,b<s2.heap.objs.size:=fun b hb=>let ⟨_,e,_⟩:=T.obj _ _ st2 b hb;Heap.lt_size e
 have f3:∀ b∈fp,pe X pins (upd H2 s2.heap.objs.size (.lst [])) b:=fun b hb=>by
  obtain⟨q0,q⟩:=f2 b hb
  exact⟨by rw[bf (Nat.ne_of_lt (fpo b hb))];exact q0,q⟩
 show wpAny _ _ (newObj (.type "list") _ none) _ _ s2;refine wpAny_newObj_type (wpAny_newFunctionEnv (fun y hy=>?_) (by intro y hy;simp at hy) (fun h₁ hn₁ sb₁=>?_) S.kind)
 . have q:=List.all_eq_true.mp S.nocell y hy
   simpa using q
 have hsz:(s2.heap.push { cls:=.type "list",dict:=none,data:=.seq ([]:List Value).toArray }).objs.size=s2.heap.objs.size+1:=Heap.size_push ..
 have hk₁:∀ b o,(s2.heap.push { cls:=.type "list",dict:=none,data:=.seq ([]:List Value).toArray }).get? b=some o->h₁.get? b=some o:=fun b o e=>
  (sb₁.2 b (Nat.ne_of_lt (Heap.lt_size e))).trans (Heap.get?_push_of_some _ e)
 have J0:=A1 (t':=s2.toks+([]:List (Str×Value)).length) S I3 (ex:=fp) (fun b hb=>⟨f3 b hb,Nat.lt_of_lt_of_le (fpo b hb) (by rw[hsz];exact Nat.le_succ _)⟩) hn₁ hk₁
 have old:∀ b∈fp,∀ o,s2.heap.get? b=some o->h₁.get? b=some o:=fun b _ o e=>hk₁ b o (Heap.get?_push_of_some _ e)
 have st₁:tn 0 h₁:=T.keep _ _ _ st2 old
 have loop:codeAny (model X.prog X.w) X.A (.compLoop (.ListComp elt [⟨.Name x px,iter,[c],0⟩] scope pos) 0 (.ref it) (.ref s2.heap.objs.size) (compEnvC scope cl (s2.heap.objs.size+1) X.env))
   (compPost (model X.prog X.w) X.A X.xe none (EP X pins σ Q) (.ref s2.heap.objs.size) (s2.heap.objs.size+1)) { s2 with heap:=h₁,toks:=s2.toks+([]:List (Str×Value)).length }:=by
  rw[hsz]at J0
  refine codeAny_loop rfl (fun n s'=>∃ i H' ys v,Inv (blk X scope cl (M++[x]) (s2.heap.objs.size+1) { s2 with heap:=s2.heap.push { cls:=.type "list",data:=.seq ([]:List Value).toArray },toks:=s2.toks } (upd H2 s2.heap.objs.size (.lst [])) fp) [] (pick ι σ++[v]) H' s' /\ tn i s'.heap /\ (∀ b∈fp,H' b=none) /\ W i n ys H')
   (fun n s' hI=>?_) m0 ⟨0,_,[],none,J0,st₁,fun b hb=>(f3 b hb).1,w0⟩
  obtain⟨i,H',ys,v,J',st',fr',w'⟩:=hI;obtain⟨hD,alt⟩:=turn i n ys H' w'
  have fpY:∀{G:Hp},(∀ b∈fp,G b=none)->∀ b∈fp,pe (blk X scope cl (M++[x]) (s2.heap.objs.size+1) { s2 with heap:=s2.heap.push { cls:=.type "list",data:=.seq ([]:List Value).toArray },toks:=s2.toks } (upd H2 s2.heap.objs.size (.lst [])) fp) [] G b:=fun hG b hb=>
   ⟨hG b hb,(J'.ok.exf b hb).1,J'.ok.exfs b hb,.inl hb,(J'.ok.exf b hb).2,fun p hp=>absurd (show p∈([]:List (Addr×Obj)) from hp) (by simp)⟩
  show wpAny _ _ ((compTurn _ 0 (.ref it) (.ref s2.heap.objs.size) (compEnvC scope cl (s2.heap.objs.size+1) X.env)).onRaise _) _ _ s';refine wpAny_noted (wpAny_noRaise ?_);rw[compTurn_list];refine wpAny_bind (wpAny_standAt (wpAny_bind ?_))
  rcases alt with⟨stop,qn⟩|⟨go,step⟩
  . refine thn (T.done (blk X scope cl (M++[x]) (s2.heap.objs.size+1) _ _ fp) rfl rfl rfl hc i [] s' _ H' _ J' (fpY fr') st' stop) fun r s4 ⟨hr,J4⟩=>?_
    subst hr;refine wpAny_pure ?_;obtain⟨m,hm,_⟩:=id J4.loc
    refine⟨m,hm,fun h' sb=>⟨.ref s2.heap.objs.size,H',xr I3 hsz.symm f3 J4 sb,rfl,qn⟩⟩
  . refine thn (T.item (blk X scope cl (M++[x]) (s2.heap.objs.size+1) _ _ fp) rfl rfl rfl hc i [] s' _ H' _ J' (fpY fr') st' go) fun r s4 ⟨u,hr,h4⟩=>?_
    subst hr;refine wpAny_bind (thn h4 fun _ s5 ⟨z,H5,J5,r5,y5,st5,fr5⟩=>?_)
    have J5':=J5.pinned (fpY fr5) (T.obj _ _ st5)
    have hxN:(M++[x])[M.length]?=some x:=by simp
    refine wpAny_bind ?_;refine wpAny_assign_Name ?_;refine ji (X:=blk X scope cl (M++[x]) (s2.heap.objs.size+1) _ _ fp) (i:=M.length) (v:=z) J5' S.nd hxN (.inl (lookup_relabel_local S.var)) r5 (fun s6 J6=>?_) (.inr (lookup_relabel_local S.var))
    have hlp:(pick ι σ).length=M.length:=by
     have q:=congrArg List.length S.names;rw[List.length_map,List.length_map]at q;unfold pick;rw[List.length_map,q]
    have hset:(pick ι σ++[v]).set M.length (some z)=pick ι σ++[some z]:=by
     rw[<- hlp,List.set_append_right _ _ (Nat.le_refl _),Nat.sub_self];rfl
    rw[hset]at J6;refine wpAny_bind (wpAny_tests_one (thn (hcd _ _ _ _ _ s6 _ H5 _ J6 (step z H5 y5)) fun b s7 ⟨H7,J7,hD7,q7⟩=>?_))
    cases b with
    | true=>
      rw[if_pos rfl]at q7;refine wpAny_bind (wpAny_bind (thn (he _ _ _ _ _ s7 _ H7 _ J7 q7) fun yv s8 ⟨y,H8,J8,r8,hD8,hz8,m',hm',w8⟩=>?_));refine wpAny_bind (thn (eT (X:=blk X scope cl (M++[x]) (s2.heap.objs.size+1) _ _ fp) _ s8 _ H8 (.ref s2.heap.objs.size) [y] (.ref s2.heap.objs.size) [yv] (fun _ G=>G=upd H8 s2.heap.objs.size (.lst (ys++[y]))) J8 rfl (.cons r8 .nil) ⟨_,_,y,rfl,rfl,hD8,hz8,rfl⟩) fun _ s9 ⟨_,H9,J9,_,e9⟩=>?_);subst e9;refine wpAny_pure (wpAny_pure ⟨rfl,m',hm',i+1,_,_,some z,J9.jo,?_,fun b hb=>?_,w8⟩)
      . exact T.keep _ _ _ st5 fun b hb o e=>(J9.pin (b,o) (List.mem_append_right _ (List.mem_append_right _ (eh hb e)))).1
      . obtain⟨o,e,d⟩:=T.obj _ _ st5 b hb
        exact(J9.pin (b,o) (List.mem_append_right _ (List.mem_append_right _ (eh hb e)))).2.1
    | false=>
      rw[if_neg (by decide)]at q7;obtain⟨m',hm',w8⟩:=q7;refine wpAny_pure ⟨rfl,m',hm',i+1,_,_,some z,J7.jo,?_,fun b hb=>?_,w8⟩
      . exact T.keep _ _ _ st5 fun b hb o e=>(J7.pin (b,o) (List.mem_append_right _ (List.mem_append_right _ (eh hb e)))).1
      . obtain⟨o,e,d⟩:=T.obj _ _ st5 b hb
        exact(J7.pin (b,o) (List.mem_append_right _ (List.mem_append_right _ (eh hb e)))).2.1
 rw[hsz]at *;exact codeAny_compStart_list loop (T.self X.A 0 _ _ _ st₁ loop)
end
theorem FK(its:List Value):slicePick its.toArray none none (some (-1))=its.reverse.toArray:=by
 unfold slicePick
 have hb:sliceBounds none none (some (-1)) its.toArray.size=((its.length:Int) - 1,-1,-1):=by simp[sliceBounds]
 rw[hb]
 congr 1
 have hr:sliceRange ((its.length:Int) - 1) (-1) (-1)=(List.range its.length).map fun i=>its.length - 1 - i:=by
  unfold sliceRange;rw[if_neg (by decide)]
  have hc:(if((its.length:Int) - 1) > -1 then(((its.length:Int) - 1) - -1 - -1 - 1)/(- -1)else 0).toNat=its.length:=by
   split
   . rw[show(- -1:Int)=1 by decide,Int.ediv_one];omega
   . omega
  dsimp only;rw[hc]
  refine List.map_congr_left fun k hk=>?_
  have:=List.mem_range.mp hk;omega
 rw[hr];apply List.ext_getElem?;intro n;rw[List.filterMap_map]
 have hall:∀ m,m<=its.length->List.filterMap ((fun x=>its.toArray[x]?) ∘ fun i=>its.length - 1 - i) (List.range m)=(its.reverse).take m:=by
  intro m
  induction m with
  |zero=>intro _;simp
  | succ m ih=>
    intro hm;rw[List.range_succ,List.filterMap_append,ih (by omega)]
    have h1:its.length - 1 - m<its.length:=by omega
    have h2:m<its.reverse.length:=by rw[List.length_reverse];omega
    rw[List.take_succ_eq_append_getElem h2]
    congr 1
    simp[h1]
 rw[hall its.length (Nat.le_refl _),List.take_of_length_le (by simp)]
theorem zy:∀{xs:List V} {us:List Value},Vals xs us->Vals xs.reverse us.reverse
 |_,_,.nil=>.nil
 | _,_,.cons r t=>by
   rw[List.reverse_cons,List.reverse_cons]
   exact(zy t).append (.cons r .nil)
section
variable{X:Cx}{e st:Expr}{te ts:TE}{pos p2:Pos}
noncomputable def La(K:PySem.W.Frag)(te ts:TE):TE:=fun σ H Q=>te σ H fun x H1=>ts σ H1 fun k H2=>k=.int (-1) /\ ∃ a xs,x=.ref a /\ SqL K H2 a xs /\ ∀ p,H2 p=none->Q (.ref p) (upd H2 p (.lst xs.reverse))
theorem I8(he:PE X e te)(hk:PE X st ts):PE X (.Subscript e (.Slice none none (some st) p2) pos) (La X.K te ts):=by
 intro pins s σ H Q I h;refine Subscript_ (thn (he pins s σ H _ I h) fun v s1 ⟨x,H1,I1,r1,q1⟩=>?_);refine wpAny_Slice ?_;rw[evalPart_none];refine wpAny_pure (wpAny_pure ?_);rw[evalPart_some]
 refine thn (hk pins s1 σ H1 _ I1 q1) fun u s3 ⟨k,H3,I3,r3,q3⟩=>?_
 obtain⟨rfl,a,xs,rfl,hq,q⟩:=q3;obtain⟨t,rfl⟩:=r3;cases r1
 have I4:Inv X pins σ H3 { s3 with heap:=s3.heap.push { cls:=.type "slice",data:=.fields #[.none,.none,.int (-1) t] } }:=I3.kept (t':=s3.toks) fun b ob q=>Heap.get?_push_of_some _ q
 obtain⟨its,r,ht,hz⟩:=I4.list hq;have hlen:=r.length;show wpAny (model X.prog X.w) X.A (subscriptTail e (.Slice none none (some st) p2) (.ref a) (.ref s3.heap.objs.size)) (EP X pins σ Q) X.xe { s3 with heap:=s3.heap.push { cls:=.type "slice",data:=.fields #[.none,.none,.int (-1) t] } };refine tail_any (ops:=[.ref a,.ref s3.heap.objs.size]) ht.isList.typeIs slot_list_getitem.lookup ?_ (by with_unfolding_all rfl);refine wpAny_getItem_list_slice ht.isList (Heap.IsSliceOf.new ..) .none .none (.int (-1) t) (by decide) ?_ (by rw[List.size_toArray]<;>omega);rw[FK]
 refine⟨.ref _,_,I4.laid (t':=s3.toks) (o:=.lst xs.reverse) (fun b ob q=>Heap.get?_push_of_some _ q) (Nat.le_refl _) ?_,rfl,q _ (I4.hok.fresh (Nat.le_refl _))⟩
 refine⟨by rw[List.length_reverse];exact hz,its.reverse,0,zy r,Heap.get?_push_size _ rfl⟩
end
section
variable{X:Cx}{scope:Scope}{cl:List (Str×Addr)}{M:List Str}{ι:List Nat}{x:Str}
theorem G3{i:Nat}{y:Str}{py spos:Pos}{elt iter:Expr}{px pos:Pos}{wi:TI}{te:TE}(S:my X scope cl M ι x)(hc:X.calm=true)(hi:PI X (.Name x px) iter wi)(he:∀ C s₀ H₀ ex,PE (blk X scope cl (M++[x]) C s₀ H₀ ex) elt te)
  (hN:X.N.Nodup) (hiy:X.N[i]?=some y) (hy:Loc X.env.scope y) (hsw:swapsWith (.ListComp elt [⟨.Name x px,iter,[],0⟩] scope pos) (some (.Name y py)) spos.line X.env=pure true) (hf:X.fn y=true \/ X.env.scope.names.lookup y=some .local:=by first|exact .inl rfl|exact .inr rfl|assumption)
  (hs:∀ v,foldedSetIterable iter X.env v=pure v:=by intro _;rfl):PS X (.Assign [.Name y py] (.ListComp elt [⟨.Name x px,iter,[],0⟩] scope pos) spos) (vJ (uD wi ι te) (jP i)):=by
 intro pins s σ H D0 I h;rw[exec_Assign_Name_used _ _ _ _ hsw];refine wpAny_bind (wpAny_standAt (wpAny_bind ?_));show wpAny _ _ (do let _ <- comprehension (.ListComp elt [⟨.Name x px,iter,[],0⟩] scope pos) scope X.env _ (newList []) false (eval iter X.env) (some (assign (.Name y py) X.env))) _ _ s;refine wpAny_bind (wpAny_mono (wpAny_comprehension_free (use:=some (assign (.Name y py) X.env)) (Q:=fun _ s'=>∃ σ' H',Inv X pins σ' H' s' /\ D0.nx σ' H') rfl hs S.clos S.kind (fun y hy hl=>?_) (wpAny_mono (hi pins s σ H _ I h) (fun v s1 h1=>wpAny_mono h1 (fun itv s2 h2=>?_) fun _ _ z=>z) fun _ _ z=>z)) (fun _ s' hq=>wpAny_pure (wpAny_pure hq)) fun _ _ e=>e)
 . have q:=List.all_eq_true.mp S.locs y hy;rw[hl]at q
   simpa using q
 obtain⟨it,fp,tn,J,H2,rfl,I2,T,st2,f2,hW⟩:=h2;have I3:=I2.Hb (ys:=[]) (its:=[]) (t':=s2.toks) .nil (Nat.zero_le _);obtain⟨W,⟨m0,w0⟩,turn⟩:=hW s2.heap.objs.size I2.fresh
 have fpo:∀ b∈fp,b<s2.heap.objs.size:=fun b hb=>let ⟨_,e,_⟩:=T.obj _ _ st2 b hb;Heap.lt_size e
 have f3:∀ b∈fp,pe X pins (upd H2 s2.heap.objs.size (.lst [])) b:=fun b hb=>by
  obtain⟨q0,q⟩:=f2 b hb
  exact⟨by rw[bf (Nat.ne_of_lt (fpo b hb))];exact q0,q⟩
 show wpAny _ _ (newObj (.type "list") _ none) _ _ s2;refine wpAny_newObj_type (wpAny_newFunctionEnv (fun y hy=>?_) (by intro y hy;simp at hy) (fun h₁ hn₁ sb₁=>?_) S.kind)
 . have q:=List.all_eq_true.mp S.nocell y hy
   simpa using q
 have hsz:(s2.heap.push { cls:=.type "list",dict:=none,data:=.seq ([]:List Value).toArray }).objs.size=s2.heap.objs.size+1:=Heap.size_push ..
 have hk₁:∀ b o,(s2.heap.push { cls:=.type "list",dict:=none,data:=.seq ([]:List Value).toArray }).get? b=some o->h₁.get? b=some o:=fun b o e=>
  (sb₁.2 b (Nat.ne_of_lt (Heap.lt_size e))).trans (Heap.get?_push_of_some _ e)
 have J0:=A1 (t':=s2.toks+([]:List (Str×Value)).length) S I3 (ex:=fp) (fun b hb=>⟨f3 b hb,Nat.lt_of_lt_of_le (fpo b hb) (by rw[hsz];exact Nat.le_succ _)⟩) hn₁ hk₁
 have old:∀ b∈fp,∀ o,s2.heap.get? b=some o->h₁.get? b=some o:=fun b _ o e=>hk₁ b o (Heap.get?_push_of_some _ e)
 have st₁:tn 0 h₁:=T.keep _ _ _ st2 old
 have loop:codeAny (model X.prog X.w) X.A (.compLoop (.ListComp elt [⟨.Name x px,iter,[],0⟩] scope pos) 0 (.ref it) (.ref s2.heap.objs.size) (compEnvC scope cl (s2.heap.objs.size+1) X.env))
   (compPost (model X.prog X.w) X.A X.xe (some (assign (.Name y py) X.env)) (fun _ s'=>∃ σ' H',Inv X pins σ' H' s' /\ D0.nx σ' H') (.ref s2.heap.objs.size) (s2.heap.objs.size+1)) { s2 with heap:=h₁,toks:=s2.toks+([]:List (Str×Value)).length }:=by
  rw[hsz]at J0
  refine codeAny_loop rfl (fun n s'=>∃ i H' ys v,Inv (blk X scope cl (M++[x]) (s2.heap.objs.size+1) { s2 with heap:=s2.heap.push { cls:=.type "list",data:=.seq ([]:List Value).toArray },toks:=s2.toks } (upd H2 s2.heap.objs.size (.lst [])) fp) [] (pick ι σ++[v]) H' s' /\ tn i s'.heap /\ (∀ b∈fp,H' b=none) /\ W i n ys H')
   (fun n s' hI=>?_) m0 ⟨0,_,[],none,J0,st₁,fun b hb=>(f3 b hb).1,w0⟩
  obtain⟨i,H',ys,v,J',st',fr',w'⟩:=hI;obtain⟨hD,alt⟩:=turn i n ys H' w'
  have fpY:∀{G:Hp},(∀ b∈fp,G b=none)->∀ b∈fp,pe (blk X scope cl (M++[x]) (s2.heap.objs.size+1) { s2 with heap:=s2.heap.push { cls:=.type "list",data:=.seq ([]:List Value).toArray },toks:=s2.toks } (upd H2 s2.heap.objs.size (.lst [])) fp) [] G b:=fun hG b hb=>
   ⟨hG b hb,(J'.ok.exf b hb).1,J'.ok.exfs b hb,.inl hb,(J'.ok.exf b hb).2,fun p hp=>absurd (show p∈([]:List (Addr×Obj)) from hp) (by simp)⟩
  show wpAny _ _ ((compTurn _ 0 (.ref it) (.ref s2.heap.objs.size) (compEnvC scope cl (s2.heap.objs.size+1) X.env)).onRaise _) _ _ s';refine wpAny_noted (wpAny_noRaise ?_);rw[wa];refine wpAny_bind (wpAny_standAt (wpAny_bind ?_))
  rcases alt with⟨stop,qn⟩|⟨go,step⟩
  . refine thn (T.done (blk X scope cl (M++[x]) (s2.heap.objs.size+1) _ _ fp) rfl rfl rfl hc i [] s' _ H' _ J' (fpY fr') st' stop) fun r s4 ⟨hr,J4⟩=>?_
    subst hr;refine wpAny_pure ?_;obtain⟨m,hm,_⟩:=id J4.loc
    have I4:Inv X pins σ H' s4:=xr (h':=s4.heap) I3 hsz.symm f3 J4 ⟨rfl,fun _ _=>rfl⟩
    obtain⟨oC,es,ep,hoC,rC⟩:=id hm
    have fC:pe X pins H' (s2.heap.objs.size+1):=I3.zJ (by rw[hsz];exact Nat.le_refl _) J4.free
    obtain⟨_,c1,c2,c3,c4,c5⟩:=id fC
    have I5:=I4.pinned (fp:=[s2.heap.objs.size+1]) (fun b hb=>by
     have z:b=s2.heap.objs.size+1:=by simpa using hb
     subst z;exact fC) fun b hb=>by
     have z:b=s2.heap.objs.size+1:=by simpa using hb
     subst z
     exact⟨oC,hoC,fun v z=>by rw[rC.1]at z;cases z⟩
    show wpAny _ _ (assign (.Name y py) X.env (.ref s2.heap.objs.size)) _ _ s4;refine wpAny_assign_Name (ji I5 hN hiy hy (v:=.ref s2.heap.objs.size) rfl (fun s5 I6=>?_) hf)
    have hC5:s5.heap.get? (s2.heap.objs.size+1)=some oC:=(I6.pin (_,oC) (List.mem_append_right _ (List.mem_append_right _ (eh (List.mem_singleton.mpr rfl) hoC)))).1
    refine⟨m,⟨oC,es,ep,hC5,rC⟩,fun h' sb=>⟨_,H',(I6.jo).turned (t':=s5.toks) (it:=s2.heap.objs.size+1) (fun b o hb e=>(sb.2 b hb).trans e) J4.free c1 c3 c4 c5,qn⟩⟩
  . refine thn (T.item (blk X scope cl (M++[x]) (s2.heap.objs.size+1) _ _ fp) rfl rfl rfl hc i [] s' _ H' _ J' (fpY fr') st' go) fun r s4 ⟨u,hr,h4⟩=>?_
    subst hr;refine wpAny_bind (thn h4 fun _ s5 ⟨z,H5,J5,r5,y5,st5,fr5⟩=>?_)
    have J5':=J5.pinned (fpY fr5) (T.obj _ _ st5)
    have hxN:(M++[x])[M.length]?=some x:=by simp
    refine wpAny_bind ?_;refine wpAny_assign_Name ?_;refine ji (X:=blk X scope cl (M++[x]) (s2.heap.objs.size+1) _ _ fp) (i:=M.length) (v:=z) J5' S.nd hxN (.inl (lookup_relabel_local S.var)) r5 (fun s6 J6=>?_) (.inr (lookup_relabel_local S.var))
    have hlp:(pick ι σ).length=M.length:=by
     have q:=congrArg List.length S.names;rw[List.length_map,List.length_map]at q;unfold pick;rw[List.length_map,q]
    have hset:(pick ι σ++[v]).set M.length (some z)=pick ι σ++[some z]:=by
     rw[<- hlp,List.set_append_right _ _ (Nat.le_refl _),Nat.sub_self];rfl
    rw[hset]at J6;refine wpAny_bind (wpAny_bind (thn (he _ _ _ _ _ s6 _ H5 _ J6 (step z H5 y5)) fun yv s7 ⟨y,H7,J7,r7,hD7,hz7,m',hm',w7⟩=>?_));refine wpAny_bind (thn (eT (X:=blk X scope cl (M++[x]) (s2.heap.objs.size+1) _ _ fp) _ s7 _ H7 (.ref s2.heap.objs.size) [y] (.ref s2.heap.objs.size) [yv] (fun _ G=>G=upd H7 s2.heap.objs.size (.lst (ys++[y]))) J7 rfl (.cons r7 .nil) ⟨_,_,y,rfl,rfl,hD7,hz7,rfl⟩) fun _ s8 ⟨_,H8,J8,_,e8⟩=>?_);subst e8;refine wpAny_pure (wpAny_pure ⟨rfl,m',hm',i+1,_,_,some z,J8.jo,?_,fun b hb=>?_,w7⟩)
    . exact T.keep _ _ _ st5 fun b hb o e=>(J8.pin (b,o) (List.mem_append_right _ (List.mem_append_right _ (eh hb e)))).1
    . obtain⟨o,e,d⟩:=T.obj _ _ st5 b hb
      exact(J8.pin (b,o) (List.mem_append_right _ (List.mem_append_right _ (eh hb e)))).2.1
 rw[hsz]at *;exact codeAny_compStart_list loop (T.self X.A 0 _ _ _ st₁ loop)
end
end L2.E
namespace L2.P
open PySem PySem.Spec PyProof.Rows L2 L2.E
section
variable{K:PySem.W.Frag}{cls:String->Option Addr}{W:XW}{Av G S₀ S S' H H' B B':Hp}{ρ:ag}{σ:St}{Q:VK}
theorem zh{ml me:ag->OE}{ι:List Nat}(hι:ι.Nodup)(hl:JE K cls W tl ml)(he:JE K cls (fun _ _ _ _=>False) te me):JE K cls W (uD (Jv K tl) ι te) (nG ml ι me):=by
 intro Av G S₀ ρ σ S H Q I p
 refine hl.go I p fun r v S1 H1 I1 w1 r1 p1=>?_
 have ra:=r1.rd I1.sh
 cases e:r.pv with
 | tup xs=>
   rw[e]at p1 ra;obtain⟨a,vs,rfl,hq,hr⟩:=mH ra
   refine⟨a,rfl,⟨vs,aJ.tup I1.sh hq⟩,?_⟩
   dsimp only at p1
   cases em:cR me (df ι ρ) xs with
   |exc c fs=>rw[em]at p1;exact p1.elim
   |bad=>rw[em]at p1;exact p1.elim
   | ok ys=>
     rw[em]at p1;simp only[noX]at p1;split at p1
     . rename_i hlen
       refine sC hι he I1 em hlen (fun k H' x g hx=>?_) (fun H' g=>⟨vs,aJ.tup (I1.sh.trans g) hq,by rw[hr.length];exact Nat.le_refl _⟩) fun D S' H' w nD sD ⟨us,hD,rr⟩=>p1 (.ref D) S' H' w ⟨D,us,rfl,nD,sD,hD,rr⟩
       obtain⟨u,hu,ru⟩:=hr.get hx
       refine⟨⟨vs,u,aJ.tup (I1.sh.trans g) hq,hu⟩,?_⟩
       rintro v' H2 ⟨rfl,hv⟩
       have:=hv vs (aJ.tup (I1.sh.trans g) hq);rw[hu]at this;cases this
       exact⟨rfl,ru⟩
     . exact p1.elim
 |_=>rw[e]at p1;exact p1.elim
theorem zq{J:It}{ι:List Nat}{mc:ag->OT}{me:ag->OE}{xs ys:List PV}(hι:ι.Nodup)(hc:JT K cls (fun _ _ _ _=>False) tc mc)(he:JE K cls (fun _ _ _ _=>False) te me)(I:SR K cls Av G S₀ ρ σ S H)(hy:fB mc me (df ι ρ) xs=.ok ys)(hl:ys.length<=lim)
  (go:∀ k H' x,aJ H H'->xs[k]?=some x->J.go k H' /\ ∀ v H2,J.yld k H' v H2->H2=H' /\ Rep K S x v) (stop:∀ H',aJ H H'->J.stop xs.length H')
  (hQ:∀ D S' H',bg S H S' H'->H D=none->S' D=none->(∃ us,H' D=some (.lst us) /\ bG K S' ys us)->Q (.ref D) H'):
  ∀ D,H D=none->∃ W:Nat->Nat->List V->Hp->Prop,(∃ m,W 0 m [] (upd H D (.lst []))) /\ ∀ i m us H',W i m us H' ->
    H' D=some (.lst us) /\ ((J.stop i H' /\ Q (.ref D) H') \/ (J.go i H' /\ ∀ x H2,J.yld i H' x H2->tc (L2.E.pick ι σ++[some x]) H2 fun b H4=>H4 D=some (.lst us) /\ if b=true then te (L2.E.pick ι σ++[some x]) H4 fun y H3=>H3 D=some (.lst us) /\ us.length<sizeLine /\ ∃ m',m'<m /\ W (i+1) m' (us++[y]) (upd H3 D (.lst (us++[y])))else ∃ m',m'<m /\ W (i+1) m' us H4)):=by
 intro D nD
 refine⟨fun k m us H'=>m+k=xs.length /\ H' D=some (.lst us) /\ ∃ S' zs ws,aJ S S' /\ aJ H H' /\ aJ S' H' /\ (∀ b,S' b≠none->S b≠none \/ (H b=none /\ b≠D)) /\ bG K S' zs us /\ fB mc me (df ι ρ) (xs.drop k)=.ok ws /\ ys=zs++ws,
  ⟨xs.length,rfl,bz,S,[],ys,aJ.refl _,aJ.new nD,I.sh.trans (aJ.new nD),fun b z=>.inl z,.nil,hy,rfl⟩,?_⟩
 rintro k m us H' ⟨hm,hD,S',zs,ws,s1,g1,sh1,n1,r1,e1,rfl⟩
 refine⟨hD,?_⟩
 have hSD:S' D=none:=by
  cases q:S' D with
  |none=>rfl
  | some o=>
    rcases n1 D (by rw[q];simp)with z|⟨_,z⟩
    . exact absurd (I.sh.free nD) z
    . exact absurd rfl z
 by_cases hk:k<xs.length
 . refine .inr ?_
   have hx:xs[k]?=some xs[k]:=by simp[hk]
   obtain⟨hgo,hyld⟩:=go k H' xs[k] g1 hx
   refine⟨hgo,fun v H2 hv=>?_⟩
   obtain⟨rfl,rv⟩:=hyld v H2 hv;rw[List.drop_eq_getElem_cons hk]at e1
   have I1:SR K cls Av G S₀ ρ σ S' H2:=I.grow ⟨s1,g1,sh1,fun b z=>by
    rcases n1 b z with z|⟨z,_⟩
    . exact .inl z
    . exact .inr z⟩
   have Ip:=I1.pick hι (Rep.mono s1 rv);refine hc _ G S₀ _ _ S' H2 _ Ip ?_;unfold fB at e1;split at e1
   . rename_i ec;rw[ec];intro S2 H3 w2
     have hSD2:S2 D=none:=by
      cases q:S2 D with
      |none=>rfl
      | some o=>
        rcases w2.new D (by rw[q];simp)with z|z
        . exact absurd hSD z
        . rw[hD]at z;cases z
     refine⟨w2.g _ _ hD,?_⟩
     rw[if_pos rfl];refine he _ G S₀ _ _ S2 H3 _ (Ip.grow w2) ?_
     cases em:me (df ι ρ++[some (.sh xs[k])])with
     |exc c fs=>rw[em]at e1;cases e1
     |bad=>rw[em]at e1;cases e1
     | ok r=>
       rw[em]at e1;simp only[OE.fe]at e1
       cases es:eX r with
       |none=>rw[es]at e1;cases e1
       | some y=>
         rw[es]at e1
         dsimp only at e1
         cases e2:fB mc me (df ι ρ) (xs.drop (k+1))with
         |exc c fs=>rw[e2]at e1;cases e1
         |bad=>rw[e2]at e1;cases e1
         | ok zs'=>
           rw[e2]at e1;simp only[OA.fe]at e1;cases e1;intro u S4 H4 w4 r4;obtain⟨S3,w3,s3,ru⟩:=r4.share w4 es
           have hl2:(zs++y ::zs').length<=lim:=hl
           have w5:=w2.trans w3
           have hSD3:S3 D=none:=by
            cases q:S3 D with
            |none=>rfl
            | some o=>
              rcases w3.new D (by rw[q];simp)with z|z
              . exact absurd hSD2 z
              . rw[w2.g _ _ hD]at z;cases z
           refine⟨w5.g _ _ hD,?_,m - 1,by omega,by omega,bz,S3,zs++[y],zs',s1.trans w5.s,(g1.trans w5.g).upd nD,w3.sh.upd hSD3,fun b z=>?_,(r1.mono w5.s).append (.cons ru .nil),e2,by simp⟩
           . rw[r1.length,<- Ep];rw[List.length_append,List.length_cons]at hl2;omega
           . rcases w5.new b z with z|z
             . exact n1 b z
             . refine .inr ⟨g1.free z,fun e=>?_⟩;rw[e,hD]at z;cases z
   . rename_i ec;rw[ec];intro S2 H3 w2
     refine⟨w2.g _ _ hD,?_⟩
     rw[if_neg (by decide)]
     refine⟨m - 1,by omega,by omega,w2.g _ _ hD,S2,zs,ws,s1.trans w2.s,g1.trans w2.g,w2.sh,fun b z=>?_,r1.mono w2.s,e1,rfl⟩
     rcases w2.new b z with z|z
     . exact n1 b z
     . refine .inr ⟨g1.free z,fun e=>?_⟩;rw[e,hD]at z;cases z
   . cases e1
 . have hk':k=xs.length:=by omega
   subst hk';refine .inl ⟨stop H' g1,?_⟩;rw[List.drop_length]at e1;cases e1
   exact hQ D S' H' ⟨s1,g1,sh1,fun b z=>by
    rcases n1 b z with z|⟨z,_⟩
    . exact .inl z
    . exact .inr z⟩ nD hSD ⟨us,hD,by rw[List.append_nil];exact r1⟩
theorem uK{ml me:ag->OE}{mc:ag->OT}{ι:List Nat}(hι:ι.Nodup)(hl:JE K cls W tl ml)(hc:JT K cls (fun _ _ _ _=>False) tc mc)(he:JE K cls (fun _ _ _ _=>False) te me):JE K cls W (xA (zE K tl) ι tc te) (n8 ml ι mc me):=by
 intro Av G S₀ ρ σ S H Q I p
 refine hl.go I p fun r v S1 H1 I1 w1 r1 p1=>?_
 have ra:=r1.rd I1.sh
 cases e:r.pv with
 | lst xs=>
   rw[e]at p1 ra;obtain⟨a,vs,rfl,hq,hr⟩:=fY ra
   refine⟨a,rfl,⟨vs,hq⟩,?_⟩
   dsimp only at p1
   cases em:fB mc me (df ι ρ) xs with
   |exc c fs=>rw[em]at p1;exact p1.elim
   |bad=>rw[em]at p1;exact p1.elim
   | ok ys=>
     rw[em]at p1;simp only[noX]at p1;split at p1
     . rename_i hlen
       refine zq hι hc he I1 em hlen (fun k H' x g hx=>?_) (fun H' g=>⟨vs,aJ.seq g hq,by rw[hr.length];exact Nat.le_refl _⟩) fun D S' H' w nD sD ⟨us,hD,rr⟩=>p1 (.ref D) S' H' w ⟨D,us,rfl,nD,sD,hD,rr⟩
       obtain⟨u,hu,ru⟩:=hr.get hx
       refine⟨⟨vs,u,aJ.seq g hq,hu⟩,?_⟩
       rintro v' H2 ⟨rfl,hv⟩
       have:=hv vs (aJ.seq g hq);rw[hu]at this;cases this
       exact⟨rfl,ru⟩
     . exact p1.elim
 |_=>rw[e]at p1;exact p1.elim
theorem Jq{ma ms:ag->OE}(ha:JE K cls W ta ma)(hs:JE K cls W ts ms):JE K cls W (La K ta ts) (Hn ma ms):=by
 intro Av G S₀ ρ σ S H Q I p
 refine ha.go I p fun a v S1 H1 I1 w1 r1 p1=>hs.go I1 p1 fun k u S2 H2 I2 w2 r2 p2=>?_
 have ra:=(r1.rd I1.sh).mono w2.s w2.g;have rk:=r2.rd I2.sh;split at p2
 . rename_i xs n ea ek;split at p2
   . rename_i hn;rw[ea]at ra;rw[ek]at rk;obtain⟨q,vs,rfl,hq,hr⟩:=fY ra
     refine⟨by rw[du rk,hn],q,vs,rfl,hq,fun l hl=>?_⟩
     refine p2 _ S2 _ (bg.heap I2.sh hl) ⟨l,_,rfl,hl,I2.sh.free hl,bz,?_⟩;clear ea p2 hq ra
     induction xs generalizing vs with
     |nil=>rw[hr.nil_inv];exact .nil
     | cons x xs ih=>
       obtain⟨y,t,rfl,h1,h2⟩:=hr.cons_inv;rw[List.reverse_cons,List.reverse_cons]
       exact(ih _ h2).append (.cons h1 .nil)
   . exact p2.elim
 . exact p2.elim
end
end L2.P
namespace L2.E
open PySem PySem.Spec PyProof.Rows L2
theorem wD{X:Cx}{cl:List (Str×Addr)}(S:my X scope cl M ι x)(hc:X.calm=true)(hi:QI X (.Name x px) iter wi)(hcd:∀ C s₀ H₀ ex,QT (blk X scope cl (M++[x]) C s₀ H₀ ex) c tc)(he:∀ C s₀ H₀ ex,QE (blk X scope cl (M++[x]) C s₀ H₀ ex) elt te)
  (hs:∀ v,foldedSetIterable iter X.env v=pure v:=by intro _;rfl):QE X (.ListComp elt [⟨.Name x px,iter,[c],0⟩] scope pos) (xA wi ι tc te):=⟨Dq S hc hi.out (fun a b c d=>(hcd a b c d).out) (fun a b c d=>(he a b c d).out) hs⟩
theorem Kf{X:Cx}{e st:Expr}{te ts:TE}{pos p2:Pos}(he:QE X e te)(hk:QE X st ts):QE X (.Subscript e (.Slice none none (some st) p2) pos) (La X.K te ts):=⟨I8 he.out hk.out⟩
theorem G2{X:Cx}{cl:List (Str×Addr)}{py spos:Pos}(hN:X.N.Nodup)(hiy:X.N[i]?=some y)(hy:Loc X.env.scope y)(S:my X scope cl M ι x)(hc:X.calm=true)(hi:QI X (.Name x px) iter wi)(he:∀ C s₀ H₀ ex,QE (blk X scope cl (M++[x]) C s₀ H₀ ex) elt te)
  (hsw:swapsWith (.ListComp elt [⟨.Name x px,iter,[],0⟩] scope pos) (some (.Name y py)) spos.line X.env=pure true:=by rfl) (hf:X.fn y=true \/ X.env.scope.names.lookup y=some .local:=by first|exact .inl rfl|exact .inr rfl|assumption)
  (hs:∀ v,foldedSetIterable iter X.env v=pure v:=by intro _;rfl):QS X (.Assign [.Name y py] (.ListComp elt [⟨.Name x px,iter,[],0⟩] scope pos) spos) (vJ (uD wi ι te) (jP i)):=⟨G3 S hc hi.out (fun a b c d=>(he a b c d).out) hN hiy hy hsw hf hs⟩
noncomputable def LR(p:Int×V)(e:DictEntry):Prop:=e.hash=hashInt p.1 /\ (∃ t,e.key=.int p.1 t) /\ RelV p.2 e.val
noncomputable def DKI(K:PySem.W.Frag)(d:Addr)(kvs:List (Int×V)):Prop:=(d==sysModules)=false /\ (kvs.map (·.1)).Nodup /\ ∃(es:List DictEntry) (ep:Nat),K.lookup d=some ⟨.type "dict",none,.dict es.toArray ep,#[]⟩ /\ Paired LR kvs es
theorem Af{prog:Program}{w:World}:∀{kvs:List (Int×V)} {es:List DictEntry},Paired LR kvs es ->
  ∃ us:List (Int×Value),us.map (·.1)=kvs.map (·.1) /\ Pairs (intKind prog w) es us /\ (∀ e∈es,∃ k,(intKind prog w).is k e.key=true /\ e.hash=(intKind prog w).hash k) /\
    ∀ n,match kvs.lookup n with
      |some v=>∃ u,valueAt us n=some u /\ RelV v u
      |none=>valueAt us n=none
 |_,_,.nil=>⟨[],rfl,.nil,fun e he=>(nomatch he),fun n=>rfl⟩
 | (n,v) ::kvs,e ::es,.cons h t=>by
   obtain⟨us,h1,h2,h3,h4⟩:=Af (prog:=prog) (w:=w) t;obtain⟨k1,⟨tk,k2⟩,k3⟩:=h
   have hk:(intKind prog w).is n e.key=true:=by rw[k2];show Value.isInt n (.int n tk)=true;simp[Value.isInt]
   refine⟨(n,e.val) ::us,by simp[h1],.cons hk rfl h2,fun e' he'=>?_,fun m=>?_⟩
   . rcases List.mem_cons.mp he' with z|z
     . subst z;exact⟨n,hk,k1⟩
     . exact h3 e' z
   . have:=h4 m
     by_cases hm:m=n
     . subst hm;simp[List.lookup,valueAt];exact k3
     . have hb:(m==n)=false:=by simpa using hm
       have hn:¬ n=m:=fun z=>hm z.symm
       simp only[List.lookup,hb]
       unfold valueAt at this ⊢
       simp only[List.find?_cons,hn,decide_false];exact this
theorem DKI.at{X:Cx}{pins:List (Addr×Obj)}{σ:St}{H:Hp}{s:Shared}{d:Addr}{kvs:List (Int×V)}(D:DKI X.K d kvs)(I:Inv X pins σ H s):
  ∃ us:List (Int × Value),s.heap.DictOf (intKind X.prog X.w) d us /\ ∀ n,match kvs.lookup n with
     |some v=>∃ u,valueAt us n=some u /\ RelV v u
     |none=>valueAt us n=none:=by
 obtain⟨_,nd,es,ep,hk,pr⟩:=D;obtain⟨us,h1,h2,h3,h4⟩:=Af (prog:=X.prog) (w:=X.w) pr
 exact⟨us,⟨_,es.toArray,ep,I.kIn d _ hk,⟨rfl,rfl,rfl⟩,rfl,fun e he=>h3 e (by simpa using he),by simpa using h2,by rw[h1];exact nd⟩,h4⟩
section
variable{X:Cx}
noncomputable def Ir(K:PySem.W.Frag)(neg:Bool):R2:=fun v u H Q=>∃ d kvs n,u=.ref d /\ v=.int n /\ DKI K d kvs /\ Q (.bl (if neg then !(kvs.lookup n).isSome else(kvs.lookup n).isSome)) H
theorem DE {kvs:List (Int × V)} {us:List (Int × Value)} {n:Int} (h:match kvs.lookup n with
        |some v=>∃ u,valueAt us n=some u /\ RelV v u
        |none=>valueAt us n=none):(valueAt us n).isSome=(kvs.lookup n).isSome:=by
 cases q:kvs.lookup n with
 |none=>rw[q]at h;rw[h];rfl
 |some v=>rw[q]at h;obtain⟨u,e,_⟩:=h;rw[e];rfl
theorem Hi:OpR X (compareOp .In) (Ir X.K false):=by
 intro pins s σ H x y v u Q I rx ry h;obtain⟨d,kvs,n,rfl,rfl,D,q⟩:=h;obtain⟨t,rfl⟩:=rx;cases ry;obtain⟨us,dd,hv⟩:=D.at I;refine wpAny_in_of (knd:=intKind X.prog X.w) (k:=n) (by show Value.isInt n (.int n t)=true;simp[Value.isInt]) D.1 dd.mapOf ⟨.bl _,H,I.tok _,rfl,?_⟩;rw[DE (hv n)];exact q
noncomputable def Hz(K:PySem.W.Frag):R2:=fun x y H Q=>∃ d kvs n v,x=.ref d /\ y=.int n /\ DKI K d kvs /\ kvs.lookup n=some v /\ Q v H
theorem LM:IxR X (Hz X.K):=by
 intro value slice pins s σ H x y v u Q I rx ry h hs;obtain⟨d,kvs,n,z,rfl,rfl,D,hl,q⟩:=h;cases rx;obtain⟨t,rfl⟩:=ry;obtain⟨us,dd,hv⟩:=D.at I;have h2:=hv n;rw[hl]at h2;obtain⟨w,e,rw'⟩:=h2;refine tail_any (ops:=[.ref d,.int n t]) dd.typeIs slot_dict_getitem.lookup ?_ hs;exact wpAny_getItem_of (knd:=intKind X.prog X.w) (k:=n) (by show Value.isInt n (.int n t)=true;simp[Value.isInt]) dd.mapOf e ⟨z,H,I.tok _,rw',q⟩
noncomputable def Em(K:PySem.W.Frag)(td te:TE):TE:=fun σ H Q=>td σ H fun x H1=>∃ d kvs,x=.ref d /\ DKI K d kvs /\ te σ H1 fun y H2=>∃ n,y=.int n /\ Q ((kvs.lookup n).getD .non) H2
theorem zN{o e:Expr}{td te:TE}{apos cpos:Pos}(ho:QE X o td)(he:QE X e te)(hbase:attributeBase o "get" X.env (eval o X.env)=eval o X.env:=by rfl)
  (few:((backTo cpos (starEach [e] X.env)).all (fun x=>!x.1)&&(backToKw cpos (keywordEach [] X.env)).all (fun x=>x.1.isSome)&&decide (([e]:List Expr).length+([]:List Keyword).length+(if([]:List Keyword).isEmpty then 0 else 1)<30))=true:=by rfl)
  (line:(apos.endLine==cpos.line)=true:=by rfl) (trees:backTo cpos (starEach [e] X.env)=[(false,eval e X.env)]:=by rfl):QE X (.Call (.Attribute o "get" apos) [e] [] cpos) (Em X.K td te):=⟨by
 intro pins s σ H Q I h;refine wpAny_Call_method hbase few line PySem.F.plainAttrs_dict PySem.F.slot_dict_get PySem.F.type_dict_get (thn (ho.out pins s σ H _ I h) fun u s1 ⟨x,H1,I1,rx,d,kvs,ex,D,q1⟩=>?_);subst ex
 obtain rfl:u=Value.ref d:=rx
 obtain⟨us,dd,hv⟩:=D.at I1;obtain⟨_,nd,es,ep,hk,pr⟩:=id D
 refine⟨dd.typeIs,fun b hb=>by cases hb;exact⟨_,I1.kIn d _ hk,rfl⟩,?_⟩
 rw[trees];refine Calls.callWith_builtin rfl (Calls.evalArgs_plain (Calls.spliced_cons (thn (he.out pins s1 σ H1 _ I1 q1) fun iv s2 ⟨y,H2,I2,ry,n,ey,q2⟩=>Calls.spliced_nil ?_)));subst ey;obtain⟨t,rfl⟩:=ry;obtain⟨us2,dd2,hv2⟩:=D.at I2;refine call_meetsIn PySem.F.slot_dict_get dd2.typeIs PySem.F.entry_dict_get (PySem.F.args_dict_get_2 _ _) (meets_dict_get (intKind X.prog X.w) d (k:=n) (key:=.int n t) (by show Value.isInt n (.int n t)=true;simp[Value.isInt]) D.1) ⟨_,dd2.mapOf,⟨_,H2,I2.tok _,?_,q2⟩⟩;have h2:=hv2 n
 cases q:kvs.lookup n with
 |none=>rw[q]at h2;rw[h2];rfl
 |some v=>rw[q]at h2;obtain⟨u,e,r⟩:=h2;rw[e];exact r⟩
end
end L2.E
namespace L2.P
open PySem PySem.Spec PyProof.Rows L2 L2.E
section
variable{K:PySem.W.Frag}{cls:String->Option Addr}{W:XW}{Av G S₀ S S' H H' B B':Hp}{ρ:ag}{σ:St}{Q:VK}
noncomputable def DKP(K:PySem.W.Frag)(d:Addr)(kvs:List (Int×PV)):Prop:=∃ us,DKI K d us /\ Paired (fun (p:Int×PV) (q:Int×V)=>p.1=q.1 /\ ∀ S,Rep K S p.2 q.2) kvs us
theorem DKP.look{d:Addr}:∀{kvs:List (Int×PV)} {us:List (Int×V)},Paired (fun (p:Int×PV) (q:Int×V)=>p.1=q.1 /\ ∀ S,Rep K S p.2 q.2) kvs us->∀ n,match kvs.lookup n with
  |some x=>∃ v,us.lookup n=some v /\ ∀ S,Rep K S x v
  |none=>us.lookup n=none
 |_,_,.nil,n=>rfl
 | (k,x) ::kvs,(k',v) ::us,.cons h t,n=>by
   obtain⟨rfl,hr⟩:=h;have:=DKP.look (d:=d) t n
   by_cases hm:n=k
   . subst hm;simp[List.lookup];exact hr
   . have hb:(n==k)=false:=by simpa using hm
     simp only[List.lookup,hb];exact this
theorem GK{d:Addr}{kvs:List (Int×PV)}{ta:TE}{ma:ag->OE}(D:DKP K d kvs)(ha:JE K cls W ta ma):JE K cls W (tOp (Ir K false) ta (tC (.ref d))) (mUn (FA kvs) ma):=by
 intro Av G S₀ ρ σ S H Q I p
 refine ha.go I p fun a v S1 H1 I1 w1 r1 p1=>?_
 have ra:=r1.rd I1.sh
 cases e:a.pv with
 | int n=>
   rw[e]at p1 ra;obtain⟨us,D1,pr⟩:=D;have:=DKP.look (d:=d) pr n
   refine⟨d,us,n,rfl,du ra,D1,?_⟩
   have hs:(us.lookup n).isSome=(kvs.lookup n).isSome:=by
    cases q:kvs.lookup n with
    |none=>rw[q]at this;rw[this];rfl
    |some x=>rw[q]at this;obtain⟨v,e,_⟩:=this;rw[e];rfl
   rw[hs];exact p1 _ S1 H1 (bg.refl I1.sh) kb
 |_=>rw[e]at p1;exact p1.elim
theorem G4{d:Addr}{kvs:List (Int×PV)}{ta:TE}{ma:ag->OE}(D:DKP K d kvs)(ha:JE K cls W ta ma):JE K cls W (tOp (Hz K) (tC (.ref d)) ta) (mUn (Cz kvs) ma):=by
 intro Av G S₀ ρ σ S H Q I p
 refine ha.go I p fun a v S1 H1 I1 w1 r1 p1=>?_
 have ra:=r1.rd I1.sh
 cases e:a.pv with
 | int n=>
   rw[e]at p1 ra;obtain⟨us,D1,pr⟩:=D;have:=DKP.look (d:=d) pr n;simp only[Cz]at p1
   cases q:kvs.lookup n with
   |none=>rw[q]at p1;exact p1.elim
   | some x=>
     rw[q]at p1 this;obtain⟨u,eu,hr⟩:=this
     exact⟨d,us,n,u,rfl,du ra,D1,eu,p1 _ S1 H1 (bg.refl I1.sh) (hr S1)⟩
 |_=>rw[e]at p1;exact p1.elim
theorem Au{d:Addr}{kvs:List (Int×PV)}{ta:TE}{ma:ag->OE}(D:DKP K d kvs)(ha:JE K cls W ta ma):JE K cls W (Em K (tC (.ref d)) ta) (mUn (gc kvs) ma):=by
 intro Av G S₀ ρ σ S H Q I p;obtain⟨us,D1,pr⟩:=D
 refine⟨d,us,rfl,D1,?_⟩
 refine ha.go I p fun a v S1 H1 I1 w1 r1 p1=>?_
 have ra:=r1.rd I1.sh
 cases e:a.pv with
 | int n=>
   rw[e]at p1 ra;have:=DKP.look (d:=d) pr n;simp only[gc,oE]at p1
   refine⟨n,du ra,?_⟩
   cases q:kvs.lookup n with
   | none=>
     rw[q]at p1 this;rw[this];exact p1 _ S1 H1 (bg.refl I1.sh) (by show Rep K S1 _ _;unfold Rep;rfl)
   | some x=>
     rw[q]at p1 this;obtain⟨u,eu,hr⟩:=this;rw[eu];exact p1 _ S1 H1 (bg.refl I1.sh) (hr S1)
 |_=>rw[e]at p1;exact p1.elim
end
end L2.P
namespace L2.E
open PySem PySem.Spec PyProof.Rows L2
noncomputable def L3(K:PySem.W.Frag)(tl:TE):TI:=fun σ H R=>tl σ H fun x H1=>∃ a,x=.ref a /\ (((∃ xs,SqL K H1 a xs) /\ R (Itl K a) H1) \/ ((∃ xs,SqT K H1 a xs) /\ R (Itt K a) H1))
theorem Lk{X:Cx}{tg l:Expr}{tl:TE}(hl:QE X l tl):QI X tg l (L3 X.K tl):=⟨by
 intro pins s σ H R I h
 refine thn (hl.out pins s σ H _ I h) fun v s1 ⟨x,H1,I1,r1,q1⟩=>?_
 obtain⟨a,e,q⟩:=q1;subst e;cases r1
 rcases q with⟨⟨xs,hq⟩,q⟩|⟨⟨xs,hq⟩,q⟩
 . obtain⟨its,rv,p,hz⟩:=I1.list hq;refine wpAny_pyIter_list p.isList ?_
   refine⟨s1.heap.objs.size,[s1.heap.objs.size],_,_,H1,rfl,I1.kept (t':=s1.toks) fun b o e=>Heap.get?_push_of_some _ e,wy a _,⟨_,Heap.get?_push_size _ rfl,rfl,rfl⟩,fun b hb=>?_,q⟩
   have e:b=s1.heap.objs.size:=by simpa using hb
   subst e;exact I1.zJ (Nat.le_refl _) (I1.hok.fresh (Nat.le_refl _))
 . obtain⟨its,rv,p,hz⟩:=I1.tuple hq;refine wpAny_pyIter_tuple (show s1.heap.IsTuple a its.toArray from p) ?_
   refine⟨s1.heap.objs.size,[s1.heap.objs.size],_,_,H1,rfl,I1.kept (t':=s1.toks) fun b o e=>Heap.get?_push_of_some _ e,vG a _,⟨_,Heap.get?_push_size _ rfl,rfl,rfl⟩,fun b hb=>?_,q⟩
   have e:b=s1.heap.objs.size:=by simpa using hb
   subst e
   exact I1.zJ (Nat.le_refl _) (I1.hok.fresh (Nat.le_refl _))⟩
end L2.E
namespace L2.P
open PySem PySem.Spec PyProof.Rows L2 L2.E
section
variable{K:PySem.W.Frag}{cls:String->Option Addr}{W:XW}{Av G S₀ S S' H H' B B':Hp}{ρ:ag}{σ:St}{Q:VK}
theorem B4{xs:List PV}{k:Nat}{y:PV}(hy:xs[k]?=some y):xs.drop k=y ::xs.drop (k+1):=by
 have hk:k<xs.length:=(List.getElem?_eq_some_iff.mp hy).1
 rw[List.drop_eq_getElem_cons hk]
 congr 1
 have:=List.getElem?_eq_getElem hk;rw[hy]at this
 exact(Option.some.inj this).symm
theorem DI{g:TG}{tb:TS}{D:Ends}{r:RV}{v:V}{xs:List PV}{S1 H1:Hp}(L:List PV->ag->OS)(I:SR K cls Av G S₀ ρ σ S H)(w1:bg S H S1 H1)(r1:kY K H S1 H1 r v)(ei:Cc r=some xs)(p:eP K cls W Av G S₀ S D (L xs ρ))(nil:∀ ρ,L [] ρ=.nx ρ)
  (turn:∀{ρ σ S H x v ys} {N:St->Hp->Prop},SR K cls Av G S₀ ρ σ S H->Rep K S x v->eP K cls W Av G S₀ S D (L (x ::ys) ρ)->(∀ ρ' σ' S' H',SR K cls Av G S₀ ρ' σ' S' H'->aJ S S'->eP K cls W Av G S₀ S' D (L ys ρ')->N σ' H')->g v σ H fun σ2 H2=>tb { D with nx:=N,ct:=N,bk:=D.nx } σ2 H2):
  ∃ a,v=.ref a /\ (((∃ xs,SqL K H1 a xs) /\ ∃ W:Nat->Nat->St->Hp->Prop,(∃ m,W 0 m σ H1) /\ ∀ i m σ H,W i m σ H ->
    ((Itl K a).stop i H /\ D.nx σ H) \/ ((Itl K a).go i H /\ ∃ N:St->Hp->Prop,(∀ σ' H',N σ' H'->∃ m',m'<m /\ W (i+1) m' σ' H') /\ ∀ x H',(Itl K a).yld i H x H'->g x σ H' fun σ2 H2=>tb { D with nx:=N,ct:=N,bk:=D.nx } σ2 H2)) \/
    ((∃ xs,SqT K H1 a xs) /\ ∃ W:Nat->Nat->St->Hp->Prop,(∃ m,W 0 m σ H1) /\ ∀ i m σ H,W i m σ H ->
    ((Itt K a).stop i H /\ D.nx σ H) \/ ((Itt K a).go i H /\ ∃ N:St->Hp->Prop,(∀ σ' H',N σ' H'->∃ m',m'<m /\ W (i+1) m' σ' H') /\ ∀ x H',(Itt K a).yld i H x H'->g x σ H' fun σ2 H2=>tb { D with nx:=N,ct:=N,bk:=D.nx } σ2 H2))):=by
 have es:eX r=some (.lst xs) \/ eX r=some (.tup xs):=by
  cases r with
  |sh y=>cases y<;>cases ei<;>first|exact .inl rfl|exact .inr rfl
  |fr ys=>cases ei;exact .inl rfl
  |al ys=>cases ei
 rcases es with es|es
 . obtain⟨S2,w2,s2,rx⟩:=r1.share w1 es;have I2:=I.grow w2;unfold Rep at rx;obtain⟨a,vs,rfl,hq,hr⟩:=rx
   refine⟨a,rfl,.inl ⟨⟨vs,aJ.seq I2.sh hq⟩,?_⟩⟩
   refine y7 (xs:=vs) (fun k σ' H'=>∃ ρ' S',SR K cls Av G S₀ ρ' σ' S' H' /\ aJ S2 S' /\ eP K cls W Av G S₀ S' D (L (xs.drop k) ρ'))
    ⟨ρ,S2,I2,aJ.refl _,p.back w2.s⟩ ?_ ?_ ?_
   . rintro k σ' H' _ ⟨ρ',S',I',s',_⟩
     exact aJ.seq (s'.trans I'.sh) hq
   . rintro k x σ' H' hx ⟨ρ',S',I',s',p'⟩
     obtain⟨y,hy,ry⟩:=hr.EV hx;rw[B4 hy]at p'
     exact turn I' (Rep.mono s' ry) p' fun ρ2 σ2 S3 H3 I3 s3 p3=>⟨ρ2,S3,I3,s'.trans s3,p3⟩
   . rintro σ' H' ⟨ρ',S',I',s',p'⟩
     rw[List.drop_of_length_le (by rw[hr.length];exact Nat.le_refl _),nil]at p';exact p' σ' S' H' I' (aJ.refl _)
 . obtain⟨S2,w2,s2,rx⟩:=r1.share w1 es;have I2:=I.grow w2;unfold Rep at rx;obtain⟨a,vs,rfl,hq,hr⟩:=rx
   refine⟨a,rfl,.inr ⟨⟨vs,aJ.tup I2.sh hq⟩,?_⟩⟩
   refine Ga (xs:=vs) (fun k σ' H'=>∃ ρ' S',SR K cls Av G S₀ ρ' σ' S' H' /\ aJ S2 S' /\ eP K cls W Av G S₀ S' D (L (xs.drop k) ρ'))
    ⟨ρ,S2,I2,aJ.refl _,p.back w2.s⟩ ?_ ?_ ?_
   . rintro k σ' H' _ ⟨ρ',S',I',s',_⟩
     exact aJ.tup (s'.trans I'.sh) hq
   . rintro k x σ' H' hx ⟨ρ',S',I',s',p'⟩
     obtain⟨y,hy,ry⟩:=hr.EV hx;rw[B4 hy]at p'
     exact turn I' (Rep.mono s' ry) p' fun ρ2 σ2 S3 H3 I3 s3 p3=>⟨ρ2,S3,I3,s'.trans s3,p3⟩
   . rintro σ' H' ⟨ρ',S',I',s',p'⟩
     rw[List.drop_of_length_le (by rw[hr.length];exact Nat.le_refl _),nil]at p';exact p' σ' S' H' I' (aJ.refl _)
theorem GP{i:Nat}{tl:TE}{tb:TS}{ml:ag->OE}{mb:ag->OS}(hl:JE K cls W tl ml)(hb:JS K cls W tb mb):JS K cls W (CK (L3 K tl) (jP i) tb) (B1 i ml mb):=by
 intro Av G S₀ ρ σ S H D I p;refine hl Av G S₀ ρ σ S H _ I ?_;unfold B1 at p
 cases em:ml ρ with
 |exc c fs=>rw[em]at p;exact fun a C S' H' w x=>p a C σ S' H' (I.grow w) w.s x
 |bad=>rw[em]at p;exact p
 | ok r=>
   rw[em]at p;intro v S1 H1 w1 r1;simp only[OE.bM]at p
   cases ei:Cc r with
   |none=>rw[ei]at p;exact p.elim
   | some xs=>
     rw[ei]at p
     exact DI (fun xs ρ=>gm i mb xs ρ) I w1 r1 ei p (fun _=>rfl) fun I' rx p' hN=>sg hb I' rx p' hN
end
end L2.P
namespace L2.P
open PySem
end L2.P
namespace L2.P
open PySem PySem.Spec PyProof.Rows L2 L2.E
end L2.P
namespace L2.P
open PySem
end L2.P
namespace L2
open PySem PySem.Spec PyProof.Rows
end L2
namespace L2.P
open PySem PySem.Spec PyProof.Rows L2 L2.E
end L2.P
namespace HT
open PySem PyProof.Rows
end HT
namespace L2
open PySem PySem.Spec PyProof.Rows
end L2
namespace L2.P
open PySem PySem.Spec PyProof.Rows L2 L2.E
end L2.P
namespace HT
open PySem PyProof.Rows
open AutoSeq1 (wpAny_loadPart')
end HT
namespace L2
open PySem PySem.Spec PyProof.Rows
end L2
namespace L2.P
open PySem PySem.Spec PyProof.Rows L2 L2.E
end L2.P
namespace L2.P
open PySem
noncomputable def jZ(kvs:List (Int×PV))(a b:RV):OE:=match a.pv,b with
 |.int n,.sh d=>.ok (.sh ((kvs.lookup n).getD d))
 |_,_=>.bad
noncomputable def xB(kvs:List (Int×PV))(ma mb:ag->OE):ag->OE:=fun ρ=>(ma ρ).bind fun a=>(mb ρ).bind fun b=>jZ kvs a b
@[simp] theorem Ls(kvs:List (Int×PV))(ma mb:ag->OE)(ρ:ag):xB kvs ma mb ρ=(ma ρ).bind fun a=>(mb ρ).bind fun b=>jZ kvs a b:=rfl
noncomputable def xN(i:Nat)(ml:ag->OE)(mb:ag->OS):ag->OS:=fun ρ=>(ml ρ).bM ρ fun r=>match n6 r with
 |some xs=>gm i mb xs.reverse ρ
 |none=>.bad
noncomputable def el:ag->OS:=fun _=>.bad
noncomputable def oe(i:Nat)(mp:MP)(me:ag->OE):ag->OS:=fun ρ=>Bf i mp ρ fun u put=>match u with
 | .ol ts=>(me ρ).bM ρ fun r=>(match r with
   |.fr ys=>if ts.length+ys.length<=lim then .nx (put (.ol (ts++ys.map .sh)))else .bad
   |.sh (.lst ys)=>if ts.length+ys.length<=lim then .nx (put (.ol (ts++ys.map .sh)))else .bad
   |_=>.bad)
 |_=>.bad
end L2.P
namespace L2
open PySem PySem.Spec PyProof.Rows
noncomputable def Itv(K:PySem.W.Frag)(a:Addr)(xs:List V):It:=
 ⟨fun i H=>SqL K H a xs /\ i<xs.length,fun i H x H'=>H'=H /\ xs.reverse[i]?=some x,fun i H=>SqL K H a xs /\ xs.length<=i⟩
theorem DM{P:Program}{w:World}{K:PySem.W.Frag}{tg:Expr}(a it:Addr)(xs:List V):Turn P w K tg (Itv K a xs) [it] it (fun i h=>i<=xs.length /\ h.IsRevIter it a ((xs.length:Int) - 1 - (i:Int))) where
 mem:=by simp
 obj:=fun i h st b hb=>by
  have e:b=it:=by simpa using hb
  subst e;obtain⟨_,o,e,c,d⟩:=st
  exact⟨o,e,fun v z=>by rw[d]at z;cases z⟩
 keep:=fun i h h' st k=>⟨st.1,st.2.at fun o e=>k it (by simp) o e⟩
 item:=by
  intro X hP hw hK hc i pins s σ H E I hf st hg;subst hP hw hK;obtain⟨hq,hi⟩:=hg;obtain⟨its,rv,p,hz⟩:=I.list hq
  have hj:xs.length - 1 - i<xs.length:=by omega
  have hx:xs[xs.length - 1 - i]?=some xs[xs.length - 1 - i]:=by simp[hj]
  obtain⟨u,hu,ru⟩:=rv.get hx;obtain⟨f0,f1,f2,f3,f4,f5⟩:=hf it (by simp);have hit:=st.2;rw[show(xs.length:Int) - 1 - (i:Int)=((xs.length - 1 - i:Nat):Int) by omega]at hit
  refine wpAny_pyNext_rev_item hit p.isList (x:=u) (by simpa using hu) fun h' st' sb=>?_
  have I1:Inv X pins σ H { s with heap:=h' }:=I.turned (t':=s.toks) (fun b o hb e=>(sb.2 b hb).trans e) f0 f1 f3 f4 f5
  obtain⟨o,e,c,d⟩:=id st';rw[show((xs.length - 1 - i:Nat):Int) - 1=(xs.length:Int) - 1 - ((i+1:Nat):Int) by omega]at st'
  exact⟨u,rfl,Co (s:={ s with heap:=h' }) e c d (by decide) ⟨xs[xs.length - 1 - i],H,I1,ru,⟨rfl,by rw[List.getElem?_reverse hi];exact hx⟩,⟨hi,st'⟩,fun b hb=>(hf b hb).1⟩⟩
 done:=by
  intro X hP hw hK hc i pins s σ H E I hf st hg;subst hP hw hK;obtain⟨hq,hi⟩:=hg;obtain⟨f0,f1,f2,f3,f4,f5⟩:=hf it (by simp);have hit:=st.2;have hle:=st.1;rw[show(xs.length:Int) - 1 - (i:Int)=-1 by omega]at hit
  exact wpAny_pyNext_rev_end (I.ok.hd hc) hit fun h' eb=>⟨rfl,I.turned (t':=s.toks) (fun b o hb e=>eb b o hb e) f0 f1 f3 f4 f5⟩
 self:=fun _ _ _ _ _ st h=>wpAny_pyIter_revIter st.2 h
section
variable{X:Cx}
noncomputable def JI(K:PySem.W.Frag)(ta:TA):TI:=fun σ H R=>ta σ H fun vs H1=>∃ a xs,vs=[.ref a] /\ SqL K H1 a xs /\ R (Itv K a xs) H1
theorem K8{tg a:Expr}{ta:TA}{p pos:Pos}(hg:Gl X "reversed")(hm:X.mg "reversed" = none)(ha:PA X [a] ta)(hs:starEach [a] X.env=[(false,eval a X.env)]:=by rfl):
  PI X tg (.Call (.Name "reversed" p) [a] [] pos) (JI X.K ta):=by
 intro pins s σ H R I h;refine Call_ (rN I hg hm (show bootBuiltins "reversed" = some (.type "reversed") by rfl) (PyProof.Rows.callWith_type1 (thn (ha pos pins s σ H _ I h) fun us s1 ⟨vs,H1,I1,r1,q1⟩=>?_) hs rfl));obtain⟨l,xs,e,hq,q⟩:=q1;subst e
 cases r1 with
 | cons r rr=>
   cases rr;cases r;obtain⟨its,rv,p,hz⟩:=I1.list hq;have hl:=rv.length;refine call_reversed_list p.isList ?_
   have hsz:((its.toArray.size:Nat):Int) - 1=(xs.length:Int) - 1:=by simp[hl]
   rw[hsz]
   have hit:Heap.IsRevIter (s1.heap.push (revObj l ((xs.length:Int) - 1))) s1.heap.objs.size l ((xs.length:Int) - 1):=⟨_,Heap.get?_push_size _ rfl,rfl,rfl⟩
   refine wpAny_pyIter_revIter hit ?_
   have I2:Inv X pins σ H1 { s1 with heap:=s1.heap.push (revObj l ((xs.length:Int) - 1)) }:=I1.kept (t':=s1.toks) fun b o x=>Heap.get?_push_of_some _ x
   refine⟨s1.heap.objs.size,[s1.heap.objs.size],_,_,H1,rfl,I2,DM l _ xs,⟨Nat.zero_le _,by rw[show(xs.length:Int) - 1 - ((0:Nat):Int)=(xs.length:Int) - 1 by omega];exact hit⟩,fun b hb=>?_,q⟩
   have z':b=s1.heap.objs.size:=by simpa using hb
   subst z';exact I1.zJ (Nat.le_refl _) (I1.hok.fresh (Nat.le_refl _))
end
theorem Ho{K:PySem.W.Frag}{a:Addr}{xs:List V}{g:TG}{tb:TS}{D:Ends}{σ:St}{H:Hp}(Pv:Nat->St->Hp->Prop)(h0:Pv 0 σ H)(hl:∀ i σ H,i<=xs.length->Pv i σ H->SqL K H a xs)
  (hs:∀ i x σ H,xs.reverse[i]?=some x->Pv i σ H->g x σ H fun σ2 H2=>tb { D with nx:=Pv (i+1),ct:=Pv (i+1),bk:=D.nx } σ2 H2) (hd:∀ σ H,Pv xs.length σ H->D.nx σ H):
  ∃ W:Nat->Nat->St->Hp->Prop,(∃ m,W 0 m σ H) /\ ∀ i m σ H,W i m σ H ->
    ((Itv K a xs).stop i H /\ D.nx σ H) \/ ((Itv K a xs).go i H /\ ∃ N:St->Hp->Prop,(∀ σ' H',N σ' H'->∃ m',m'<m /\ W (i+1) m' σ' H') /\ ∀ x H',(Itv K a xs).yld i H x H'->g x σ H' fun σ2 H2=>tb { D with nx:=N,ct:=N,bk:=D.nx } σ2 H2):=by
 refine⟨fun i m σ H=>m=xs.length - i /\ i<=xs.length /\ Pv i σ H,⟨xs.length,by simp,Nat.zero_le _,h0⟩,?_⟩
 rintro i m σ H ⟨rfl,hi,p⟩
 have q:=hl i σ H hi p
 by_cases hlt:i<xs.length
 . refine .inr ⟨⟨q,hlt⟩,Pv (i+1),fun σ' H' p'=>⟨xs.length - (i+1),by omega,rfl,hlt,p'⟩,fun x H' y=>?_⟩;obtain⟨e,y⟩:=y;subst e;exact hs i x σ _ y p
 . have e:i=xs.length:=by omega
   subst e;exact .inl ⟨⟨q,Nat.le_refl _⟩,hd σ H p⟩
end L2
namespace L2.E
open PySem PySem.Spec PyProof.Rows L2
section
variable{X:Cx}
noncomputable def CH(K:PySem.W.Frag)(td te tf:TE):TE:=fun σ H Q=>td σ H fun x H1=>∃ d kvs,x=.ref d /\ DKI K d kvs /\ te σ H1 fun y H2=>tf σ H2 fun z H3=>∃ n,y=.int n /\ Q ((kvs.lookup n).getD z) H3
theorem CS{o e f:Expr}{td te tf:TE}{apos cpos:Pos}(ho:QE X o td)(he:QE X e te)(hf:QE X f tf)(hbase:attributeBase o "get" X.env (eval o X.env)=eval o X.env:=by rfl)
  (few:((backTo cpos (starEach [e,f] X.env)).all (fun x=>!x.1)&&(backToKw cpos (keywordEach [] X.env)).all (fun x=>x.1.isSome)&&decide (([e,f]:List Expr).length+([]:List Keyword).length+(if([]:List Keyword).isEmpty then 0 else 1)<=15))=true:=by rfl)
  (line:(apos.endLine==cpos.line)=true:=by rfl) (trees:backTo cpos (starEach [e,f] X.env)=[(false,eval e X.env),(false,eval f X.env)]:=by rfl):QE X (.Call (.Attribute o "get" apos) [e,f] [] cpos) (CH X.K td te tf):=⟨by
 intro pins s σ H Q I h;refine wpAny_Call_method hbase few line PySem.F.plainAttrs_dict PySem.F.slot_dict_get PySem.F.type_dict_get (thn (ho.out pins s σ H _ I h) fun u s1 ⟨x,H1,I1,rx,d,kvs,ex,D,q1⟩=>?_);subst ex
 obtain rfl:u=Value.ref d:=rx
 obtain⟨us,dd,hv⟩:=D.at I1;obtain⟨_,nd,es,ep,hk,pr⟩:=id D
 refine⟨dd.typeIs,fun b hb=>by cases hb;exact⟨_,I1.kIn d _ hk,rfl⟩,?_⟩
 rw[trees];refine Calls.callWith_builtin rfl (Calls.evalArgs_plain (Calls.spliced_cons (thn (he.out pins s1 σ H1 _ I1 q1) fun iv s2 ⟨y,H2,I2,ry,q2⟩=>Calls.spliced_cons (thn (hf.out pins s2 σ H2 _ I2 q2) fun fv s3 ⟨z,H3,I3,rz,n,ey,q3⟩=>Calls.spliced_nil ?_))));subst ey;obtain⟨t,rfl⟩:=ry;obtain⟨us2,dd2,hv2⟩:=D.at I3;refine call_meetsIn PySem.F.slot_dict_get dd2.typeIs PySem.F.entry_dict_get (PySem.F.args_dict_get_3 _ _ _) (meets_dict_get_default (intKind X.prog X.w) d (k:=n) (key:=.int n t) (by show Value.isInt n (.int n t)=true;simp[Value.isInt]) D.1 fv) ⟨_,dd2.mapOf,_,H3,I3.tok _,?_,q3⟩;have h2:=hv2 n
 cases q:kvs.lookup n with
 |none=>rw[q]at h2;rw[h2];exact rz
 |some v=>rw[q]at h2;obtain⟨u,e,r⟩:=h2;rw[e];exact r⟩
noncomputable def Ia:TS:=fun _ _ _=>False
theorem dz{e:Stmt}:QS X e Ia:=⟨fun _ _ _ _ _ _ h=>h.elim⟩
end
end L2.E
namespace L2.P
open PySem PySem.Spec PyProof.Rows L2 L2.E
theorem IM{X:Cx}{tg a:Expr}{ta:TA}{p pos:Pos}(hg:Gl X "reversed")(hm:X.mg "reversed" = none)(ha:QA X [a] ta)(hs:starEach [a] X.env=[(false,eval a X.env)]:=by rfl):
  QI X tg (.Call (.Name "reversed" p) [a] [] pos) (JI X.K ta):=⟨K8 hg hm ha.out hs⟩
section
variable{K:PySem.W.Frag}{cls:String->Option Addr}{W:XW}{S:Hp}
theorem bG.reverse{xs:List PV}{vs:List V}(h:bG K S xs vs):bG K S xs.reverse vs.reverse:=by
 induction xs generalizing vs with
 |nil=>rw[h.nil_inv];exact .nil
 | cons x xs ih=>
   obtain⟨v,r,rfl,q,h'⟩:=h.cons_inv;rw[List.reverse_cons,List.reverse_cons]
   exact(ih h').append (.cons q .nil)
theorem FG{i:Nat}{tl:TE}{tb:TS}{ml:ag->OE}{mb:ag->OS}(hl:JE K cls W tl ml)(hb:JS K cls W tb mb):JS K cls W (CK (JI K (ib tl km)) (jP i) tb) (xN i ml mb):=by
 intro Av G S₀ ρ σ S H D I p;refine hl Av G S₀ ρ σ S H _ I ?_;unfold xN at p
 cases em:ml ρ with
 |exc c fs=>rw[em]at p;exact fun a C S' H' w x=>p a C σ S' H' (I.grow w) w.s x
 |bad=>rw[em]at p;exact p
 | ok r=>
   rw[em]at p;intro v S1 H1 w1 r1;simp only[OE.bM]at p
   cases ei:n6 r with
   |none=>rw[ei]at p;exact p.elim
   | some xs=>
     rw[ei]at p
     have es:eX r=some (.lst xs):=by
      cases r with
      |sh y=>cases y<;>cases ei<;>rfl
      |fr ys=>cases ei;rfl
      |al ys=>cases ei
     obtain⟨S2,w2,s2,rx⟩:=r1.share w1 es;have I2:=I.grow w2;unfold Rep at rx;obtain⟨a,vs,rfl,hq,hr⟩:=rx;have hrr:=hr.reverse
     show ∃ a' xs',[V.ref a]=[V.ref a'] /\ _
     refine⟨a,vs,rfl,aJ.seq I2.sh hq,?_⟩
     refine Ho (xs:=vs) (fun k σ' H'=>∃ ρ' S',SR K cls Av G S₀ ρ' σ' S' H' /\ aJ S2 S' /\ eP K cls W Av G S₀ S' D (gm i mb (xs.reverse.drop k) ρ'))
      ⟨ρ,S2,I2,aJ.refl _,p.back w2.s⟩ ?_ ?_ ?_
     . rintro k σ' H' _ ⟨ρ',S',I',s',_⟩
       exact aJ.seq (s'.trans I'.sh) hq
     . rintro k x σ' H' hx ⟨ρ',S',I',s',p'⟩
       obtain⟨y,hy,ry⟩:=hrr.EV hx
       have hd:xs.reverse.drop k=y ::xs.reverse.drop (k+1):=by
        have hk:k<xs.reverse.length:=(List.getElem?_eq_some_iff.mp hy).1
        rw[List.drop_eq_getElem_cons hk]
        congr 1
        have:=List.getElem?_eq_getElem hk;rw[hy]at this
        exact(Option.some.inj this).symm
       rw[hd]at p'
       exact sg hb I' (Rep.mono s' ry) p' fun ρ2 σ2 S3 H3 I3 s3 p3=>⟨ρ2,S3,I3,s'.trans s3,p3⟩
     . rintro σ' H' ⟨ρ',S',I',s',p'⟩
       rw[List.drop_of_length_le (by rw[List.length_reverse,hr.length];exact Nat.le_refl _)]at p';exact p' σ' S' H' I' (aJ.refl _)
theorem CW{d:Addr}{kvs:List (Int×PV)}{ta tb:TE}{ma mb:ag->OE}(D:DKP K d kvs)(ha:JE K cls W ta ma)(hb:JE K cls W tb mb):JE K cls W (CH K (tC (.ref d)) ta tb) (xB kvs ma mb):=by
 intro Av G S₀ ρ σ S H Q I p;obtain⟨us,D1,pr⟩:=D
 refine⟨d,us,rfl,D1,?_⟩
 refine ha.go I p fun a v S1 H1 I1 w1 r1 p1=>hb.go I1 p1 fun b u S2 H2 I2 w2 r2 p2=>?_
 have ra:=(r1.rd I1.sh).mono w2.s w2.g
 cases e:a.pv with
 | int n=>
   rw[e]at ra;have:=DKP.look (d:=d) pr n
   cases b with
   |fr xs=>unfold jZ at p2;rw[e]at p2;exact p2.elim
   |al xs=>unfold jZ at p2;rw[e]at p2;exact p2.elim
   | sh x=>
     unfold jZ at p2;rw[e]at p2
     refine⟨n,du ra,?_⟩
     cases q:kvs.lookup n with
     | none=>
       simp only[q]at p2 this;rw[this];exact p2 _ S2 H2 (bg.refl I2.sh) r2
     | some y=>
       simp only[q]at p2 this;obtain⟨u,eu,hr⟩:=this;rw[eu];exact p2 _ S2 H2 (bg.refl I2.sh) (hr S2)
 |_=>unfold jZ at p2;rw[e]at p2;exact p2.elim
theorem dC:JS K cls W Ia el:=fun _ _ _ _ _ _ _ _ _ p=>p
end
end L2.P
namespace L2.E
open PySem PySem.Spec PyProof.Rows L2
end L2.E
namespace L2.P
open PySem PySem.Spec PyProof.Rows L2 L2.E
end L2.P
namespace L2.E
open PySem PySem.Spec PyProof.Rows L2
end L2.E
namespace L2.P
open PySem PySem.Spec PyProof.Rows L2 L2.E
end L2.P
namespace L2.E
open PySem PySem.Spec PyProof.Rows L2
end L2.E
namespace L2.P
open PySem PySem.Spec PyProof.Rows L2 L2.E
end L2.P
namespace L2.E
open PySem PySem.Spec PyProof.Rows L2
theorem xH(l:Addr)(items:Array Value)(n:Nat)(b:Addr)(items2:Array Value)(n2:Nat)(dd2:Option Addr)(sl2:Array (Option Value))(hc0:¬(!items.isEmpty&&Builtin.List.listTooLong (items.size+items2.size))=true)(hc1:items.size<=sizeLine)(hs2:items.size+items2.size<=sizeLine+1):
  Meets (Builtin.«list.extend» ⟨[.ref l,.ref b],[]⟩) (fun _ R s=>s.heap.get? l=some { cls:=.type "list",dict:=none,data:=.seq items n,slots:=#[] } /\ s.heap.get? b=some { cls:=.type "list",dict:=dd2,data:=.seq items2 n2,slots:=sl2 } /\ R (.ok (.ret Value.none)) { s with heap:=s.heap.update l (Obj.mapSeq fun x=>x++items2),toks:=s.toks }):=
 .of_wp fun prog w A R s h=>by
  obtain⟨hp,g,d,tk,os⟩:=s;obtain⟨hl,hb,h⟩:=h;have f1:=AutoSeq1.idx_int;have f2:=AutoSeq1.sub_tuple_tuple;have f3:=AutoSeq1.sub_list_list;have f4:=AutoSeq1.sub_tuple_list;have f5:=AutoSeq1.sub_list_tuple
  have hz':(items++items2).size<=sizeLine+1:=by rw[Array.size_append];exact hs2
  wp_walk using (wpAny_updateSeq hl rfl (hz:=hc1) (_hz':=hz')),wpAny_loadPart' hl,wpAny_loadPart' hb;exact⟨_,rfl,h⟩
noncomputable def za(K:PySem.W.Frag):V->List V->Hp->VK->Prop:=fun x vs H Q=>∃ l b xs zs,x=.ref l /\ vs=[.ref b] /\ H l=some (.lst xs) /\ SqL K H b zs /\ xs.length+zs.length<=sizeLine /\ Q .non (upd H l (.lst (xs++zs)))
theorem AD{X:Cx}:MtM X "list.extend" (za X.K):=by
 intro pins s σ H x vs v us Q I rx rv h;obtain⟨l,b,xs,zs,rfl,rfl,hH,hB,hz,q⟩:=h;cases rx;obtain⟨u,rfl,ru⟩:=rv.one;cases ru;obtain⟨z,its,n,r,hl,e⟩:=I.D5 hH;obtain⟨its2,r2,pl2,z2⟩:=I.list hB;obtain⟨⟨cls2,dd2,data2,sl2⟩,ho2,hc2,n2,hd2⟩:=pl2.isList;simp only at hc2 hd2;subst hc2 hd2;have hl2:=r2.length
 have hsz:its.toArray.size+its2.toArray.size<=sizeLine:=by rw[List.size_toArray,List.size_toArray];omega
 have hlong:¬ (!its.toArray.isEmpty&&Builtin.List.listTooLong (its.toArray.size+its2.toArray.size))=true:=by
  rw[zu hsz,Bool.and_false];exact Bool.false_ne_true
 refine call_meets F.slot_list_extend ⟨_,e,rfl⟩ F.entry_list_extend (F.args_list_extend_2 _ _)
  (xH l its.toArray n b its2.toArray n2 dd2 sl2 hlong (by rw[List.size_toArray];omega) (by omega)) ⟨e,ho2,?_⟩
 refine⟨.non,_,I.Gu (its':=its++its2) hH e (by simp) (r.append r2) ?_,rfl,q⟩
 rw[List.length_append];omega
end L2.E
namespace L2.P
open PySem PySem.Spec PyProof.Rows L2 L2.E
section
variable{K:PySem.W.Frag}{cls:String->Option Addr}{W:XW}{Av G S₀ S S' H H' B B':Hp}{ρ:ag}{σ:St}{Q:VK}{F:Nat->List Addr}
theorem AM{i:Nat}{te tx:TE}{mp:MP}{me:ag->OE}(hp:JP K cls te i mp)(hx:JE K cls W tx me):JS K cls W (q8 (tBM K "list" (za K) te (ib tx km))) (oe i mp me):=by
 intro Av G S₀ ρ σ S H D I p;obtain⟨io,t,π,u,hi,e0,e1,p⟩:=uX p;obtain⟨v0,hv⟩:=I.val hi
 cases u with
 |sh x=>exact p.elim
 |ob c ks us=>exact p.elim
 |di x=>exact p.elim
 |dt x=>exact p.elim
 | ol ts=>
   dsimp only at p
   refine hp.at I hi hv e0 e1 fun w S1 H1 w1 I1 wk=>?_
   have p1:=p.back w1.s;obtain⟨F,J1⟩:=id I1;obtain⟨q,vs,ff,rest,wk',hq,hl,rs,_,nd,c⟩:=J1.yc hi hv e1;have:=wk.inj wk';subst this
   refine⟨.inl ⟨rfl,_,SqL.new hq⟩,?_⟩
   refine hx.goS I1 p1 fun r v S2 H2 I2 w2 r2 p2=>?_
   have ndf:ff.Nodup:=(List.nodup_cons.mp (List.nodup_append.mp nd).1).2
   cases r with
   |al ys=>exact p2.elim
   | sh x=>
     cases x with
     | lst ys=>
       dsimp only at p2
       split at p2
       . rename_i hlt
         have r3:Rep K S2 (.lst ys) v:=r2
         unfold Rep at r3;obtain⟨b,us,rfl,k3,k4⟩:=r3
         refine⟨q,b,vs,us,rfl,rfl,w2.g _ _ hq,aJ.seq w2.sh k3,by rw[hl,k4.length];exact hlt,?_⟩
         obtain⟨g,J3,_⟩:=c S2 H2 (ts++ys.map .sh) (vs++us) (ff++[]) w2 ((rs.mono w2.s fun a _ o h=>w2.g _ _ h).append (.shs k4)) (by rw[List.append_nil];exact ndf) fun a ha=>.inl (by simpa using ha)
         exact p2 σ S2 _ ⟨_,J3⟩ (aJ.refl _)
       . exact p2.elim
     |_=>exact p2.elim
   | fr ys=>
     dsimp only at p2
     split at p2
     . rename_i hlt;obtain⟨b,us,rfl,k1,k2,k3,k4⟩:=r2
       refine⟨q,b,vs,us,rfl,rfl,w2.g _ _ hq,SqL.new k3,by rw[hl,k4.length];exact hlt,?_⟩
       obtain⟨g,J3,_⟩:=c S2 H2 (ts++ys.map .sh) (vs++us) (ff++[]) w2 ((rs.mono w2.s fun a _ o h=>w2.g _ _ h).append (.shs k4)) (by rw[List.append_nil];exact ndf) fun a ha=>.inl (by simpa using ha)
       exact p2 σ S2 _ ⟨_,J3⟩ (aJ.refl _)
     . exact p2.elim
end
end L2.P
namespace L2.E
open PySem PySem.Spec PyProof.Rows L2
theorem cz{N P:List Str}{sc:Scope}(a:sc.kind=.function:=by rfl)(b:sc.isCoroutine=false:=by rfl)(c:sc.isGenerator=false:=by rfl)(d:N.Nodup:=by decide +kernel)(e:N.take P.length=P:=by rfl)
  (f:∀ x∈P,sc.names.lookup x=some .local \/ sc.names.lookup x=some .cell:=by decide +kernel) (g:∀ y∈sc.names,y.2≠.free:=by decide +kernel):aP N P sc:=⟨a,b,c,d,e,f,g⟩
structure Ent(K:PySem.W.Frag)(mg:Str->Option Value)(x:Str)(st:Stmt)(f:Addr)(d:FuncData)(ps:List Str):Prop where
 F:Fun K x x st f d
 m:mg x=some (.ref f)
 b:Binds K d ps []
structure Fd(K:PySem.W.Frag)(x:Str)(st:Stmt)(f:Addr)(d:FuncData):Prop where
 a:PySem.W.nsIn K mainGlobals x=some (some (.ref f))
 F:Fun K x x st f d
section
variable{K:PySem.W.Frag}{mg:Str->Option Value}{h:Heap}{x:Str}{st:Stmt}{f:Addr}{d:FuncData}
theorem bD{oc:Value}{od an:Option Addr}{osl:Array (Option Value)}{kV doc pm cdv ct:Value}(a:PySem.W.nsIn K mainGlobals x=some (some (.ref f)))
  (l:K.lookup f=some ⟨oc,od,.func (PySem.W.fnOf x x (er st) (dk st) (ay st) .none kV doc pm an cdv ct),osl⟩) (c:PySem.W.codeIn K cdv x=true) (k:PySem.W.keepIn K (.ref f)=true):
  Fd K x st f (PySem.W.fnOf x x (er st) (dk st) (ay st) .none kV doc pm an cdv ct):=⟨a,j9 l c k⟩
theorem Fd.e{ps:List Str}(H:Fd K x st f d)(X:K.In h)(G:h.Ns mainGlobals mg)
  (hb:∀(kV doc pm:Value) (an:Option Addr) (cdv ct:Value) (us:List Value),us.length=ps.length->bindArgs (PySem.W.fnOf x x (er st) (dk st) (ay st) .none kV doc pm an cdv ct) ⟨us,[]⟩=pure (ps.zip us)):Ent K mg x st f d ps:=⟨H.F,PySem.W.mg_of X G H.a,H.F.binds hb⟩
theorem Fd.e0(H:Fd K x st f d)(X:K.In h)(G:h.Ns mainGlobals mg)
  (hb:∀(kV doc pm:Value) (an:Option Addr) (cdv ct:Value),bindArgs (PySem.W.fnOf x x (er st) (dk st) (ay st) .none kV doc pm an cdv ct) ⟨[],[]⟩=pure []:=by intros;rfl):Ent K mg x st f d []:=
 H.e X G fun p q r s t u us hl=>match us,hl with|[],_=>hb p q r s t u
theorem Fd.e1{a:Str}(H:Fd K x st f d)(X:K.In h)(G:h.Ns mainGlobals mg)
  (hb:∀(kV doc pm:Value) (an:Option Addr) (cdv ct i:Value),bindArgs (PySem.W.fnOf x x (er st) (dk st) (ay st) .none kV doc pm an cdv ct) ⟨[i],[]⟩=pure [(a,i)]:=by intros;rfl):Ent K mg x st f d [a]:=
 H.e X G fun p q r s t u us hl=>match us,hl with|[_],_=>hb p q r s t u _
theorem Fd.e2{a b:Str}(H:Fd K x st f d)(X:K.In h)(G:h.Ns mainGlobals mg)
  (hb:∀(kV doc pm:Value) (an:Option Addr) (cdv ct i j:Value),bindArgs (PySem.W.fnOf x x (er st) (dk st) (ay st) .none kV doc pm an cdv ct) ⟨[i,j],[]⟩=pure [(a,i),(b,j)]:=by intros;rfl):Ent K mg x st f d [a,b]:=
 H.e X G fun p q r s t u us hl=>match us,hl with|[_,_],_=>hb p q r s t u _ _
theorem Fd.e3{a b c:Str}(H:Fd K x st f d)(X:K.In h)(G:h.Ns mainGlobals mg)
  (hb:∀(kV doc pm:Value) (an:Option Addr) (cdv ct i j k:Value),bindArgs (PySem.W.fnOf x x (er st) (dk st) (ay st) .none kV doc pm an cdv ct) ⟨[i,j,k],[]⟩=pure [(a,i),(b,j),(c,k)]:=by intros;rfl):Ent K mg x st f d [a,b,c]:=
 H.e X G fun p q r s t u us hl=>match us,hl with|[_,_,_],_=>hb p q r s t u _ _ _
theorem Fd.e4{a b c e:Str}(H:Fd K x st f d)(X:K.In h)(G:h.Ns mainGlobals mg)
  (hb:∀(kV doc pm:Value) (an:Option Addr) (cdv ct i j k l:Value),bindArgs (PySem.W.fnOf x x (er st) (dk st) (ay st) .none kV doc pm an cdv ct) ⟨[i,j,k,l],[]⟩=pure [(a,i),(b,j),(c,k),(e,l)]:=by intros;rfl):Ent K mg x st f d [a,b,c,e]:=
 H.e X G fun p q r s t u us hl=>match us,hl with|[_,_,_,_],_=>hb p q r s t u _ _ _ _
end
theorem qz{X:Cx}{pos:Pos}(i:Nat)(h7:X.N.Nodup)(h10:QE X e te)(h8:X.N[i]?=some x:=by rfl)(h9:Loc X.env.scope x:=by first|exact Or.inl rfl|exact Or.inr rfl)
  (h11:autoParam (swapsWith e (some (.Name x pos')) pos.line X.env=pure false) L2.qau._auto_1) (h12:autoParam (X.fn x=true \/ X.env.scope.names.lookup x=some .local) L2.qau._auto_1):QS X (.Assign [.Name x pos'] e pos) (vJ te (jP i)):=Lh h7 h8 h9 h10 h11 h12
theorem qx{X:Cx}{j k:Nat}{f:Addr}{fd:FuncData}{ps:List Str}{sp:Sp}{W:XW}{x:Str}{st:Stmt}{p pos:Pos}{e:Expr}{es:List Expr}{t:TA}(h15:bF X.prog X.w X.K X.mg X.base (CXE X.prog X.w) j f fd ps sp)(E:Ent X.K X.mg x st f fd ps)(h16:gN k X.A)(h22:Thr X W)(h23:QA X (e ::es) t)
  (hj:j<=k:=by decide) (h17:Gl X x:=by rfl) (h24:autoParam ((x==Str.ofString "__debug__")=false) L2.qau._auto_1) (h25:autoParam (starEach (e ::es) X.env=(false,eval e X.env) ::starEach es X.env) L2.qau._auto_1) (h26:autoParam (((backTo pos (starEach es X.env)).any fun x=>x.1)=false) L2.qau._auto_1):
  QE X (.Call (.Name x p) (e ::es) [] pos) (sy sp [] W t):=FQ (h15.mono hj) h16 h17 E.m E.F.kp E.b .nil h22 h23 h24 h25 h26
theorem mm{X:Cx}(h11:X.mg "len" = none)(h:QE X e te)(h10:Gl X "len":=by rfl)(hs:isStar e=false:=by rfl)(h16:autoParam (starEach [e] X.env=(false,eval e X.env) ::starEach [] X.env) L2.qau._auto_1)(h17:autoParam (((backTo pos (starEach [] X.env)).any fun x=>x.1)=false) L2.qau._auto_1):
  QE X (.Call (.Name "len" p) [e] [] pos) (tCB (fun xs H Q=>∃ p ys,xs=[.ref p] /\ (SqL X.K H p ys \/ SqT X.K H p ys) /\ Q (.int ys.length) H) (ib te km)):=iH yg h10 h11 boot_len (aa h aq hs) (by decide) (by decide) h16 h17
theorem qi(h7:IxR X r)(h8:QE X a ta)(h9:QE X b tb)(h10:xR b:=by exact fun _ _=>rfl):QE X (.Subscript a b pos) (tOp r ta tb):=Mb h7 h8 h9 h10
theorem bN(h8:OpR X (compareOp op) r)(h9:QE X a ta)(h10:QE X b tb)(h11:behindInMarks op b=false:=by exact n9 _):QT X (.Compare a [op] [b] pos) (xa (tOp r ta tb)):=eH h8 h9 h10 h11
theorem qap{X:Cx}{apos cpos pos:Pos}{r:V->List V->Hp->VK->Prop}(h15:MtR X "list.append" r)(h16:QE X o to)(h:QE X e te)(hs:isStar e=false:=by rfl)
  (h18:autoParam (attributeBase o "append" X.env (eval o X.env)=eval o X.env) L2.qau._auto_1) (h19:autoParam (((((backTo cpos (starEach [e] X.env)).all fun x=>!x.1)&&(backToKw cpos (keywordEach [] X.env)).all fun x=>x.1.isSome)&&decide (([e].length+([]:List Keyword).length+if([]:List Keyword).isEmpty=true then 0 else 1)<30))=true) L2.qau._auto_1)
  (h20:autoParam ((apos.endLine==cpos.line)=true) L2.qau._auto_1) (h21:autoParam (starEach [e] X.env=(false,eval e X.env) ::starEach [] X.env) L2.qau._auto_1) (h22:autoParam (((backTo cpos (starEach [] X.env)).any fun x=>x.1)=false) L2.qau._auto_1) (h5:autoParam (swapsWith (.Call (.Attribute o "append" apos) [e] [] cpos) none pos.line X.env=pure false) L2.qau._auto_1):
  QS X (.Expr (.Call (.Attribute o "append" apos) [e] [] cpos) pos) (q8 (tBM X.K "list" r to (ib te km))):=oX (Io PySem.F.plainAttrs_list PySem.F.slot_list_append PySem.F.type_list_append h15 h16 (aa h aq hs) h18 h19 h20 h21 h22) h5
theorem qex{X:Cx}{apos cpos pos:Pos}{r:V->List V->Hp->VK->Prop}(h15:MtR X "list.extend" r)(h16:QE X o to)(h:QE X e te)(hs:isStar e=false:=by rfl)
  (h18:autoParam (attributeBase o "extend" X.env (eval o X.env)=eval o X.env) L2.qau._auto_1) (h19:autoParam (((((backTo cpos (starEach [e] X.env)).all fun x=>!x.1)&&(backToKw cpos (keywordEach [] X.env)).all fun x=>x.1.isSome)&&decide (([e].length+([]:List Keyword).length+if([]:List Keyword).isEmpty=true then 0 else 1)<30))=true) L2.qau._auto_1)
  (h20:autoParam ((apos.endLine==cpos.line)=true) L2.qau._auto_1) (h21:autoParam (starEach [e] X.env=(false,eval e X.env) ::starEach [] X.env) L2.qau._auto_1) (h22:autoParam (((backTo cpos (starEach [] X.env)).any fun x=>x.1)=false) L2.qau._auto_1) (h5:autoParam (swapsWith (.Call (.Attribute o "extend" apos) [e] [] cpos) none pos.line X.env=pure false) L2.qau._auto_1):
  QS X (.Expr (.Call (.Attribute o "extend" apos) [e] [] cpos) pos) (q8 (tBM X.K "list" r to (ib te km))):=oX (Io PySem.F.plainAttrs_list PySem.F.slot_list_extend PySem.F.type_list_extend h15 h16 (aa h aq hs) h18 h19 h20 h21 h22) h5
end L2.E
namespace L2.P
open PySem PySem.Spec PyProof.Rows L2 L2.E
end L2.P
namespace L2.P
open PySem
theorem bL{m n:ag->OS}{ρ ρ':ag}(h:m ρ=.nx ρ'):aM m n ρ=n ρ':=by unfold aM;rw[h];rfl
theorem KY{m n:ag->OS}{ρ ρ':ag}{v:RV}(h:m ρ=.rt ρ' v):aM m n ρ=.rt ρ' v:=by unfold aM;rw[h];rfl
theorem BG(ρ:ag):aU ρ=.nx ρ:=rfl
theorem Bk{c:ag->OT}{a b:ag->OS}{ρ:ag}(h:c ρ=.ok true):bu c a b ρ=a ρ:=by unfold bu;rw[h];rfl
theorem C5{c:ag->OT}{a b:ag->OS}{ρ:ag}(h:c ρ=.ok false):bu c a b ρ=b ρ:=by unfold bu;rw[h];rfl
theorem oU{f:List PV->OE}{x y:PV}{r:RV}(h:f [x,y]=.ok r)(hr:∀ xs,r≠.al xs):ba (aQ f (ah (aj 0) (ah (aj 1) aI))) [some (.sh x),some (.sh y)]=.rt [some (.sh x),some (.sh y)] r:=by
 cases r with
 |al xs=>exact absurd rfl (hr xs)
 |sh z=>simp[h]
 |fr z=>simp[h]
theorem CY{f:List PV->OE}{x y:PV}{r:RV}(h:f [y]=.ok r)(hr:∀ xs,r≠.al xs):ba (aQ f (ah (aj 1) aI)) [some (.sh x),some (.sh y)]=.rt [some (.sh x),some (.sh y)] r:=by
 cases r with
 |al xs=>exact absurd rfl (hr xs)
 |sh z=>simp[h]
 |fr z=>simp[h]
theorem Kh{ρ:ag}{r:RV}(hr:∀ xs,r≠.al xs):fin (.rt ρ r)=.ok r:=by
 cases r with
 |al xs=>exact absurd rfl (hr xs)
 |sh z=>rfl
 |fr z=>rfl
theorem sk{c:ag->OT}{a n:ag->OS}{ρ:ag}(h:c ρ=.ok false):aM (bu c a aU) n ρ=n ρ:=bL (Eq.trans (C5 h) (BG _))
theorem st{c:ag->OT}{a b n:ag->OS}{ρ ρ':ag}{r:RV}(h:c ρ=.ok true)(k:a ρ=.rt ρ' r):aM (bu c a b) n ρ=.rt ρ' r:=KY (Eq.trans (Bk h) k)
theorem IA{X:OS}{ρ:ag}{x:PV}(h:X=.rt ρ (.sh x)):fin X=.ok (.sh x):=by rw[h];rfl
end L2.P
namespace L2.E
open PySem PySem.Spec PyProof.Rows L2
end L2.E
namespace L2.P
open PySem PySem.Spec PyProof.Rows L2 L2.E
end L2.P
namespace L2.E
open PySem PySem.Spec PyProof.Rows L2
end L2.E
namespace L2.P
open PySem PySem.Spec PyProof.Rows L2 L2.E
end L2.P
namespace L2.E
open PySem PySem.Spec PyProof.Rows L2
end L2.E
namespace L2.P
open PySem PySem.Spec PyProof.Rows L2 L2.E
end L2.P
namespace L2.P
open PySem PySem.Spec PyProof.Rows L2 L2.E PySem.SeqAt
end L2.P
namespace L2.P
open PySem
noncomputable def ins(n:Int):List Int->List Int
 |[]=>[n]
 |m ::ms=>if n<=m then n ::m ::ms else m ::ins n ms
end L2.P
namespace L2
open PySem PySem.Spec PyProof.Rows PySem.W
end L2
namespace L2.E
open PySem PySem.Spec PyProof.Rows L2
end L2.E
namespace L2.P
open PySem PySem.Spec PyProof.Rows L2 L2.E
end L2.P
namespace L2.P
open PySem
end L2.P
namespace L2.E
open PySem PySem.Spec PyProof.Rows L2
end L2.E
namespace L2.P
open PySem PySem.Spec PyProof.Rows L2 L2.E
end L2.P
namespace PG
noncomputable def EL(n:Int):Bool:=(decide (0<=n)&&decide (n<55296))||(decide (57343<n)&&decide (n<=1114111))
noncomputable def b6(n:Int):List Int:=if n<128 then[n]else if n<2048 then[192+n/64,128+n%64]else if n<65536 then[224+n/4096,128+n/64%64,128+n%64]else[240+n/262144,128+n/4096%64,128+n/64%64,128+n%64]
noncomputable def cell(ns:List Int)(k:Int):Int:=if ns=[]then 0 else ns.getD (k%(ns.length:Int)).toNat 0
noncomputable def mix(ns:List Int)(k:Int):Int:=
 let a:=(cell ns k+104729*(k+1))%4294967291
 let b:=a*48271%4294967279
 (b/64*69621+b)%4294967231
noncomputable def menu:List Int:=[34,92,47,8,12,10,13,9,0,31,127]
noncomputable def point(n:Int):Int:=
 if n%8<2 then 32+n/8%95 else if n%8<4 then menu.getD (n/8%11).toNat 0 else if n%8=4 then 128+n/8%1920
 else if n%8=5 then 2048+n/8%53248 else if n%8=6 then 57344+n/8%8192 else 65536+n/8%1048576
noncomputable def Ly(ns:List Int)(k:Int):Int:=if mix ns k/5%8=3 then mix ns k/40%14 else mix ns k%5
noncomputable def points(ns:List Int)(k:Int):List Int:=(List.range (Ly ns k).toNat).map fun j:Nat=>point (mix ns (k+1+(j:Int)))
theorem Lc(ns:List Int)(k:Int):0<=mix ns k /\ mix ns k<4294967231:=by unfold mix;dsimp only;omega
end PG
namespace PG
noncomputable def Nb(b:Int):Int×Int:=if b=224 then(160,191)else if b=237 then(128,159)else(128,191)
noncomputable def Nc(b:Int):Int×Int:=if b=240 then(144,191)else if b=244 then(128,143)else(128,191)
noncomputable def spans(b:Int):Option (List (Int×Int)):=if 0<=b /\ b<128 then some []else if 194<=b /\ b<224 then some [(128,191)]else if 224<=b /\ b<240 then some [Nb b,(128,191)]else if 240<=b /\ b<245 then some [Nc b,(128,191),(128,191)]else none
noncomputable def mark(k:Nat):Int:=[0,192,224,240].getD k 0
noncomputable def val(b:Int)(cs:List Int):Int:=cs.foldl (fun n c=>n*64+c - 128) (b - mark cs.length)
theorem vz{n:Int}(h:EL n=true):0<=n /\ n<=1114111:=by
 unfold EL at h;simp only[Bool.or_eq_true,Bool.and_eq_true,decide_eq_true_eq]at h;omega
end PG
namespace L2.P
open PySem
@[simp] theorem Ik(s:String):(Str.ofString s).cps.all (·<0x110000)=true:=by
  rw[Str.ofString_eq_toList,List.all_toArray,List.all_map];rw[List.all_eq_true];intro c _;have:=c.valid;simp only[Function.comp,decide_eq_true_eq]
  rcases this with h|⟨_,h⟩
  . exact Nat.lt_of_lt_of_le h (by decide)
  . exact h
theorem toNat_inj:∀(xs ys:List Char),xs.map Char.toNat=ys.map Char.toNat->xs=ys
 |[],[],_=>rfl
 |[],_ ::_,h=>by cases h
 |_ ::_,[],h=>by cases h
 | x ::xs,y ::ys,h=>by
   rw[List.map_cons,List.map_cons]at h
   injection h with h1 h2
   have:x=y:=Char.ext (UInt32.toNat_inj.mp h1)
   rw[this,toNat_inj xs ys h2]
theorem aH(a b:String):Str.ofString a=Str.ofString b↔a=b:=by
 constructor
 . intro h;rw[Str.ofString_eq_toList,Str.ofString_eq_toList]at h
   injection h with h
   have h2:a.toList.map Char.toNat=b.toList.map Char.toNat:=by
    have:=congrArg Array.toList h
    simpa using this
   exact String.toList_inj.mp (toNat_inj _ _ h2)
 . intro h;rw[h]
@[simp] theorem G1(a b:String):(Str.ofString a==Str.ofString b)=decide (a=b):=by
  by_cases h:a=b
  . subst h;simp
  . have:Str.ofString a≠Str.ofString b:=fun z=>h ((aH a b).mp z)
    simp[h,this]
@[simp] theorem MM(a b:String):dW (.str (Str.ofString a)) (.str (Str.ofString b))=decide (a=b):=by simp[dW]
@[simp] theorem Nv(a:String)(n:Nat):pf (.str (Str.ofString a)) n=true:=by simp[pf]
theorem nO{i:Nat}{mb:ag->OS}{x:PV}{xs:List PV}{ρ ρ':ag}(h:mb (ρ.set i (some (.sh x)))=.nx ρ'):gm i mb (x ::xs) ρ=gm i mb xs ρ':=by rw[uJ,h];rfl
theorem KG(n:Nat):ixP (n+1) (-1)=some n:=by
 unfold ixP;rw[if_neg (by decide),if_pos (by omega)]
 congr 1
 omega
@[simp] theorem get_nil(t:OV):t.get []=some t:=by cases t<;>rfl
@[simp] theorem GG(t u:OV):t.put [] u=u:=by cases t<;>rfl
theorem yV{ρ:ag}{i:Nat}{io:Bool}{ts:List OV}{md:ag->OD}{x:OV}(h:ρ[i]?=some (some (.tr io (.ol ts))))(hd:md ρ=.ok x)(hl:ts.length<lim):
  nY i eK md ρ=.nx (ρ.set i (some (.tr io (.ol (ts++[x]))))):=by
 unfold nY Bf eK;rw[h];simp only[get_nil];rw[hd];simp only[hl,if_true,GG]
section
variable{ρ:ag}{i:Nat}{io:Bool}{init us:List OV}{x:PV}
theorem Hd(n k:Nat)(h:k<n):ixP n (k:Int)=some k:=by
 unfold ixP;rw[if_pos (by omega),if_pos (by omega)];simp
end
theorem Ee{ρ:ag}{i:Nat}{io:Bool}{ts:List OV}{x:OV}(h:ρ[i]?=some (some (.tr io (.ol (ts++[x]))))):pQ i eK ρ=.ok (ρ.set i (some (.tr io (.ol ts)))) (slO x):=by
 unfold pQ eK;rw[h];simp
end L2.P
namespace PJ
open PySem L2.P
inductive JV where
 |lf (x:PV)|row (vs:List JV)|fld (ns:List (List Int)) (vs:List JV)
noncomputable def mem(n:List Int)(x:PV):PV:=.tup [.tup (n.map .int),x]
mutual
noncomputable def enc:JV->PV
 |.lf x=>x
 |.row vs=>.tup [.str "row",.tup (DU vs)]
 |.fld ns vs=>.tup [.str "fields",.tup (List.zipWith mem ns (DU vs))]
noncomputable def DU:List JV->List PV
 |[]=>[]
 |v ::vs=>enc v ::DU vs
end
mutual
noncomputable def size:JV->Nat
 |.lf _=>1
 |.row vs=>1+Fx vs
 |.fld _ vs=>1+Fx vs
noncomputable def Fx:List JV->Nat
 |[]=>0
 |v ::vs=>size v+Fx vs
end
noncomputable def named(n:Int):List Int:=if n<6 then([[],[97],[97,98],[126,47],[48],[233]]:List (List Int)).getD n.toNat []else[98+n]
abbrev Fr:=Bool×List JV
noncomputable def names(k:Nat):List (List Int):=(List.range k).map fun j:Nat=>named (j:Int)
noncomputable def items(f:Fr):List PV:=if f.1 then List.zipWith mem (names f.2.length) (DU f.2)else DU f.2
end PJ
namespace PG
open L2.P PySem
inductive It where
 |sp (lo hi:Int)|white|value|lead|figures|fraction|exponent|sign|text|escape|code|coded|hex|hexd|hexcf|row|mrow|fields|mfields|name
 deriving DecidableEq
noncomputable def bp:It->PV
 |.sp lo hi=>.tup [.int lo,.int hi]
 |.white=>.str "white" | .value=>.str "value" | .lead=>.str "lead" | .figures=>.str "figures" | .fraction=>.str "fraction" | .exponent=>.str "exponent" | .sign=>.str "sign"
 |.text=>.str "text" | .escape=>.str "escape" | .code=>.str "code" | .coded=>.str "code d" | .hex=>.str "hex" | .hexd=>.str "hex d" | .hexcf=>.str "hex c to f"
 |.row=>.str "row" | .mrow=>.str "more row" | .fields=>.str "fields" | .mfields=>.str "more fields" | .name=>.str "name"
noncomputable def loose:It->Bool
 |.white=>true|.figures=>true|.fraction=>true|.exponent=>true|.sign=>true
 |_=>false
noncomputable def opn:It->Bool
 |.row=>true|.mrow=>true|.fields=>true|.mfields=>true
 |_=>false
noncomputable def wht(b:Int):Bool:=decide (9=b)||(decide (10=b)||(decide (13=b)||decide (32=b)))
noncomputable def fig(b:Int):Bool:=decide (48<=b)&&decide (b<=57)
noncomputable def eQ(b:Int):Option Int:=if 48<=b /\ b<=57 then some (b - 48)else if 65<=b /\ b<=70 then some (b - 55)else if 97<=b /\ b<=102 then some (b - 87)else none
noncomputable def m8(b:Int):Option (List It):=if b=48 then some [.fraction,.exponent]else if 48<=b /\ b<=57 then some [.figures,.fraction,.exponent]else none
noncomputable def nL(b:Int):Option (List It):=
 if b=91 then some [.white,.row]else if b=123 then some [.white,.fields]else if b=34 then some [.text]else if b=45 then some [.lead]
 else if b=110 then some [.sp 117 117,.sp 108 108,.sp 108 108]else if b=116 then some [.sp 114 114,.sp 117 117,.sp 101 101]else if b=102 then some [.sp 97 97,.sp 108 108,.sp 115 115,.sp 101 101]
 else m8 b
noncomputable def jT:List It:=[.white,.sp 58 58,.white,.value,.white,.mfields]
noncomputable def tls(b:Int):Option (List It):=
 if 0<=b /\ b<128 then some []else if 194<=b /\ b<224 then some [.sp 128 191]
 else if 224<=b /\ b<240 then some [if b=224 then .sp 160 191 else if b=237 then .sp 128 159 else .sp 128 191,.sp 128 191]
 else if 240<=b /\ b<245 then some [if b=240 then .sp 144 191 else if b=244 then .sp 128 143 else .sp 128 191,.sp 128 191,.sp 128 191]
 else none
noncomputable def sT(b:Int):Option (List It):=if b=34 then some []else if b=92 then some [.escape,.text]else if b<32 then none else(tls b).map (·++[.text])
noncomputable def yx(b:Int):Bool:=b=34||b=92||b=47||b=98||b=102||b=110||b=114||b=116
noncomputable def En(b:Int):Option (List It):=if b=117 then some [.code]else if yx b then some []else none
noncomputable def AL(w:Int):Option (List It):=if w<8 then some [.hex,.hex]else if w<12 then some [.hex,.hex,.sp 92 92,.sp 117 117,.hexd,.hexcf,.hex,.hex]else none
noncomputable def bh:It->Int->Option (List It)
 |.sp lo hi,b=>if lo<=b /\ b<=hi then some []else none
 |.white,b=>if wht b then some [.white]else none
 |.value,b=>nL b
 |.lead,b=>m8 b
 |.figures,b=>if 48<=b /\ b<=57 then some [.figures]else none
 |.fraction,b=>if b=46 then some [.sp 48 57,.figures]else none
 |.exponent,b=>if b=101 \/ b=69 then some [.sign,.sp 48 57,.figures]else none
 |.sign,b=>if b=43 \/ b=45 then some []else none
 |.text,b=>sT b
 |.escape,b=>En b
 |.code,b=>(eQ b).bind fun w=>if w=13 then some [.coded]else some [.hex,.hex,.hex]
 |.coded,b=>(eQ b).bind AL
 |.hex,b=>(eQ b).map fun _=>[]
 |.hexd,b=>(eQ b).bind fun w=>if w=13 then some []else none
 |.hexcf,b=>(eQ b).bind fun w=>if 12<=w then some []else none
 |.row,b=>if b=93 then some []else(nL b).map (·++[.white,.mrow])
 |.mrow,b=>if b=44 then some [.white,.value,.white,.mrow]else if b=93 then some []else none
 |.fields,b=>if b=125 then some []else if b=34 then some (.text ::jT)else none
 |.mfields,b=>if b=44 then some (.white ::.name ::jT)else if b=125 then some []else none
 |.name,b=>if b=34 then some [.text]else none
noncomputable def cnt(st:List It):Nat:=(st.filter opn).length
noncomputable def gon:List It->Int->List It×Bool
 |[],_=>([],false)
 | it ::st,b=>match bh it b with
   |some l=>(l++st,decide (cnt (l++st)<=64))
   |none=>if loose it then gon st b else(st,false)
noncomputable def tk:List It->List Int->List It×Nat
 |st,[]=>(st,0)
 |st,b ::r=>if(gon st b).2 then((tk (gon st b).1 r).1,(tk (gon st b).1 r).2+1)else((gon st b).1,0)
noncomputable def st0:List It:=[.white,.value,.white]
noncomputable def flt(row:List Int):Option Nat:=if(tk st0 row).2=row.length /\ (tk st0 row).1.all loose=true then none else some (tk st0 row).2
noncomputable def wk(st:List It):OV:=.ob "Walk" ["coming"] [.ol ((st.reverse.map bp).map .sh)]
theorem Es(it:It)(b:Int)(l:List It)(h:bh it b=some l):l.length<=8:=by
 have hv:∀ l,nL b=some l->l.length<=5:=by
  intro l h;unfold nL m8 at h
  repeat' split at h
  all_goals(first|(cases h;done)|(injection h with h;subst h;decide))
 have ht:∀ l,tls b=some l->l.length<=5:=by
  intro l h;unfold tls at h
  repeat' split at h
  all_goals(first|(cases h;done)|(injection h with h;subst h;simp))
 cases it with
 |value=>exact Nat.le_trans (hv l h) (by decide)
 | row=>
   simp only[bh]at h;split at h
   . injection h with h;subst h;decide
   . cases e:nL b with
     |none=>rw[e]at h;cases h
     |some l'=>rw[e]at h;injection h with h;subst h;have:=hv l' e;simp;omega
 | text=>
   simp only[bh,sT]at h
   repeat' split at h
   all_goals first|(cases h;done)|(injection h with h;subst h;decide)|skip
   cases e:tls b with
   |none=>rw[e]at h;cases h
   |some l'=>rw[e]at h;injection h with h;subst h;have:=ht l' e;simp;omega
 | code=>
   simp only[bh]at h
   cases e:eQ b with
   |none=>rw[e]at h;cases h
   |some w=>rw[e]at h;simp only[Option.bind_some]at h;split at h<;>(injection h with h;subst h;decide)
 | coded=>
   simp only[bh]at h
   cases e:eQ b with
   |none=>rw[e]at h;cases h
   | some w=>
     rw[e]at h;simp only[Option.bind_some,AL]at h
     repeat' split at h
     all_goals first|(cases h;done)|(injection h with h;subst h;decide)
 | hex=>
   simp only[bh]at h
   cases e:eQ b with
   |none=>rw[e]at h;cases h
   |some w=>rw[e]at h;injection h with h;subst h;simp
 | hexd=>
   simp only[bh]at h
   cases e:eQ b with
   |none=>rw[e]at h;cases h
   |some w=>rw[e]at h;simp only[Option.bind_some]at h;split at h<;>first|(cases h;done)|(injection h with h;subst h;decide)
 | hexcf=>
   simp only[bh]at h
   cases e:eQ b with
   |none=>rw[e]at h;cases h
   |some w=>rw[e]at h;simp only[Option.bind_some]at h;split at h<;>first|(cases h;done)|(injection h with h;subst h;decide)
 | _=>
   simp only[bh,m8,En,jT]at h
   repeat' split at h
   all_goals first|(cases h;done)|(injection h with h;subst h;decide)
theorem Cd(st:List It)(b:Int):(gon st b).1.length<=st.length+8:=by
 induction st with
 |nil=>simp[gon]
 | cons it st ih=>
   unfold gon
   cases e:bh it b with
   |some l=>have:=Es it b l e;simp;omega
   | none=>
     dsimp only;split
     . simp;omega
     . simp;omega
end PG
namespace PG
inductive Sg where
 |pl (p:Int)|sh (c p:Int)|hx (a b c d:Int)|pr (a b c d e f g h:Int)
noncomputable def pts:Sg->List Int
 |.pl p=>[p]
 |.sh c _=>[92,c]
 |.hx a b c d=>[92,117,a,b,c,d]
 |.pr a b c d e f g h=>[92,117,a,b,c,d,92,117,e,f,g,h]
noncomputable def hv(b:Int):Int:=(eQ b).getD 0
noncomputable def cod(a b c d:Int):Int:=16*(16*(16*hv a+hv b)+hv c)+hv d
noncomputable def shP:List (Int×Int):=[(34,34),(92,92),(47,47),(98,8),(102,12),(110,10),(114,13),(116,9)]
noncomputable def Sok:Sg->Prop
 |.pl p=>EL p=true /\ 32<=p /\ p≠34 /\ p≠92
 |.sh c p=>(c,p)∈shP
 |.hx a b c d=>(eQ a).isSome=true /\ (eQ b).isSome=true /\ (eQ c).isSome=true /\ (eQ d).isSome=true /\ ¬ (55296<=cod a b c d /\ cod a b c d<=57343)
 |.pr a b c d e f g h=>(eQ a=some 13 /\ 8<=hv b /\ hv b<12 /\ (eQ b).isSome=true /\ (eQ c).isSome=true /\ (eQ d).isSome=true) /\ eQ e=some 13 /\ 12<=hv f /\ (eQ f).isSome=true /\ (eQ g).isSome=true /\ (eQ h).isSome=true
noncomputable def zO(s:Sg):List Int:=(pts s).flatMap b6
theorem jj{b w:Int}(h:eQ b=some w):0<=w /\ w<16 /\ 48<=b /\ b<=102 /\ b≠92 /\ b≠117:=by
 unfold eQ at h;split at h
 . injection h with h;omega
 . split at h
   . injection h with h;omega
   . split at h
     . injection h with h;omega
     . cases h
theorem wz{b w:Int}(h:eQ b=some w):hv b=w:=by unfold hv;rw[h];rfl
theorem kP{n:Int}(h:n<128):b6 n=[n]:=by unfold b6;rw[if_pos h]
theorem cnt_cons(it:It)(st:List It):cnt (it ::st)=(if opn it then 1 else 0)+cnt st:=by
 unfold cnt
 cases e:opn it<;>simp[e]
 omega
theorem NA{st st':List It}{b:Int}{r:List Int}(h:gon st b=(st',true)):tk st (b ::r)=((tk st' r).1,(tk st' r).2+1):=by
 simp[tk,h]
theorem kD{it:It}{st:List It}{b:Int}{r:List Int}(h:bh it b=none)(hl:loose it=true):tk (it ::st) (b ::r)=tk st (b ::r):=by
 simp[tk,gon,h,hl]
noncomputable def Goes(st:List It)(bs:List Int)(st':List It):Prop:=∀ r,tk st (bs++r)=((tk st' r).1,(tk st' r).2+bs.length)
theorem Goes.nil(st:List It):Goes st [] st:=fun r=>by simp
theorem Goes.trans{a b c:List It}{xs ys:List Int}(h:Goes a xs b)(k:Goes b ys c):Goes a (xs++ys) c:=fun r=>by
 rw[List.append_assoc,h,k,List.length_append]
 congr 1
 omega
theorem Goes.step{it:It}{st l st':List It}{b:Int}{bs:List Int}(h:bh it b=some l)(hl:cnt l=0)(hc:cnt st<=64)(k:Goes (l++st) bs st'):Goes (it ::st) (b ::bs) st':=fun r=>by
 have q:cnt (l++st)<=64:=by unfold cnt at hl hc ⊢;rw[List.filter_append,List.length_append];omega
 rw[List.cons_append,NA (st':=l++st) (by simp[gon,h,q]),k,List.length_cons]
 congr 1
theorem G5{p:Int}{st:List It}(h:EL p=true)(h1:32<=p)(h2:p≠34)(h3:p≠92)(hc:cnt st<=64):Goes (.text ::st) (b6 p) (.text ::st):=by
 have hr:=vz h
 have hs:p<55296 \/ 57343<p:=by
  unfold EL at h;simp only[Bool.or_eq_true,Bool.and_eq_true,decide_eq_true_eq]at h;omega
 have hc1:cnt (.text ::st)<=64:=by rw[cnt_cons];simp[opn];omega
 have hsp:∀ lo hi:Int,cnt (.sp lo hi ::.text ::st)<=64:=fun lo hi=>by rw[cnt_cons,cnt_cons];simp[opn];omega
 have b1:∀ b:Int,b≠34->b≠92->¬ b<32->bh .text b=(tls b).map (·++[.text]):=fun b g1 g2 g3=>by simp only[bh,sT,g1,g2,g3,if_false]
 unfold b6
 by_cases c1:p<128
 . rw[if_pos c1];refine Goes.step (l:=[.text]) ?_ rfl hc (.nil _);rw[b1 p h2 h3 (by omega)];unfold tls;rw[if_pos ⟨by omega,c1⟩];rfl
 . rw[if_neg c1]
   by_cases c2:p<2048
   . rw[if_pos c2];refine Goes.step (l:=[.sp 128 191,.text]) ?_ rfl hc ?_
     . rw[b1 _ (by omega) (by omega) (by omega)];unfold tls;rw[if_neg (by omega),if_pos (by omega)];rfl
     . refine Goes.step (l:=[]) ?_ rfl hc1 (.nil _);simp only[bh];rw[if_pos (by omega)]
   . rw[if_neg c2]
     by_cases c3:p<65536
     . rw[if_pos c3];refine Goes.step (l:=[if 224+p/4096=224 then .sp 160 191 else if 224+p/4096=237 then .sp 128 159 else .sp 128 191,.sp 128 191,.text]) ?_ ?_ hc ?_
       . rw[b1 _ (by omega) (by omega) (by omega)];unfold tls;rw[if_neg (by omega),if_neg (by omega),if_pos (by omega)];rfl
       . split
         . rfl
         . split<;>rfl
       . refine Goes.step (l:=[]) ?_ rfl (hsp _ _) ?_
         . split
           . simp only[bh];rw[if_pos (by omega)]
           . split
             . simp only[bh];rw[if_pos (by omega)]
             . simp only[bh];rw[if_pos (by omega)]
         . refine Goes.step (l:=[]) ?_ rfl hc1 (.nil _);simp only[bh];rw[if_pos (by omega)]
     . rw[if_neg c3]
       have hsp2:cnt (.sp 128 191 ::.sp 128 191 ::.text ::st)<=64:=by rw[cnt_cons,cnt_cons,cnt_cons];simp[opn];omega
       refine Goes.step (l:=[if 240+p/262144=240 then .sp 144 191 else if 240+p/262144=244 then .sp 128 143 else .sp 128 191,.sp 128 191,.sp 128 191,.text]) ?_ ?_ hc ?_
       . rw[b1 _ (by omega) (by omega) (by omega)];unfold tls;rw[if_neg (by omega),if_neg (by omega),if_neg (by omega),if_pos (by omega)];rfl
       . split
         . rfl
         . split<;>rfl
       . refine Goes.step (l:=[]) ?_ rfl hsp2 ?_
         . split
           . simp only[bh];rw[if_pos (by omega)]
           . split
             . simp only[bh];rw[if_pos (by omega)]
             . simp only[bh];rw[if_pos (by omega)]
         . refine Goes.step (l:=[]) ?_ rfl (hsp _ _) ?_
           . simp only[bh];rw[if_pos (by omega)]
           . refine Goes.step (l:=[]) ?_ rfl hc1 (.nil _);simp only[bh];rw[if_pos (by omega)]
theorem mM{b w:Int}(h:eQ b=some w):bh .hex b=some []:=by simp[bh,h]
theorem some_of{b:Int}(h:(eQ b).isSome=true):∃ w,eQ b=some w:=Option.isSome_iff_exists.mp h
theorem oS{a b c d:Int}(ha:(eQ a).isSome=true)(hb:(eQ b).isSome=true)(hc:(eQ c).isSome=true)(hd:(eQ d).isSome=true):b6 a=[a] /\ b6 b=[b] /\ b6 c=[c] /\ b6 d=[d]:=by
 obtain⟨w1,e1⟩:=some_of ha;obtain⟨w2,e2⟩:=some_of hb;obtain⟨w3,e3⟩:=some_of hc;obtain⟨w4,e4⟩:=some_of hd;have:=jj e1;have:=jj e2;have:=jj e3;have:=jj e4
 exact⟨kP (by omega),kP (by omega),kP (by omega),kP (by omega)⟩
theorem MU(s:Sg)(h:Sok s)(st:List It)(hc:cnt st<=64):Goes (.text ::st) (zO s) (.text ::st):=by
 have hc1:cnt (.text ::st)<=64:=by rw[cnt_cons];simp[opn];omega
 have n0:∀ it:It,opn it=false->∀ st,cnt st<=64->cnt (it ::st)<=64:=fun it ho st h=>by rw[cnt_cons,ho];simp;omega
 cases s with
 | pl p=>
   obtain⟨h1,h2,h3,h4⟩:=h;show Goes _ (b6 p++[]) _;rw[List.append_nil];exact G5 h1 h2 h3 h4 hc
 | sh c p=>
   have hb:zO (.sh c p)=[92,c] /\ bh .escape c=some []:=by
    simp only[Sok,shP,List.mem_cons,Prod.mk.injEq,List.not_mem_nil,or_false]at h
    rcases h with h|h|h|h|h|h|h|h<;>(obtain⟨rfl,rfl⟩:=h;exact⟨rfl,rfl⟩)
   rw[hb.1];exact Goes.step (l:=[.escape,.text]) rfl rfl hc (Goes.step (l:=[]) hb.2 rfl hc1 (.nil _))
 | hx a b c d=>
   obtain⟨ha,hb,hcc,hd,hs⟩:=h;obtain⟨e1,e2,e3,e4⟩:=oS ha hb hcc hd
   have hby:zO (.hx a b c d)=[92,117,a,b,c,d]:=by
    show b6 92++(b6 117++(b6 a++(b6 b++(b6 c++(b6 d++[])))))=_;rw[e1,e2,e3,e4];rfl
   rw[hby];obtain⟨w1,f1⟩:=some_of ha;obtain⟨w2,f2⟩:=some_of hb;obtain⟨w3,f3⟩:=some_of hcc;obtain⟨w4,f4⟩:=some_of hd;refine Goes.step (l:=[.escape,.text]) rfl rfl hc (Goes.step (l:=[.code]) rfl rfl hc1 ?_)
   by_cases hw:w1=13
   . have h8:w2 < 8:=by
      have g2:=jj f2;have g3:=jj f3;have g4:=jj f4;simp only[cod,wz f1,wz f2,wz f3,wz f4]at hs;omega
     refine Goes.step (l:=[.coded]) (by simp[bh,f1,hw]) rfl hc1 (Goes.step (l:=[.hex,.hex]) (by simp[bh,f2,AL,h8]) rfl hc1 ?_);exact Goes.step (l:=[]) (mM f3) rfl (n0 _ rfl _ hc1) (Goes.step (l:=[]) (mM f4) rfl hc1 (.nil _))
   . refine Goes.step (l:=[.hex,.hex,.hex]) (by simp[bh,f1,hw]) rfl hc1 ?_;exact Goes.step (l:=[]) (mM f2) rfl (n0 _ rfl _ (n0 _ rfl _ hc1)) (Goes.step (l:=[]) (mM f3) rfl (n0 _ rfl _ hc1) (Goes.step (l:=[]) (mM f4) rfl hc1 (.nil _)))
 | pr a b c d e f g h'=>
   obtain⟨⟨f1,hb8,hb12,hb,hcc,hd⟩,f5,hf12,hf,hg,hh⟩:=h;obtain⟨e1,e2,e3,e4⟩:=oS (by rw[f1];rfl) hb hcc hd;obtain⟨e5,e6,e7,e8⟩:=oS (by rw[f5];rfl) hf hg hh
   have hby:zO (.pr a b c d e f g h')=[92,117,a,b,c,d,92,117,e,f,g,h']:=by
    show b6 92++(b6 117++(b6 a++(b6 b++(b6 c++(b6 d++(b6 92++(b6 117++(b6 e++(b6 f++(b6 g++(b6 h'++[])))))))))))=_;rw[e1,e2,e3,e4,e5,e6,e7,e8];rfl
   rw[hby];obtain⟨w2,f2⟩:=some_of hb;obtain⟨w3,f3⟩:=some_of hcc;obtain⟨w4,f4⟩:=some_of hd;obtain⟨w6,f6⟩:=some_of hf;obtain⟨w7,f7⟩:=some_of hg;obtain⟨w8,f8⟩:=some_of hh;rw[wz f2]at hb8 hb12;rw[wz f6]at hf12
   have hn8:¬ w2<8:=by omega
   refine Goes.step (l:=[.escape,.text]) rfl rfl hc (Goes.step (l:=[.code]) rfl rfl hc1 (Goes.step (l:=[.coded]) (by simp[bh,f1]) rfl hc1 (Goes.step (l:=[.hex,.hex,.sp 92 92,.sp 117 117,.hexd,.hexcf,.hex,.hex]) (by simp[bh,f2,AL,hn8,hb12]) rfl hc1 ?_)));have k1:=n0 .hex rfl _ hc1;have k2:=n0 .hex rfl _ k1;have k3:=n0 .hexcf rfl _ k2;have k4:=n0 .hexd rfl _ k3;have k5:=n0 (.sp 117 117) rfl _ k4;have k6:=n0 (.sp 92 92) rfl _ k5;have k7:=n0 .hex rfl _ k6;exact Goes.step (l:=[]) (mM f3) rfl k7 (Goes.step (l:=[]) (mM f4) rfl k6 (Goes.step (l:=[]) rfl rfl k5 (Goes.step (l:=[]) rfl rfl k4 (Goes.step (l:=[]) (by simp[bh,f5]) rfl k3 (Goes.step (l:=[]) (by simp[bh,f6,hf12]) rfl k2 (Goes.step (l:=[]) (mM f7) rfl k1 (Goes.step (l:=[]) (mM f8) rfl hc1 (.nil _))))))))
noncomputable def inner(ss:List Sg):List Int:=ss.flatMap zO
inductive Skp:List Int->Prop
 |nil:Skp []
 |one {b:Int} {r:List Int}:b≠34->b≠92->Skp r->Skp (b ::r)
 |two {c:Int} {r:List Int}:Skp r->Skp (92 ::c ::r)
theorem Skp.app{xs ys:List Int}(h:Skp xs)(k:Skp ys):Skp (xs++ys):=by
 induction h with
 |nil=>exact k
 |one h1 h2 _ ih=>exact .one h1 h2 ih
 |two _ ih=>exact .two ih
theorem Ge{l:List Int}(h:∀ b∈l,b≠34 /\ b≠92):Skp l:=by
 induction l with
 |nil=>exact .nil
 |cons b l ih=>exact .one (h b List.mem_cons_self).1 (h b List.mem_cons_self).2 (ih fun x hx=>h x (List.mem_cons_of_mem _ hx))
theorem gO{b:Int}{r:List Int}(h:(eQ b).isSome=true)(k:Skp r):Skp (b ::r):=by
 obtain⟨w,e⟩:=some_of h;have:=jj e;exact .one (by omega) (by omega) k
theorem IJ(s:Sg)(h:Sok s):Skp (zO s):=by
 cases s with
 | pl p=>
   obtain⟨h1,h2,h3,h4⟩:=h;have hr:=vz h1;show Skp (b6 p++[]);rw[List.append_nil]
   refine Ge fun b hb=>?_
   unfold b6 at hb;split at hb
   . simp at hb;omega
   . split at hb
     . simp at hb;omega
     . split at hb<;>(simp at hb;omega)
 | sh c p=>
   simp only[Sok,shP,List.mem_cons,Prod.mk.injEq,List.not_mem_nil,or_false]at h
   rcases h with h|h|h|h|h|h|h|h<;>(obtain⟨rfl,rfl⟩:=h;exact .two .nil)
 | hx a b c d=>
   obtain⟨ha,hb,hcc,hd,hs⟩:=h;obtain⟨e1,e2,e3,e4⟩:=oS ha hb hcc hd
   have hby:zO (.hx a b c d)=[92,117,a,b,c,d]:=by
    show b6 92++(b6 117++(b6 a++(b6 b++(b6 c++(b6 d++[])))))=_;rw[e1,e2,e3,e4];rfl
   rw[hby];exact .two (gO ha (gO hb (gO hcc (gO hd .nil))))
 | pr a b c d e f g h'=>
   obtain⟨⟨f1,_,_,hb,hcc,hd⟩,f5,_,hf,hg,hh⟩:=h
   have ha:(eQ a).isSome=true:=by rw[f1];rfl
   have he:(eQ e).isSome=true:=by rw[f5];rfl
   obtain⟨e1,e2,e3,e4⟩:=oS ha hb hcc hd;obtain⟨e5,e6,e7,e8⟩:=oS he hf hg hh
   have hby:zO (.pr a b c d e f g h')=[92,117,a,b,c,d,92,117,e,f,g,h']:=by
    show b6 92++(b6 117++(b6 a++(b6 b++(b6 c++(b6 d++(b6 92++(b6 117++(b6 e++(b6 f++(b6 g++(b6 h'++[])))))))))))=_;rw[e1,e2,e3,e4,e5,e6,e7,e8];rfl
   rw[hby];exact .two (gO ha (gO hb (gO hcc (gO hd (.two (gO he (gO hf (gO hg (gO hh .nil)))))))))
theorem DC(ss:List Sg)(h:∀ s∈ss,Sok s):Skp (inner ss):=by
 induction ss with
 |nil=>exact .nil
 |cons s ss ih=>exact(IJ s (h s List.mem_cons_self)).app (ih fun x hx=>h x (List.mem_cons_of_mem _ hx))
theorem Goes.skip{it:It}{st st':List It}{b:Int}{bs:List Int}(h:bh it b=none)(hl:loose it=true)(k:Goes st (b ::bs) st'):Goes (it ::st) (b ::bs) st':=fun r=>by
 rw[List.cons_append,kD h hl,<- List.cons_append,k]
noncomputable def txt(ss:List Sg):List Int:=34 ::(inner ss++[34])
end PG
namespace PG
noncomputable abbrev isF(b:Int):Prop:=48<=b /\ b<=57
structure Nm where
 neg:Bool
 ip:List Int
 fr:List Int
 ex:Option (Int×List Int×List Int)
noncomputable def frB(fr:List Int):List Int:=if fr=[]then[]else 46 ::fr
noncomputable def exB:Option (Int×List Int×List Int)->List Int
 |none=>[]
 |some (e,s,ds)=>e ::(s++ds)
noncomputable def nb(m:Nm):List Int:=(if m.neg then[45]else[])++(m.ip++(frB m.fr++exB m.ex))
structure Nok(m:Nm):Prop where
 ip:(m.ip=[48]) \/ ∃ d r,m.ip=d ::r /\ 49<=d /\ d<=57 /\ ∀ b∈r,isF b
 fr:∀ b∈m.fr,isF b
 ex:∀ e s ds,m.ex=some (e,s,ds)->(e=101 \/ e=69) /\ (s=[] \/ s=[43] \/ s=[45]) /\ ds≠[] /\ ∀ b∈ds,isF b
noncomputable def plb(b:Int):Prop:=isF b \/ b=45 \/ b=43 \/ b=46 \/ b=101 \/ b=69
theorem Fm{m:Nm}(h:Nok m):∀ b∈nb m,plb b:=by
 intro b hb;unfold nb at hb
 rcases List.mem_append.mp hb with z|z
 . split at z
   . simp at z;exact .inr (.inl z)
   . cases z
 . rcases List.mem_append.mp z with z|z
   . left
     rcases h.ip with e|⟨d,r,e,h1,h2,h3⟩
     . rw[e]at z;simp at z;unfold isF;omega
     . rw[e]at z
       rcases List.mem_cons.mp z with y|y
       . unfold isF;omega
       . exact h3 b y
   . rcases List.mem_append.mp z with z|z
     . unfold frB at z;split at z
       . cases z
       . rcases List.mem_cons.mp z with y|y
         . exact .inr (.inr (.inr (.inl y)))
         . exact .inl (h.fr b y)
     . cases e:m.ex with
       |none=>rw[e]at z;cases z
       | some x=>
         obtain⟨eb,s,ds⟩:=x;obtain⟨he,hs,hd,hf⟩:=h.ex eb s ds e;rw[e]at z
         rcases List.mem_cons.mp z with y|y
         . subst y;rcases he with y|y
           . exact .inr (.inr (.inr (.inr (.inl y))))
           . exact .inr (.inr (.inr (.inr (.inr y))))
         . rcases List.mem_append.mp y with y|y
           . rcases hs with rfl|rfl|rfl
             . cases y
             . simp at y;exact .inr (.inr (.inl y))
             . simp at y;exact .inr (.inl y)
           . exact .inl (hf b y)
end PG
namespace PG
open L2.P PySem
noncomputable def out:List Bool->List It
 |[]=>[.white]
 |r ::fs=>.white ::(if r then .mrow else .mfields) ::out fs
noncomputable def hd(r e:Bool):It:=if r then(if e then .row else .mrow)else(if e then .fields else .mfields)
noncomputable def stk(r e:Bool)(fs:List Bool):List It:=.white ::hd r e ::out fs
theorem gR:∀ fs:List Bool,cnt (out fs)=fs.length
 |[]=>rfl
 | r ::fs=>by
   show cnt (.white ::(if r then It.mrow else It.mfields) ::out fs)=fs.length+1;rw[cnt_cons,cnt_cons,gR fs]
   cases r<;>simp[opn]<;>omega
noncomputable def LH(b:Int):Prop:=bh .figures b=none /\ bh .fraction b=none /\ bh .exponent b=none
theorem Goes.past{st st':List It}{b:Int}{bs:List Int}(hb:wht b=false)(k:Goes st (b ::bs) st'):Goes (.white ::st) (b ::bs) st':=
 Goes.skip (by simp[bh,hb]) rfl k
theorem Goes.one{it:It}{st l:List It}{b:Int}(h:bh it b=some l)(hc:cnt (l++st)<=64):Goes (it ::st) [b] (l++st):=fun r=>by
 have:gon (it ::st) b=(l++st,true):=by unfold gon;rw[h];simp[hc]
 show tk (it ::st) (b ::r)=_;rw[NA this];rfl
noncomputable def tb(b:Int):Prop:=wht b=true \/ isF b \/ b=46 \/ b=101 \/ b=69 \/ b=43 \/ b=45
theorem Goes.whole{a b:List It}{xs:List Int}(h:Goes a xs b):(tk a xs).2=xs.length:=by
 have:=h [];rw[List.append_nil]at this;rw[this];simp[tk]
noncomputable def short:It->List Int
 |.sp lo _=>[lo]|.value=>[48]|.lead=>[48]|.text=>[34]|.name=>[34,34]|.escape=>[34]|.code=>[48,48,48,48]|.coded=>[48,48,48]
 |.hex=>[48]|.hexd=>[68]|.hexcf=>[67]|.row=>[93]|.mrow=>[93]|.fields=>[125]|.mfields=>[125]
 |_=>[]
noncomputable def ends(st:List It):List Int:=st.flatMap short
noncomputable def num:It->Bool
 |.figures=>true|.fraction=>true|.exponent=>true|.value=>true|.lead=>true
 |_=>false
noncomputable def Stp(st:List It):Prop:=∀ b r,ends st=b ::r->LH b
noncomputable def dr(k:Bool):Int:=if k then 93 else 125
noncomputable def opb(p:Bool×Int):List Int:=if p.1 then[91]else[123,34,p.2,34,58]
noncomputable def fU:List (Bool×Int)->List Int
 |[]=>[]
 |p ::ps=>opb p++fU ps
noncomputable def fsP(ps:List (Bool×Int))(fs:List Bool):List Bool:=(ps.map (·.1)).reverse++fs
noncomputable def kz(ps:List (Bool×Int)):List Int:=((ps.map (·.1)).reverse).map dr
noncomputable def Gr(s:List It)(P:List Int)(t:List It)(R:List Int):Prop:=tk s (P++R)=((tk t R).1,(tk t R).2+P.length)
theorem Gr.of{s t:List It}{P:List Int}(g:Goes s P t)(R:List Int):Gr s P t R:=g R
theorem Gr.trans{s t u:List It}{P P' R:List Int}(h:Gr s P t (P'++R))(k:Gr t P' u R):Gr s (P++P') u R:=by
 unfold Gr at *;rw[List.append_assoc,h,k,List.length_append];simp only[Prod.mk.injEq,true_and];omega
theorem Gr.same{s t t':List It}{P R:List Int}(h:Gr s P t R)(e:tk t R=tk t' R):Gr s P t' R:=by
 unfold Gr at *;rw[h,e]
noncomputable def vB(c:Int):Prop:=(nL c).isSome=true /\ c≠93 /\ wht c=false
noncomputable abbrev Vs(fs:List Bool):List It:=.value ::out fs
theorem Ld{T:List It}{c:Int}{r:List Int}(h:vB c):tk (.row ::T) (c ::r)=tk (.value ::.white ::.mrow ::T) (c ::r):=by
 obtain⟨h1,h2,_⟩:=h;obtain⟨l,hv⟩:=Option.isSome_iff_exists.mp h1
 have e1:gon (.row ::T) c=gon (.value ::.white ::.mrow ::T) c:=by
  unfold gon;simp only[bh,hv,if_neg h2,Option.map_some,List.append_assoc,List.cons_append,List.nil_append]
 unfold tk;rw[e1]
theorem BU{T:List It}{c:Int}{r:List Int}(h:wht c=false):tk (.white ::T) (c ::r)=tk T (c ::r):=kD (by simp only[bh];rw[h];rfl) rfl
theorem Gi{fs:List Bool}{p:Bool×Int}(hp:p.2=97 \/ p.2=98)(h:fs.length<64){c:Int}{r:List Int}(hc:vB c):Gr (Vs fs) (opb p) (Vs (p.1 ::fs)) (c ::r):=by
 have ho:=gR fs;obtain⟨k,n⟩:=p
 cases k with
 | true=>
   have g:Goes (Vs fs) [91] (.white ::.row ::out fs):=Goes.one (l:=[.white,.row]) rfl (by simp only[List.cons_append,List.nil_append,cnt_cons,ho,opn];simp;omega)
   refine(Gr.of g (c ::r)).same ?_
   rw[BU hc.2.2,Ld hc];rfl
 | false=>
   have hm:cnt (jT++out fs)<=64:=by
    unfold jT;simp only[List.cons_append,List.nil_append,cnt_cons,ho,opn];simp;omega
   have g1:Goes (Vs fs) [123] (.white ::.fields ::out fs):=Goes.one (l:=[.white,.fields]) rfl (by simp only[List.cons_append,List.nil_append,cnt_cons,ho,opn];simp;omega)
   have g2:Goes (.white ::.fields ::out fs) [34] (.text ::(jT++out fs)):=.past rfl (Goes.one (l:=.text ::jT) rfl (by rw[List.cons_append,cnt_cons];simpa [opn]using hm))
   have g3:Goes (.text ::(jT++out fs)) [n] (.text ::(jT++out fs)):=Goes.one (l:=[.text]) (by rcases hp with z|z<;>(simp only at z;subst z;rfl)) (by rw[List.cons_append,List.nil_append,cnt_cons];simpa [opn]using hm)
   have g4:Goes (.text ::(jT++out fs)) [34] (jT++out fs):=Goes.one (l:=[]) rfl hm
   have g5:Goes (jT++out fs) [58] (.white ::Vs (false ::fs)):=.past rfl (Goes.one (it:=.sp 58 58) (st:=.white ::Vs (false ::fs)) (l:=[]) rfl (by simp only[List.nil_append,cnt_cons,gR,opn];simp;omega))
   refine(Gr.of ((((g1.trans g2).trans g3).trans g4).trans g5) (c ::r)).same ?_
   rw[BU hc.2.2]
theorem Iu:vB 91:=⟨rfl,by decide,rfl⟩
theorem DX:vB 123:=⟨rfl,by decide,rfl⟩
theorem L4:vB 49:=⟨rfl,by decide,rfl⟩
theorem Eh(p:Bool×Int):∃ c r,opb p=c ::r /\ vB c /\ (c=91 \/ c=123):=by
 obtain⟨k,n⟩:=p;cases k
 . exact⟨123,_,rfl,DX,.inr rfl⟩
 . exact⟨91,_,rfl,Iu,.inl rfl⟩
theorem Bl(ps:List (Bool×Int)){c:Int}{r:List Int}(hc:vB c):∃ c' r',fU ps++c ::r=c' ::r' /\ vB c':=by
 cases ps with
 |nil=>exact⟨c,r,rfl,hc⟩
 | cons p ps=>
   obtain⟨a,b,e,h,_⟩:=Eh p
   exact⟨a,b++fU ps++c ::r,by simp[fU,e],h⟩
theorem Bc:∀(ps:List (Bool×Int)) (fs:List Bool) (c:Int) (r:List Int),(∀ p∈ps,p.2=97 \/ p.2=98)->fs.length+ps.length<=64->vB c->Gr (Vs fs) (fU ps) (Vs (fsP ps fs)) (c ::r)
 |[],fs,c,r,_,_,_=>by simp[Gr,fU,fsP]
 | p ::ps,fs,c,r,hp,hl,hc=>by
   rw[List.length_cons]at hl;obtain⟨c',r',e,hc'⟩:=Bl ps (r:=r) hc
   have h1:Gr (Vs fs) (opb p) (Vs (p.1 ::fs)) (fU ps++c ::r):=by
    rw[e];exact Gi (hp p List.mem_cons_self) (by omega) hc'
   have h2:=Bc ps (p.1 ::fs) c r (fun q hq=>hp q (List.mem_cons_of_mem _ hq)) (by rw[List.length_cons];omega) hc
   have e2:fsP (p ::ps) fs=fsP ps (p.1 ::fs):=by simp[fsP]
   rw[e2];exact h1.trans h2
theorem ze:∀(gs fs:List Bool),gs.length+fs.length<=64->Goes (out (gs++fs)) (gs.map dr) (out fs)
 |[],fs,_=>Goes.nil _
 | g ::gs,fs,h=>by
   rw[List.length_cons]at h
   have g1:Goes (out (g ::(gs++fs))) [dr g] (out (gs++fs)):=by
    cases g
    . exact .past rfl (Goes.one (it:=.mfields) (l:=[]) rfl (by rw[List.nil_append,gR,List.length_append];omega))
    . exact .past rfl (Goes.one (it:=.mrow) (l:=[]) rfl (by rw[List.nil_append,gR,List.length_append];omega))
   exact g1.trans (ze gs fs (by omega))
noncomputable def wu(X:List Int)(d:Nat):Prop:=(∃ x xs,X=x ::xs /\ vB x) /\ ∀ fs:List Bool,fs.length+d<=64->∀(k:Bool) (R:List Int),Gr (Vs fs) X (out fs) (dr k ::R)
theorem xG:wu [49] 0:=by
 refine⟨⟨49,[],rfl,L4⟩,fun fs h k R=>?_⟩
 have g:Goes (Vs fs) [49] (.figures ::.fraction ::.exponent ::out fs):=Goes.one (l:=[.figures,.fraction,.exponent]) rfl (by simp only[List.cons_append,List.nil_append,cnt_cons,gR,opn];simp;omega)
 refine(Gr.of g _).same ?_
 cases k
 . rw[kD rfl rfl,kD rfl rfl,kD rfl rfl]
 . rw[kD rfl rfl,kD rfl rfl,kD rfl rfl]
theorem F4:wu [91,93] 1:=by
 refine⟨⟨91,[93],rfl,Iu⟩,fun fs h k R=>Gr.of ?_ _⟩
 have g1:Goes (Vs fs) [91] (.white ::.row ::out fs):=Goes.one (l:=[.white,.row]) rfl (by simp only[List.cons_append,List.nil_append,cnt_cons,gR,opn];simp;omega)
 have g2:Goes (.white ::.row ::out fs) [93] (out fs):=.past rfl (Goes.one (it:=.row) (l:=[]) rfl (by rw[List.nil_append,gR];omega))
 exact g1.trans g2
theorem GI:wu [123,125] 1:=by
 refine⟨⟨123,[125],rfl,DX⟩,fun fs h k R=>Gr.of ?_ _⟩
 have g1:Goes (Vs fs) [123] (.white ::.fields ::out fs):=Goes.one (l:=[.white,.fields]) rfl (by simp only[List.cons_append,List.nil_append,cnt_cons,gR,opn];simp;omega)
 have g2:Goes (.white ::.fields ::out fs) [125] (out fs):=.past rfl (Goes.one (it:=.fields) (l:=[]) rfl (by rw[List.nil_append,gR];omega))
 exact g1.trans g2
theorem Hr(ps:List (Bool×Int)):fsP ps []=(ps.map (·.1)).reverse:=by simp[fsP]
theorem zI{X:List Int}{d:Nat}(hX:wu X d){ps:List (Bool×Int)}(hp:∀ p∈ps,p.2=97 \/ p.2=98)(hne:ps≠[])(hl:ps.length+d<=64):flt (fU ps++(X++kz ps))=none:=by
 obtain⟨⟨x,xs,rfl,hx⟩,hm⟩:=hX;have h1:=Bc ps [] x (xs++kz ps) hp (by simp;omega) hx
 obtain⟨g,gs,hg⟩:∃ g gs,(ps.map (·.1)).reverse=g ::gs:=by
  cases e:(ps.map (·.1)).reverse with
  | nil=>
    rw[List.reverse_eq_nil_iff,List.map_eq_nil_iff]at e;exact absurd e hne
  |cons g gs=>exact⟨g,gs,rfl⟩
 have hlen:(fsP ps []).length=ps.length:=by simp[fsP]
 have h2:=hm (fsP ps []) (by rw[hlen];exact hl) g (gs.map dr)
 have hc:kz ps=dr g ::gs.map dr:=by unfold kz;rw[hg];rfl
 rw[<- hc]at h2
 have h3:Goes (out (fsP ps [])) (kz ps) (out []):=by
  have:=ze ((ps.map (·.1)).reverse) [] (by simp;omega);rw[List.append_nil]at this;rw[Hr];exact this
 have h4:Gr (Vs []) (fU ps++((x ::xs)++kz ps)) (out []) []:=by
  refine Gr.trans (t:=Vs (fsP ps [])) ?_ (Gr.trans (t:=out (fsP ps [])) ?_ (Gr.of h3 []))
  . rw[List.append_nil];exact h1
  . rw[List.append_nil];exact h2
 unfold Gr at h4;rw[List.append_nil]at h4;obtain⟨c,r,e,hc2⟩:=Bl ps (c:=x) (r:=xs++kz ps) hx
 rw[show fU ps++(x ::xs++kz ps)=c ::r from e]at h4 ⊢
 have e0:tk st0 (c ::r)=tk (Vs []) (c ::r):=BU hc2.2.2
 unfold flt;rw[e0,h4];simp[tk,out,loose]
theorem DT{ps:List (Bool×Int)}(hp:∀ p∈ps,p.2=97 \/ p.2=98)(hl:64<ps.length)(Y:List Int):∃ k,flt (fU ps++Y)=some k:=by
 have hsp:ps=ps.take 64++ps.drop 64:=(List.take_append_drop _ _).symm
 obtain⟨q,qs,hq⟩:∃ q qs,ps.drop 64=q ::qs:=by
  cases e:ps.drop 64 with
  |nil=>rw[List.drop_eq_nil_iff]at e;omega
  |cons q qs=>exact⟨q,qs,rfl⟩
 have hops:∀ a b:List (Bool×Int),fU (a++b)=fU a++fU b:=fun a b=>by
  induction a with
  |nil=>rfl
  |cons x a ih=>simp[fU,ih]
 obtain⟨c,r,e,hc,hc2⟩:=Eh q
 have ht:(ps.take 64).length=64:=by rw[List.length_take];omega
 have h1:=Bc (ps.take 64) [] c (r++fU qs++Y) (fun p h=>hp p (List.mem_of_mem_take h)) (by rw[ht];decide) hc
 have hrow:fU ps++Y=fU (ps.take 64)++c ::(r++fU qs++Y):=by
  conv=>lhs;rw[hsp,hops,hq]
  simp[fU,e]
 have hlen:(fsP (ps.take 64) []).length=64:=by simp[fsP];omega
 have h2:(tk (Vs (fsP (ps.take 64) [])) (c ::(r++fU qs++Y))).2=0:=by
  have hg:(gon (Vs (fsP (ps.take 64) [])) c).2=false:=by
   rcases hc2 with z|z<;>subst z
   . show decide (cnt ([.white,.row]++out (fsP (ps.take 64) []))<=64)=false;rw[decide_eq_false];simp only[List.cons_append,List.nil_append,cnt_cons,gR,opn,hlen];simp
   . show decide (cnt ([.white,.fields]++out (fsP (ps.take 64) []))<=64)=false;rw[decide_eq_false];simp only[List.cons_append,List.nil_append,cnt_cons,gR,opn,hlen];simp
  unfold tk;rw[hg];rfl
 unfold Gr at h1;obtain⟨c',r',e',hc'⟩:=Bl (ps.take 64) (c:=c) (r:=r++fU qs++Y) hc
 have e0:tk st0 (fU ps++Y)=tk (Vs []) (fU ps++Y):=by
  rw[hrow,e'];exact BU hc'.2.2
 refine⟨(tk st0 (fU ps++Y)).2,?_⟩
 unfold flt;rw[if_neg]
 rintro⟨z,_⟩
 rw[e0,hrow,h1]at z;simp only[h2]at z;simp at z
end PG
namespace L2.plainglass_k44_texts_too_deep
open PySem L2.P PG
noncomputable def mJ(c:String):Option Bool:=if c = "NoNode" then some true else none
noncomputable def eS(c:String):Option Bool:=if c = "GlassError" then some true else if c = "NoNode" then some true else if c = "TooDeep" then some true else none
noncomputable def nz(c:String):Bool:=c == "Walk"
noncomputable def uT:ag -> OS:=
    (aM (bu (dS (aj 0))
    (ba (mOp bR (aj 0) (mOp uI (aj 1) (mUn ku (aj 0)))))
    aU)
    (ba (mC (.int 0))))
noncomputable def gZ:List PV->OE:=fnP 2 2 uT
noncomputable def tO:ag -> OS:=
    (ba (mOp uI (mOp eV (mOp AA (mOp Du (aj 2) (mC (.int 64))) (mC (.int 69621))) (aj 2)) (mC (.int 4294967231))))
noncomputable def sZ:ag -> OS:=
    (aM (aY 2 (mOp uI (mOp AA (aj 2) (mC (.int 48271))) (mC (.int 4294967279))))
    tO)
noncomputable def v9:ag -> OS:=
    (aM (aY 2 (mOp uI (mOp eV (aQ gZ (ah (aj 0) (ah (aj 1) aI))) (mOp AA (mC (.int 104729)) (mOp eV (aj 1) (mC (.int 1))))) (mC (.int 4294967291))))
    sZ)
noncomputable def fI:List PV->OE:=fnP 2 3 v9
noncomputable def fF:ag -> OE:=
    (mOp Du (mOp uI (mOp Du (mOp Du (aQ fI (ah (aj 0) (ah (aj 1) aI))) (mOp eV (mC (.int 1)) (mOp uI (aj 2) (mC (.int 9))))) (mC (.int 7))) (mC (.int 6))) (mC (.int 5)))
noncomputable def tE:ag -> OS:=
    (ba (xK (aj 2) [0,1] fF))
noncomputable def fb:List PV->OE:=fnP 3 3 tE
noncomputable def jU:ag -> OS:=
    (aY 2 (mOp gy (aj 2) (mOp bR (b2 (ah (b2 (ah (mC (.int 91)) aI)) (ah (b2 (ah (mC (.int 123)) (ah (mC (.int 34)) (ah (mC (.int 97)) (ah (mC (.int 34)) (ah (mC (.int 58)) aI)))))) aI))) (aj 3))))
noncomputable def j2:ag -> OS:=
    (fj 2 (mOp bR (b2 (ah (mC (.int 93)) (ah (mC (.int 125)) aI))) (aj 3)))
noncomputable def rh:ag -> OS:=
    (dm 2)
noncomputable def qM:ag -> OS:=
    (aM (xN 3 (aj 0)
    j2)
    rh)
noncomputable def rE:ag -> OS:=
    (aM (aY 2 (mOp gy (aj 2) (aj 1)))
    qM)
noncomputable def qY:ag -> OS:=
    (aM (iQ 3 (aj 0)
    jU)
    rE)
noncomputable def u9:ag -> OS:=
    (aM (aY 2 (b2 aI))
    qY)
noncomputable def ef:List PV->OE:=fnP 2 4 u9
noncomputable def tY:ag -> OS:=
    (Ff 0 eK "coming" nz (mD (b2 (ah (mC (.str "white")) (ah (mC (.str "value")) (ah (mC (.str "white")) aI))))))
noncomputable def cG:List Sl->OI:=fnI 1 1 tY
noncomputable def jn:ag -> OS:=
    (ba (mUn (gc [(110,.tup ([117,108,108].map .int)),(116,.tup ([114,117,101].map .int)),(102,.tup ([97,108,115,101].map .int))]) (aj 0)))
noncomputable def eE:List PV->OE:=fnP 1 1 jn
noncomputable def nP:ag -> OS:=
    (ba (fM gLe gLe (mC (.int 48)) (aj 0) (mC (.int 57))))
noncomputable def de:List PV->OE:=fnP 1 1 nP
noncomputable def jz:ag -> OS:=
    (ba (mC .non))
noncomputable def jy:ag -> OS:=
    (aM (bu (dS (aQ de (ah (aj 0) aI)))
    (ba (b2 (ah (mC (.str "figures")) (ah (mC (.str "fraction")) (ah (mC (.str "exponent")) aI)))))
    aU)
    jz)
noncomputable def lp:ag -> OS:=
    (aM (bu (aE (mOp gEq (aj 0) (mC (.int 48))))
    (ba (b2 (ah (mC (.str "fraction")) (ah (mC (.str "exponent")) aI))))
    aU)
    jy)
noncomputable def dA:List PV->OE:=fnP 1 1 lp
noncomputable def cq:ag -> OE:=
    (gp (ah (aj 0) (ah (aj 0) aI)))
noncomputable def ck:ag -> OS:=
    (ba (aQ dA (ah (aj 0) aI)))
noncomputable def cv:ag -> OS:=
    (aM (bu (aE (mOp nQ (aj 1) (mC .non)))
    (ba (nG (aj 1) [] cq))
    aU)
    ck)
noncomputable def cw:ag -> OS:=
    (aM (aY 1 (aQ eE (ah (aj 0) aI)))
    cv)
noncomputable def cu:ag -> OS:=
    (aM (bu (aE (mOp gEq (aj 0) (mC (.int 45))))
    (ba (b2 (ah (mC (.str "lead")) aI)))
    aU)
    cw)
noncomputable def cn:ag -> OS:=
    (aM (bu (aE (mOp gEq (aj 0) (mC (.int 34))))
    (ba (b2 (ah (mC (.str "text")) aI)))
    aU)
    cu)
noncomputable def cp:ag -> OS:=
    (aM (bu (aE (mOp gEq (aj 0) (mC (.int 123))))
    (ba (b2 (ah (mC (.str "white")) (ah (mC (.str "fields")) aI))))
    aU)
    cn)
noncomputable def dc:ag -> OS:=
    (aM (bu (aE (mOp gEq (aj 0) (mC (.int 91))))
    (ba (b2 (ah (mC (.str "white")) (ah (mC (.str "row")) aI))))
    aU)
    cp)
noncomputable def bB:List PV->OE:=fnP 1 2 dc
noncomputable def bt:ag -> OS:=
    (ba (jX (aE (mOp gIn (aj 1) (gp (ah (mC (.int 43)) (ah (mC (.int 45)) aI))))) (b2 aI) (mC .non)))
noncomputable def bw:ag -> OS:=
    (aM (bu (aE (mOp gEq (aj 0) (mC (.str "exponent"))))
    (ba (jX (aE (mOp gIn (aj 1) (gp (ah (mC (.int 101)) (ah (mC (.int 69)) aI))))) (b2 (ah (mC (.str "sign")) (ah (gp (ah (mC (.int 48)) (ah (mC (.int 57)) aI))) (ah (mC (.str "figures")) aI)))) (mC .non)))
    aU)
    bt)
noncomputable def bq:ag -> OS:=
    (aM (bu (aE (mOp gEq (aj 0) (mC (.str "fraction"))))
    (ba (jX (aE (mOp gEq (aj 1) (mC (.int 46)))) (b2 (ah (gp (ah (mC (.int 48)) (ah (mC (.int 57)) aI))) (ah (mC (.str "figures")) aI))) (mC .non)))
    aU)
    bw)
noncomputable def br:ag -> OS:=
    (aM (bu (aE (mOp gEq (aj 0) (mC (.str "figures"))))
    (ba (jX (dS (aQ de (ah (aj 1) aI))) (b2 (ah (mC (.str "figures")) aI)) (mC .non)))
    aU)
    bq)
noncomputable def bK:ag -> OS:=
    (aM (bu (aE (mOp gEq (aj 0) (mC (.str "lead"))))
    (ba (aQ dA (ah (aj 1) aI)))
    aU)
    br)
noncomputable def aV:List PV->OE:=fnP 2 2 bK
noncomputable def pR:ag -> OS:=
    (ba (mC .non))
noncomputable def pG:ag -> OS:=
    (aM (bu (aE (fM gLe gLe (mC (.int 97)) (aj 0) (mC (.int 102))))
    (ba (mOp tT (aj 0) (mC (.int 87))))
    aU)
    pR)
noncomputable def pM:ag -> OS:=
    (aM (bu (aE (fM gLe gLe (mC (.int 65)) (aj 0) (mC (.int 70))))
    (ba (mOp tT (aj 0) (mC (.int 55))))
    aU)
    pG)
noncomputable def tm:ag -> OS:=
    (aM (bu (dS (aQ de (ah (aj 0) aI)))
    (ba (mOp tT (aj 0) (mC (.int 48))))
    aU)
    pM)
noncomputable def fc:List PV->OE:=fnP 1 1 tm
noncomputable def iA:ag -> OS:=
    (ba (mC .non))
noncomputable def iM:ag -> OS:=
    (aM (bu (aE (mOp gLt (aj 0) (mC (.int 12))))
    (aM (aY 1 (b2 (ah (gp (ah (mC (.int 92)) (ah (mC (.int 92)) aI))) (ah (gp (ah (mC (.int 117)) (ah (mC (.int 117)) aI))) (ah (mC (.str "hex d")) (ah (mC (.str "hex c to f")) (ah (mC (.str "hex")) (ah (mC (.str "hex")) aI))))))))
    (ba (mOp gy (b2 (ah (mC (.str "hex")) (ah (mC (.str "hex")) aI))) (aj 1))))
    aU)
    iA)
noncomputable def ju:ag -> OS:=
    (aM (bu (aE (mOp gLt (aj 0) (mC (.int 8))))
    (ba (b2 (ah (mC (.str "hex")) (ah (mC (.str "hex")) aI))))
    aU)
    iM)
noncomputable def dg:List PV->OE:=fnP 1 2 ju
noncomputable def gD:ag -> OS:=
    (ba (mC (.tup ([128,191].map .int))))
noncomputable def gH:ag -> OS:=
    (aM (bu (aE (mOp gEq (aj 0) (mC (.int 237))))
    (ba (gp (ah (mC (.int 128)) (ah (mC (.int 159)) aI))))
    aU)
    gD)
noncomputable def ik:ag -> OS:=
    (aM (bu (aE (mOp gEq (aj 0) (mC (.int 224))))
    (ba (gp (ah (mC (.int 160)) (ah (mC (.int 191)) aI))))
    aU)
    gH)
noncomputable def cA:List PV->OE:=fnP 1 1 ik
noncomputable def hJ:ag -> OS:=
    (ba (mC (.tup ([128,191].map .int))))
noncomputable def gW:ag -> OS:=
    (aM (bu (aE (mOp gEq (aj 0) (mC (.int 244))))
    (ba (gp (ah (mC (.int 128)) (ah (mC (.int 143)) aI))))
    aU)
    hJ)
noncomputable def iX:ag -> OS:=
    (aM (bu (aE (mOp gEq (aj 0) (mC (.int 240))))
    (ba (gp (ah (mC (.int 144)) (ah (mC (.int 191)) aI))))
    aU)
    gW)
noncomputable def cP:List PV->OE:=fnP 1 1 iX
noncomputable def i9:ag -> OS:=
    (ba (mC .non))
noncomputable def iY:ag -> OS:=
    (aM (bu (aE (fM gLe gLt (mC (.int 240)) (aj 0) (mC (.int 245))))
    (ba (b2 (ah (aQ cP (ah (aj 0) aI)) (ah (mC (.tup ([128,191].map .int))) (ah (mC (.tup ([128,191].map .int))) aI)))))
    aU)
    i9)
noncomputable def i5:ag -> OS:=
    (aM (bu (aE (fM gLe gLt (mC (.int 224)) (aj 0) (mC (.int 240))))
    (ba (b2 (ah (aQ cA (ah (aj 0) aI)) (ah (mC (.tup ([128,191].map .int))) aI))))
    aU)
    iY)
noncomputable def i6:ag -> OS:=
    (aM (bu (aE (fM gLe gLt (mC (.int 194)) (aj 0) (mC (.int 224))))
    (ba (b2 (ah (mC (.tup ([128,191].map .int))) aI)))
    aU)
    i5)
noncomputable def mj:ag -> OS:=
    (aM (bu (aE (fM gLe gLt (mC (.int 0)) (aj 0) (mC (.int 128))))
    (ba (b2 aI))
    aU)
    i6)
noncomputable def fS:List PV->OE:=fnP 1 1 mj
noncomputable def dI:ag -> OS:=
    (ba (mOp gy (aj 1) (b2 (ah (mC (.str "text")) aI))))
noncomputable def dF:ag -> OS:=
    (aM (bu (C8 (aE (mOp gLt (aj 0) (mC (.int 32)))) (aE (mOp vX (aj 1) (mC .non))))
    (ba (mC .non))
    aU)
    dI)
noncomputable def dJ:ag -> OS:=
    (aM (aY 1 (aQ fS (ah (aj 0) aI)))
    dF)
noncomputable def dH:ag -> OS:=
    (aM (bu (aE (mOp gEq (aj 0) (mC (.int 92))))
    (ba (b2 (ah (mC (.str "escape")) (ah (mC (.str "text")) aI))))
    aU)
    dJ)
noncomputable def dZ:ag -> OS:=
    (aM (bu (aE (mOp gEq (aj 0) (mC (.int 34))))
    (ba (b2 aI))
    aU)
    dH)
noncomputable def bJ:List PV->OE:=fnP 1 2 dZ
noncomputable def cE:ag -> OS:=
    (ba (mUn (gc [(34,.int 34),(92,.int 92),(47,.int 47),(98,.int 8),(102,.int 12),(110,.int 10),(114,.int 13),(116,.int 9)]) (aj 0)))
noncomputable def bA:List PV->OE:=fnP 1 1 cE
noncomputable def hV:ag -> OS:=
    (aM (bu (aE (mOp gEq (aj 0) (mC (.int 117))))
    (ba (b2 (ah (mC (.str "code")) aI)))
    aU)
    (ba (jX (aE (mOp vX (aQ bA (ah (aj 0) aI)) (mC .non))) (mC .non) (b2 aI))))
noncomputable def cg:List PV->OE:=fnP 1 1 hV
noncomputable def cL:ag -> OS:=
    (ba (aQ dg (ah (aj 2) aI)))
noncomputable def cI:ag -> OS:=
    (aM (bu (aE (mOp gEq (aj 0) (mC (.str "code"))))
    (ba (jX (aE (mOp gEq (aj 2) (mC (.int 13)))) (b2 (ah (mC (.str "code d")) aI)) (b2 (ah (mC (.str "hex")) (ah (mC (.str "hex")) (ah (mC (.str "hex")) aI))))))
    aU)
    cL)
noncomputable def cK:ag -> OS:=
    (aM (bu (aE (mOp vX (aj 2) (mC .non)))
    (ba (mC .non))
    aU)
    cI)
noncomputable def cJ:ag -> OS:=
    (aM (aY 2 (aQ fc (ah (aj 1) aI)))
    cK)
noncomputable def cN:ag -> OS:=
    (aM (bu (aE (mOp gEq (aj 0) (mC (.str "escape"))))
    (ba (aQ cg (ah (aj 1) aI)))
    aU)
    cJ)
noncomputable def dw:ag -> OS:=
    (aM (bu (aE (mOp gEq (aj 0) (mC (.str "text"))))
    (ba (aQ bJ (ah (aj 1) aI)))
    aU)
    cN)
noncomputable def bx:List PV->OE:=fnP 2 3 dw
noncomputable def gg:ag -> OS:=
    (ba (b2 aI))
noncomputable def gv:ag -> OS:=
    (aM (bu (aE (mOp gEq (aj 0) (mC (.str "hex c to f"))))
    (ba (jX (aE (mOp gGe (aj 2) (mC (.int 12)))) (b2 aI) (mC .non)))
    aU)
    gg)
noncomputable def gk:ag -> OS:=
    (aM (bu (aE (mOp gEq (aj 0) (mC (.str "hex d"))))
    (ba (jX (aE (mOp gEq (aj 2) (mC (.int 13)))) (b2 aI) (mC .non)))
    aU)
    gv)
noncomputable def gi:ag -> OS:=
    (aM (bu (aE (mOp vX (aj 2) (mC .non)))
    (ba (mC .non))
    aU)
    gk)
noncomputable def iL:ag -> OS:=
    (aM (aY 2 (aQ fc (ah (aj 1) aI)))
    gi)
noncomputable def cY:List PV->OE:=fnP 2 3 iL
noncomputable def eB:ag -> OS:=
    (ba (jX (aE (mOp vX (aj 1) (mC .non))) (mC .non) (mOp gy (aj 1) (b2 (ah (mC (.str "white")) (ah (mC (.str "more row")) aI))))))
noncomputable def eI:ag -> OS:=
    (aM (aY 1 (aQ bB (ah (aj 0) aI)))
    eB)
noncomputable def fw:ag -> OS:=
    (aM (bu (aE (mOp gEq (aj 0) (mC (.int 93))))
    (ba (b2 aI))
    aU)
    eI)
noncomputable def bY:List PV->OE:=fnP 1 2 fw
noncomputable def pH:ag -> OS:=
    (ba (b2 (ah (mC (.str "white")) (ah (gp (ah (mC (.int 58)) (ah (mC (.int 58)) aI))) (ah (mC (.str "white")) (ah (mC (.str "value")) (ah (mC (.str "white")) (ah (mC (.str "more fields")) aI))))))))
noncomputable def dU:List PV->OE:=fnP 0 0 pH
noncomputable def fP:ag -> OS:=
    (aM (bu (aE (mOp gEq (aj 0) (mC (.int 125))))
    (ba (b2 aI))
    aU)
    (ba (jX (aE (mOp gEq (aj 0) (mC (.int 34)))) (mOp gy (b2 (ah (mC (.str "text")) aI)) (aQ dU aI)) (mC .non))))
noncomputable def bP:List PV->OE:=fnP 1 1 fP
noncomputable def bZ:ag -> OS:=
    (ba (jX (aE (mOp gEq (aj 1) (mC (.int 125)))) (b2 aI) (mC .non)))
noncomputable def bX:ag -> OS:=
    (aM (bu (aE (mOp gEq (aj 1) (mC (.int 44))))
    (ba (mOp gy (b2 (ah (mC (.str "white")) (ah (mC (.str "name")) aI))) (aQ dU aI)))
    aU)
    bZ)
noncomputable def bV:ag -> OS:=
    (aM (bu (aE (mOp gEq (aj 0) (mC (.str "more row"))))
    (aM (bu (aE (mOp gEq (aj 1) (mC (.int 44))))
    (ba (b2 (ah (mC (.str "white")) (ah (mC (.str "value")) (ah (mC (.str "white")) (ah (mC (.str "more row")) aI))))))
    aU)
    (ba (jX (aE (mOp gEq (aj 1) (mC (.int 93)))) (b2 aI) (mC .non))))
    aU)
    bX)
noncomputable def b0:ag -> OS:=
    (aM (bu (aE (mOp gEq (aj 0) (mC (.str "fields"))))
    (ba (aQ bP (ah (aj 1) aI)))
    aU)
    bV)
noncomputable def b8:ag -> OS:=
    (aM (bu (aE (mOp gEq (aj 0) (mC (.str "row"))))
    (ba (aQ bY (ah (aj 1) aI)))
    aU)
    b0)
noncomputable def aZ:List PV->OE:=fnP 2 2 b8
noncomputable def vk:ag -> OS:=
    (ba (mOp gIn (aj 0) (mC (.tup ([9,10,13,32].map .int)))))
noncomputable def eN:List PV->OE:=fnP 1 1 vk
noncomputable def u1:ag -> OS:=
    (ba (aQ bB (ah (aj 1) aI)))
noncomputable def vj:ag -> OS:=
    (aM (bu (aE (mOp gEq (aj 0) (mC (.str "name"))))
    (ba (jX (aE (mOp gEq (aj 1) (mC (.int 34)))) (b2 (ah (mC (.str "text")) aI)) (mC .non)))
    aU)
    u1)
noncomputable def vK:ag -> OS:=
    (aM (bu (aE (mOp gEq (aj 0) (mC (.str "white"))))
    (ba (jX (dS (aQ eN (ah (aj 1) aI))) (b2 (ah (mC (.str "white")) aI)) (mC .non)))
    aU)
    vj)
noncomputable def uE:ag -> OS:=
    (aM (bu (aE (mOp gIn (aj 0) (mC (.tup [.str "row",.str "more row",.str "fields",.str "more fields"]))))
    (ba (aQ aZ (ah (aj 0) (ah (aj 1) aI))))
    aU)
    vK)
noncomputable def uR:ag -> OS:=
    (aM (bu (aE (mOp gIn (aj 0) (gp (ah (mC (.str "hex")) (ah (mC (.str "hex d")) (ah (mC (.str "hex c to f")) aI))))))
    (ba (aQ cY (ah (aj 0) (ah (aj 1) aI))))
    aU)
    uE)
noncomputable def vv:ag -> OS:=
    (aM (bu (aE (mOp gIn (aj 0) (gp (ah (mC (.str "text")) (ah (mC (.str "escape")) (ah (mC (.str "code")) (ah (mC (.str "code d")) aI)))))))
    (ba (aQ bx (ah (aj 0) (ah (aj 1) aI))))
    aU)
    uR)
noncomputable def ux:ag -> OS:=
    (aM (bu (aE (mOp gIn (aj 0) (gp (ah (mC (.str "lead")) (ah (mC (.str "figures")) (ah (mC (.str "fraction")) (ah (mC (.str "exponent")) (ah (mC (.str "sign")) aI))))))))
    (ba (aQ aV (ah (aj 0) (ah (aj 1) aI))))
    aU)
    vv)
noncomputable def uW:ag -> OS:=
    (aM (bu (dS (mIs "tuple" (aj 0)))
    (ba (jX (aE (fM gLe gLe (mOp cT (aj 0) (mC (.int 0))) (aj 1) (mOp cT (aj 0) (mC (.int 1))))) (b2 aI) (mC .non)))
    aU)
    ux)
noncomputable def jm:List PV->OE:=fnP 2 2 uW
noncomputable def iz:ag -> OE:=
    (aj 0)
noncomputable def fT:ag -> OT:=
    (aE (mOp gIn (aj 0) (mC (.tup [.str "row",.str "more row",.str "fields",.str "more fields"]))))
noncomputable def ny:ag -> OS:=
    (ba (mUn ku (n8 (sU 0 (pFd 0 eK "coming" nz)) [] fT iz)))
noncomputable def cj:List Sl->OI:=fnI 1 1 ny
noncomputable def gA:ag -> OT:=
    (q9 0 (pFd 0 eK "coming" nz))
noncomputable def gz:ag -> OS:=
    (aM (oG 2 (pQ 0 (pFd 0 eK "coming" nz)))
    (aM (aY 3 (aQ jm (ah (aj 2) (ah (aj 1) aI))))
    (aM (bu (aE (mOp nQ (aj 3) (mC .non)))
    (aM (oe 0 (pFd 0 eK "coming" nz) (Hn (aj 3) (mUn ua (mC (.int 1)))))
    (ba (mOp gLe (m9 "Walk" "brackets" cj [.b 0 eK]) (mC (.int 64)))))
    aU)
    (bu (aE (mOp ke (aj 2) (mC (.tup [.str "white",.str "figures",.str "fraction",.str "exponent",.str "sign"]))))
    (ba (mC (.bl false)))
    aU))))
noncomputable def iu:ag -> OS:=
    (aM (bI gA
    gz fuel)
    (ba (mC (.bl false))))
noncomputable def dG:List Sl->OI:=fnI 2 4 iu
noncomputable def jh:ag -> OS:=
    (G9 true (oh "Walk" "goes_on" dG [.t 0 eK,.e (aj 3)])
    (dm 2)
    aU)
noncomputable def kA:ag -> OS:=
    (aM (BC 2 3 (aj 1)
    jh)
    (ba (mUn ku (aj 1))))
noncomputable def eZ:List Sl->OI:=fnI 2 4 kA
noncomputable def iw:ag -> OE:=
    (mOp gIn (aj 0) (mC (.tup [.str "white",.str "figures",.str "fraction",.str "exponent",.str "sign"])))
noncomputable def nk:ag -> OS:=
    (ba (mUn xv (oR (sU 0 (pFd 0 eK "coming" nz)) [] iw)))
noncomputable def cF:List Sl->OI:=fnI 1 1 nk
noncomputable def sf:ag -> OS:=
    (dm 2)
noncomputable def xl:ag -> OS:=
    (aM (bu (sY (aE (mOp gEq (aj 2) (mUn ku (aj 0)))) (dS (m9 "Walk" "is_whole" cF [.b 1 eK])))
    (ba (mC .non))
    aU)
    sf)
noncomputable def wF:ag -> OS:=
    (aM (oG 2 (oh "Walk" "take" eZ [.t 1 eK,.e (aj 0)]))
    xl)
noncomputable def Cu:ag -> OS:=
    (aM (tD 1 (w9 "Walk" cG))
    wF)
noncomputable def kH:List PV->OE:=fnP 1 3 Cu
noncomputable def kd:ag -> OS:=
    (aM (aY 1 (aQ kH (ah (aj 0) aI)))
    (bu (aE (mOp nQ (aj 1) (mC .non)))
    el
    aU))
noncomputable def cb:List PV->OE:=fnP 1 2 kd
noncomputable def jI:ag -> OS:=
    (ba (gp (ah (mOp cT (aj 2) (mC (.int 0))) (ah (mOp cT (aj 2) (mC (.int 1))) (ah (mOp cT (aj 2) (mC (.int 2))) (ah (mOp cT (mOp bR (aj 0) (mOp eV (aj 1) (mC (.int 1)))) (mC (.int 3))) aI))))))
noncomputable def jK:ag -> OS:=
    (aM (bu (aE (mOp gNe (mOp cT (aj 2) (mC (.int 0))) (mC (.str "name"))))
    (dm 2)
    aU)
    jI)
noncomputable def kX:ag -> OS:=
    (aM (aY 2 (mOp bR (aj 0) (aj 1)))
    jK)
noncomputable def cX:List PV->OE:=fnP 2 3 kX
noncomputable def eC:ag -> OT:=
    (aE (mOp gNe (mOp bR (aj 0) (aj 2)) (mC (.int 34))))
noncomputable def gw:ag -> OS:=
    (sL 2 eV (jX (aE (mOp gEq (mOp bR (aj 0) (aj 2)) (mC (.int 92)))) (mC (.int 2)) (mC (.int 1))))
noncomputable def qT:ag -> OS:=
    (ba (mOp eV (aj 2) (mC (.int 1))))
noncomputable def qX:ag -> OS:=
    (aM (bI eC
    gw fuel)
    qT)
noncomputable def uA:ag -> OS:=
    (aM (aY 2 (mOp eV (aj 1) (mC (.int 1))))
    qX)
noncomputable def hZ:List PV->OE:=fnP 2 3 uA
noncomputable def cV:ag -> OT:=
    (sY (aE (mOp gLt (aj 2) (mUn ku (aj 0)))) (sY (tL (dS (aQ eN (ah (mOp bR (aj 0) (aj 2)) aI)))) (aE (mOp ke (mOp bR (aj 0) (aj 2)) (gp (ah (mC (.int 44)) (ah (mC (.int 93)) (ah (mC (.int 125)) aI))))))))
noncomputable def jd:ag -> OS:=
    (sL 2 eV (mC (.int 1)))
noncomputable def pB:ag -> OS:=
    (dm 2)
noncomputable def pP:ag -> OS:=
    (aM (bI cV
    jd fuel)
    pB)
noncomputable def tH:ag -> OS:=
    (aM (aY 2 (aj 1))
    pP)
noncomputable def fV:List PV->OE:=fnP 2 3 tH
noncomputable def jk:ag -> OT:=
    (sY (aE (mOp gLt (aj 1) (mUn ku (aj 0)))) (dS (aQ eN (ah (mOp bR (aj 0) (aj 1)) aI))))
noncomputable def zR:ag -> OS:=
    (sL 1 eV (mC (.int 1)))
noncomputable def rV:ag -> OS:=
    (aM (bI jk
    zR fuel)
    (ba (tK (mOp gLt (aj 1) (mUn ku (aj 0))) (mOp gEq (mOp bR (aj 0) (aj 1)) (mC (.int 58))))))
noncomputable def fG:List PV->OE:=fnP 2 2 rV
noncomputable def qD:ag -> OS:=
    (ba (gp (ah (jX (dS (aQ fG (ah (aj 0) (ah (aj 4) aI)))) (mC (.str "name")) (mC (.str "text"))) (ah (aj 1) (ah (aj 4) (ah (mOp eV (aj 2) (mC (.int 1))) aI))))))
noncomputable def qL:ag -> OS:=
    (aM (aY 4 (aQ hZ (ah (aj 0) (ah (aj 1) aI))))
    qD)
noncomputable def rm:ag -> OS:=
    (aM (bu (aE (mOp gNe (aj 3) (mC (.str "text"))))
    (ba (gp (ah (aj 3) (ah (aj 1) (ah (aQ fV (ah (aj 0) (ah (aj 1) aI))) (ah (mOp eV (aj 2) (mC (.int 1))) aI))))))
    aU)
    qL)
noncomputable def yD:ag -> OS:=
    (aM (aY 3 (xB [(34,.str "text"),(91,.str "row"),(102,.str "false"),(110,.str "null"),(116,.str "true"),(123,.str "fields")] (mOp bR (aj 0) (aj 1)) (mC (.str "number"))))
    rm)
noncomputable def jB:List PV->OE:=fnP 3 5 yD
noncomputable def fE:ag -> OT:=
    (aE (mOp gLt (aj 3) (mUn ku (aj 0))))
noncomputable def b5:ag -> OS:=
    (aM (aY 4 (mOp bR (aj 0) (aj 3)))
    (bu (aE (mOp gIn (aj 4) (gp (ah (mC (.int 91)) (ah (mC (.int 123)) aI)))))
    (aM (nY 2 eK (mD (mUn ku (aj 1))))
    (aM (fj 1 (gp (ah (mUn (Cz [(34,.str "text"),(91,.str "row"),(102,.str "false"),(110,.str "null"),(116,.str "true"),(123,.str "fields")]) (aj 4)) (ah (aj 3) aI))))
    (sL 3 eV (mC (.int 1)))))
    (bu (aE (mOp gIn (aj 4) (gp (ah (mC (.int 93)) (ah (mC (.int 125)) aI)))))
    (aM (sL 3 eV (mC (.int 1)))
    (aM (oG 5 (pQ 2 eK))
    (Gp 1 (aj 5) (gp (ah (mOp cT (mOp bR (aj 1) (aj 5)) (mC (.int 0))) (ah (mOp cT (mOp bR (aj 1) (aj 5)) (mC (.int 1))) (ah (aj 3) (ah (mUn ku (aj 1)) aI))))))))
    (bu (C8 (dS (aQ eN (ah (aj 4) aI))) (aE (mOp gIn (aj 4) (gp (ah (mC (.int 44)) (ah (mC (.int 58)) aI))))))
    (sL 3 eV (mC (.int 1)))
    (aM (fj 1 (aQ jB (ah (aj 0) (ah (aj 3) (ah (mUn ku (aj 1)) aI)))))
    (aY 3 (mOp cT (mOp bR (aj 1) (mUn ua (mC (.int 1)))) (mC (.int 2)))))))))
noncomputable def o9:ag -> OE:=
    (aQ cX (ah (aj 0) (ah (aj 1) aI)))
noncomputable def si:ag -> OS:=
    (eD 1 (ba (xK (mUn ku (aj 1)) [1] o9)))
noncomputable def wX:ag -> OS:=
    (aM (bI fE
    b5 fuel)
    si)
noncomputable def xg:ag -> OS:=
    (aM (aY 3 (mC (.int 0)))
    wX)
noncomputable def sd:ag -> OS:=
    (aM (tD 2 (mD (b2 aI)))
    xg)
noncomputable def wM:ag -> OS:=
    (aM (aY 1 (b2 aI))
    sd)
noncomputable def Cn:ag -> OS:=
    (aM (qZ (aQ cb (ah (aj 0) aI)))
    wM)
noncomputable def jc:List PV->OE:=fnP 1 6 Cn
noncomputable def Ac:ag -> OS:=
    (dm 4)
noncomputable def oN:ag -> OS:=
    (aM (eD 4 (bu (aE (mOp nQ (aQ kH (ah (aj 4) aI)) (mC .non)))
    (xQ "TooDeep" (ah (mC (.str "more brackets begun and not ended than may be")) aI))
    aU))
    Ac)
noncomputable def wN:ag -> OS:=
    (aM (aY 4 (mOp gy (mOp gy (rY (aj 0) (mC .non) (gB (aj 1))) (aj 3)) (rY (aj 0) (gB (aj 2)) (mC .non))))
    oN)
noncomputable def fJ:List PV->OE:=fnP 4 5 wN
noncomputable def tu:ag -> OS:=
    (aY 1 (mOp tT (mOp eV (mOp AA (mC (.int 10)) (aj 1)) (aj 2)) (mC (.int 48))))
noncomputable def tM:ag -> OS:=
    (dm 1)
noncomputable def tG:ag -> OS:=
    (aM (B1 2 (aj 0)
    tu)
    tM)
noncomputable def wZ:ag -> OS:=
    (aM (aY 1 (mC (.int 0)))
    tG)
noncomputable def j8:List PV->OE:=fnP 1 3 wZ
noncomputable def mV:ag -> OE:=
    (aQ de (ah (aj 0) aI))
noncomputable def mf:ag -> OS:=
    (ba (aQ j8 (ah (aj 0) aI)))
noncomputable def lR:ag -> OS:=
    (aM (bu (sY (aE (mOp gEq (mOp cT (aj 0) (mC (.int 0))) (mC (.int 48)))) (aE (mOp gGt (mUn ku (aj 0)) (mC (.int 1)))))
    (ba (mC .non))
    aU)
    mf)
noncomputable def qb:ag -> OS:=
    (aM (bu (C8 (tL (dS (aj 0))) (tL (dS (mUn xv (nG (aj 0) [] mV)))))
    (ba (mC .non))
    aU)
    lR)
noncomputable def eO:List PV->OE:=fnP 1 1 qb
noncomputable def fK:ag -> OT:=
    (aE (mOp gLt (aj 3) (mOp cT (mOp bR (aj 0) (aj 1)) (mC (.int 3)))))
noncomputable def j7:ag -> OS:=
    (aM (fj 2 (aj 3))
    (aY 3 (mOp cT (mOp bR (aj 0) (aj 3)) (mC (.int 3)))))
noncomputable def DF:ag -> OS:=
    (dm 2)
noncomputable def xk:ag -> OS:=
    (aM (bu (aE (mOp gIn (mOp cT (mOp bR (aj 0) (aj 1)) (mC (.int 0))) (gp (ah (mC (.str "row")) (ah (mC (.str "fields")) aI)))))
    (aM (aY 3 (mOp eV (aj 1) (mC (.int 1))))
    (bI fK
    j7 fuel))
    aU)
    DF)
noncomputable def Cv:ag -> OS:=
    (aM (aY 2 (b2 aI))
    xk)
noncomputable def jg:List PV->OE:=fnP 2 4 Cv
noncomputable def pK:ag -> OS:=
    el
noncomputable def pO:ag -> OS:=
    (aM el
    pK)
noncomputable def pT:ag -> OS:=
    (aM (bu (aE (mOp gNe (mOp bR (aj 0) (mOp eV (aj 1) (mC (.int 1)))) (mC (.int 117))))
    el
    aU)
    pO)
noncomputable def tB:ag -> OS:=
    (aM (bu (aE (mOp gNe (mOp bR (aj 0) (aj 1)) (mC (.int 92))))
    (ba (mC (.int 1)))
    aU)
    pT)
noncomputable def fX:List PV->OE:=fnP 2 2 tB
noncomputable def nJ:ag -> OS:=
    el
noncomputable def n4:ag -> OS:=
    (aM (bu (aE (mOp gEq (aj 2) (mC (.int 6))))
    el
    aU)
    nJ)
noncomputable def nR:ag -> OS:=
    (aM (bu (aE (mOp gEq (aj 2) (mC (.int 2))))
    el
    aU)
    n4)
noncomputable def qN:ag -> OS:=
    (aM (bu (aE (mOp gEq (aj 2) (mC (.int 1))))
    (ba (mOp bR (aj 0) (aj 1)))
    aU)
    nR)
noncomputable def fz:List PV->OE:=fnP 3 3 qN
noncomputable def jQ:ag -> OT:=
    (aE (mOp gLt (aj 2) (mUn ku (aj 0))))
noncomputable def jM:ag -> OS:=
    (aM (aY 3 (aQ fX (ah (aj 0) (ah (aj 2) aI))))
    (aM (fj 1 (aQ fz (ah (aj 0) (ah (aj 2) (ah (aj 3) aI)))))
    (sL 2 eV (aj 3))))
noncomputable def jR:ag -> OS:=
    (dm 1)
noncomputable def jL:ag -> OS:=
    (aM (bI jQ
    jM fuel)
    jR)
noncomputable def jO:ag -> OS:=
    (aM (aY 2 (mC (.int 0)))
    jL)
noncomputable def kU:ag -> OS:=
    (aM (aY 1 (b2 aI))
    jO)
noncomputable def cZ:List PV->OE:=fnP 1 4 kU
noncomputable def qF:ag -> OS:=
    (aM (bu (C8 (aE (mOp gEq (aj 3) (mUn ku (aj 0)))) (tL (aE (fM gLe gLe (mOp cT (aj 4) (mC (.int 0))) (mOp bR (aj 0) (aj 3)) (mOp cT (aj 4) (mC (.int 1)))))))
    el
    aU)
    (sL 3 eV (mC (.int 1))))
noncomputable def kC:ag -> OS:=
    (dm 3)
noncomputable def kK:ag -> OS:=
    (aM (eD 2 (iQ 4 (aj 2)
    qF))
    kC)
noncomputable def kJ:ag -> OS:=
    (aM (aY 3 (mOp eV (aj 1) (mC (.int 1))))
    kK)
noncomputable def kQ:ag -> OS:=
    (aM (bu (aE (mOp vX (aj 2) (mC .non)))
    el
    aU)
    kJ)
noncomputable def nu:ag -> OS:=
    (aM (aY 2 (aQ fS (ah (mOp bR (aj 0) (aj 1)) aI)))
    kQ)
noncomputable def dQ:List PV->OE:=fnP 2 5 nu
noncomputable def vT:ag -> OS:=
    (aY 3 (mOp tT (mOp eV (mOp AA (aj 3) (mC (.int 64))) (aj 4)) (mC (.int 128))))
noncomputable def pV:ag -> OS:=
    (dm 3)
noncomputable def pE:ag -> OS:=
    (aM (iQ 4 (rY (aj 0) (gB (mOp eV (aj 1) (mC (.int 1)))) (gB (aj 2)))
    vT)
    pV)
noncomputable def tP:ag -> OS:=
    (aM (aY 3 (mOp tT (mOp bR (aj 0) (aj 1)) (mOp cT (mC (.tup ([0,192,224,240].map .int))) (mOp tT (mOp tT (aj 2) (aj 1)) (mC (.int 1))))))
    pE)
noncomputable def gd:List PV->OE:=fnP 3 5 tP
noncomputable def uu:ag -> OT:=
    (aE (mOp gLt (aj 2) (mUn ku (aj 0))))
noncomputable def vD:ag -> OS:=
    (aM (aY 3 (aQ dQ (ah (aj 0) (ah (aj 2) aI))))
    (aM (fj 1 (aQ gd (ah (aj 0) (ah (aj 2) (ah (aj 3) aI)))))
    (aY 2 (aj 3))))
noncomputable def u7:ag -> OS:=
    (dm 1)
noncomputable def vy:ag -> OS:=
    (aM (bI uu
    vD fuel)
    u7)
noncomputable def vd:ag -> OS:=
    (aM (aY 2 (mC (.int 0)))
    vy)
noncomputable def zY:ag -> OS:=
    (aM (aY 1 (b2 aI))
    vd)
noncomputable def ka:List PV->OE:=fnP 1 4 zY
noncomputable def wJ:ag -> OS:=
    (ba (aQ cZ (ah (aQ ka (ah (rY (aj 0) (gB (mOp eV (mOp cT (aj 3) (mC (.int 1))) (mC (.int 1)))) (gB (mOp tT (mOp cT (aj 3) (mC (.int 2))) (mC (.int 1))))) aI)) aI)))
noncomputable def v7:ag -> OS:=
    (aM (bu (aE (mOp ke (mOp cT (aj 3) (mC (.int 0))) (gp (ah (mC (.str "text")) (ah (mC (.str "name")) aI)))))
    el
    aU)
    wJ)
noncomputable def Cr:ag -> OS:=
    (aM (aY 3 (mOp bR (aj 1) (aj 2)))
    v7)
noncomputable def m5:List PV->OE:=fnP 3 4 Cr
noncomputable def u4:ag -> OS:=
    (bu (aE (mOp Jo (aQ m5 (ah (aj 0) (ah (aj 1) (ah (aj 4) aI)))) (mUn qC (aj 3))))
    (ba (mOp eV (aj 4) (mC (.int 1))))
    aU)
noncomputable def zG:ag -> OS:=
    (aM (bu (aE (mOp gEq (mOp cT (mOp bR (aj 1) (aj 2)) (mC (.int 0))) (mC (.str "fields"))))
    (iQ 4 (aQ jg (ah (aj 1) (ah (aj 2) aI)))
    u4)
    aU)
    el)
noncomputable def ki:List PV->OE:=fnP 4 5 zG
noncomputable def zj:ag -> OS:=
    (ba (mOp bR (aj 3) (aj 2)))
noncomputable def zo:ag -> OS:=
    (aM (bu (aE (mOp gEq (mOp cT (mOp bR (aj 0) (aj 1)) (mC (.int 0))) (mC (.str "fields"))))
    (ba (mOp eV (mOp bR (aj 3) (aj 2)) (mC (.int 1))))
    aU)
    zj)
noncomputable def Ae:ag -> OS:=
    (aM (bu (tL (aE (fM gLe gLt (mC (.int 0)) (aj 2) (mUn ku (aj 3)))))
    el
    aU)
    zo)
noncomputable def Eu:ag -> OS:=
    (aM (aY 3 (aQ jg (ah (aj 0) (ah (aj 1) aI))))
    Ae)
noncomputable def qc:List PV->OE:=fnP 3 4 Eu
noncomputable def jE:ag -> OS:=
    el
noncomputable def jD:ag -> OS:=
    (aM (Dj (aM (bu (aE (mOp gEq (mOp cT (mOp bR (aj 1) (aj 2)) (mC (.int 0))) (mC (.str "fields"))))
    (ba (aQ ki (ah (aj 0) (ah (aj 1) (ah (aj 2) (ah (aj 3) aI))))))
    aU)
    (bu (sY (aE (mOp gEq (mOp cT (mOp bR (aj 1) (aj 2)) (mC (.int 0))) (mC (.str "row")))) (aE (mOp nQ (aj 4) (mC .non))))
    (ba (aQ qc (ah (aj 1) (ah (aj 2) (ah (aj 4) aI)))))
    aU)) mJ
    el)
    jE)
noncomputable def kW:ag -> OS:=
    (aM (aY 4 (aQ eO (ah (aj 3) aI)))
    jD)
noncomputable def dD:List PV->OE:=fnP 4 5 kW
noncomputable def iF:ag -> OS:=
    (aY 3 (aQ dD (ah (aj 0) (ah (aj 1) (ah (aj 3) (ah (aj 4) aI))))))
noncomputable def vx:ag -> OS:=
    (dm 3)
noncomputable def om:ag -> OS:=
    (aM (iQ 4 (aj 2)
    iF)
    vx)
noncomputable def rq:ag -> OS:=
    (aM (aY 3 (mC (.int 0)))
    om)
noncomputable def dB:List PV->OE:=fnP 3 5 rq
noncomputable def CG:ag -> OS:=
    (ba (aQ fJ (ah (aj 0) (ah (mOp cT (aj 4) (mC (.int 1))) (ah (mOp cT (aj 4) (mC (.int 2))) (ah (aj 2) aI))))))
noncomputable def BN:ag -> OS:=
    (aM (qZ (aQ cb (ah (aj 2) aI)))
    CG)
noncomputable def Cy:ag -> OS:=
    (aM (eD 3 (aY 4 (mOp bR (aj 3) (aQ dB (ah (aj 0) (ah (aj 3) (ah (aj 1) aI)))))))
    BN)
noncomputable def Hu:ag -> OS:=
    (aM (aY 3 (aQ jc (ah (aj 0) aI)))
    Cy)
noncomputable def qP:List PV->OE:=fnP 3 5 Hu
noncomputable def rW:ag -> OS:=
    (dm 4)
noncomputable def lL:ag -> OS:=
    (aM (bu (aE (mOp gNe (mOp cT (mOp bR (aj 1) (aj 4)) (mC (.int 0))) (aj 3)))
    el
    aU)
    rW)
noncomputable def oB:ag -> OS:=
    (aM (aY 4 (aQ dB (ah (aj 0) (ah (aj 1) (ah (aj 2) aI)))))
    lL)
noncomputable def cC:List PV->OE:=fnP 4 5 oB
noncomputable def tZ:ag -> OE:=
    (gp (ah (mOp cT (mOp bR (aj 0) (aj 1)) (mC (.int 1))) (ah (mOp cT (mOp bR (aj 0) (mOp eV (aj 1) (mC (.int 1)))) (mC (.int 2))) aI)))
noncomputable def tQ:ag -> OE:=
    (gp (ah (mOp cT (mOp bR (aj 0) (aj 1)) (mC (.int 1))) (ah (mOp cT (mOp bR (aj 0) (aj 1)) (mC (.int 2))) aI)))
noncomputable def pU:ag -> OS:=
    (aM (bu (aE (mOp gEq (mOp cT (mOp bR (aj 0) (aj 1)) (mC (.int 0))) (mC (.str "fields"))))
    (ba (oR (aQ jg (ah (aj 0) (ah (aj 1) aI))) [0] tZ))
    aU)
    (ba (oR (aQ jg (ah (aj 0) (ah (aj 1) aI))) [0] tQ)))
noncomputable def eM:List PV->OE:=fnP 2 2 pU
noncomputable def xc:ag -> OS:=
    (ba (aQ fJ (ah (aj 0) (ah (mOp eV (mOp cT (mOp bR (aj 1) (aj 2)) (mC (.int 1))) (mC (.int 1))) (ah (mOp eV (mOp cT (mOp bR (aj 1) (aj 2)) (mC (.int 1))) (mC (.int 1))) (ah (aj 3) aI))))))
noncomputable def wG:ag -> OS:=
    (aM (bu (dS (aj 4))
    (ba (aQ fJ (ah (aj 0) (ah (mOp cT (mOp bR (aj 4) (mUn ua (mC (.int 1)))) (mC (.int 1))) (ah (mOp cT (mOp bR (aj 4) (mUn ua (mC (.int 1)))) (mC (.int 1))) (ah (mOp gy (b2 (ah (mC (.int 44)) aI)) (aj 3)) aI))))))
    aU)
    xc)
noncomputable def CD:ag -> OS:=
    (aM (aY 4 (aQ eM (ah (aj 1) (ah (aj 2) aI))))
    wG)
noncomputable def jY:List PV->OE:=fnP 4 5 CD
noncomputable def Cs:ag -> OS:=
    (eD 3 (ba (aQ jY (ah (aj 0) (ah (aj 3) (ah (aj 4) (ah (aj 2) aI)))))))
noncomputable def B8:ag -> OS:=
    (aM (qZ (aQ cb (ah (aj 2) aI)))
    Cs)
noncomputable def CI:ag -> OS:=
    (aM (eD 3 (aY 4 (aQ cC (ah (aj 0) (ah (aj 3) (ah (aj 1) (ah (mC (.str "row")) aI)))))))
    B8)
noncomputable def HP:ag -> OS:=
    (aM (aY 3 (aQ jc (ah (aj 0) aI)))
    CI)
noncomputable def qO:List PV->OE:=fnP 3 5 HP
noncomputable def vA:ag -> OS:=
    (ba (Jt (fM gLe gLt (mC (.int 0)) (aj 0) (mC (.int 55296))) (fM gLt gLe (mC (.int 57343)) (aj 0) (mC (.int 1114111)))))
noncomputable def g9:List PV->OE:=fnP 1 1 vA
noncomputable def wq:ag -> OS:=
    el
noncomputable def wd:ag -> OS:=
    (aM (bu (aE (mOp gLt (aj 0) (mC (.int 65536))))
    el
    aU)
    wq)
noncomputable def wH:ag -> OS:=
    (aM (bu (aE (mOp gLt (aj 0) (mC (.int 2048))))
    el
    aU)
    wd)
noncomputable def wb:ag -> OS:=
    (aM (bu (aE (mOp gLt (aj 0) (mC (.int 128))))
    (ba (b2 (ah (aj 0) aI)))
    aU)
    wH)
noncomputable def Cg:ag -> OS:=
    (aM (bu (tL (dS (aQ g9 (ah (aj 0) aI))))
    el
    aU)
    wb)
noncomputable def mq:List PV->OE:=fnP 1 1 Cg
noncomputable def pS:ag -> OS:=
    (dm 1)
noncomputable def pN:ag -> OS:=
    (aM (bu (aE (mOp gLt (aj 0) (mC (.int 32))))
    el
    aU)
    pS)
noncomputable def pL:ag -> OS:=
    (aM (bu (aE (mUn (FA [(8,.int 98),(9,.int 116),(10,.int 110),(12,.int 102),(13,.int 114),(34,.int 34),(92,.int 92)]) (aj 0)))
    el
    aU)
    pN)
noncomputable def tF:ag -> OS:=
    (aM (aY 1 (aQ mq (ah (aj 0) aI)))
    pL)
noncomputable def fZ:List PV->OE:=fnP 1 2 tF
noncomputable def zx:ag -> OS:=
    (qR 1 (aQ fZ (ah (aj 2) aI)))
noncomputable def zK:ag -> OS:=
    (dm 1)
noncomputable def zr:ag -> OS:=
    (aM (fj 1 (mC (.int 34)))
    zK)
noncomputable def An:ag -> OS:=
    (aM (iQ 2 (aj 0)
    zx)
    zr)
noncomputable def EJ:ag -> OS:=
    (aM (aY 1 (b2 (ah (mC (.int 34)) aI)))
    An)
noncomputable def mG:List PV->OE:=fnP 1 3 EJ
noncomputable def nM:ag -> OS:=
    (eD 4 (ba (aQ jY (ah (aj 0) (ah (aj 4) (ah (aj 5) (ah (mOp gy (mOp gy (aQ mG (ah (aj 2) aI)) (b2 (ah (mC (.int 58)) aI))) (aj 3)) aI)))))))
noncomputable def ox:ag -> OS:=
    (aM (qZ (aQ cb (ah (aj 3) aI)))
    nM)
noncomputable def nK:ag -> OS:=
    (aM (eD 4 (aY 5 (aQ cC (ah (aj 0) (ah (aj 4) (ah (aj 1) (ah (mC (.str "fields")) aI)))))))
    ox)
noncomputable def rf:ag -> OS:=
    (aM (aY 4 (aQ jc (ah (aj 0) aI)))
    nK)
noncomputable def da:List PV->OE:=fnP 4 6 rf
noncomputable def rA:ag -> OS:=
    (dm 4)
noncomputable def iN:ag -> OS:=
    (aM (p0 5 (bu (aE (mOp gEq (aj 0) (mC (.int 0))))
    (aY 4 (aQ qP (ah (aj 1) (ah (aj 2) (ah (aj 3) aI)))))
    (bu (aE (mOp gEq (aj 0) (mC (.int 1))))
    (aY 4 (aQ qO (ah (aj 1) (ah (aj 2) (ah (aj 3) aI)))))
    (aY 4 (aQ da (ah (aj 1) (ah (aj 2) (ah (b2 (ah (mC (.int 98)) aI)) (ah (aj 3) aI)))))))) eS
    (aY 4 (jX (dS (DD 5 fun c=>c == "TooDeep")) (mUn ua (mC (.int 1))) (mUn ua (mC (.int 2))))))
    rA)
noncomputable def vF:ag -> OS:=
    (aM (aY 4 (b2 aI))
    iN)
noncomputable def dv:List PV->OE:=fnP 4 6 vF
noncomputable def tN:ag -> OS:=
    (ba (tK (mIs "int" (aj 0)) (DZ (mIs "bool" (aj 0)))))
noncomputable def gf:List PV->OE:=fnP 1 1 tN
noncomputable def iq:ag -> OE:=
    (aQ gf (ah (aj 0) aI))
noncomputable def qQ:ag -> OS:=
    (ba (tK (mIs "list" (aj 0)) (mUn xv (oR (aj 0) [] iq))))
noncomputable def fi:List PV->OE:=fnP 1 1 qQ
noncomputable def xJ:ag -> OE:=
    (aj 0)
noncomputable def ub:ag -> OT:=
    (aE (mOp gIn (aj 0) (gp (ah (mC (.int 91)) (ah (mC (.int 123)) aI)))))
noncomputable def yj:ag -> OE:=
    (mOp bR (b2 (ah (gp (ah (mC (.int 48)) aI)) (ah (gp (ah (mC (.int 97)) aI)) aI))) (aj 0))
noncomputable def rF:ag -> OS:=
    (aY 9 (mOp eV (aj 9) (mOp bR (b2 (ah (mC (.int 1)) (ah (mC (.int 5)) aI))) (aj 10))))
noncomputable def y4:ag -> OS:=
    (ba (tK (aQ fi (ah (aj 13) aI)) (mOp zD (aj 13) (mOp gy (mOp gy (aj 11) (aj 2)) (aj 12)))))
noncomputable def yW:ag -> OS:=
    (aM (bu (aE (mOp gGt (aj 8) (mC (.int 64))))
    (ba (mOp zD (aj 13) (mUn ua (mC (.int 1)))))
    aU)
    y4)
noncomputable def Al:ag -> OS:=
    (aM (eD 2 (eD 7 (eD 5 (aY 13 (aQ dv (ah (aj 3) (ah (aj 5) (ah (aj 7) (ah (aj 2) aI)))))))))
    yW)
noncomputable def Ar:ag -> OS:=
    (aM (bu (aE (mOp gEq (aj 3) (mC (.int 2))))
    (aY 11 (mOp gy (aj 11) (b2 (ah (mC (.int 34)) (ah (mC (.int 98)) (ah (mC (.int 34)) (ah (mC (.int 58)) aI)))))))
    aU)
    Al)
noncomputable def zm:ag -> OS:=
    (aM (aY 12 (rY (aj 5) (gB (mOp eV (aj 9) (mC (.int 1)))) (mC .non)))
    Ar)
noncomputable def y6:ag -> OS:=
    (aM (aY 11 (rY (aj 5) (mC .non) (gB (mOp eV (aj 9) (mUn yY (mOp gGt (aj 3) (mC (.int 0))))))))
    zm)
noncomputable def Cp:ag -> OS:=
    (aM (eD 1 (iQ 10 (aj 1)
    rF))
    y6)
noncomputable def BX:ag -> OS:=
    (aM (aY 9 (mC (.int 0)))
    Cp)
noncomputable def BL:ag -> OS:=
    (aM (aY 8 (mOp eV (mOp eV (mUn ku (aj 1)) (mUn yY (mOp gGt (aj 3) (mC (.int 0))))) (aj 6)))
    BX)
noncomputable def CC:ag -> OS:=
    (aM (aY 7 (oR (aj 1) [] yj))
    BL)
noncomputable def ud:ag -> OS:=
    (aM (aY 6 (mUn ku (n8 (aj 2) [] ub xJ)))
    CC)
noncomputable def B3:ag -> OS:=
    (aM (eD 1 (aY 5 (aQ ef (ah (aj 1) (ah (aj 4) aI)))))
    ud)
noncomputable def xV:ag -> OS:=
    (aM (aY 4 (mOp bR (b2 (ah (b2 (ah (mC (.int 49)) aI)) (ah (b2 (ah (mC (.int 91)) (ah (mC (.int 93)) aI))) (ah (b2 (ah (mC (.int 123)) (ah (mC (.int 125)) aI))) aI)))) (aj 3)))
    B3)
noncomputable def Cw:ag -> OS:=
    (aM (aY 3 (mOp uI (aQ fI (ah (aj 0) (ah (mC (.int 4)) aI))) (mC (.int 3))))
    xV)
noncomputable def Cf:ag -> OS:=
    (aM (aY 2 (aQ ef (ah (aQ fb (ah (aj 0) (ah (mC (.int 2)) (ah (mOp eV (mC (.int 22)) (mOp uI (aQ fI (ah (aj 0) (ah (mC (.int 3)) aI))) (mC (.int 15)))) aI)))) (ah (b2 (ah (mC (.int 49)) aI)) aI))))
    Cw)
noncomputable def Hv:ag -> OS:=
    (aM (aY 1 (aQ fb (ah (aj 0) (ah (mC (.int 0)) (ah (mOp eV (mC (.int 30)) (mOp uI (aQ fI (ah (aj 0) (ah (mC (.int 1)) aI))) (mC (.int 11)))) aI)))))
    Cf)
noncomputable def wV:List PV->OE:=fnP 1 14 Hv
theorem mS(ns:List Int)(k:Int):gZ [.lst (ns.map .int),.int k]=.ok (.sh (.int (PG.cell ns k))):=by
 unfold gZ uT PG.cell
 cases ns with
 |nil=>simp
 | cons n r=>
   have hp:(0:Int)<(r.length:Int)+1:=by omega
   have hm:0<=k%((r.length:Int)+1):=Int.emod_nonneg _ (by omega)
   have hm2:k%((r.length:Int)+1)<(r.length:Int)+1:=Int.emod_lt_of_pos _ hp
   have hi:(k%((r.length:Int)+1)).toNat<(n ::r).length:=by rw[List.length_cons];omega
   have ha:atP (PV.int n ::r.map .int) (k%((r.length:Int)+1))=some (.int ((n ::r).getD (k%((r.length:Int)+1)).toNat 0)):=by
    rw[Kg _ _ hm]
    have:(PV.int n ::r.map .int)=(n ::r).map .int:=rfl
    rw[this,List.getElem?_map,List.getElem?_eq_getElem hi,List.getD_eq_getElem?_getD,List.getElem?_eq_getElem hi];rfl
   simp[hp,ha]
theorem fH(ns:List Int)(k:Int):fI [.lst (ns.map .int),.int k]=.ok (.sh (.int (PG.mix ns k))):=by
 unfold PG.mix;simp[tO,sZ,v9,fI,mS]
theorem kB(n:Int):gf [.int n]=.ok (.sh (.bl true)):=by
 unfold gf tN;simp
theorem cf(b:Int):eN [.int b]=.ok (.sh (.bl (wht b))):=by
 simp -implicitDefEqProofs [vk,eN,gIn,ir,cU,dW,wht];simp[Bool.beq_eq_decide_eq]
theorem eJ(b:Int):de [.int b]=.ok (.sh (.bl (fig b))):=by
 by_cases h:48<=b<;>simp -implicitDefEqProofs [nP,de,fig,h]
theorem ie(b:Int):fc [.int b]=.ok (.sh (match eQ b with|some w=>.int w|none=>.non)):=by
 unfold eQ
 by_cases h1:48<=b<;>by_cases h2:b<=57<;>by_cases h3:65<=b<;>by_cases h4:b<=70<;>by_cases h5:97<=b<;>by_cases h6:b<=102<;>first|omega|simp -implicitDefEqProofs [pR,pG,pM,tm,fc,eJ,fig,h1,h2,h3,h4,h5,h6]
theorem DH(b:Int):fS [.int b]=.ok (match tls b with|some l=>.fr (l.map bp)|none=>.sh .non):=by
 have h3:cA [.int b]=.ok (.sh (bp (if b=224 then .sp 160 191 else if b=237 then .sp 128 159 else .sp 128 191))):=by
  by_cases h1:b=224
  . simp[gD,gH,ik,cA,h1,bp]
  . by_cases h2:b=237<;>simp[gD,gH,ik,cA,h1,h2,bp]
 have h4:cP [.int b]=.ok (.sh (bp (if b=240 then .sp 144 191 else if b=244 then .sp 128 143 else .sp 128 191))):=by
  by_cases h1:b=240
  . simp[hJ,gW,iX,cP,h1,bp]
  . by_cases h2:b=244<;>simp[hJ,gW,iX,cP,h1,h2,bp]
 unfold tls
 by_cases h0:0<=b /\ b<128
 . simp[i9,iY,i5,i6,mj,fS,h0.1,h0.2]
 . by_cases ha:194<=b /\ b<224
   . have:¬ b<128:=by omega
     have z:0<=b:=by omega
     simp[i9,iY,i5,i6,mj,fS,ha.1,ha.2,z,this,bp]
   . by_cases hb:224<=b /\ b<240
     . have z1:¬ b<128:=by omega
       have z2:¬ b<224:=by omega
       have z:0<=b:=by omega
       have z3:194<=b:=by omega
       simp[i9,iY,i5,i6,mj,fS,hb.1,hb.2,z,z1,z2,z3,h3];simp[bp]
     . by_cases hc:240<=b /\ b<245
       . have z1:¬ b<128:=by omega
         have z2:¬ b<224:=by omega
         have z:0<=b:=by omega
         have z3:194<=b:=by omega
         have z4:224<=b:=by omega
         have z5:¬ b<240:=by omega
         simp[i9,iY,i5,i6,mj,fS,hc.1,hc.2,z,z1,z2,z3,z4,z5,h4];simp[bp]
       . simp only[h0,ha,hb,hc,if_false]
         by_cases g0:0<=b<;>by_cases g1:b<128<;>by_cases g2:194<=b<;>by_cases g3:b<224<;>by_cases g4:224<=b<;>by_cases g5:b<240<;>by_cases g6:240<=b<;>by_cases g7:b<245<;>first|omega|simp[i9,iY,i5,i6,mj,fS,g0,g1,g2,g3,g4,g5,g6,g7]
noncomputable def rI:Option (List PG.It)->RV
 |some l=>.fr (l.map bp)
 |none=>.sh .non
theorem fL(b:Int):dA [.int b]=.ok (rI (m8 b)):=by
 unfold m8
 by_cases h0:b=48
 . simp[jz,jy,lp,dA,h0,rI,bp]
 . by_cases h1:48<=b<;>by_cases h2:b<=57<;>simp[jz,jy,lp,dA,h0,h1,h2,eJ,fig,rI,bp]
theorem eU(b:Int):bB [.int b]=.ok (rI (nL b)):=by
 unfold nL
 by_cases h1:b=91
 . simp[cq,ck,cv,cw,cu,cn,cp,dc,bB,h1,rI,bp]
 by_cases h2:b=123
 . simp[cq,ck,cv,cw,cu,cn,cp,dc,bB,h2,rI,bp]
 by_cases h3:b=34
 . simp[cq,ck,cv,cw,cu,cn,cp,dc,bB,h3,rI,bp]
 by_cases h4:b=45
 . simp[cq,ck,cv,cw,cu,cn,cp,dc,bB,h4,rI,bp]
 by_cases h5:b=110
 . simp[cq,ck,cv,cw,cu,cn,cp,dc,bB,h5,rI,bp,jn,eE,gc,bW,nG,cR,df,List.lookup]
 by_cases h6:b=116
 . simp[cq,ck,cv,cw,cu,cn,cp,dc,bB,h6,rI,bp,jn,eE,gc,bW,nG,cR,df,List.lookup]
 by_cases h7:b=102
 . simp[cq,ck,cv,cw,cu,cn,cp,dc,bB,h7,rI,bp,jn,eE,gc,bW,nG,cR,df,List.lookup]
 have z5:(b==110)=false:=by simpa using h5
 have z6:(b==116)=false:=by simpa using h6
 have z7:(b==102)=false:=by simpa using h7
 simp[cq,ck,cv,cw,cu,cn,cp,dc,bB,h1,h2,h3,h4,h5,h6,h7,z5,z6,z7,jn,eE,gc,bW,List.lookup,fL]
 cases m8 b<;>simp[rI]
theorem cW:dU []=.ok (.fr (jT.map bp)):=by
 simp[pH,dU,jT,bp]
theorem lM(it:PG.It)(b:Int)(h:it=.lead \/ it=.figures \/ it=.fraction \/ it=.exponent \/ it=.sign):aV [bp it,.int b]=.ok (rI (bh it b)):=by
 rcases h with rfl|rfl|rfl|rfl|rfl
 . simp[bt,bw,bq,br,bK,aV,bp,gEq,eqS,aH,fL]
   cases e:m8 b<;>simp[bh,rI,e]
 . by_cases h1:48<=b<;>by_cases h2:b<=57<;>simp[bt,bw,bq,br,bK,aV,bp,gEq,eqS,aH,eJ,fig,bh,rI,h1,h2]
 . by_cases h1:b=46<;>simp[bt,bw,bq,br,bK,aV,bp,gEq,eqS,aH,bh,rI,h1]
 . by_cases h1:b=101
   . simp[bt,bw,bq,br,bK,aV,bp,gEq,eqS,aH,bh,rI,h1,gIn,ir,cU,dW]
   . by_cases h2:b=69
     . simp[bt,bw,bq,br,bK,aV,bp,gEq,eqS,aH,bh,rI,h2,gIn,ir,cU,dW]
     . have z1:¬ 101=b:=fun z=>h1 z.symm
       have z2:¬ 69=b:=fun z=>h2 z.symm
       simp[bt,bw,bq,br,bK,aV,bp,gEq,eqS,aH,bh,rI,h1,h2,z1,z2,gIn,ir,cU,dW]
 . by_cases h1:b=43
   . simp[bt,bw,bq,br,bK,aV,bp,gEq,eqS,aH,bh,rI,h1,gIn,ir,cU,dW]
   . by_cases h2:b=45
     . simp[bt,bw,bq,br,bK,aV,bp,gEq,eqS,aH,bh,rI,h2,gIn,ir,cU,dW]
     . have z1:¬ 43=b:=fun z=>h1 z.symm
       have z2:¬ 45=b:=fun z=>h2 z.symm
       simp[bt,bw,bq,br,bK,aV,bp,gEq,eqS,aH,bh,rI,h1,h2,z1,z2,gIn,ir,cU,dW]
theorem iE(b:Int):∃ x,bA [.int b]=.ok (.sh x) /\ bW x=!yx b:=by
 unfold yx
 by_cases h1:b=34
 . exact⟨.int 34,by simp[cE,bA,gc,List.lookup,h1],by simp[bW,h1]⟩
 by_cases h2:b=92
 . exact⟨.int 92,by simp[cE,bA,gc,List.lookup,h2],by simp[bW,h2]⟩
 by_cases h3:b=47
 . exact⟨.int 47,by simp[cE,bA,gc,List.lookup,h3],by simp[bW,h3]⟩
 by_cases h4:b=98
 . exact⟨.int 8,by simp[cE,bA,gc,List.lookup,h4],by simp[bW,h4]⟩
 by_cases h5:b=102
 . exact⟨.int 12,by simp[cE,bA,gc,List.lookup,h5],by simp[bW,h5]⟩
 by_cases h6:b=110
 . exact⟨.int 10,by simp[cE,bA,gc,List.lookup,h6],by simp[bW,h6]⟩
 by_cases h7:b=114
 . exact⟨.int 13,by simp[cE,bA,gc,List.lookup,h7],by simp[bW,h7]⟩
 by_cases h8:b=116
 . exact⟨.int 9,by simp[cE,bA,gc,List.lookup,h8],by simp[bW,h8]⟩
 have zz:∀ k:Int,¬ b=k->(b==k)=false:=fun k h=>by simpa using h
 exact⟨.non,by simp[cE,bA,gc,List.lookup,zz _ h1,zz _ h2,zz _ h3,zz _ h4,zz _ h5,zz _ h6,zz _ h7,zz _ h8],by simp[bW,h1,h2,h3,h4,h5,h6,h7,h8]⟩
theorem fo(b:Int):cg [.int b]=.ok (rI (En b)):=by
 obtain⟨x,hx,hn⟩:=iE b;unfold En
 by_cases h1:b=117
 . simp[hV,cg,h1,rI,bp]
 . cases hs:yx b<;>rw[hs]at hn<;>simp at hn<;>simp[hV,cg,h1,hx,hn,rI]
theorem GQ(b:Int)(l:List PG.It)(h:tls b=some l):l.length<=3:=by
 unfold tls at h
 repeat' split at h
 all_goals(first|(cases h;done)|(injection h with h;subst h;simp))
theorem fh(b:Int):bJ [.int b]=.ok (rI (sT b)):=by
 have ht:=DH b;unfold sT
 by_cases h1:b=34
 . simp[dI,dF,dJ,dH,dZ,bJ,h1,rI]
 by_cases h2:b=92
 . simp[dI,dF,dJ,dH,dZ,bJ,h2,rI,bp]
 cases e:tls b with
 | none=>
   rw[e]at ht
   by_cases h3:b<32<;>simp[dI,dF,dJ,dH,dZ,bJ,h1,h2,h3,rI,ht,bW]
 | some l=>
   rw[e]at ht
   have hl:l.length+1<=lim:=cx (by have:=GQ b l e;omega)
   by_cases h3:b<32<;>simp[dI,dF,dJ,dH,dZ,bJ,h1,h2,h3,rI,ht,bW,hl,bp]
theorem gP(w:Int):dg [.int w]=.ok (rI (AL w)):=by
 unfold AL
 by_cases h1:w<8
 . simp[iA,iM,ju,dg,h1,rI,bp]
 . by_cases h2:w<12<;>simp[iA,iM,ju,dg,h1,h2,rI,bp]
theorem ui(it:PG.It)(b:Int)(h:it=.text \/ it=.escape \/ it=.code \/ it=.coded):bx [bp it,.int b]=.ok (rI (bh it b)):=by
 have hw:=ie b
 rcases h with rfl|rfl|rfl|rfl
 . simp[cL,cI,cK,cJ,cN,dw,bx,bp,gEq,eqS,aH,fh]
   cases e:sT b<;>simp[bh,rI,e]
 . simp[cL,cI,cK,cJ,cN,dw,bx,bp,gEq,eqS,aH,fo]
   cases e:En b<;>simp[bh,rI,e]
 . cases e:eQ b with
   | none=>
     rw[e]at hw;simp[cL,cI,cK,cJ,cN,dw,bx,bp,gEq,eqS,aH,hw,bW,bh,e,rI]
   | some w=>
     rw[e]at hw
     by_cases h13:w=13<;>simp[cL,cI,cK,cJ,cN,dw,bx,bp,gEq,eqS,aH,hw,bW,bh,e,rI,h13]
 . cases e:eQ b with
   | none=>
     rw[e]at hw;simp[cL,cI,cK,cJ,cN,dw,bx,bp,gEq,eqS,aH,hw,bW,bh,e,rI]
   | some w=>
     rw[e]at hw;simp[cL,cI,cK,cJ,cN,dw,bx,bp,gEq,eqS,aH,hw,bW,bh,e,gP]
     cases e2:AL w<;>simp[rI]
theorem AG(it:PG.It)(b:Int)(h:it=.hex \/ it=.hexd \/ it=.hexcf):cY [bp it,.int b]=.ok (rI (bh it b)):=by
 have hw:=ie b
 cases e:eQ b with
 | none=>
   rw[e]at hw
   rcases h with rfl|rfl|rfl<;>simp[gg,gv,gk,gi,iL,cY,bp,gEq,eqS,aH,hw,bW,bh,e,rI]
 | some w=>
   rw[e]at hw
   rcases h with rfl|rfl|rfl
   . simp[gg,gv,gk,gi,iL,cY,bp,gEq,eqS,aH,hw,bW,bh,e,rI]
   . by_cases h13:w=13<;>simp[gg,gv,gk,gi,iL,cY,bp,gEq,eqS,aH,hw,bW,bh,e,rI,h13]
   . by_cases h13:12<=w<;>simp[gg,gv,gk,gi,iL,cY,bp,gEq,eqS,aH,hw,bW,bh,e,rI,h13]
theorem Dl(b:Int)(l:List PG.It)(h:nL b=some l):l.length<=5:=by
 unfold nL m8 at h
 repeat' split at h
 all_goals(first|(cases h;done)|(injection h with h;subst h;decide))
theorem fg(b:Int):bY [.int b]=.ok (rI (bh .row b)):=by
 have hv:=eU b
 by_cases h1:b=93
 . simp[eB,eI,fw,bY,h1,rI,bh]
 cases e:nL b with
 |none=>rw[e]at hv;simp[eB,eI,fw,bY,h1,hv,rI,bh,e,bW]
 | some l=>
   rw[e]at hv
   have hl:l.length+2<=lim:=cx (by have:=Dl b l e;omega)
   simp[eB,eI,fw,bY,h1,hv,rI,bh,e,bW,bp,hl]
theorem eA(b:Int):bP [.int b]=.ok (rI (bh .fields b)):=by
 by_cases h1:b=125
 . simp[fP,bP,h1,rI,bh]
 by_cases h2:b=34<;>simp[fP,bP,h1,h2,rI,bh,cW,jT,bp]
theorem kE(it:PG.It)(b:Int)(h:it=.row \/ it=.mrow \/ it=.fields \/ it=.mfields):aZ [bp it,.int b]=.ok (rI (bh it b)):=by
 rcases h with rfl|rfl|rfl|rfl
 . simp[bZ,bX,bV,b0,b8,aZ,bp,gEq,eqS,aH,fg]
   cases e:bh .row b<;>simp[rI]
 . by_cases h1:b=44
   . simp[bZ,bX,bV,b0,b8,aZ,bp,gEq,eqS,aH,h1,bh,rI]
   . by_cases h2:b=93<;>simp[bZ,bX,bV,b0,b8,aZ,bp,gEq,eqS,aH,h1,h2,bh,rI]
 . simp[bZ,bX,bV,b0,b8,aZ,bp,gEq,eqS,aH,eA]
   cases e:bh .fields b<;>simp[rI]
 . by_cases h1:b=44
   . simp[bZ,bX,bV,b0,b8,aZ,bp,gEq,eqS,aH,h1,bh,rI,cW,jT]
   . by_cases h2:b=125<;>simp[bZ,bX,bV,b0,b8,aZ,bp,gEq,eqS,aH,h1,h2,bh,rI]
theorem xf(o:Option (List PG.It))(xs:List PV):rI o≠.al xs:=by cases o<;>simp[rI]
theorem bU{x:PV}{b:Int}{ρ:ag}{o:Option (List PG.It)}(h:uW [some (.sh x),some (.sh (.int b))]=.rt ρ (rI o)):jm [x,.int b]=.ok (rI o):=Eq.trans (congrArg fin h) (Kh (xf o))
theorem qS(it:PG.It)(b:Int):jm [bp it,.int b]=.ok (rI (bh it b)):=by
 have t1:∀ it:PG.It,aV [bp it,.int b]=.ok (rI (bh it b))->_:=fun it h=>oU h (xf _)
 have t2:∀ it:PG.It,bx [bp it,.int b]=.ok (rI (bh it b))->_:=fun it h=>oU h (xf _)
 have t3:∀ it:PG.It,cY [bp it,.int b]=.ok (rI (bh it b))->_:=fun it h=>oU h (xf _)
 have t4:∀ it:PG.It,aZ [bp it,.int b]=.ok (rI (bh it b))->_:=fun it h=>oU h (xf _)
 cases it with
 |sp lo hi=>by_cases h1:lo<=b<;>by_cases h2:b<=hi<;>simp[u1,vj,vK,uE,uR,vv,ux,uW,jm,bp,isP,h1,h2,bh,rI]
 |white=>exact bU (ρ:=[some (.sh (bp .white)),some (.sh (.int b))]) ((sk (by rfl)).trans ((sk (by rfl)).trans ((sk (by rfl)).trans ((sk (by rfl)).trans ((sk (by rfl)).trans (st (by rfl) (by cases h:wht b<;>simp[jX,cf,h,bh,rI,bp])))))))
 |name=>exact bU (ρ:=[some (.sh (bp .name)),some (.sh (.int b))]) ((sk (by rfl)).trans ((sk (by rfl)).trans ((sk (by rfl)).trans ((sk (by rfl)).trans ((sk (by rfl)).trans ((sk (by rfl)).trans (st (by rfl) (by by_cases h:b=34<;>simp[jX,h,bh,rI,bp]))))))))
 |value=>exact bU ((sk (by rfl)).trans ((sk (by rfl)).trans ((sk (by rfl)).trans ((sk (by rfl)).trans ((sk (by rfl)).trans ((sk (by rfl)).trans ((sk (by rfl)).trans (CY (eU b) (xf _)))))))))
 |lead=>exact bU ((sk (by rfl)).trans (st (by rfl) (t1 .lead (lM _ b (by simp)))))
 |figures=>exact bU ((sk (by rfl)).trans (st (by rfl) (t1 .figures (lM _ b (by simp)))))
 |fraction=>exact bU ((sk (by rfl)).trans (st (by rfl) (t1 .fraction (lM _ b (by simp)))))
 |exponent=>exact bU ((sk (by rfl)).trans (st (by rfl) (t1 .exponent (lM _ b (by simp)))))
 |sign=>exact bU ((sk (by rfl)).trans (st (by rfl) (t1 .sign (lM _ b (by simp)))))
 |text=>exact bU ((sk (by rfl)).trans ((sk (by rfl)).trans (st (by rfl) (t2 .text (ui _ b (by simp))))))
 |escape=>exact bU ((sk (by rfl)).trans ((sk (by rfl)).trans (st (by rfl) (t2 .escape (ui _ b (by simp))))))
 |code=>exact bU ((sk (by rfl)).trans ((sk (by rfl)).trans (st (by rfl) (t2 .code (ui _ b (by simp))))))
 |coded=>exact bU ((sk (by rfl)).trans ((sk (by rfl)).trans (st (by rfl) (t2 .coded (ui _ b (by simp))))))
 |hex=>exact bU ((sk (by rfl)).trans ((sk (by rfl)).trans ((sk (by rfl)).trans (st (by rfl) (t3 .hex (AG _ b (by simp)))))))
 |hexd=>exact bU ((sk (by rfl)).trans ((sk (by rfl)).trans ((sk (by rfl)).trans (st (by rfl) (t3 .hexd (AG _ b (by simp)))))))
 |hexcf=>exact bU ((sk (by rfl)).trans ((sk (by rfl)).trans ((sk (by rfl)).trans (st (by rfl) (t3 .hexcf (AG _ b (by simp)))))))
 |row=>exact bU ((sk (by rfl)).trans ((sk (by rfl)).trans ((sk (by rfl)).trans ((sk (by rfl)).trans (st (by rfl) (t4 .row (kE _ b (by simp))))))))
 |mrow=>exact bU ((sk (by rfl)).trans ((sk (by rfl)).trans ((sk (by rfl)).trans ((sk (by rfl)).trans (st (by rfl) (t4 .mrow (kE _ b (by simp))))))))
 |fields=>exact bU ((sk (by rfl)).trans ((sk (by rfl)).trans ((sk (by rfl)).trans ((sk (by rfl)).trans (st (by rfl) (t4 .fields (kE _ b (by simp))))))))
 |mfields=>exact bU ((sk (by rfl)).trans ((sk (by rfl)).trans ((sk (by rfl)).trans ((sk (by rfl)).trans (st (by rfl) (t4 .mfields (kE _ b (by simp))))))))
noncomputable abbrev cm(st:List PG.It):List PV:=st.reverse.map bp
theorem zc(st:List PG.It):PG.wk st=.ob "Walk" ["coming"] [.ol ((cm st).map .sh)]:=rfl
theorem AN(st:List PG.It):(PG.wk st).get [.fd "coming"]=some (.ol ((cm st).map .sh)):=by
 simp[zc,OV.get,OV.at1,nN]
theorem Fg(st:List PG.It)(t:OV):(PG.wk st).put [.fd "coming"] t=.ob "Walk" ["coming"] [t]:=by
 simp[zc,OV.put,OV.at1,OV.EM,nN,vO]
theorem AQ{ρ:ag}{i:Nat}{s:Sl}{st:List PG.It}(h:ρ[i]?=some (some s))(hs:slT s=some (PG.wk st)):subAt i eK ρ=some (PG.wk st):=by
 unfold subAt kh eK;rw[h];simp[hs]
theorem A0{ρ:ag}{i:Nat}{s:Sl}{st:List PG.It}(h:ρ[i]?=some (some s))(hs:slT s=some (PG.wk st)):pFd i eK "coming" nz ρ=some [.fd "coming"]:=by
 unfold pFd;rw[AQ h hs,zc];simp[nz,nN,eK]
theorem xY{ρ:ag}{i:Nat}{s:Sl}{st:List PG.It}(h:ρ[i]?=some (some s))(hs:slT s=some (PG.wk st)):subAt i (pFd i eK "coming" nz) ρ=some (.ol ((cm st).map .sh)):=by
 unfold subAt kh;rw[h,A0 h hs];simp[hs,AN]
theorem LU(it:PG.It):fT [some (.sh (bp it))]=.ok (opn it):=by
 cases it<;>simp -implicitDefEqProofs [fT,bp,gIn,ir,cU,opn,dW]
theorem Dy(l:List PG.It):fB fT iz [] (l.map bp)=.ok ((l.filter opn).map bp):=by
 induction l with
 |nil=>rfl
 | cons it l ih=>
   rw[List.map_cons];unfold fB;have h:=LU it
   have he:iz [some (.sh (bp it))]=.ok (.sh (bp it)):=rfl
   cases e:opn it<;>rw[e]at h<;>simp[h,ih,e,he]
theorem Be(st:List PG.It)(hl:st.length<=100000):cj [.bo (PG.wk st)]=.ok (.int (PG.cnt st)) [none]:=by
 have hp:sU 0 (pFd 0 eK "coming" nz) [some (.bo (PG.wk st))]=.ok (.al (cm st)):=by
  unfold sU;rw[xY (s:=.bo (PG.wk st)) rfl rfl];simp only[wc]
 have hc:(st.reverse.filter opn).length=PG.cnt st:=by unfold PG.cnt;rw[List.filter_reverse,List.length_reverse]
 have hn:PG.cnt st<=lim:=cx (by unfold PG.cnt;have:=List.length_filter_le opn st;omega)
 have he:=Dy st.reverse
 simp -implicitDefEqProofs only[cj,ny,fnI,mQ,n8,hp,df,List.map_nil,he,D4,Fs,List.map_cons,List.length_cons,List.length_nil,List.replicate,List.append_nil,ij,HF,Ex,List.length_map,hc,hn,if_true,Lg,Ci,eL,HD,Nat.sub_self,AR]
 rfl
theorem GD(it:PG.It):ke (bp it) (.tup [.str "white",.str "figures",.str "fraction",.str "exponent",.str "sign"])=some (.sh (.bl (!PG.loose it))):=by
 cases it<;>simp -implicitDefEqProofs [bp,ke,ir,cU,PG.loose,dW]
theorem EE(it:PG.It):gIn (bp it) (.tup [.str "white",.str "figures",.str "fraction",.str "exponent",.str "sign"])=some (.sh (.bl (PG.loose it))):=by
 cases it<;>simp -implicitDefEqProofs [bp,gIn,ir,cU,PG.loose,dW]
theorem Jk{ρ:ag}{i:Nat}{io:Bool}{it:PG.It}{st:List PG.It}(h:ρ[i]?=some (some (.tr io (PG.wk (it ::st))))):pQ i (pFd i eK "coming" nz) ρ=.ok (ρ.set i (some (.tr io (PG.wk st)))) (.sh (bp it)):=by
 have hc:(cm (it ::st)).map OV.sh=(cm st).map OV.sh++[.sh (bp it)]:=by simp[cm]
 unfold pQ;rw[h,A0 h rfl];simp only[AN,hc,List.getLast?_concat,List.dropLast_concat,Fg];rfl
theorem KL{ρ:ag}{i:Nat}{io:Bool}{l st:List PG.It}{me:ag->OE}(h:ρ[i]?=some (some (.tr io (PG.wk st))))(he:me ρ=.ok (.fr (l.map bp).reverse))(hl:st.length+l.length<=100000):
  oe i (pFd i eK "coming" nz) me ρ=.nx (ρ.set i (some (.tr io (PG.wk (l++st))))):=by
 have hc:(cm (l++st)).map OV.sh=(cm st).map OV.sh++(l.map bp).reverse.map .sh:=by simp[cm]
 have hl2:st.length+l.length<=lim:=cx (by omega)
 unfold oe Bf;rw[h,A0 h rfl];simp only[AN,he,eL,List.length_map,List.length_reverse,hl2,if_true,Fg];rw[zc,hc]
theorem zt{ρ:ag}{i:Nat}{io:Bool}{st:List PG.It}(h:ρ[i]?=some (some (.tr io (PG.wk st)))):q9 i (pFd i eK "coming" nz) ρ=.ok (!st.isEmpty):=by
 unfold q9;rw[xY h rfl]
 cases st<;>simp[cm]
theorem Ht{ρ:ag}{i:Nat}{io:Bool}{st:List PG.It}(h:ρ[i]?=some (some (.tr io (PG.wk st))))(hl:st.length<=100000):m9 "Walk" "brackets" cj [.b i eK] ρ=.ok (.sh (.int (PG.cnt st))):=by
 have ha:mK (.b i eK) ρ=some (.bo (PG.wk st)):=by
  simp only[mK];rw[AQ h rfl];rfl
 have hr:recv "Walk" "brackets" (some (.bo (PG.wk st)))=true:=by
  rw[zc];simp[recv,aH]
 simp only[m9,ha,hr,if_true,xW,lG,Option.bind_some,Option.map_some,Be st hl]
theorem Dd(b:Int)(it:PG.It)(st:List PG.It)(io:Bool)(x y:Option Sl)(hl:st.length+8<=100000):gz [some (.tr io (PG.wk (it ::st))),some (.sh (.int b)),x,y] =
  match bh it b with
  |some l=>.rt [some (.tr io (PG.wk (l++st))),some (.sh (.int b)),some (.sh (bp it)),some (.ow (l.map bp))] (.sh (.bl (decide (PG.cnt (l++st)<=64))))
  |none=>if PG.loose it then .nx [some (.tr io (PG.wk st)),some (.sh (.int b)),some (.sh (bp it)),some (.sh .non)]else .rt [some (.tr io (PG.wk st)),some (.sh (.int b)),some (.sh (bp it)),some (.sh .non)] (.sh (.bl false)):=by
 have h1:oG 2 (pQ 0 (pFd 0 eK "coming" nz)) [some (.tr io (PG.wk (it ::st))),some (.sh (.int b)),x,y]=.nx [some (.tr io (PG.wk st)),some (.sh (.int b)),some (.sh (bp it)),y]:=by
  unfold oG;rw[Jk (it:=it) (st:=st) (io:=io) rfl];rfl
 have hb:=qS it b;have hlo:=GD it;unfold gz;simp only[xp,h1,qm]
 cases e:bh it b with
 | none=>
   rw[e]at hb
   cases e2:PG.loose it<;>rw[e2]at hlo<;>simp -implicitDefEqProofs [hb,rI,bW,hlo]
 | some l=>
   rw[e]at hb;have hll:=Es it b l e
   have h2:oe 0 (pFd 0 eK "coming" nz) (Hn (aj 3) (mUn ua (mC (.int 1)))) [some (.tr io (PG.wk st)),some (.sh (.int b)),some (.sh (bp it)),some (.ow (l.map bp))]=.nx [some (.tr io (PG.wk (l++st))),some (.sh (.int b)),some (.sh (bp it)),some (.ow (l.map bp))]:=
    KL (io:=io) rfl (by simp[Hn]) (by omega)
   have h3:m9 "Walk" "brackets" cj [.b 0 eK] [some (.tr io (PG.wk (l++st))),some (.sh (.int b)),some (.sh (bp it)),some (.ow (l.map bp))]=.ok (.sh (.int (PG.cnt (l++st)))):=Ht (io:=io) rfl (by simp;omega)
   have h4:(decide ((PG.cnt (l++st):Int)<=64))=decide (PG.cnt (l++st)<=64):=by rw[decide_eq_decide];omega
   simp -implicitDefEqProofs [hb,rI,bW,h2,h3,h4]
theorem C7(b:Int)(io:Bool)(st:List PG.It):∀(n:Nat) (x y:Option Sl),st.length<n->st.length+8<=100000 ->
  ∃ x' y',(bI gA gz n [some (.tr io (PG.wk st)),some (.sh (.int b)),x,y]).andThen (ba (mC (.bl false)))=.rt [some (.tr io (PG.wk (gon st b).1)),some (.sh (.int b)),x',y'] (.sh (.bl (gon st b).2)):=by
 induction st with
 | nil=>
   intro n x y hn hl
   obtain⟨m,rfl⟩:∃ m,n=m+1:=⟨n - 1,by simp at hn;omega⟩
   refine⟨x,y,?_⟩
   have hc:gA [some (.tr io (PG.wk [])),some (.sh (.int b)),x,y]=.ok false:=zt (i:=0) (ρ:=[some (.tr io (PG.wk [])),some (.sh (.int b)),x,y]) (io:=io) (st:=[]) rfl
   simp[bI,hc,gon]
 | cons it st ih=>
   intro n x y hn hl
   obtain⟨m,rfl⟩:∃ m,n=m+1:=⟨n - 1,by simp at hn;omega⟩
   have hc:gA [some (.tr io (PG.wk (it ::st))),some (.sh (.int b)),x,y]=.ok true:=zt (i:=0) (ρ:=[some (.tr io (PG.wk (it ::st))),some (.sh (.int b)),x,y]) (io:=io) (st:=it ::st) rfl
   have ht:=Dd b it st io x y (by simp at hl;omega);unfold gon
   cases e:bh it b with
   | some l=>
     rw[e]at ht
     exact⟨some (.sh (bp it)),some (.ow (l.map bp)),by simp only[bI,hc,fu,if_true,ht,BB,va]⟩
   | none=>
     rw[e]at ht
     dsimp only at ht ⊢
     cases e2:PG.loose it with
     | false=>
       rw[e2]at ht
       exact⟨some (.sh (bp it)),some (.sh .non),by simp only[bI,hc,fu,if_true,ht,BB,va,Bool.false_eq_true,if_false]⟩
     | true=>
       rw[e2]at ht;obtain⟨x',y',h⟩:=ih m (some (.sh (bp it))) (some (.sh .non)) (by simp at hn;omega) (by simp at hl;omega)
       exact⟨x',y',by simp only[bI,hc,fu,if_true,ht,o7,h]⟩
theorem CU(b:Int)(st:List PG.It)(hl:st.length+8<100000):dG [.tr true (PG.wk st),.sh (.int b)]=.ok (.bl (gon st b).2) [some (PG.wk (gon st b).1),none]:=by
 obtain⟨x',y',h⟩:=C7 b true st fuel none none (by unfold fuel;omega) (by omega)
 have e:iu [some (.tr true (PG.wk st)),some (.sh (.int b)),none,none]=_:=h
 show fnI 2 4 iu _=_;unfold fnI;rw[if_pos (by rfl)];show AR 2 (iu [some (.tr true (PG.wk st)),some (.sh (.int b)),none,none])=_;rw[e];rfl
theorem Dx(io:Bool)(rw:PV)(row:List Int):∀(k:Nat) (st:List PG.It) (x y:Option Sl),st.length+8*row.length+8<100000 ->
  ∃ x' y',lU 2 3 jh (tJ k (row.map .int)) [some (.tr io (PG.wk st)),some (.sh rw),x,y]=if(PG.tk st row).2=row.length then .nx [some (.tr io (PG.wk (PG.tk st row).1)),some (.sh rw),x',y']else .rt [some (.tr io (PG.wk (PG.tk st row).1)),some (.sh rw),x',y'] (.sh (.int ((k+(PG.tk st row).2:Nat):Int))):=by
 induction row with
 |nil=>intro k st x y hl;exact⟨x,y,by simp[tJ,lU,PG.tk]⟩
 | cons b row ih=>
   intro k st x y hl;simp only[List.length_cons]at hl;have hg:=CU b st (by omega);have hlen:=Cd st b
   have ht:jh [some (.tr io (PG.wk st)),some (.sh rw),some (.sh (.int k)),some (.sh (.int b))]=if(gon st b).2 then .nx [some (.tr io (PG.wk (gon st b).1)),some (.sh rw),some (.sh (.int k)),some (.sh (.int b))]else .rt [some (.tr io (PG.wk (gon st b).1)),some (.sh rw),some (.sh (.int k)),some (.sh (.int b))] (.sh (.int k)):=by
    have ha:mK (.t 0 eK) [some (.tr io (PG.wk st)),some (.sh rw),some (.sh (.int k)),some (.sh (.int b))]=some (.tr true (PG.wk st)):=by simp[mK,eK]
    have ha2:mK (.e (aj 3)) [some (.tr io (PG.wk st)),some (.sh rw),some (.sh (.int k)),some (.sh (.int b))]=some (.sh (.int b)):=by simp[mK]
    have hr:recv "Walk" "goes_on" (some (.tr true (PG.wk st)))=true:=by rw[zc];simp[recv,aH]
    have hx:oh "Walk" "goes_on" dG [.t 0 eK,.e (aj 3)] [some (.tr io (PG.wk st)),some (.sh rw),some (.sh (.int k)),some (.sh (.int b))]=.ok [some (.tr io (PG.wk (gon st b).1)),some (.sh rw),some (.sh (.int k)),some (.sh (.int b))] (.sh (.bl (gon st b).2)):=by
     simp only[oh,ha,hr,if_true,xD,lG,ha2,Option.bind_some,Option.map_some,hg];simp[fQ,lu,eK]
    unfold jh G9;rw[hx]
    cases(gon st b).2<;>simp
   unfold PG.tk;simp only[List.map_cons,tJ,lU,List.set_cons_succ,List.set_cons_zero,ht]
   cases e:(gon st b).2 with
   |false=>exact⟨some (.sh (.int k)),some (.sh (.int b)),by simp⟩
   | true=>
     obtain⟨x',y',h⟩:=ih (k+1) (gon st b).1 (some (.sh (.int k))) (some (.sh (.int b))) (by omega)
     refine⟨x',y',?_⟩
     simp only[if_true,o7,h,List.length_cons,Nat.add_right_cancel_iff]
     have:k+1+(PG.tk (gon st b).1 row).2=k+((PG.tk (gon st b).1 row).2+1):=by omega
     rw[this]
theorem IC(st:List PG.It)(row:List Int)(hl:st.length+8*row.length+8<100000):eZ [.tr true (PG.wk st),.sh (.lst (row.map .int))]=.ok (.int (PG.tk st row).2) [some (PG.wk (PG.tk st row).1),none]:=by
 obtain⟨x',y',h⟩:=Dx true (.lst (row.map .int)) row 0 st none none hl;show fnI 2 4 kA _=_;unfold fnI;rw[if_pos (by rfl)];show AR 2 (kA [some (.tr true (PG.wk st)),some (.sh (.lst (row.map .int))),none,none])=_;unfold kA BC;simp only[xp,jw,List.getElem?_cons_succ,List.getElem?_cons_zero,eL,IV,h]
 by_cases e:(PG.tk st row).2=row.length
 . simp[e,AR,xh]
 . simp[e,AR,xh]
theorem Bm(st:List PG.It)(hl:st.length<=100000):cF [.bo (PG.wk st)]=.ok (.bl (st.all PG.loose)) [none]:=by
 have hp:sU 0 (pFd 0 eK "coming" nz) [some (.bo (PG.wk st))]=.ok (.al (cm st)):=by
  unfold sU;rw[xY (s:=.bo (PG.wk st)) rfl rfl];simp only[wc]
 have hn:st.length<=lim:=cx (by omega)
 have he:cR iw [] (cm st)=.ok ((st.reverse.map PG.loose).map .bl):=by
  rw[List.map_map]
  refine lJ _ fun it _=>?_
  simp[iw,EE]
 have hb:xv (.lst ((st.reverse.map PG.loose).map .bl))=some (.sh (.bl (st.all PG.loose))):=by
  simp only[xv,Ap,Option.map_some]
  congr 3
  rw[List.all_map,List.all_reverse];rfl
 simp -implicitDefEqProofs only[cF,nk,fnI,mQ,Fl,hp,df,List.map_nil,he,D4,Fs,List.map_cons,List.length_cons,List.length_nil,List.replicate,List.append_nil,ij,HF,Ex,List.length_map,List.length_reverse,hn,if_true,hb,Ci,eL,HD,Nat.sub_self,AR]
 rfl
theorem Kj:cG [.tr true (.ob "Walk" [] [])]=.ok .non [some (PG.wk st0)]:=by
 rfl
theorem Le(row:List Int):∀ st,(PG.tk st row).1.length<=st.length+8*row.length+8:=by
 induction row with
 |nil=>intro st;simp[PG.tk]
 | cons b row ih=>
   intro st;have:=Cd st b;have h2:=ih (gon st b).1;unfold PG.tk
   split<;>simp only[List.length_cons]<;>omega
noncomputable def ofO:Option Nat->PV
 |some k=>.int k
 |none=>.non
theorem o5(row:List Int)(hl:8*row.length+20<100000):kH [.lst (row.map .int)]=.ok (.sh (ofO (PG.flt row))):=by
 have ht:=IC st0 row (by simp[st0];omega);have hlen:=Le row st0;have hw:=Bm (PG.tk st0 row).1 (by have:st0.length=3:=rfl;omega)
 have h0:w9 "Walk" cG [some (.sh (.lst (row.map .int))),none,none]=.ok (PG.wk st0):=by unfold w9;rw[Kj]
 have h1:oG 2 (oh "Walk" "take" eZ [.t 1 eK,.e (aj 0)]) [some (.sh (.lst (row.map .int))),some (.tr false (PG.wk st0)),none]=.nx [some (.sh (.lst (row.map .int))),some (.tr false (PG.wk (PG.tk st0 row).1)),some (.sh (.int (PG.tk st0 row).2))]:=by
  have ha:mK (.t 1 eK) [some (.sh (.lst (row.map .int))),some (.tr false (PG.wk st0)),none]=some (.tr true (PG.wk st0)):=by simp[mK,eK]
  have ha2:mK (.e (aj 0)) [some (.sh (.lst (row.map .int))),some (.tr false (PG.wk st0)),none]=some (.sh (.lst (row.map .int))):=by simp[mK]
  have hr:recv "Walk" "take" (some (.tr true (PG.wk st0)))=true:=by rw[zc];simp[recv,aH]
  unfold oG;simp only[oh,ha,hr,if_true,xD,lG,ha2,Option.bind_some,Option.map_some,ht];simp[fQ,lu,eK,nio]
 have h2:m9 "Walk" "is_whole" cF [.b 1 eK] [some (.sh (.lst (row.map .int))),some (.tr false (PG.wk (PG.tk st0 row).1)),some (.sh (.int (PG.tk st0 row).2))]=.ok (.sh (.bl ((PG.tk st0 row).1.all PG.loose))):=by
  have ha:mK (.b 1 eK) [some (.sh (.lst (row.map .int))),some (.tr false (PG.wk (PG.tk st0 row).1)),some (.sh (.int (PG.tk st0 row).2))]=some (.bo (PG.wk (PG.tk st0 row).1)):=by
   simp only[mK];rw[AQ (s:=.tr false (PG.wk (PG.tk st0 row).1)) rfl rfl];rfl
  have hr:recv "Walk" "is_whole" (some (.bo (PG.wk (PG.tk st0 row).1)))=true:=by rw[zc];simp[recv,aH]
  simp only[m9,ha,hr,if_true,xW,lG,Option.bind_some,Option.map_some,hw]
 unfold PG.flt
 have hd:tD 1 (w9 "Walk" cG) [some (.sh (.lst (row.map .int))),none,none]=.nx [some (.sh (.lst (row.map .int))),some (.tr false (PG.wk st0)),none]:=by
  unfold tD;rw[h0];rfl
 simp -implicitDefEqProofs only[kH,Mg,FN,Cu,List.map_cons,List.map_nil,List.length_cons,List.length_nil,List.cons_append,List.nil_append,List.replicate,xp,hd,qm,wF,h1,xl,IG,F9,F0,uS,jw,List.getElem?_cons_succ,List.getElem?_cons_zero,Fs,ij,Eb,h2]
 by_cases e:(PG.tk st0 row).2=row.length
 . cases e2:(PG.tk st0 row).1.all PG.loose<;>simp[e,sf,ofO]
 . have e3:¬ ((PG.tk st0 row).2:Int)=(row.length:Int):=by omega
   simp[e,e3,sf,ofO]
theorem rn(row:List Int)(hl:8*row.length+20<100000):cb [.lst (row.map .int)]=match PG.flt row with
  |some _=>.bad
  |none=>.ok (.sh .non):=by
 have h:=o5 row hl
 cases e:PG.flt row with
 |none=>rw[e]at h;simp -implicitDefEqProofs [kd,cb,h,ofO,bW]
 |some k=>rw[e]at h;simp -implicitDefEqProofs [kd,cb,h,ofO,bW,el,fin]
theorem lK{l:List Int}{xs ys:List Int}{x:Int}(h:l=xs++x ::ys){i:Int}(hi:i=xs.length):atP (l.map PV.int) i=some (.int x):=by
 rw[hi,jf,List.getElem?_map,h];simp
theorem FH{m:Nat}(h:m<=90000):m<fuel:=by unfold fuel;omega
theorem Gb(row:List Int)(a:Option Sl){body:List Int}(hb:Skp body):∀(pre post:List Int) (n:Nat),row=pre++(body++34 ::post)->body.length<n ->
  bI eC gw n [some (.sh (.lst (row.map .int))),a,some (.sh (.int (pre.length:Int)))]=.nx [some (.sh (.lst (row.map .int))),a,some (.sh (.int ((pre.length:Int)+body.length)))]:=by
 induction hb with
 | nil=>
   intro pre post n hr hn
   obtain⟨m,rfl⟩:∃ m,n=m+1:=⟨n - 1,by simp at hn;omega⟩
   have ha:atP (row.map PV.int) (pre.length:Int)=some (.int 34):=lK (xs:=pre) (ys:=post) hr rfl
   have hc:eC [some (.sh (.lst (row.map .int))),a,some (.sh (.int (pre.length:Int)))]=.ok false:=by simp[eC,ha]
   simp[bI,hc]
 | @one b r h1 h2 _ ih=>
   intro pre post n hr hn
   obtain⟨m,rfl⟩:∃ m,n=m+1:=⟨n - 1,by simp at hn;omega⟩
   have ha:atP (row.map PV.int) (pre.length:Int)=some (.int b):=lK (xs:=pre) (ys:=r++34 ::post) (by rw[hr];simp) rfl
   have hc:eC [some (.sh (.lst (row.map .int))),a,some (.sh (.int (pre.length:Int)))]=.ok true:=by simp[eC,ha,h1]
   have hb:gw [some (.sh (.lst (row.map .int))),a,some (.sh (.int (pre.length:Int)))]=.nx [some (.sh (.lst (row.map .int))),a,some (.sh (.int ((pre++[b]).length:Int)))]:=by simp[gw,ha,h2]
   have:=ih (pre++[b]) post m (by rw[hr];simp) (by simp at hn;omega);simp only[bI,hc,fu,if_true,hb,o7,this]
   congr 6
   simp;omega
 | @two c r _ ih=>
   intro pre post n hr hn
   obtain⟨m,rfl⟩:∃ m,n=m+1:=⟨n - 1,by simp at hn;omega⟩
   have ha:atP (row.map PV.int) (pre.length:Int)=some (.int 92):=lK (xs:=pre) (ys:=c ::(r++34 ::post)) (by rw[hr];simp) rfl
   have hc:eC [some (.sh (.lst (row.map .int))),a,some (.sh (.int (pre.length:Int)))]=.ok true:=by simp[eC,ha]
   have hb:gw [some (.sh (.lst (row.map .int))),a,some (.sh (.int (pre.length:Int)))]=.nx [some (.sh (.lst (row.map .int))),a,some (.sh (.int ((pre++[92,c]).length:Int)))]:=by simp[gw,ha]
   have:=ih (pre++[92,c]) post m (by rw[hr];simp) (by simp at hn;omega);simp only[bI,hc,fu,if_true,hb,o7,this]
   congr 6
   simp;omega
theorem Dk(row pre post body:List Int)(hb:Skp body)(hr:row=pre++34 ::(body++34 ::post))(hl:row.length<=90000):hZ [.lst (row.map .int),.int pre.length]=.ok (.sh (.int ((pre.length:Int)+body.length+2))):=by
 have h:=Gb row (some (.sh (.int pre.length))) hb (pre++[34]) post fuel (by rw[hr];simp) (FH (by rw[hr]at hl;simp at hl;omega))
 have e1:((pre++[34]:List Int).length:Int)=(pre.length:Int)+1:=by simp
 rw[e1]at h
 have e2:(pre.length:Int)+1+(body.length:Int)+1=(pre.length:Int)+body.length+2:=by omega
 simp -implicitDefEqProofs [qT,qX,uA,hZ,h,e2]
theorem FR(row:List Int):fG [.lst (row.map .int),.int (row.length:Int)]=.ok (.sh (.bl false)):=by
 have hc:jk [some (.sh (.lst (row.map .int))),some (.sh (.int (row.length:Int)))]=.ok false:=by simp[jk]
 obtain⟨n,hn⟩:∃ n,fuel=n+1:=⟨99999,rfl⟩
 simp -implicitDefEqProofs [rV,fG,hn,bI,hc]
theorem yn(row pre post:List Int)(b:Int)(hr:row=pre++b ::post)(hw:wht b=false):fG [.lst (row.map .int),.int (pre.length:Int)]=.ok (.sh (.bl (decide (b=58)))):=by
 have ha:atP (row.map PV.int) (pre.length:Int)=some (.int b):=lK (xs:=pre) (ys:=post) hr rfl
 have hl:pre.length<row.length:=by rw[hr];simp
 have hc:jk [some (.sh (.lst (row.map .int))),some (.sh (.int (pre.length:Int)))]=.ok false:=by simp[jk,ha,cf,hw]
 obtain⟨n,hn⟩:∃ n,fuel=n+1:=⟨99999,rfl⟩
 simp -implicitDefEqProofs [rV,fG,hn,bI,hc,ha,hl]
theorem zL(row pre post:List Int)(ss:List Sg)(hok:∀ s∈ss,Sok s)(i:Int)(nm:Bool)(hr:row=pre++(PG.txt ss++post))(hl:row.length<=90000)
  (hn:fG [.lst (row.map .int),.int ((pre.length:Int)+(PG.inner ss).length+2)]=.ok (.sh (.bl nm))):jB [.lst (row.map .int),.int pre.length,.int i]=.ok (.sh (.tup [.str (if nm then "name" else "text"),.int pre.length,.int ((pre.length:Int)+(PG.inner ss).length+2),.int (i+1)])):=by
 have hr':row=pre++34 ::(PG.inner ss++34 ::post):=by rw[hr];simp[PG.txt]
 have ha:atP (row.map PV.int) (pre.length:Int)=some (.int 34):=lK (xs:=pre) (ys:=PG.inner ss++34 ::post) hr' rfl
 have hte:=Dk row pre post (PG.inner ss) (DC ss hok) hr' hl
 cases nm<;>simp -implicitDefEqProofs [qD,qL,rm,yD,jB,ha,jZ,List.lookup,gNe,eqS,hte,hn]
theorem Ey{xs:List PV}{x:PV}:atP (xs++[x]) (-1)=some x:=by
 unfold atP;rw[show(xs++[x]).length=xs.length+1 by simp,KG];simp
noncomputable abbrev NS0(row:List Int)(tree:List PV)(un:List OV)(p:Int)(b i:Option Sl):ag:=[some (.sh (.lst (row.map .int))),some (.ow tree),some (.tr false (.ol un)),some (.sh (.int p)),b,i]
theorem wU{row:List Int}{tree:List PV}{un:List OV}{p e n:Int}{b:Int}{x y:Option Sl}{nm:Str}(ha:atP (row.map PV.int) p=some (.int b))(h1:b≠91)(h2:b≠123)(h3:b≠93)(h4:b≠125)(h5:wht b=false)(h6:b≠44)(h7:b≠58)(ht:tree.length<=90000)
  (hleaf:jB [.lst (row.map .int),.int p,.int tree.length]=.ok (.sh (.tup [.str nm,.int p,.int e,.int n]))):
  b5 (NS0 row tree un p x y)=.nx (NS0 row (tree++[.tup [.str nm,.int p,.int e,.int n]]) un e (some (.sh (.int b))) y):=by
 have hl:tree.length<lim:=yw (by omega)
 have z:∀ k:Int,b≠k->(k==b)=false:=fun k h=>by simpa using fun q=>h q.symm
 have hlast:=Ey (xs:=tree) (x:=.tup [.str nm,.int p,.int e,.int n]);simp -implicitDefEqProofs [b5,ha,gIn,ir,cU,dW,z _ h1,z _ h2,z _ h3,z _ h4,z _ h6,z _ h7,cf,h5,hleaf,hl,hlast]
theorem zp(row:List Int)(tree:List PV)(un:List OV)(p:Int)(b i:Option Sl):fE (NS0 row tree un p b i)=.ok (decide (p<row.length)):=by
 simp[fE]
theorem CT(row:List Int)(tree:List PV)(p:Int)(b i:Option Sl)(ys:List PV)(hf:PG.flt row=none)(hl:8*row.length+20<100000)(ht:tree.length<=90000)
  (hw:bI fE b5 fuel (NS0 row [] [] 0 none none)=.nx (NS0 row tree [] p b i)) (hy:cR o9 [some (.sh (.lst tree))] (iV tree.length)=.ok ys) (hyl:ys.length=tree.length):jc [.lst (row.map .int)]=.ok (.fr ys):=by
 have hr:=rn row hl;rw[hf]at hr
 have hlim:tree.length<=lim:=cx (by omega)
 have hb:-4611686018427387904<=(tree.length:Int) /\ (tree.length:Int)<4611686018427387904:=by omega
 have e5:si (NS0 row tree [] p b i)=.rt [some (.sh (.lst (row.map .int))),some (.sh (.lst tree)),some (.tr false (.ol [])),some (.sh (.int p)),b,i] (.fr ys):=by
  have hfz:oV 1 (NS0 row tree [] p b i)=[some (.sh (.lst (row.map .int))),some (.sh (.lst tree)),some (.tr false (.ol [])),some (.sh (.int p)),b,i]:=rfl
  simp -implicitDefEqProofs [si,hfz,df,hb,hy,hyl,hlim]
 have e2:sd [some (.sh (.lst (row.map .int))),some (.ow []),none,none,none,none]=.rt [some (.sh (.lst (row.map .int))),some (.sh (.lst tree)),some (.tr false (.ol [])),some (.sh (.int p)),b,i] (.fr ys):=by
  have hsd:tD 2 (mD (b2 aI)) [some (.sh (.lst (row.map .int))),some (.ow []),none,none,none,none]=.nx [some (.sh (.lst (row.map .int))),some (.ow []),some (.tr false (.ol [])),none,none,none]:=by simp[tD,mD]
  simp -implicitDefEqProofs only[sd,xp,hsd,qm,xg,JL,GC,eL,GN,List.set_cons_succ,List.set_cons_zero,wX,hw,e5]
 simp -implicitDefEqProofs [jc,Cn,hr,wM,e2]
theorem A6{row:List Int}{tree:List PV}{un:List OV}{p:Int}{x y:Option Sl}(k:Bool)(ha:atP (row.map PV.int) p=some (.int (if k then 123 else 91)))(ht:tree.length<=90000)(hu:un.length<=90000):
  b5 (NS0 row tree un p x y)=.nx (NS0 row (tree++[.tup [.str (if k then "fields" else "row"),.int p]]) (un++[.sh (.int (tree.length:Int))]) (p+1) (some (.sh (.int (if k then 123 else 91)))) y):=by
 have h1:nY 2 eK (mD (mUn ku (aj 1))) [some (.sh (.lst (row.map .int))),some (.ow tree),some (.tr false (.ol un)),some (.sh (.int p)),some (.sh (.int (if k then 123 else 91))),y]=.nx [some (.sh (.lst (row.map .int))),some (.ow tree),some (.tr false (.ol (un++[.sh (.int (tree.length:Int))]))),some (.sh (.int p)),some (.sh (.int (if k then 123 else 91))),y]:=by
  refine yV (ts:=un) (io:=false) rfl ?_ (yw (by omega));simp[mD]
 have hl:tree.length<lim:=yw (by omega)
 cases k<;>simp only[if_true,Bool.false_eq_true,if_false]at ha h1 ⊢ <;>
  simp -implicitDefEqProofs [b5,ha,gIn,ir,cU,dW,h1,Cz,List.lookup,hl]
theorem Bs{row:List Int}{tree:List PV}{un:List OV}{p b:Int}{x y:Option Sl}(ha:atP (row.map PV.int) p=some (.int b))(hb:wht b=true \/ b=44 \/ b=58):
  b5 (NS0 row tree un p x y)=.nx (NS0 row tree un (p+1) (some (.sh (.int b))) y):=by
 rcases hb with h|rfl|rfl
 . have hc:b = 9 \/ b = 10 \/ b = 13 \/ b = 32:=by
    unfold wht at h;simp only[Bool.or_eq_true,decide_eq_true_eq]at h;omega
   rcases hc with rfl|rfl|rfl|rfl<;>simp -implicitDefEqProofs [b5,ha,gIn,ir,cU,dW,cf,wht]
 . have hw:wht 44=false:=rfl
   simp -implicitDefEqProofs [b5,ha,gIn,ir,cU,dW,cf,hw]
 . have hw:wht 58=false:=rfl
   simp -implicitDefEqProofs [b5,ha,gIn,ir,cU,dW,cf,hw]
theorem Ab{row:List Int}{tree:List PV}{un:List OV}{p a:Int}{j:Nat}{x y:Option Sl}{nm:Str}{rest:List PV}(k:Bool)(ha:atP (row.map PV.int) p=some (.int (if k then 125 else 93)))(he:tree[j]?=some (.tup (.str nm ::.int a ::rest))):
  b5 (NS0 row tree (un++[.sh (.int (j:Int))]) p x y)=.nx (NS0 row (tree.set j (.tup [.str nm,.int a,.int (p+1),.int (tree.length:Int)])) un (p+1) (some (.sh (.int (if k then 125 else 93)))) (some (.sh (.int (j:Int))))):=by
 have h1:∀ u v z w,oG 5 (pQ 2 eK) [u,v,some (.tr false (.ol (un++[.sh (.int (j:Int))]))),z,w,y]=.nx [u,v,some (.tr false (.ol un)),z,w,some (.sh (.int (j:Int)))]:=by
  intro u v z w;unfold oG;rw[Ee (ts:=un) (x:=.sh (.int (j:Int))) (io:=false) rfl];rfl
 have hj:j<tree.length:=(List.getElem?_eq_some_iff.mp he).1
 have hat:atP tree (j:Int)=some (.tup (.str nm ::.int a ::rest)):=by rw[jf,he]
 have hix:ixP tree.length (j:Int)=some j:=Hd _ _ hj
 cases k<;>simp only[if_true,Bool.false_eq_true,if_false]at ha ⊢ <;>
  simp -implicitDefEqProofs [b5,ha,gIn,ir,cU,dW,h1,hat,hix]
theorem KI{row:List Int}{tree:List PV}{un:List OV}{p:Int}{x y:Option Sl}{n:Nat}{s:ag}(h:p<row.length)(ht:b5 (NS0 row tree un p x y)=.nx s):bI fE b5 (n+1) (NS0 row tree un p x y)=bI fE b5 n s:=by
 have hc:=zp row tree un p x y;rw[show decide (p<(row.length:Int))=true by simpa using h]at hc;simp only[bI,hc,fu,if_true,ht,o7]
theorem Mj{row:List Int}{tree:List PV}{un:List OV}{p:Int}{x y:Option Sl}{n:Nat}(h:¬ p<row.length):bI fE b5 (n+1) (NS0 row tree un p x y)=.nx (NS0 row tree un p x y):=by
 have hc:=zp row tree un p x y;rw[show decide (p<(row.length:Int))=false by simpa using h]at hc;simp only[bI,hc,fu,Bool.false_eq_true,if_false]
theorem Kz{b:Int}(h:plb b):wht b=false /\ b≠44 /\ b≠93 /\ b≠125 /\ b≠91 /\ b≠123 /\ b≠58 /\ b≠34:=by
 unfold plb isF at h
 refine⟨?_,by omega,by omega,by omega,by omega,by omega,by omega,by omega⟩
 unfold wht;simp only[Bool.or_eq_false_iff,decide_eq_false_iff_not];omega
theorem AY(row:List Int)(a:Option Sl):∀(body pre post:List Int) (n:Nat),row=pre++(body++post)->(∀ b∈body,wht b=false /\ b≠44 /\ b≠93 /\ b≠125)->(post=[] \/ ∃ y r,post=y ::r /\ (wht y=true \/ y=44 \/ y=93 \/ y=125))->body.length<n ->
  bI cV jd n [some (.sh (.lst (row.map .int))),a,some (.sh (.int (pre.length:Int)))]=.nx [some (.sh (.lst (row.map .int))),a,some (.sh (.int ((pre.length+body.length:Nat):Int)))]:=by
 intro body
 induction body with
 | nil=>
   intro pre post n hr _ hp hn
   obtain⟨m,rfl⟩:∃ m,n=m+1:=⟨n - 1,by simp at hn;omega⟩
   have hc:cV [some (.sh (.lst (row.map .int))),a,some (.sh (.int (pre.length:Int)))]=.ok false:=by
    rcases hp with rfl|⟨y,r,rfl,hy⟩
    . have:row=pre:=by simpa using hr
      subst this;simp[cV]
    . have ha:atP (row.map PV.int) (pre.length:Int)=some (.int y):=lK (xs:=pre) (ys:=r) hr rfl
      have hl:pre.length<row.length:=by rw[hr];simp
      cases hw:wht y with
      |true=>simp[cV,ha,cf,hw,hl]
      | false=>
        rw[hw]at hy
        rcases hy with z|rfl|rfl|rfl
        . cases z
        . simp[cV,ha,cf,hw,hl,ke,ir,cU,dW]
        . simp[cV,ha,cf,hw,hl,ke,ir,cU,dW]
        . simp[cV,ha,cf,hw,hl,ke,ir,cU,dW]
   simp[bI,hc]
 | cons b body ih=>
   intro pre post n hr hb hp hn
   obtain⟨m,rfl⟩:∃ m,n=m+1:=⟨n - 1,by simp at hn;omega⟩
   have ha:atP (row.map PV.int) (pre.length:Int)=some (.int b):=lK (xs:=pre) (ys:=body++post) hr rfl
   have hl:pre.length<row.length:=by rw[hr];simp
   obtain⟨h1,h2,h3,h4⟩:=hb b List.mem_cons_self
   have z:∀ k:Int,b≠k->¬ k=b:=fun k h q=>h q.symm
   have hc:cV [some (.sh (.lst (row.map .int))),a,some (.sh (.int (pre.length:Int)))]=.ok true:=by
    simp[cV,ha,cf,h1,hl,ke,ir,cU,dW,z _ h2,z _ h3,z _ h4]
   have hb2:jd [some (.sh (.lst (row.map .int))),a,some (.sh (.int (pre.length:Int)))]=.nx [some (.sh (.lst (row.map .int))),a,some (.sh (.int ((pre++[b]).length:Int)))]:=by simp[jd]
   have:=ih (pre++[b]) post m (by rw[hr];simp) (fun x hx=>hb x (List.mem_cons_of_mem _ hx)) hp (by simp at hn;omega);simp only[bI,hc,fu,if_true,hb2,o7,this]
   have e:(pre++[b]).length+body.length=pre.length+(b ::body).length:=by simp;omega
   rw[e]
theorem vh(row pre body post:List Int)(hr:row=pre++(body++post))(hb:∀ b∈body,wht b=false /\ b≠44 /\ b≠93 /\ b≠125)(hp:post=[] \/ ∃ y r,post=y ::r /\ (wht y=true \/ y=44 \/ y=93 \/ y=125))(hl:row.length<=90000):fV [.lst (row.map .int),.int pre.length]=.ok (.sh (.int ((pre.length:Int)+body.length))):=by
 have h:=AY row (some (.sh (.int pre.length))) body pre post fuel hr hb hp (by unfold fuel;rw[hr]at hl;simp at hl;omega)
 have e:((pre.length+body.length:Nat):Int)=(pre.length:Int)+body.length:=by omega
 rw[e]at h;simp -implicitDefEqProofs [pB,pP,tH,fV,h]
theorem DO{m:Nm}(h:Nok m):∃ b r,PG.nb m=b ::r /\ (isF b \/ b=45):=by
 unfold PG.nb
 cases m.neg with
 |true=>exact⟨45,_,rfl,.inr rfl⟩
 | false=>
   rcases h.ip with e|⟨d,r,e,h1,h2,h3⟩
   . rw[e];exact⟨48,_,rfl,.inl (by decide)⟩
   . rw[e];exact⟨d,_,rfl,.inl (by unfold isF;omega)⟩
theorem K5(row pre post:List Int)(m:Nm)(h:Nok m)(i:Int)(hr:row=pre++(PG.nb m++post))(hp:post=[] \/ ∃ y r,post=y ::r /\ (wht y=true \/ y=44 \/ y=93 \/ y=125))(hl:row.length<=90000):
  jB [.lst (row.map .int),.int pre.length,.int i]=.ok (.sh (.tup [.str "number",.int pre.length,.int ((pre.length:Int)+(PG.nb m).length),.int (i+1)])):=by
 obtain⟨b,r,e,hb⟩:=DO h
 have ha:atP (row.map PV.int) (pre.length:Int)=some (.int b):=lK (xs:=pre) (ys:=r++post) (by rw[hr,e];simp) rfl
 have hpe:=vh row pre (PG.nb m) post hr (fun x hx=>by have:=Kz (Fm h x hx);exact⟨this.1,this.2.1,this.2.2.1,this.2.2.2.1⟩) hp hl
 have z:∀ k:Int,(k=34 \/ k=91 \/ k=102 \/ k=110 \/ k=116 \/ k=123)->(b==k)=false:=fun k hk=>by
  unfold isF at hb;simp only[beq_eq_false_iff_ne,ne_eq];omega
 simp -implicitDefEqProofs [qD,qL,rm,yD,jB,ha,jZ,List.lookup,z 34 (by simp),z 91 (by simp),z 102 (by simp),z 110 (by simp),z 116 (by simp),z 123 (by simp),gNe,eqS,aH,hpe]
noncomputable def kN(k:Bool):String:=if k then "row" else "fields"
noncomputable def RA(W:List Int)(tree:List PV)(un:List OV)(P:List Int):Prop:=∃(k:Nat) (x y:Option Sl),k<=P.length /\ ∀ n,bI fE b5 (n+k) (NS0 W [] [] 0 none none)=bI fE b5 n (NS0 W tree un P.length x y)
theorem RA.nil(W:List Int):RA W [] [] []:=⟨0,none,none,by simp,fun n=>rfl⟩
theorem RA.go{W:List Int}{tree tree':List PV}{un un':List OV}{P Q:List Int}(h:RA W tree un P)(hP:P.length<W.length)(hQ:P.length<Q.length)(ht:∀ x y,∃ x' y',b5 (NS0 W tree un P.length x y)=.nx (NS0 W tree' un' Q.length x' y')):RA W tree' un' Q:=by
 obtain⟨k,x,y,hk,h⟩:=h;obtain⟨x',y',ht⟩:=ht x y
 refine⟨k+1,x',y',by omega,fun n=>?_⟩
 rw[show n+(k+1)=(n+1)+k by omega,h (n+1),KI (by omega) ht]
theorem RA.skip{W:List Int}{tree:List PV}{un:List OV}{P X:List Int}{b:Int}(h:RA W tree un P)(hW:W=P++b ::X)(hb:wht b=true \/ b=44 \/ b=58):RA W tree un (P++[b]):=by
 refine h.go (by rw[hW];simp) (by simp) fun x y=>?_
 have:=Bs (tree:=tree) (un:=un) (x:=x) (y:=y) (lK hW rfl) hb;rw[show((P.length:Int)+1)=((P++[b]).length:Int) by simp]at this
 exact⟨_,_,this⟩
theorem RA.opn{W:List Int}{tree:List PV}{un:List OV}{P X:List Int}(k:Bool)(h:RA W tree un P)(hW:W=P++(if k then 91 else 123) ::X)(ht:tree.length<=90000)(hu:un.length<=90000):
  RA W (tree++[.tup [.str (kN k),.int P.length]]) (un++[.sh (.int (tree.length:Int))]) (P++[if k then 91 else 123]):=by
 refine h.go (by rw[hW];simp) (by simp) fun x y=>?_
 have:=A6 (row:=W) (tree:=tree) (un:=un) (p:=P.length) (x:=x) (y:=y) (!k) (lK (xs:=P) (ys:=X) (by rw[hW];cases k<;>rfl) rfl) ht hu;rw[show((P.length:Int)+1)=((P++[if k then 91 else 123]).length:Int) by simp]at this
 refine⟨some (.sh (.int (if(!k)then 123 else 91))),y,this.trans ?_⟩
 cases k<;>rfl
theorem RA.close{W:List Int}{tree:List PV}{un:List OV}{P X:List Int}{j:Nat}{nm:Str}{a:Int}{rest:List PV}(k:Bool)(h:RA W tree (un++[.sh (.int (j:Int))]) P)(hW:W=P++dr k ::X)(he:tree[j]?=some (.tup (.str nm ::.int a ::rest))):
  RA W (tree.set j (.tup [.str nm,.int a,.int (P.length+1),.int (tree.length:Int)])) un (P++[dr k]):=by
 refine h.go (by rw[hW];simp) (by simp) fun x y=>?_
 have:=Ab (row:=W) (tree:=tree) (un:=un) (p:=P.length) (x:=x) (y:=y) (!k) (lK (xs:=P) (ys:=X) (by rw[hW];cases k<;>rfl) rfl) he;rw[show NS0 W (tree.set j (.tup [.str nm,.int a,.int ((P.length:Int)+1),.int (tree.length:Int)])) un ((P.length:Int)+1)=NS0 W (tree.set j (.tup [.str nm,.int a,.int ((P.length:Int)+1),.int (tree.length:Int)])) un ((P++[dr k]).length:Int) by simp]at this
 exact⟨_,_,this⟩
theorem RA.done{W:List Int}{tree:List PV}(h:RA W tree [] W)(hl:W.length<=90000):∃ x y,bI fE b5 fuel (NS0 W [] [] 0 none none)=.nx (NS0 W tree [] W.length x y):=by
 obtain⟨k,x,y,hk,h⟩:=h
 refine⟨x,y,?_⟩
 obtain⟨n,hn⟩:∃ n,fuel=n+1+k:=⟨fuel - 1 - k,by unfold fuel;omega⟩
 rw[hn,h (n+1),Mj (by omega)]
theorem RA.num{W:List Int}{tree:List PV}{un:List OV}{P X:List Int}{k:Bool}(h:RA W tree un P)(hW:W=P++([49]++dr k ::X))(hl:W.length<=90000)(ht:tree.length<=90000):
  RA W (tree++[.tup [.str "number",.int P.length,.int ((P.length:Int)+1),.int ((tree.length:Int)+1)]]) un (P++[49]):=by
 refine h.go (by rw[hW];simp) (by simp) fun y z=>?_
 have ha:atP (W.map PV.int) (P.length:Int)=some (.int 49):=lK (xs:=P) (ys:=dr k ::X) (by rw[hW];rfl) rfl
 have hpe:=vh W P [49] (dr k ::X) hW (by decide) (.inr ⟨_,_,rfl,by cases k<;>simp[dr]⟩) hl
 have hleaf:jB [.lst (W.map .int),.int P.length,.int tree.length]=.ok (.sh (.tup [.str "number",.int P.length,.int ((P.length:Int)+1),.int ((tree.length:Int)+1)])):=by
  simp -implicitDefEqProofs [qD,qL,rm,yD,jB,ha,jZ,List.lookup,gNe,eqS,aH,hpe]
 have:=wU (row:=W) (tree:=tree) (un:=un) (p:=P.length) (b:=49) (x:=y) (y:=z) ha (by decide) (by decide) (by decide) (by decide) rfl (by decide) (by decide) ht hleaf
 rw[show((P.length:Int)+1)=((P++[49]).length:Int) by simp]at this ⊢
 exact⟨_,_,this⟩
theorem RA.name{W:List Int}{tree:List PV}{un:List OV}{P X:List Int}(h:RA W tree un P)(hW:W=P++(34 ::97 ::34 ::58 ::X))(hl:W.length<=90000)(ht:tree.length<=90000):
  RA W (tree++[.tup [.str "name",.int P.length,.int ((P.length:Int)+3),.int ((tree.length:Int)+1)]]) un (P++[34,97,34]):=by
 have hn:=yn W (P++[34,97,34]) X 58 (by rw[hW];simp) rfl
 have hi:PG.inner [Sg.pl 97]=[97]:=by decide
 have hlen:((P++[34,97,34]).length:Int)=(P.length:Int)+(PG.inner [Sg.pl 97]).length+2:=by rw[hi];simp;omega
 rw[hlen]at hn;have hleaf:=zL W P (58 ::X) [.pl 97] (by intro s hs;rw[List.mem_singleton]at hs;subst hs;exact⟨by decide,by decide,by decide,by decide⟩) tree.length true (by rw[hW];simp[PG.txt,hi]) hl hn
 refine h.go (by rw[hW];simp) (by simp) fun y z=>?_
 have:=wU (row:=W) (tree:=tree) (un:=un) (p:=P.length) (b:=34) (x:=y) (y:=z) (lK (xs:=P) (ys:=97 ::34 ::58 ::X) hW rfl) (by decide) (by decide) (by decide) (by decide) rfl (by decide) (by decide) ht hleaf;rw[<- hlen]at this;rw[show((P.length:Int)+3)=((P++[34,97,34]).length:Int) by simp]
 exact⟨_,_,this⟩
noncomputable def aL(X:List Int):List Bool->List Int
 |[]=>X
 |true ::r=>91 ::(aL X r++[93])
 |false ::r=>123 ::34 ::97 ::34 ::58 ::(aL X r++[125])
noncomputable def szN:List Bool->Nat
 |[]=>1
 |k ::r=>(if k then 1 else 2)+szN r
noncomputable def nd4(nm:String)(a b c:Nat):PV:=.tup [.str nm,.int a,.int b,.int c]
noncomputable def ic(nm:String)(X:List Int):List Bool->Nat->Nat->List PV
 |[],p,m=>[nd4 nm p (p+X.length) (m+1)]
 |true ::r,p,m=>nd4 "row" p (p+(aL X (true ::r)).length) (m+szN (true ::r)) ::ic nm X r (p+1) (m+1)
 |false ::r,p,m=>nd4 "fields" p (p+(aL X (false ::r)).length) (m+szN (false ::r)) ::nd4 "name" (p+1) (p+4) (m+2) ::ic nm X r (p+5) (m+2)
noncomputable def dy(nm:String)(X:List Int):List Bool->Nat->Nat->List PV
 |[],p,m=>[nd4 nm p (p+X.length) (m+1)]
 |true ::r,p,m=>nd4 "row" p (p+(aL X (true ::r)).length) (m+szN (true ::r)) ::dy nm X r (p+1) (m+1)
 |false ::r,p,m=>nd4 "fields" p (p+(aL X (false ::r)).length) (m+szN (false ::r)) ::nd4 "name" (p+1) (p+4) (m+szN (false ::r)) ::dy nm X r (p+5) (m+2)
theorem j4(nm:String)(X:List Int):∀(ks:List Bool) (p m:Nat),(ic nm X ks p m).length=szN ks
 |[],_,_=>rfl
 |true ::r,p,m=>by simp[ic,szN,j4 nm X r];omega
 |false ::r,p,m=>by simp[ic,szN,j4 nm X r];omega
theorem so(nm:String)(X:List Int):∀(ks:List Bool) (p m:Nat),(dy nm X ks p m).length=szN ks
 |[],_,_=>rfl
 |true ::r,p,m=>by simp[dy,szN,so nm X r];omega
 |false ::r,p,m=>by simp[dy,szN,so nm X r];omega
theorem JJ(ks:List Bool):szN ks<=2*ks.length+1:=by
 induction ks with
 |nil=>simp[szN]
 |cons k r ih=>simp only[szN,List.length_cons];split<;>omega
noncomputable def XOk(nm:String)(X:List Int):Prop:=∀(W:List Int) (tree:List PV) (un:List OV) (P:List Int) (k:Bool) (R:List Int),RA W tree un P->W=P++(X++dr k ::R)->W.length<=90000->tree.length<=80000->un.length<=80000->RA W (tree++[nd4 nm P.length (P.length+X.length) (tree.length+1)]) un (P++X)
theorem GW:XOk "number" [49]:=fun W tree un P k R h hW hl ht hu=>by
 have:=h.num hW hl (by omega)
 simpa [nd4]using this
theorem DV(k:Bool):XOk (kN k) [if k then 91 else 123,dr k]:=fun W tree un P k' R h hW hl ht hu=>by
 have h1:=h.opn (X:=dr k ::dr k' ::R) k (by rw[hW];simp) (by omega) (by omega);have h2:=h1.close (X:=dr k' ::R) (j:=tree.length) (nm:=kN k) (a:=P.length) (rest:=[]) k (by rw[hW];simp) (by simp)
 have e:P++[if k then 91 else 123]++[dr k]=P++[if k then 91 else 123,dr k]:=by simp
 rw[e]at h2
 have e2:(tree++[PV.tup [.str (kN k),.int P.length]]).set tree.length (.tup [.str (kN k),.int P.length,.int (((P++[if k then 91 else 123]).length:Int)+1),.int ((tree++[PV.tup [.str (kN k),.int P.length]]).length:Int)])=tree++[nd4 (kN k) P.length (P.length+[if k then 91 else 123,dr k].length) (tree.length+1)]:=by
  simp[nd4];omega
 rw[e2]at h2;exact h2
theorem RA.nest{nm:String}{X W:List Int}(hX:XOk nm X)(hl:W.length<=90000):∀(ks:List Bool) (tree:List PV) (un:List OV) (P R:List Int),RA W tree un P->W=P++(aL X ks++R)->(ks=[]->∃ k R',R=dr k ::R')->tree.length+2*ks.length<=80000->un.length+ks.length<=80000 ->
  RA W (tree++ic nm X ks P.length tree.length) un (P++aL X ks)
 | [],tree,un,P,R,h,hW,hR,ht,hu=>by
   obtain⟨k,R',rfl⟩:=hR rfl;exact hX W tree un P k R' h hW hl (by simpa using ht) (by simpa using hu)
 | true ::r,tree,un,P,R,h,hW,hR,ht,hu=>by
   rw[List.length_cons]at ht hu;have h1:=h.opn (X:=aL X r++[93]++R) true (by rw[hW];simp[aL]) (by omega) (by omega);have h2:=RA.nest hX hl r _ _ _ (93 ::R) h1 (by rw[hW];simp[aL]) (fun _=>⟨true,R,rfl⟩) (by simp;omega) (by simp;omega);have h3:=h2.close (X:=R) (j:=tree.length) (nm:=kN true) (a:=P.length) (rest:=[]) true (by rw[hW];simp[aL,dr]) (by simp[kN])
   have e1:P++[if true then 91 else 123]++aL X r++[dr true]=P++aL X (true ::r):=by simp[aL,dr]
   rw[e1]at h3;refine cast (congrArg (fun t=>RA W t un (P++aL X (true ::r))) ?_) h3;have hb:=j4 nm X r (P.length+1) (tree.length+1);simp[ic,nd4,kN,aL,szN,hb];omega
 | false ::r,tree,un,P,R,h,hW,hR,ht,hu=>by
   rw[List.length_cons]at ht hu;have h1:=h.opn (X:=34 ::97 ::34 ::58 ::(aL X r++[125]++R)) false (by rw[hW];simp[aL]) (by omega) (by omega);have h1b:=(h1.name (X:=aL X r++[125]++R) (by rw[hW];simp[aL]) hl (by simp;omega)).skip (b:=58) (X:=aL X r++[125]++R) (by rw[hW];simp[aL]) (.inr (.inr rfl));have h2:=RA.nest hX hl r _ _ _ (125 ::R) h1b (by rw[hW];simp[aL]) (fun _=>⟨false,R,rfl⟩) (by simp;omega) (by simp;omega);have h3:=h2.close (X:=R) (j:=tree.length) (nm:=kN false) (a:=P.length) (rest:=[]) false (by rw[hW];simp[aL,dr]) (by simp[kN])
   have e1:P++[if false then 91 else 123]++[34,97,34]++[58]++aL X r++[dr false]=P++aL X (false ::r):=by simp[aL,dr]
   rw[e1]at h3;refine cast (congrArg (fun t=>RA W t un (P++aL X (false ::r))) ?_) h3;have hb:=j4 nm X r (P.length+5) (tree.length+2);simp[ic,nd4,kN,aL,szN,hb];omega
theorem zl{me:ag->OE}{ρ:ag}{ys:List PV}(h:∀(j:Nat) y,ys[j]?=some y->me (ρ++[some (.sh (.int j))])=.ok (.sh y)):cR me ρ (iV ys.length)=.ok ys:=by
 unfold iV
 have:=lJ (me:=me) (ρ:=ρ) (g:=fun j:Nat=>PV.int j) (f:=fun j:Nat=>(ys[j]?).getD .non) (List.range ys.length) (fun j hj=>by
  have hj':=List.mem_range.mp hj
  have hq:ys[j]?=some ys[j]:=List.getElem?_eq_getElem hj'
  rw[h j _ hq,hq];rfl)
 rw[this]
 congr 1
 refine List.ext_getElem (by simp) fun j h1 h2=>?_
 have hq:ys[j]?=some ys[j]:=List.getElem?_eq_getElem h2
 simp[hq]
theorem rB(a b c e:PV):atP [a,b,c,e] 0=some a:=rfl
theorem zk(a b c e:PV):atP [a,b,c,e] 1=some b:=rfl
theorem BW(a b c e:PV):atP [a,b,c,e] 2=some c:=rfl
theorem v8(a b c e:PV):atP [a,b,c,e] 3=some e:=rfl
theorem vL{tree:List PV}{j:Nat}{nm:String}{a b c:Nat}(h:tree[j]?=some (nd4 nm a b c))(hn:nm ≠ "name"):cX [.lst tree,.int j]=.ok (.sh (nd4 nm a b c)):=by
 have a1:atP tree (j:Int)=some (nd4 nm a b c):=by rw[jf,h]
 unfold nd4 at a1 ⊢
 simp -implicitDefEqProofs [jI,jK,kX,cX,bR,a1,cT,rB,zk,BW,v8,gNe,eqS,aH,hn,dm]
theorem Gy{tree:List PV}{j:Nat}{nm:String}{a b c a' b' c':Nat}(h:tree[j]?=some (nd4 "name" a b c))(h2:tree[j+1]?=some (nd4 nm a' b' c')):cX [.lst tree,.int j]=.ok (.sh (nd4 "name" a b c')):=by
 have a1:atP tree (j:Int)=some (nd4 "name" a b c):=by rw[jf,h]
 have a2:atP tree ((j:Int)+1)=some (nd4 nm a' b' c'):=by rw[show((j:Int)+1)=((j+1:Nat):Int) by omega,jf,h2]
 unfold nd4 at a1 a2 ⊢
 simp -implicitDefEqProofs [jI,jK,kX,cX,bR,a1,a2,cT,rB,zk,BW,v8,gNe,eqS,aH]
theorem G8(nm:String)(X:List Int)(hn:nm ≠ "name")(ks:List Bool)(p m:Nat):∃ nm' a b rest,nm' ≠ "name" /\ ic nm X ks p m=nd4 nm' a b (m+szN ks) ::rest:=by
 match ks with
 |[]=>exact⟨nm,p,p+X.length,[],hn,rfl⟩
 |true ::r=>exact⟨"row",_,_,_,by decide,rfl⟩
 |false ::r=>exact⟨"fields",_,_,_,by decide,rfl⟩
theorem DL(nm:String)(X:List Int)(ks:List Bool)(p m:Nat):∃ nm' a b rest,dy nm X ks p m=nd4 nm' a b (m+szN ks) ::rest:=by
 match ks with
 |[]=>exact⟨nm,p,p+X.length,[],rfl⟩
 |true ::r=>exact⟨"row",_,_,_,rfl⟩
 |false ::r=>exact⟨"fields",_,_,_,rfl⟩
theorem yG{nm:String}{X:List Int}(hn:nm ≠ "name"){tree:List PV}:∀(ks:List Bool) (pre:List PV) (p:Nat),tree=pre++ic nm X ks p pre.length->∀(j:Nat) (y:PV),(dy nm X ks p pre.length)[j]?=some y->cX [.lst tree,.int ((pre.length+j:Nat):Int)]=.ok (.sh y)
 | [],pre,p,ht,j,y,hy=>by
   cases j with
   | zero=>
     cases hy;exact vL (by rw[ht];simp[ic]) hn
   |succ j=>simp[dy]at hy
 | true ::r,pre,p,ht,j,y,hy=>by
   cases j with
   | zero=>
     cases hy;exact vL (by rw[ht];simp[ic]) (by decide)
   | succ j=>
     have:=yG (X:=X) hn (tree:=tree) r (pre++[nd4 "row" p (p+(aL X (true ::r)).length) (pre.length+szN (true ::r))]) (p+1) (by rw[ht];simp[ic]) j y (by simpa [dy]using hy);rw[show pre.length+(j+1)=(pre++[nd4 "row" p (p+(aL X (true ::r)).length) (pre.length+szN (true ::r))]).length+j by simp;omega];exact this
 | false ::r,pre,p,ht,j,y,hy=>by
   match j,hy with
   | 0,hy=>
     cases hy;exact vL (by rw[ht];simp[ic]) (by decide)
   | 1,hy=>
     obtain⟨nm',a,b,rest,_,e⟩:=G8 nm X hn r (p+5) (pre.length+2)
     have he:(dy nm X (false ::r) p pre.length)[1]?=some (nd4 "name" (p+1) (p+4) (pre.length+szN (false ::r))):=rfl
     rw[he]at hy;cases hy
     have hz:pre.length+szN (false ::r)=pre.length+2+szN r:=by simp[szN];omega
     rw[hz];refine Gy (c:=pre.length+2) (nm:=nm') (a':=a) (b':=b) ?_ ?_
     . rw[ht];simp[ic]
     . rw[ht,List.getElem?_append_right (by omega)];rw[show pre.length+1+1 - pre.length=2 by omega];simp[ic,e]
   | j+2,hy=>
     have:=yG (X:=X) hn (tree:=tree) r (pre++[nd4 "fields" p (p+(aL X (false ::r)).length) (pre.length+szN (false ::r)),nd4 "name" (p+1) (p+4) (pre.length+2)]) (p+5) (by rw[ht];simp[ic]) j y (by simpa [dy]using hy);rw[show pre.length+(j+2)=(pre++[nd4 "fields" p (p+(aL X (false ::r)).length) (pre.length+szN (false ::r)),nd4 "name" (p+1) (p+4) (pre.length+2)]).length+j by simp;omega];exact this
theorem mO{nm:String}{X:List Int}(hX:XOk nm X)(hn:nm ≠ "name"){ks:List Bool}(hne:ks≠[])(hk:ks.length<=1000)(hl:8*(aL X ks).length+20<100000)(hf:PG.flt (aL X ks)=none):
  jc [.lst ((aL X ks).map .int)]=.ok (.fr (dy nm X ks 0 0)):=by
 have h1:=RA.nest hX (by omega) ks [] [] [] [] (RA.nil (aL X ks)) (by simp) (fun z=>absurd z hne) (by simp;omega) (by simp;omega);rw[List.nil_append,List.nil_append]at h1;obtain⟨x,y,hw⟩:=h1.done (by omega)
 have hlen:(dy nm X ks 0 0).length=(ic nm X ks 0 0).length:=by rw[so,j4]
 have hs:=JJ ks;refine CT (aL X ks) _ _ x y _ hf hl (by rw[List.length_nil,List.length_nil,j4];omega) hw ?_ hlen
 have:=zl (me:=o9) (ρ:=[some (.sh (.lst (ic nm X ks 0 0)))]) (ys:=dy nm X ks 0 0) (fun j z hz=>by
  have:=yG (X:=X) hn (tree:=ic nm X ks 0 0) ks [] 0 rfl j z hz;rw[List.length_nil,Nat.zero_add]at this
  simp[o9,this])
 rw[hlen]at this;exact this
theorem Ma(k:Bool)(l2:(2:Nat)<=lim)(ρ:ag)(me:ag->OE)(h:me ρ=.ok (.sh (.str (kN k)))):aE (mOp gIn me (gp (ah (mC (.str "row")) (ah (mC (.str "fields")) aI)))) ρ=.ok true:=by
 cases k<;>simp -implicitDefEqProofs [aE,h,kN,gIn,ir,cU,dW,l2,aH]
theorem nW{tree:List PV}{i:Nat}{nm:String}{a b c:Nat}(h:tree[i]?=some (nd4 nm a b c)){z:Int}(hz:z=i):atP tree z=some (.tup [.str nm,.int a,.int b,.int c]):=by
 rw[hz,jf,h];rfl
noncomputable abbrev inE(tree:List PV)(i:Nat)(f:List PV)(k:Option Sl):ag:=[some (.sh (.lst tree)),some (.sh (.int i)),some (.ow f),k]
theorem j3{tree:List PV}{i:Nat}{k:Bool}{a b n:Nat}(h:tree[i]?=some (nd4 (kN k) a b n))(hs:n=i+1 \/ (i+1<n /\ ∃ nm a' b',tree[i+1]?=some (nd4 nm a' b' n))):jg [.lst tree,.int i]=.ok (.fr (if n=i+1 then[]else[.int ((i:Int)+1)])):=by
 have l2:(2:Nat)<=lim:=cx (by omega)
 have l1:(0:Nat)<lim:=cx (n:=1) (by omega)
 have h0:=nW h rfl
 obtain⟨f,hf⟩:∃ f,fuel=f+2:=⟨fuel - 2,by unfold fuel;omega⟩
 unfold jg fnP;rw[if_pos (show List.length [PV.lst tree,.int i]=2 from rfl),show eW 4 [PV.lst tree,.int i]=[some (.sh (.lst tree)),some (.sh (.int i)),none,none] from rfl];unfold Cv;rw[bL (ρ':=inE tree i [] none) (by simp[aY,gj])];unfold xk
 have hc:aE (mOp gIn (mOp cT (mOp bR (aj 0) (aj 1)) (mC (.int 0))) (gp (ah (mC (.str "row")) (ah (mC (.str "fields")) aI)))) (inE tree i [] none)=.ok true:=Ma k l2 _ _ (by simp -implicitDefEqProofs [bR,h0,cT,rB])
 have hset:aY 3 (mOp eV (aj 1) (mC (.int 1))) (inE tree i [] none)=.nx (inE tree i [] (some (.sh (.int ((i:Int)+1))))):=by simp[aY]
 rcases hs with hs|⟨hs,nm,a',b',h1⟩
 . have hw:bI fK j7 fuel (inE tree i [] (some (.sh (.int ((i:Int) + 1))))) = .nx (inE tree i [] (some (.sh (.int ((i:Int) + 1))))):=by
    rw[hf];unfold bI
    rw[show fK (inE tree i [] (some (.sh (.int ((i:Int)+1)))))=.ok false by
     unfold fK
     simp -implicitDefEqProofs [aE,bR,h0,cT,v8,hs]]
    rfl
   rw[bL (ρ':=inE tree i [] (some (.sh (.int ((i:Int)+1))))) ((Bk hc).trans (by rw[bL hset,hw])),if_pos hs];rfl
 . have hlt:(i:Int)+1<n:=by omega
   have a1:=nW h1 (z:=(i:Int)+1) (by omega)
   have hw:bI fK j7 fuel (inE tree i [] (some (.sh (.int ((i:Int)+1)))))=.nx (inE tree i [.int ((i:Int)+1)] (some (.sh (.int n)))):=by
    rw[hf];unfold bI
    rw[show fK (inE tree i [] (some (.sh (.int ((i:Int)+1)))))=.ok true by
     unfold fK
     simp -implicitDefEqProofs [aE,bR,h0,cT,v8,hlt]]
    have hb:j7 (inE tree i [] (some (.sh (.int ((i:Int)+1)))))=.nx (inE tree i [.int ((i:Int)+1)] (some (.sh (.int n)))):=by
     unfold j7;simp -implicitDefEqProofs [fj,eX,l1,aY,bR,a1,cT,v8]
    rw[fu,if_pos rfl,hb];show bI fK j7 (f+1) _=_;unfold bI
    rw[show fK (inE tree i [.int ((i:Int)+1)] (some (.sh (.int n))))=.ok false by
     unfold fK
     simp -implicitDefEqProofs [aE,bR,h0,cT,v8]]
    rfl
   rw[bL (ρ':=inE tree i [.int ((i:Int)+1)] (some (.sh (.int n)))) ((Bk hc).trans (by rw[bL hset,hw])),if_neg (by omega)];rfl
theorem HL(c:Int):de [.int c]=.ok (.sh (.bl (decide (48<=c)&&decide (c<=57)))):=by
 by_cases h1:48<=c<;>by_cases h2:c<=57<;>simp[nP,de,fM,h1,h2]
theorem FW:eO [.tup [.int 48]]=.ok (.sh (.int 0)):=by
 have l1:(1:Nat)<=lim:=cx (by omega)
 simp -implicitDefEqProofs [mf,lR,qb,eO,tM,tG,wZ,j8,dS,pq,nG,cR,noX,df,mV,HL,xv,jV,l1,cT,atP,ixP,aE,RV.pv,eX,B1,Cc,tu,aY,gj]
theorem GH:eO [.tup [.int 97]]=.ok (.sh .non):=by
 have l1:(1:Nat)<=lim:=cx (by omega)
 simp -implicitDefEqProofs [mf,lR,qb,eO,dS,pq,nG,cR,noX,df,mV,HL,xv,jV,l1,RV.pv,eX]
theorem Bd:ka [.lst [.int 97]]=.ok (.fr [.int 97]):=by
 have l1:(0:Nat)<lim:=cx (n:=1) (by omega)
 obtain⟨f,hf⟩:∃ f,fuel=f+2:=⟨fuel - 2,by unfold fuel;omega⟩
 have h1:fS [.int 97]=.ok (.fr []):=by simp[i9,iY,i5,i6,mj,fS,fM]
 have h2:dQ [.lst [.int 97],.int 0]=.ok (.sh (.int 1)):=by
  simp -implicitDefEqProofs [kC,kK,kJ,kQ,nu,dQ,h1,bR,atP,ixP,aY,gj,aE,vX,bW,RV.pv,oV,iQ,n6,gm]
 have h3:gd [.lst [.int 97],.int 0,.int 1]=.ok (.sh (.int 97)):=by
  simp -implicitDefEqProofs [pV,pE,tP,gd,bR,cT,atP,ixP,aY,gj,RV.pv,iQ,n6,gm,yy,qy,vZ,lF,gB]
 simp -implicitDefEqProofs [u7,vy,vd,zY,ka,hf,bI,uu,vD,h2,h3,aY,gj,fj,eX,l1,aE]
theorem Lb:cZ [.lst [.int 97]]=.ok (.fr [.int 97]):=by
 have l1:(0:Nat)<lim:=cx (n:=1) (by omega)
 obtain⟨f,hf⟩:∃ f,fuel=f+2:=⟨fuel - 2,by unfold fuel;omega⟩
 have h2:fX [.lst [.int 97],.int 0]=.ok (.sh (.int 1)):=by
  simp -implicitDefEqProofs [pK,pO,pT,tB,fX,bR,atP,ixP,aE]
 have h3:fz [.lst [.int 97],.int 0,.int 1]=.ok (.sh (.int 97)):=by
  simp -implicitDefEqProofs [nJ,n4,nR,qN,fz,bR,atP,ixP,aE]
 simp -implicitDefEqProofs [jR,jL,jO,kU,cZ,hf,bI,jQ,jM,h2,h3,aY,gj,fj,eX,l1,aE,sL]
theorem uf{W P R:List Int}{tree:List PV}{j c:Nat}(hW:W=P++(34 ::97 ::34 ::R))(hj:tree[j]?=some (nd4 "name" P.length (P.length+3) c)){z:Int}(hz:z=j):m5 [.lst (W.map .int),.lst tree,.int z]=.ok (.fr [.int 97]):=by
 have l2:(2:Nat)<=lim:=cx (by omega)
 have h0:=nW hj hz
 have hcut:qy (W.map PV.int) (some ((P.length:Int)+1)) (some ((P.length:Int)+3 - 1))=[.int 97]:=by
  simp only[qy,vZ]
  have hl:(W.map PV.int).length=P.length+(R.length+3):=by rw[hW];simp
  have e1:((P.length:Int)+1).toNat=P.length+1:=by omega
  have e2:((P.length:Int)+3 - 1).toNat=P.length+2:=by omega
  rw[if_neg (by omega),if_neg (by omega),hl,e1,e2,Nat.min_eq_left (by omega),Nat.min_eq_left (by omega),hW];rw[List.map_append,List.drop_append]
  have hd:List.drop (P.length+1) (List.map PV.int P)=[]:=List.drop_eq_nil_of_le (by simp)
  simp[hd]
 have hs:rY (aj 0) (gB (mOp eV (mOp cT (aj 3) (mC (.int 1))) (mC (.int 1)))) (gB (mOp tT (mOp cT (aj 3) (mC (.int 2))) (mC (.int 1)))) [some (.sh (.lst (W.map .int))),some (.sh (.lst tree)),some (.sh (.int z)),some (.sh (.tup [.str "name",.int P.length,.int ((P.length+3:Nat):Int),.int c]))]=.ok (.fr [.int 97]):=by
  simp -implicitDefEqProofs [gB,RV.pv,lF,yy,cT,zk,BW,hcut]
 unfold m5 fnP;rw[if_pos (show List.length [PV.lst (W.map .int),.lst tree,.int z]=3 from rfl),show eW 4 [PV.lst (W.map .int),.lst tree,.int z]=[some (.sh (.lst (W.map .int))),some (.sh (.lst tree)),some (.sh (.int z)),none] from rfl];unfold Cr;rw[bL (ρ':=[some (.sh (.lst (W.map .int))),some (.sh (.lst tree)),some (.sh (.int z)),some (.sh (.tup [.str "name",.int P.length,.int ((P.length+3:Nat):Int),.int c]))]) (by simp -implicitDefEqProofs [aY,bR,h0,gj])];unfold v7;rw[sk (by simp -implicitDefEqProofs [aE,cT,rB,ke,ir,cU,dW,aH,l2])];unfold wJ;simp only[ba,aQ,ah,hs];simp -implicitDefEqProofs [eX,Bd,Lb]
theorem yb{tree:List PV}{i a b n:Nat}(h:tree[i]?=some (nd4 "row" a b n))(hlt:i+1<n)(h1:∃ nm a' b',tree[i+1]?=some (nd4 nm a' b' n)):qc [.lst tree,.int i,.int 0]=.ok (.sh (.int ((i:Int)+1))):=by
 have hi:=j3 (k:=true) h (.inr ⟨hlt,h1⟩);rw[if_neg (by omega)]at hi;have h0:=nW h rfl
 have hx:atP [PV.int ((i:Int)+1)] 0=some (.int ((i:Int)+1)):=rfl
 simp -implicitDefEqProofs [zj,zo,Ae,Eu,qc,hi,aY,gj,aE,fM,RV.pv,bR,h0,cT,rB,gEq,eqS,aH,hx]
theorem Kr{W P R:List Int}{tree:List PV}{i a b n:Nat}(hW:W=P++(34 ::97 ::34 ::R))(h:tree[i]?=some (nd4 "fields" a b n))(hlt:i+1<n)(h1:tree[i+1]?=some (nd4 "name" P.length (P.length+3) n)):ki [.lst (W.map .int),.lst tree,.int i,.tup [.int 97]]=.ok (.sh (.int ((i:Int)+2))):=by
 have hi:=j3 (k:=false) h (.inr ⟨hlt,_,_,_,h1⟩);rw[if_neg (by omega)]at hi;have h0:=nW h rfl;have hm:=uf hW h1 (z:=(i:Int)+1) (by omega)
 have l1:(1:Nat)<=lim:=cx (by omega)
 have e:(i:Int)+1+1=(i:Int)+2:=by omega
 simp -implicitDefEqProofs [zG,ki,hi,aE,RV.pv,bR,h0,cT,rB,gEq,eqS,aH,iQ,n6,gm,u4,hm,Jo,Gh,qw,qC,e,l1]
noncomputable def nmB(k:Bool):PV:=.tup [.int (if k then 48 else 97)]
noncomputable abbrev ntE(W:List Int)(tree ns:List PV)(i:Nat)(o:Option Sl):ag:=[some (.sh (.lst (W.map .int))),some (.sh (.lst tree)),some (.sh (.lst ns)),some (.sh (.int i)),o]
theorem Ji{W:List Int}{tree:List PV}{i a b n:Nat}(h:tree[i]?=some (nd4 "row" a b n))(hlt:i+1<n)(h1:∃ nm a' b',tree[i+1]?=some (nd4 nm a' b' n)):dD [.lst (W.map .int),.lst tree,.int i,nmB true]=.ok (.sh (.int ((i:Int)+1))):=by
 have hi:=yb h hlt h1;have h0:=nW h rfl
 have hp:eO [nmB true]=.ok (.sh (.int 0)):=FW
 simp -implicitDefEqProofs [jE,jD,kW,dD,hp,aY,gj,aE,RV.pv,bR,h0,cT,rB,gEq,eqS,aH,nQ,bW,hi,Dj]
theorem JW{W P R:List Int}{tree:List PV}{i a b n:Nat}(hW:W=P++(34 ::97 ::34 ::R))(h:tree[i]?=some (nd4 "fields" a b n))(hlt:i+1<n)(h1:tree[i+1]?=some (nd4 "name" P.length (P.length+3) n)):dD [.lst (W.map .int),.lst tree,.int i,nmB false]=.ok (.sh (.int ((i:Int)+2))):=by
 have hi:=Kr hW h hlt h1;have h0:=nW h rfl;have hp:=GH
 have hnm:nmB false=.tup [.int 97]:=rfl
 simp -implicitDefEqProofs [jE,jD,kW,dD,hp,aY,gj,aE,RV.pv,bR,h0,cT,rB,gEq,eqS,aH,hnm,hi,Dj]
theorem o3(ks:List Bool):1<=szN ks:=by
 cases ks with
 |nil=>exact Nat.le_refl _
 |cons k r=>simp only[szN];split<;>omega
theorem qp{nm:String}{X W:List Int}{F ns:List PV}:∀(ks:List Bool) (pre:List PV) (P R:List Int) (o:Option Sl),F=pre++dy nm X ks P.length pre.length->W=P++(aL X ks++R)->∃ o',gm 4 iF (ks.map nmB) (ntE W F ns pre.length o)=.nx (ntE W F ns (pre.length+szN ks - 1) o')
 |[],pre,P,R,o,hF,hW=>⟨o,rfl⟩
 | true ::r,pre,P,R,o,hF,hW=>by
   have hs:=o3 r;obtain⟨nm',a,b,rest,e⟩:=DL nm X r (P.length+1) (pre.length+1)
   have hn:pre.length+szN (true ::r)=pre.length+1+szN r:=by simp[szN];omega
   have hnb:=Ji (W:=W) (tree:=F) (i:=pre.length) (a:=P.length) (b:=P.length+(aL X (true ::r)).length) (n:=pre.length+szN (true ::r)) (by rw[hF];simp[dy]) (by omega) ⟨nm',a,b,by
    rw[hF,List.getElem?_append_right (by omega),show pre.length+1 - pre.length=1 by omega,hn]
    simp[dy,e]⟩
   obtain⟨o',ih⟩:=qp (nm:=nm) (X:=X) (W:=W) (F:=F) (ns:=ns) r (pre++[nd4 "row" P.length (P.length+(aL X (true ::r)).length) (pre.length+szN (true ::r))]) (P++[91]) ([93]++R) (some (.sh (nmB true))) (by rw[hF];simp[dy]) (by rw[hW];simp[aL])
   refine⟨o',?_⟩
   rw[List.map_cons,nO (ρ':=ntE W F ns (pre.length+1) (some (.sh (nmB true)))) (by
    unfold iF
    simp[aY,hnb])]
   rw[show(pre++[nd4 "row" P.length (P.length+(aL X (true ::r)).length) (pre.length+szN (true ::r))]).length=pre.length+1 by simp]at ih;rw[ih,hn]
 | false ::r,pre,P,R,o,hF,hW=>by
   have hs:=o3 r
   have hn:pre.length+szN (false ::r)=pre.length+2+szN r:=by simp[szN];omega
   have hnb:=JW (W:=W) (P:=P++[123]) (R:=58 ::(aL X r++[125]++R)) (tree:=F) (i:=pre.length) (a:=P.length) (b:=P.length+(aL X (false ::r)).length) (n:=pre.length+szN (false ::r)) (by rw[hW];simp[aL]) (by rw[hF];simp[dy]) (by omega) (by
    rw[hF,List.getElem?_append_right (by omega),show pre.length+1 - pre.length=1 by omega]
    simp[dy])
   obtain⟨o',ih⟩:=qp (nm:=nm) (X:=X) (W:=W) (F:=F) (ns:=ns) r (pre++[nd4 "fields" P.length (P.length+(aL X (false ::r)).length) (pre.length+szN (false ::r)),nd4 "name" (P.length+1) (P.length+4) (pre.length+szN (false ::r))]) (P++[123,34,97,34,58]) ([125]++R) (some (.sh (nmB false))) (by rw[hF];simp[dy]) (by rw[hW];simp[aL])
   refine⟨o',?_⟩
   rw[List.map_cons,nO (ρ':=ntE W F ns (pre.length+2) (some (.sh (nmB false)))) (by
    unfold iF
    simp[aY,hnb])]
   rw[show(pre++[nd4 "fields" P.length (P.length+(aL X (false ::r)).length) (pre.length+szN (false ::r)),nd4 "name" (P.length+1) (P.length+4) (pre.length+szN (false ::r))]).length=pre.length+2 by simp]at ih;rw[ih,hn]
theorem BE(nm:String)(X:List Int)(ks:List Bool):dB [.lst ((aL X ks).map .int),.lst (dy nm X ks 0 0),.lst (ks.map nmB)]=.ok (.sh (.int ((szN ks - 1:Nat):Int))):=by
 obtain⟨o,h⟩:=qp (nm:=nm) (X:=X) (W:=aL X ks) (F:=dy nm X ks 0 0) (ns:=ks.map nmB) ks [] [] [] none rfl (by simp);rw[List.length_nil,Nat.zero_add]at h;unfold dB fnP;rw[if_pos (show List.length [PV.lst ((aL X ks).map .int),.lst (dy nm X ks 0 0),.lst (ks.map nmB)]=3 from rfl),show eW 5 [PV.lst ((aL X ks).map .int),.lst (dy nm X ks 0 0),.lst (ks.map nmB)]=[some (.sh (.lst ((aL X ks).map .int))),some (.sh (.lst (dy nm X ks 0 0))),some (.sh (.lst (ks.map nmB))),none,none] from rfl];unfold rq;rw[bL (ρ':=ntE (aL X ks) (dy nm X ks 0 0) (ks.map nmB) 0 none) (by simp[aY])];unfold om
 rw[bL (ρ':=ntE (aL X ks) (dy nm X ks 0 0) (ks.map nmB) (szN ks - 1) o) (by
  unfold iQ;simp only[jw,List.getElem?_cons_succ,List.getElem?_cons_zero,eL,n6]
  exact h)]
 rfl
noncomputable def atN:List Bool->Nat
 |[]=>0
 |k ::r=>(if k then 1 else 5)+atN r
noncomputable def eY:List Bool->List Int
 |[]=>[]
 |k ::r=>opb (k,97)++eY r
noncomputable def iT:List Bool->List Int
 |[]=>[]
 |k ::r=>iT r++[dr k]
theorem kn:∀ ks:List Bool,(eY ks).length=atN ks
 |[]=>rfl
 |true ::r=>by simp[eY,opb,atN,kn r];omega
 |false ::r=>by simp[eY,opb,atN,kn r];omega
theorem gT(X:List Int):∀ ks:List Bool,aL X ks=eY ks++(X++iT ks)
 |[]=>by simp[aL,eY,iT]
 |true ::r=>by simp[aL,eY,iT,opb,dr,gT X r]
 |false ::r=>by simp[aL,eY,iT,opb,dr,gT X r]
noncomputable def psN(ks:List Bool):List (Bool×Int):=ks.map fun k=>(k,97)
theorem yM(ks:List Bool):fU (psN ks)=eY ks:=by
 induction ks with
 |nil=>rfl
 |cons k r ih=>simp only[psN,List.map_cons,fU,eY]at ih ⊢;rw[ih]
theorem cls_cons(p:Bool×Int)(ps:List (Bool×Int)):kz (p ::ps)=kz ps++[dr p.1]:=by simp[kz]
theorem xw(ks:List Bool):kz (psN ks)=iT ks:=by
 induction ks with
 |nil=>rfl
 |cons k r ih=>rw[show psN (k ::r)=(k,97) ::psN r from rfl,cls_cons,ih];rfl
theorem BF(a b:List (Bool×Int)):fU (a++b)=fU a++fU b:=by
 induction a with
 |nil=>rfl
 |cons x a ih=>simp[fU,ih]
theorem BQ(a b:List (Bool×Int)):kz (a++b)=kz b++kz a:=by simp[kz]
theorem Bw(ks:List Bool):∀ p∈psN ks,p.2=97 \/ p.2=98:=fun p hp=>by
 obtain⟨k,_,rfl⟩:=List.mem_map.mp hp;exact .inl rfl
theorem oY{X:List Int}{d:Nat}(hX:wu X d){ks:List Bool}(hne:ks≠[])(hl:ks.length+d<=64):PG.flt (aL X ks)=none:=by
 rw[gT,<- yM,<- xw];exact zI hX (Bw ks) (by simpa [psN]using hne) (by simpa [psN]using hl)
theorem j5(nm:String)(X:List Int):∀(ks:List Bool) (p m:Nat),(dy nm X ks p m)[szN ks - 1]?=some (nd4 nm (p+atN ks) (p+atN ks+X.length) (m+szN ks))
 |[],p,m=>rfl
 | true ::r,p,m=>by
   have hs:=o3 r;have ih:=j5 nm X r (p+1) (m+1);rw[show szN (true ::r) - 1=(szN r - 1)+1 by simp[szN];omega]
   show(dy nm X r (p+1) (m+1))[szN r - 1]?=_
   rw[ih,show p+atN (true ::r)=p+1+atN r by simp[atN];omega,show m+szN (true ::r)=m+1+szN r by simp[szN];omega]
 | false ::r,p,m=>by
   have hs:=o3 r;have ih:=j5 nm X r (p+5) (m+2);rw[show szN (false ::r) - 1=(szN r - 1)+2 by simp[szN];omega]
   show(dy nm X r (p+5) (m+2))[szN r - 1]?=_
   rw[ih,show p+atN (false ::r)=p+5+atN r by simp[atN];omega,show m+szN (false ::r)=m+2+szN r by simp[szN];omega]
noncomputable def Swp(c:List Int)(o:OE):Prop:=(PG.flt c=none->o=.ok (.sh (.lst (c.map .int)))) /\ (PG.flt c≠none->∃ fs,o=.exc "TooDeep" fs)
theorem i0{A M B more:List Int}(hl:8*(A++(more++B)).length+20<100000){x y:Int}(hx:x=A.length)(hy:y=(A.length:Int)+M.length):Swp (A++(more++B)) (fJ [.lst ((A++(M++B)).map .int),.int x,.int y,.lst (more.map .int)]):=by
 have hf:=o5 (A++(more++B)) hl;subst hx hy
 have hlen:A.length+(more.length+B.length)<100000:=by
  have:(A++(more++B)).length=A.length+(more.length+B.length):=by simp
  omega
 have l1:A.length+more.length<=lim:=cx (by omega)
 have l2:A.length+more.length+B.length<=lim:=cx (by omega)
 have h1:rY (aj 0) (mC .non) (gB (aj 1)) [some (.sh (.lst ((A++(M++B)).map .int))),some (.sh (.int A.length)),some (.sh (.int ((A.length:Int)+M.length))),some (.sh (.lst (more.map .int))),none]=.ok (.fr (A.map .int)):=by
  have e:qy ((A++(M++B)).map PV.int) none (some (A.length:Int))=A.map .int:=by
   simp only[qy,vZ];rw[if_neg (by omega),List.drop_zero,Nat.sub_zero,show((A.length:Nat):Int).toNat=A.length by omega,Nat.min_eq_left (by simp),List.map_append,List.take_append_of_le_length (by simp),List.take_of_length_le (by simp)]
  simp -implicitDefEqProofs [gB,RV.pv,lF,yy];rw[<- List.map_append,<- List.map_append,e]
 have h2:rY (aj 0) (gB (aj 2)) (mC .non) [some (.sh (.lst ((A++(M++B)).map .int))),some (.sh (.int A.length)),some (.sh (.int ((A.length:Int)+M.length))),some (.sh (.lst (more.map .int))),none]=.ok (.fr (B.map .int)):=by
  have e:qy ((A++(M++B)).map PV.int) (some ((A.length:Int)+M.length)) none=B.map .int:=by
   simp only[qy,vZ];rw[if_neg (by omega),show((A.length:Int)+M.length).toNat=A.length+M.length by omega,Nat.min_eq_left (by simp<;>omega),<- List.append_assoc,List.map_append,List.drop_left' (by simp),List.take_of_length_le (by simp<;>omega)]
  simp -implicitDefEqProofs [gB,RV.pv,lF,yy];rw[<- List.map_append,<- List.map_append,e]
 have hset:aY 4 (mOp gy (mOp gy (rY (aj 0) (mC .non) (gB (aj 1))) (aj 3)) (rY (aj 0) (gB (aj 2)) (mC .non))) [some (.sh (.lst ((A++(M++B)).map .int))),some (.sh (.int A.length)),some (.sh (.int ((A.length:Int)+M.length))),some (.sh (.lst (more.map .int))),none]=.nx [some (.sh (.lst ((A++(M++B)).map .int))),some (.sh (.int A.length)),some (.sh (.int ((A.length:Int)+M.length))),some (.sh (.lst (more.map .int))),some (.ow ((A++(more++B)).map .int))]:=by
  simp only[aY,mOp,h1,h2];simp -implicitDefEqProofs [gy,RV.pv,gj,l1,l2]
 have hfn:fJ [.lst ((A++(M++B)).map .int),.int A.length,.int ((A.length:Int)+M.length),.lst (more.map .int)]=fin (oN [some (.sh (.lst ((A++(M++B)).map .int))),some (.sh (.int A.length)),some (.sh (.int ((A.length:Int)+M.length))),some (.sh (.lst (more.map .int))),some (.ow ((A++(more++B)).map .int))]):=by
  unfold fJ fnP;rw[if_pos (show List.length [PV.lst ((A++(M++B)).map .int),.int A.length,.int ((A.length:Int)+M.length),.lst (more.map .int)]=4 from rfl),show eW 5 [PV.lst ((A++(M++B)).map .int),.int A.length,.int ((A.length:Int)+M.length),.lst (more.map .int)]=[some (.sh (.lst ((A++(M++B)).map .int))),some (.sh (.int A.length)),some (.sh (.int ((A.length:Int)+M.length))),some (.sh (.lst (more.map .int))),none] from rfl];unfold wN;rw[bL hset]
 rw[hfn];unfold oN
 have hfz:∀ n:ag->OS,eD 4 n [some (.sh (.lst ((A++(M++B)).map .int))),some (.sh (.int A.length)),some (.sh (.int ((A.length:Int)+M.length))),some (.sh (.lst (more.map .int))),some (.ow ((A++(more++B)).map .int))]=n [some (.sh (.lst ((A++(M++B)).map .int))),some (.sh (.int A.length)),some (.sh (.int ((A.length:Int)+M.length))),some (.sh (.lst (more.map .int))),some (.sh (.lst ((A++(more++B)).map .int)))]:=fun n=>rfl
 generalize A++(more++B)=c at hf hfz ⊢
 refine⟨fun h=>?_,fun h=>?_⟩
 . rw[h]at hf;rw[bL ((hfz _).trans ((C5 (by simp -implicitDefEqProofs [aE,hf,ofO,nQ,bW,RV.pv])).trans (BG _)))];rfl
 . cases e:PG.flt c with
   |none=>exact absurd e h
   | some k=>
     rw[e]at hf
     refine⟨?_,?_⟩
     rotate_left
     . unfold aM;rw[hfz,Bk (by simp -implicitDefEqProofs [aE,hf,ofO,nQ,bW,RV.pv])];simp[xQ];rfl
theorem Swp.ret{c:List Int}{o:OE}(h:Swp c o){me:ag->OE}{ρ:ag}(he:me ρ=o):Swp c (fin (ba me ρ)):=by
 refine⟨fun z=>?_,fun z=>?_⟩
 . unfold ba;rw[he,h.1 z];rfl
 . obtain⟨fs,e⟩:=h.2 z
   exact⟨fs,by unfold ba;rw[he,e];rfl⟩
theorem Cb{ks:List Bool}{other:List Int}(hne:ks≠[])(hk:ks.length<=60)(ho:PG.flt other=none)(hl:other.length<=1000)(hn:(aL [49] ks).length<=1000):Swp (eY ks++(other++iT ks)) (qP [.lst ((aL [49] ks).map .int),.lst (ks.map nmB),.lst (other.map .int)]):=by
 have hf:=oY xG hne (by omega);have h1:=mO GW (by decide) hne (by omega) (by omega) hf;have h2:=BE "number" [49] ks;have h3:=nW (j5 "number" [49] ks 0 0) rfl;have hr:=rn other (by omega);rw[ho]at hr;have heq:=gT [49] ks;have hlen:=kn ks
 have hle:(aL [49] ks).length=(eY ks).length+([49].length+(iT ks).length):=by rw[heq];simp;omega
 have hsw:=i0 (A:=eY ks) (M:=[49]) (B:=iT ks) (more:=other) (by simp at hle ⊢;omega) (x:=((0+atN ks:Nat):Int)) (y:=((0+atN ks+[49].length:Nat):Int)) (by rw[hlen];omega) (by rw[hlen];simp);rw[<- heq]at hsw;unfold qP fnP;rw[if_pos (show List.length [PV.lst ((aL [49] ks).map .int),.lst (ks.map nmB),.lst (other.map .int)]=3 from rfl),show eW 5 [PV.lst ((aL [49] ks).map .int),.lst (ks.map nmB),.lst (other.map .int)]=[some (.sh (.lst ((aL [49] ks).map .int))),some (.sh (.lst (ks.map nmB))),some (.sh (.lst (other.map .int))),none,none] from rfl];generalize dy "number" [49] ks 0 0=F at h1 h2 h3;unfold Hu;rw[bL (ρ':=[some (.sh (.lst ((aL [49] ks).map .int))),some (.sh (.lst (ks.map nmB))),some (.sh (.lst (other.map .int))),some (.ow F),none]) (by simp[aY,h1,gj])];unfold Cy
 rw[bL (ρ':=[some (.sh (.lst ((aL [49] ks).map .int))),some (.sh (.lst (ks.map nmB))),some (.sh (.lst (other.map .int))),some (.sh (.lst F)),some (.sh (.tup [.str "number",.int ((0+atN ks:Nat):Int),.int ((0+atN ks+[49].length:Nat):Int),.int ((0+szN ks:Nat):Int)]))]) (by
  rw[Dv,show oV 3 [some (.sh (.lst ((aL [49] ks).map .int))),some (.sh (.lst (ks.map nmB))),some (.sh (.lst (other.map .int))),some (.ow F),none]=[some (.sh (.lst ((aL [49] ks).map .int))),some (.sh (.lst (ks.map nmB))),some (.sh (.lst (other.map .int))),some (.sh (.lst F)),none] from rfl]
  have hv:mOp bR (aj 3) (aQ dB (ah (aj 0) (ah (aj 3) (ah (aj 1) aI)))) [some (.sh (.lst ((aL [49] ks).map .int))),some (.sh (.lst (ks.map nmB))),some (.sh (.lst (other.map .int))),some (.sh (.lst F)),none]=.ok (.sh (.tup [.str "number",.int ((0+atN ks:Nat):Int),.int ((0+atN ks+[49].length:Nat):Int),.int ((0+szN ks:Nat):Int)])):=by
   simp -implicitDefEqProofs only[uS,yH,o8,Ei,jw,List.getElem?_cons_succ,List.getElem?_cons_zero,ij,yE,pZ,ql,rP,h2,RV.pv,bR,h3,Option.map_some]
   rfl
  unfold aY;rw[hv]
  rfl)]
 unfold BN;rw[bL (ρ':=[some (.sh (.lst ((aL [49] ks).map .int))),some (.sh (.lst (ks.map nmB))),some (.sh (.lst (other.map .int))),some (.sh (.lst F)),some (.sh (.tup [.str "number",.int ((0+atN ks:Nat):Int),.int ((0+atN ks+[49].length:Nat):Int),.int ((0+szN ks:Nat):Int)]))]) (by simp[qZ,hr])];unfold CG;exact hsw.ret (by simp -implicitDefEqProofs [cT,zk,BW])
theorem ET{k:Bool}{X:List Int}(ks:List Bool):cC [.lst ((aL X ks).map .int),.lst (dy (kN k) X ks 0 0),.lst (ks.map nmB),.str (kN k)]=.ok (.sh (.int ((szN ks - 1:Nat):Int))):=by
 have h2:=BE (kN k) X ks;have h3:=nW (j5 (kN k) X ks 0 0) rfl;generalize dy (kN k) X ks 0 0=F at h2 h3;unfold cC fnP;rw[if_pos (show List.length [PV.lst ((aL X ks).map .int),.lst F,.lst (ks.map nmB),.str (kN k)]=4 from rfl),show eW 5 [PV.lst ((aL X ks).map .int),.lst F,.lst (ks.map nmB),.str (kN k)]=[some (.sh (.lst ((aL X ks).map .int))),some (.sh (.lst F)),some (.sh (.lst (ks.map nmB))),some (.sh (.str (kN k))),none] from rfl];unfold oB
 rw[bL (ρ':=[some (.sh (.lst ((aL X ks).map .int))),some (.sh (.lst F)),some (.sh (.lst (ks.map nmB))),some (.sh (.str (kN k))),some (.sh (.int ((szN ks - 1:Nat):Int)))]) (by
  have hv:aQ dB (ah (aj 0) (ah (aj 1) (ah (aj 2) aI))) [some (.sh (.lst ((aL X ks).map .int))),some (.sh (.lst F)),some (.sh (.lst (ks.map nmB))),some (.sh (.str (kN k))),none]=.ok (.sh (.int ((szN ks - 1:Nat):Int))):=h2
  unfold aY;rw[hv]
  rfl)]
 unfold lL
 have hx:mOp cT (mOp bR (aj 1) (aj 4)) (mC (.int 0)) [some (.sh (.lst ((aL X ks).map .int))),some (.sh (.lst F)),some (.sh (.lst (ks.map nmB))),some (.sh (.str (kN k))),some (.sh (.int ((szN ks - 1:Nat):Int)))]=.ok (.sh (.str (kN k))):=by
  simp -implicitDefEqProofs only[uS,jw,GC,List.getElem?_cons_succ,List.getElem?_cons_zero,ij,RV.pv,bR,h3,Option.map_some]
  rfl
 rw[sk (by
  unfold aE;rw[uS,hx]
  cases k<;>simp[kN,gNe,eqS,aH,RV.pv])]
 rfl
theorem EN{tree:List PV}{i:Nat}{k:Bool}{a b:Nat}(h:tree[i]?=some (nd4 (kN k) a b (i+1))):eM [.lst tree,.int i]=.ok (.fr []):=by
 have hi:=j3 h (.inl rfl);rw[if_pos rfl]at hi;have h0:=nW h rfl
 have l0:(0:Nat)<=lim:=Nat.zero_le _
 cases k<;>simp -implicitDefEqProofs [pU,eM,aE,bR,h0,cT,rB,kN,gEq,eqS,aH,RV.pv,hi,oR,cR,noX]
theorem o4{A B more:List Int}{tree:List PV}{i a b:Nat}{k:Bool}(h:tree[i]?=some (nd4 (kN k) a b (i+1)))(hA:A.length=a+1)(hl:8*(A++(more++B)).length+20<100000){z:Int}(hz:z=i):Swp (A++(more++B)) (jY [.lst ((A++B).map .int),.lst tree,.int z,.lst (more.map .int)]):=by
 subst hz;have hs:=EN h;have h0:=nW h rfl;have hsw:=i0 (A:=A) (M:=[]) (B:=B) (more:=more) hl (x:=(a:Int)+1) (y:=(a:Int)+1) (by omega) (by simp;omega);rw[List.nil_append]at hsw;unfold jY fnP;rw[if_pos (show List.length [PV.lst ((A++B).map .int),.lst tree,.int i,.lst (more.map .int)]=4 from rfl),show eW 5 [PV.lst ((A++B).map .int),.lst tree,.int i,.lst (more.map .int)]=[some (.sh (.lst ((A++B).map .int))),some (.sh (.lst tree)),some (.sh (.int i)),some (.sh (.lst (more.map .int))),none] from rfl];generalize (A++B).map PV.int=AB at hsw;unfold CD;rw[bL (ρ':=[some (.sh (.lst AB)),some (.sh (.lst tree)),some (.sh (.int i)),some (.sh (.lst (more.map .int))),some (.ow [])]) (by simp[aY,hs,gj])];unfold wG;rw[sk (by simp[dS,pq,RV.pv])];unfold xc;exact hsw.ret (by simp -implicitDefEqProofs [bR,h0,cT,zk])
theorem zP(k:Bool)(ks:List Bool):aL [if k then 91 else 123,dr k] ks=(eY ks++[if k then 91 else 123])++(dr k ::iT ks):=by rw[gT];simp
theorem Fh(k:Bool):wu [if k then 91 else 123,dr k] 1:=by
 cases k
 . exact GI
 . exact F4
theorem Ca{ks:List Bool}{other:List Int}(hne:ks≠[])(hk:ks.length<=60)(ho:PG.flt other=none)(hl:other.length<=1000)(hn:(aL [91,93] ks).length<=1000):Swp ((eY ks++[91])++(other++(93 ::iT ks))) (qO [.lst ((aL [91,93] ks).map .int),.lst (ks.map nmB),.lst (other.map .int)]):=by
 have hf:=oY (Fh true) hne (by omega);have h1:=mO (DV true) (by decide) hne (by omega) (by have:[if true then(91:Int)else 123,dr true]=[91,93]:=rfl;rw[this];omega) hf;have h2:=ET (k:=true) (X:=[if true then 91 else 123,dr true]) ks;have h3:=j5 (kN true) [if true then 91 else 123,dr true] ks 0 0;have hs:=o3 ks;rw[show 0+szN ks=szN ks - 1+1 by omega]at h3;have hr:=rn other (by omega);rw[ho]at hr;have hsp:=zP true ks;have hlen:=kn ks
 have hle:(aL [91,93] ks).length=(eY ks).length+(2+(iT ks).length):=by rw[gT];simp;omega
 have had:=o4 (A:=eY ks++[91]) (B:=93 ::iT ks) (more:=other) h3 (by rw[List.length_append,hlen];simp) (by simp at hle ⊢;omega) rfl;rw[show aL [if true then 91 else 123,dr true] ks=aL [91,93] ks from rfl]at h1 h2 hsp;rw[show(eY ks++[91])++93 ::iT ks=aL [91,93] ks from hsp.symm]at had;generalize dy (kN true) [if true then 91 else 123,dr true] ks 0 0=F at h1 h2 had;unfold qO fnP;rw[if_pos (show List.length [PV.lst ((aL [91,93] ks).map .int),.lst (ks.map nmB),.lst (other.map .int)]=3 from rfl),show eW 5 [PV.lst ((aL [91,93] ks).map .int),.lst (ks.map nmB),.lst (other.map .int)]=[some (.sh (.lst ((aL [91,93] ks).map .int))),some (.sh (.lst (ks.map nmB))),some (.sh (.lst (other.map .int))),none,none] from rfl];unfold HP;rw[bL (ρ':=[some (.sh (.lst ((aL [91,93] ks).map .int))),some (.sh (.lst (ks.map nmB))),some (.sh (.lst (other.map .int))),some (.ow F),none]) (by simp[aY,h1,gj])];unfold CI
 rw[bL (ρ':=[some (.sh (.lst ((aL [91,93] ks).map .int))),some (.sh (.lst (ks.map nmB))),some (.sh (.lst (other.map .int))),some (.sh (.lst F)),some (.sh (.int ((szN ks - 1:Nat):Int)))]) (by
  have hv:aQ cC (ah (aj 0) (ah (aj 3) (ah (aj 1) (ah (mC (.str "row")) aI)))) [some (.sh (.lst ((aL [91,93] ks).map .int))),some (.sh (.lst (ks.map nmB))),some (.sh (.lst (other.map .int))),some (.sh (.lst F)),none]=.ok (.sh (.int ((szN ks - 1:Nat):Int))):=h2
  show aY 4 _ [some (.sh (.lst ((aL [91,93] ks).map .int))),some (.sh (.lst (ks.map nmB))),some (.sh (.lst (other.map .int))),some (.sh (.lst F)),none]=_;unfold aY;rw[hv]
  rfl)]
 unfold B8;rw[bL (ρ':=[some (.sh (.lst ((aL [91,93] ks).map .int))),some (.sh (.lst (ks.map nmB))),some (.sh (.lst (other.map .int))),some (.sh (.lst F)),some (.sh (.int ((szN ks - 1:Nat):Int)))]) (by simp[qZ,hr])];unfold Cs;exact had.ret rfl
theorem DY:mG [.lst [.int 98]]=.ok (.fr [.int 34,.int 98,.int 34]):=by
 have ll:∀ n:Nat,n<=10->n<=lim:=fun n h=>cx (by omega)
 have hp:g9 [.int 98]=.ok (.sh (.bl true)):=by simp[vA,g9,fM]
 have he:mq [.int 98]=.ok (.fr [.int 98]):=by simp[wq,wd,wH,wb,Cg,mq,hp,dS,pq,RV.pv,aE,ll,yw]
 have hs:fZ [.int 98]=.ok (.fr [.int 98]):=by simp[pS,pN,pL,tF,fZ,he,aY,gj,aE,FA,List.lookup,RV.pv]
 have l1:1<lim:=ll 2 (by omega)
 have l2:2<lim:=ll 3 (by omega)
 simp -implicitDefEqProofs [zK,zr,An,EJ,mG,aY,gj,iQ,n6,gm,zx,hs,qR,fj,eX,ll,l1,l2]
theorem IP{ks:List Bool}{other:List Int}(hne:ks≠[])(hk:ks.length<=60)(ho:PG.flt other=none)(hl:other.length<=1000)(hn:(aL [123,125] ks).length<=1000):Swp ((eY ks++[123])++(([34,98,34,58]++other)++(125 ::iT ks))) (da [.lst ((aL [123,125] ks).map .int),.lst (ks.map nmB),.lst [.int 98],.lst (other.map .int)]):=by
 have hf:=oY (Fh false) hne (by omega);have h1:=mO (DV false) (by decide) hne (by omega) (by have:[if false then(91:Int)else 123,dr false]=[123,125]:=rfl;rw[this];omega) hf;have h2:=ET (k:=false) (X:=[if false then 91 else 123,dr false]) ks;have h3:=j5 (kN false) [if false then 91 else 123,dr false] ks 0 0;have hs:=o3 ks;rw[show 0+szN ks=szN ks - 1+1 by omega]at h3;have hr:=rn other (by omega);rw[ho]at hr;have hsp:=zP false ks;have hlen:=kn ks
 have hle:(aL [123,125] ks).length=(eY ks).length+(2+(iT ks).length):=by rw[gT];simp;omega
 have had:=o4 (A:=eY ks++[123]) (B:=125 ::iT ks) (more:=[34,98,34,58]++other) h3 (by rw[List.length_append,hlen];simp) (by simp at hle ⊢;omega) rfl;rw[show aL [if false then 91 else 123,dr false] ks=aL [123,125] ks from rfl]at h1 h2 hsp;rw[show(eY ks++[123])++125 ::iT ks=aL [123,125] ks from hsp.symm]at had;generalize dy (kN false) [if false then 91 else 123,dr false] ks 0 0=F at h1 h2 had;unfold da fnP;rw[if_pos (show List.length [PV.lst ((aL [123,125] ks).map .int),.lst (ks.map nmB),.lst [.int 98],.lst (other.map .int)]=4 from rfl),show eW 6 [PV.lst ((aL [123,125] ks).map .int),.lst (ks.map nmB),.lst [.int 98],.lst (other.map .int)]=[some (.sh (.lst ((aL [123,125] ks).map .int))),some (.sh (.lst (ks.map nmB))),some (.sh (.lst [.int 98])),some (.sh (.lst (other.map .int))),none,none] from rfl];unfold rf;rw[bL (ρ':=[some (.sh (.lst ((aL [123,125] ks).map .int))),some (.sh (.lst (ks.map nmB))),some (.sh (.lst [.int 98])),some (.sh (.lst (other.map .int))),some (.ow F),none]) (by simp[aY,h1,gj])];unfold nK
 rw[bL (ρ':=[some (.sh (.lst ((aL [123,125] ks).map .int))),some (.sh (.lst (ks.map nmB))),some (.sh (.lst [.int 98])),some (.sh (.lst (other.map .int))),some (.sh (.lst F)),some (.sh (.int ((szN ks - 1:Nat):Int)))]) (by
  have hv:aQ cC (ah (aj 0) (ah (aj 4) (ah (aj 1) (ah (mC (.str "fields")) aI)))) [some (.sh (.lst ((aL [123,125] ks).map .int))),some (.sh (.lst (ks.map nmB))),some (.sh (.lst [.int 98])),some (.sh (.lst (other.map .int))),some (.sh (.lst F)),none]=.ok (.sh (.int ((szN ks - 1:Nat):Int))):=h2
  show aY 5 _ [some (.sh (.lst ((aL [123,125] ks).map .int))),some (.sh (.lst (ks.map nmB))),some (.sh (.lst [.int 98])),some (.sh (.lst (other.map .int))),some (.sh (.lst F)),none]=_;unfold aY;rw[hv]
  rfl)]
 unfold ox;rw[bL (ρ':=[some (.sh (.lst ((aL [123,125] ks).map .int))),some (.sh (.lst (ks.map nmB))),some (.sh (.lst [.int 98])),some (.sh (.lst (other.map .int))),some (.sh (.lst F)),some (.sh (.int ((szN ks - 1:Nat):Int)))]) (by simp[qZ,hr])];unfold nM
 have ll:∀ n:Nat,n<=2000->n<=lim:=fun n h=>cx (by omega)
 have l3:4+other.length<=lim:=ll _ (by omega)
 refine had.ret ?_
 have hm:mOp gy (mOp gy (aQ mG (ah (aj 2) aI)) (b2 (ah (mC (.int 58)) aI))) (aj 3) [some (.sh (.lst ((aL [123,125] ks).map .int))),some (.sh (.lst (ks.map nmB))),some (.sh (.lst [.int 98])),some (.sh (.lst (other.map .int))),some (.sh (.lst F)),some (.sh (.int ((szN ks - 1:Nat):Int)))]=.ok (.fr (([34,98,34,58]++other).map .int)):=by
  simp -implicitDefEqProofs [DY,gy,RV.pv,ll,l3]
 have hc:ah (mOp gy (mOp gy (aQ mG (ah (aj 2) aI)) (b2 (ah (mC (.int 58)) aI))) (aj 3)) aI [some (.sh (.lst ((aL [123,125] ks).map .int))),some (.sh (.lst (ks.map nmB))),some (.sh (.lst [.int 98])),some (.sh (.lst (other.map .int))),some (.sh (.lst F)),some (.sh (.int ((szN ks - 1:Nat):Int)))]=.ok [.lst (([34,98,34,58]++other).map .int)]:=by
  rw[o8,hm];rfl
 show aQ jY (ah (aj 0) (ah (aj 4) (ah (aj 5) (ah _ aI)))) [some (.sh (.lst ((aL [123,125] ks).map .int))),some (.sh (.lst (ks.map nmB))),some (.sh (.lst [.int 98])),some (.sh (.lst (other.map .int))),some (.sh (.lst F)),some (.sh (.int ((szN ks - 1:Nat):Int)))]=_
 simp -implicitDefEqProofs only[yH,o8 (aj 0),o8 (aj 4),o8 (aj 5),jw,List.getElem?_cons_succ,List.getElem?_cons_zero,pZ,yE,hc,ql,rP]
noncomputable def Dn(c:List Int):PV:=if PG.flt c=none then .lst (c.map .int)else .int (-1)
noncomputable abbrev dE(w:Int)(r n o:List PV)(x y:Option Sl):ag:=[some (.sh (.int w)),some (.sh (.lst r)),some (.sh (.lst n)),some (.sh (.lst o)),x,y]
theorem yS{w:Int}{r n o:List PV}{c:List Int}{body:ag->OS}{f:OE}(hb:body (dE w r n o (some (.ow [])) none)=(f.bM (dE w r n o (some (.ow [])) none) fun r'=>match gj r' with
  |some s=>.nx ((dE w r n o (some (.ow [])) none).set 4 (some s))
  |none=>.bad)) (h:Swp c f):∃ ρ,aM (p0 5 body eS (aY 4 (jX (dS (DD 5 fun c=>c == "TooDeep")) (mUn ua (mC (.int 1))) (mUn ua (mC (.int 2)))))) rA (dE w r n o (some (.ow [])) none)=.rt ρ (.sh (Dn c)):=by
 by_cases hz:PG.flt c=none
 . rw[h.1 hz]at hb
   refine⟨dE w r n o (some (.sh (.lst (c.map .int)))) none,?_⟩
   rw[bL (ρ':=dE w r n o (some (.sh (.lst (c.map .int)))) none) (by
    unfold p0;rw[hb]
    rfl)]
   unfold Dn;rw[if_pos hz];rfl
 . obtain⟨fs,e⟩:=h.2 hz;rw[e]at hb
   refine⟨dE w r n o (some (.sh (.int (-1)))) none,?_⟩
   rw[bL (ρ':=dE w r n o (some (.sh (.int (-1)))) none) (by
    unfold p0;rw[hb]
    simp[eS,aY,jX,dS,DD,pq,RV.pv,IL,wO])]
   unfold Dn;rw[if_neg hz];rfl
theorem vn{w:Int}{r n o:List PV}{x:PV}(h:∃ ρ,iN (dE w r n o (some (.ow [])) none)=.rt ρ (.sh x)):dv [.int w,.lst r,.lst n,.lst o]=.ok (.sh x):=by
 obtain⟨ρ,h⟩:=h;unfold dv fnP;rw[if_pos (show List.length [PV.int w,.lst r,.lst n,.lst o]=4 from rfl),show eW 6 [PV.int w,.lst r,.lst n,.lst o]=dE w r n o none none from rfl];unfold vF;rw[bL (ρ':=dE w r n o (some (.ow [])) none) (by simp[aY,gj]),h];rfl
theorem Jz{r n o:List PV}{c:List Int}(h:Swp c (qP [.lst r,.lst n,.lst o])):dv [.int 0,.lst r,.lst n,.lst o]=.ok (.sh (Dn c)):=by
 refine vn ?_;unfold iN;refine yS (f:=qP [.lst r,.lst n,.lst o]) ?_ h;rw[Bk (by simp[aE])];rfl
theorem Jr{r n o:List PV}{c:List Int}(h:Swp c (qO [.lst r,.lst n,.lst o])):dv [.int 1,.lst r,.lst n,.lst o]=.ok (.sh (Dn c)):=by
 refine vn ?_;unfold iN;refine yS (f:=qO [.lst r,.lst n,.lst o]) ?_ h;rw[C5 (by simp[aE]),Bk (by simp[aE])];rfl
theorem II{r n o:List PV}{c:List Int}(h:Swp c (da [.lst r,.lst n,.lst [.int 98],.lst o])):dv [.int 2,.lst r,.lst n,.lst o]=.ok (.sh (Dn c)):=by
 have l1:(1:Nat)<=lim:=cx (by omega)
 refine vn ?_;unfold iN;refine yS (f:=da [.lst r,.lst n,.lst [.int 98],.lst o]) ?_ h;rw[C5 (by simp[aE]),C5 (by simp[aE])];unfold aY
 have:aQ da (ah (aj 1) (ah (aj 2) (ah (b2 (ah (mC (.int 98)) aI)) (ah (aj 3) aI)))) (dE 2 r n o (some (.ow [])) none)=da [.lst r,.lst n,.lst [.int 98],.lst o]:=by simp[l1,eX]
 rw[this];try rfl
noncomputable def kI(k:Bool):PV:=.int (if k then 0 else 1)
theorem BP(ns:List Int)(b:Int)(m:Nat)(hm:m<=1000){z:Int}(hz:z=m):∃ ks:List Bool,ks.length=m /\ fb [.lst (ns.map .int),.int b,.int z]=.ok (.fr (ks.map kI)):=by
 subst hz;have hmix:=fH ns b;obtain⟨m0,-⟩:=Lc ns b
 have hv:∀ j:Nat,∃ k:Bool,fF ([some (.sh (.lst (ns.map .int))),some (.sh (.int b))]++[some (.sh (.int (j:Int)))])=.ok (.sh (kI k)):=fun j=>by
  have p9:(0:Int)<1+(j:Int)%9:=by omega
  have p9b:1+(j:Int)%9<1073741824:=by omega
  refine⟨decide (PG.mix ns b/(1+(j:Int)%9)/7%6/5=0),?_⟩
  have hq:PG.mix ns b/(1+(j:Int)%9)/7%6/5=0 \/ PG.mix ns b/(1+(j:Int)%9)/7%6/5=1:=by omega
  unfold fF kI
  rcases hq with q|q<;>simp -implicitDefEqProofs [hmix,p9,p9b,q]
 obtain⟨g,hg⟩:∃ g:Nat->Bool,∀ j,fF ([some (.sh (.lst (ns.map .int))),some (.sh (.int b))]++[some (.sh (.int (j:Int)))])=.ok (.sh (kI (g j))):=⟨fun j=>Classical.choose (hv j),fun j=>Classical.choose_spec (hv j)⟩
 have he:=lJ (me:=fF) (ρ:=[some (.sh (.lst (ns.map .int))),some (.sh (.int b))]) (g:=fun j:Nat=>PV.int (j:Int)) (f:=fun j:Nat=>kI (g j)) (List.range m) (fun j _=>hg j)
 refine⟨(List.range m).map g,by simp,?_⟩
 have r1:-4611686018427387904<=(m:Int):=by omega
 have r2:(m:Int)<4611686018427387904:=by omega
 have l1:m<=lim:=cx (by omega)
 have he2:cR fF [some (.sh (.lst (ns.map .int))),some (.sh (.int b))] (iV m)=.ok (((List.range m).map g).map kI):=by
  unfold iV;rw[he,List.map_map];rfl
 simp -implicitDefEqProofs [tE,fb,df,r1,r2,RV.pv,he2,l1,noX]
noncomputable abbrev nE(ks X:List PV)(acc:List Int)(o:Option Sl):ag:=[some (.sh (.lst ks)),some (.sh (.lst X)),some (.ow (acc.map .int)),o]
theorem EX(K X:List PV):∀(ks:List Bool) (acc:List Int) (o:Option Sl),acc.length+5*ks.length<=90000->∃ o',gm 3 jU (ks.map kI) (nE K X acc o)=.nx (nE K X (acc++eY ks) o')
 |[],acc,o,_=>⟨o,by simp[eY]⟩
 | k ::r,acc,o,h=>by
   rw[List.length_cons]at h
   have ll:∀ n:Nat,n<=90000->n<=lim:=fun n h=>cx (by omega)
   have l5:acc.length+5<=lim:=ll _ (by omega)
   have l1:acc.length+1<=lim:=ll _ (by omega)
   have hb:jU (nE K X acc (some (.sh (kI k))))=.nx (nE K X (acc++opb (k,97)) (some (.sh (kI k)))):=by
    unfold jU
    cases k<;>simp -implicitDefEqProofs [aY,kI,bR,atP,ixP,gy,RV.pv,gj,eX,ll,l5,l1,opb]
   obtain⟨o',ih⟩:=EX K X r (acc++opb (k,97)) (some (.sh (kI k))) (by cases k<;>simp[opb]<;>omega)
   refine⟨o',?_⟩
   rw[List.map_cons,nO (ρ':=nE K X (acc++opb (k,97)) (some (.sh (kI k)))) hb,ih];simp[eY]
theorem D2(K X:List PV):∀(ks:List Bool) (acc:List Int) (o:Option Sl),acc.length+ks.length<=90000->∃ o',gm 3 j2 (ks.map kI) (nE K X acc o)=.nx (nE K X (acc++ks.map dr) o')
 |[],acc,o,_=>⟨o,by simp⟩
 | k ::r,acc,o,h=>by
   rw[List.length_cons]at h
   have l2:(2:Nat)<=lim:=cx (by omega)
   have l1:acc.length<lim:=cx (n:=acc.length+1) (by omega)
   have hb:j2 (nE K X acc (some (.sh (kI k))))=.nx (nE K X (acc++[dr k]) (some (.sh (kI k)))):=by
    unfold j2
    cases k<;>simp -implicitDefEqProofs [fj,kI,bR,atP,ixP,RV.pv,eX,l2,l1,dr]
   obtain⟨o',ih⟩:=D2 K X r (acc++[dr k]) (some (.sh (kI k))) (by simp;omega)
   refine⟨o',?_⟩
   rw[List.map_cons,nO (ρ':=nE K X (acc++[dr k]) (some (.sh (kI k)))) hb,ih];simp
theorem zQ:∀ ks:List Bool,iT ks=ks.reverse.map dr
 |[]=>rfl
 |k ::r=>by simp[iT,zQ r]
theorem FJ(ks:List Bool)(X:List Int)(hk:ks.length<=1000)(hx:X.length<=1000):ef [.lst (ks.map kI),.lst (X.map .int)]=.ok (.fr ((aL X ks).map .int)):=by
 have hlen:=kn ks
 have hat:atN ks<=5*ks.length:=by
  clear hlen hk
  induction ks with
  |nil=>simp[atN]
  |cons k r ih=>simp only[atN,List.length_cons];split<;>omega
 obtain⟨o1,h1⟩:=EX (ks.map kI) (X.map .int) ks [] none (by simp;omega);obtain⟨o2,h2⟩:=D2 (ks.map kI) (X.map .int) ks.reverse (eY ks++X) o1 (by simp;omega);rw[List.nil_append]at h1;unfold ef fnP;rw[if_pos (show List.length [PV.lst (ks.map kI),.lst (X.map .int)]=2 from rfl),show eW 4 [PV.lst (ks.map kI),.lst (X.map .int)]=[some (.sh (.lst (ks.map kI))),some (.sh (.lst (X.map .int))),none,none] from rfl];unfold u9;rw[bL (ρ':=nE (ks.map kI) (X.map .int) [] none) (by simp[aY,gj])];unfold qY
 rw[bL (ρ':=nE (ks.map kI) (X.map .int) (eY ks) o1) (by
  unfold iQ;simp only[jw,List.getElem?_cons_zero,eL,n6]
  exact h1)]
 unfold rE
 rw[bL (ρ':=nE (ks.map kI) (X.map .int) (eY ks++X) o1) (by
  have l1:(eY ks).length+X.length<=lim:=cx (by omega)
  simp -implicitDefEqProofs [aY,gy,RV.pv,gj,l1])]
 unfold qM
 rw[bL (ρ':=nE (ks.map kI) (X.map .int) (eY ks++X++ks.reverse.map dr) o2) (by
  unfold xN;simp only[jw,List.getElem?_cons_zero,eL,n6];rw[<- List.map_reverse]
  exact h2)]
 rw[gT,zQ];simp[rh,dm]
noncomputable def op9(b:Int):Bool:=decide (91=b)||decide (123=b)
theorem HX:∀ xs:List Int,fB ub xJ [] (xs.map .int)=.ok ((xs.filter op9).map .int)
 |[]=>rfl
 | x ::xs=>by
   have l2:(2:Nat)<=lim:=cx (by omega)
   have ih:=HX xs
   have hc:ub ([]++[some (.sh (.int x))])=.ok (op9 x):=by
    unfold ub op9;simp -implicitDefEqProofs [aE,gIn,ir,cU,dW,l2,Bool.beq_eq_decide_eq]
   rw[List.map_cons];unfold fB;rw[hc]
   cases h:op9 x with
   | true=>
     simp only[ih];rw[List.filter_cons_of_pos h];simp[xJ,eX]
   | false=>
     simp only[ih];rw[List.filter_cons_of_neg (by rw[h];simp)]
theorem vH:∀ ks:List Bool,((aL [49] ks).filter op9).length=ks.length
 |[]=>rfl
 | true ::r=>by
   have ih:=vH r
   have h1:op9 91=true:=rfl
   have h2:op9 93=false:=rfl
   simp[aL,List.filter_cons,List.filter_append,h1,h2,ih]
 | false ::r=>by
   have ih:=vH r
   have h1:op9 123=true:=rfl
   have h2:op9 34=false:=rfl
   have h3:op9 97=false:=rfl
   have h4:op9 58=false:=rfl
   have h5:op9 125=false:=rfl
   simp[aL,List.filter_cons,List.filter_append,h1,h2,h3,h4,h5,ih]
noncomputable abbrev wE(ns:List Int)(a1 a2 a3 a4 a5 a6 a7 a8 a9 a10 a11 a12 a13:Option Sl):ag:=[some (.sh (.lst (ns.map .int))),a1,a2,a3,a4,a5,a6,a7,a8,a9,a10,a11,a12,a13]
theorem BY(ns:List Int)(a1 a2 a3 a4 a5 a6 a7 a8 a11 a12 a13:Option Sl):∀(ks:List Bool) (z:Nat) (o:Option Sl),∃ o',gm 10 rF (ks.map kI) (wE ns a1 a2 a3 a4 a5 a6 a7 a8 (some (.sh (.int z))) o a11 a12 a13)=.nx (wE ns a1 a2 a3 a4 a5 a6 a7 a8 (some (.sh (.int ((z+atN ks:Nat):Int)))) o' a11 a12 a13)
 |[],z,o=>⟨o,by simp[atN]⟩
 | k ::r,z,o=>by
   have l2:(2:Nat)<=lim:=cx (by omega)
   have hb:rF (wE ns a1 a2 a3 a4 a5 a6 a7 a8 (some (.sh (.int z))) (some (.sh (kI k))) a11 a12 a13)=.nx (wE ns a1 a2 a3 a4 a5 a6 a7 a8 (some (.sh (.int ((z+(if k then 1 else 5):Nat):Int)))) (some (.sh (kI k))) a11 a12 a13):=by
    unfold rF
    cases k<;>simp -implicitDefEqProofs [aY,kI,bR,atP,ixP,RV.pv,l2]
   obtain⟨o',ih⟩:=BY ns a1 a2 a3 a4 a5 a6 a7 a8 a11 a12 a13 r (z+(if k then 1 else 5)) (some (.sh (kI k)))
   refine⟨o',?_⟩
   rw[List.map_cons,nO (ρ':=wE ns a1 a2 a3 a4 a5 a6 a7 a8 (some (.sh (.int ((z+(if k then 1 else 5):Nat):Int)))) (some (.sh (kI k))) a11 a12 a13) hb,ih,show z+(if k then 1 else 5)+atN r=z+atN (k ::r) by simp only[atN];omega]
theorem K0(a b:List Int):zD (.lst (a.map .int)) (.lst (b.map .int))=some (.sh (.bl (decide (a=b)))):=by
 simp[zD,pf,Bv,dW,AU]
theorem FC(c:List Int)(hl:c.length<=90000):fi [.lst (c.map .int)]=.ok (.sh (.bl true)):=by
 have l1:c.length<=lim:=cx (by omega)
 have he:=lJ (me:=iq) (ρ:=[]) (g:=fun x:Int=>PV.int x) (f:=fun _=>.bl true) c (fun x _=>by simp[iq,kB])
 have hb:∀ n:List Int,jV (n.map fun _=>PV.bl true)=some (n.map fun _=>true):=fun n=>by
  induction n with
  |nil=>rfl
  |cons x n ih=>simp[jV,ih]
 have he2:cR iq [] (c.map .int)=.ok (c.map fun _=>.bl true):=he
 simp -implicitDefEqProofs [qQ,fi,tK,mIs,isP,RV.pv,df,he2,noX,l1,xv,hb]
theorem EC(ks:List Bool):cR yj [] (ks.map kI)=.ok (ks.map nmB):=by
 have l2:(2:Nat)<=lim:=cx (by omega)
 have l1:(1:Nat)<=lim:=cx (by omega)
 exact lJ (g:=kI) (f:=nmB) ks (fun k _=>by
  unfold yj
  cases k<;>simp -implicitDefEqProofs [kI,nmB,bR,atP,ixP,RV.pv,l2,l1,eX])
theorem ur(ns:List Int)(ks:List Bool)(row other X Ah Ah' Bh c:List Int)(w:Int)(i m2:Nat)(hr:row.length<=1000)(ho:other.length<=1000)(hk:ks.length<=1000)
  (hcnt:(other.filter op9).length=m2) (hi:(if 0<w then 1 else 0:Int)=i) (hAh:row.take (atN ks+i)=Ah) (hBh:row.drop (atN ks+1)=Bh) (hAt:atN ks+1<=row.length)
  (hi1:i<=1) (hw2:Ah'=if w=2 then Ah++[34,98,34,58]else Ah) (hdone:dv [.int w,.lst (row.map .int),.lst (ks.map nmB),.lst (other.map .int)]=.ok (.sh (Dn c))) (hc:c=Ah'++other++Bh) (hflt:PG.flt c=none↔ks.length+i+m2<=64):
  fin (ud (wE ns (some (.sh (.lst (ks.map kI)))) (some (.ow (other.map .int))) (some (.sh (.int w))) (some (.sh (.lst (X.map .int)))) (some (.ow (row.map .int))) none none none none none none none none))=.ok (.sh (.bl true)):=by
 have ll:∀ n:Nat,n<=9000->n<=lim:=fun n h=>cx (by omega)
 have hAl:Ah.length<=1000:=by rw[<- hAh,List.length_take];omega
 have hBl:Bh.length<=1000:=by rw[<- hBh,List.length_drop];omega
 have hA'l:Ah'.length<=1010:=by
  rw[hw2];split
  . rw[List.length_append];simp;omega
  . omega
 have hm2:m2<=1000:=by rw[<- hcnt];exact Nat.le_trans (List.length_filter_le _ _) ho
 unfold ud
 rw[bL (ρ':=wE ns (some (.sh (.lst (ks.map kI)))) (some (.ow (other.map .int))) (some (.sh (.int w))) (some (.sh (.lst (X.map .int)))) (some (.ow (row.map .int))) (some (.sh (.int m2))) none none none none none none none) (by
  have l1:m2<=lim:=ll _ (by omega)
  have he:=HX other
  simp -implicitDefEqProofs [aY,n8,RV.pv,df,he,noX,l1,hcnt,gj])]
 unfold CC
 rw[bL (ρ':=wE ns (some (.sh (.lst (ks.map kI)))) (some (.ow (other.map .int))) (some (.sh (.int w))) (some (.sh (.lst (X.map .int)))) (some (.ow (row.map .int))) (some (.sh (.int m2))) (some (.ow (ks.map nmB))) none none none none none none) (by
  have l1:ks.length<=lim:=ll _ (by omega)
  have he:=EC ks
  simp -implicitDefEqProofs [aY,RV.pv,df,he,noX,l1,gj])]
 unfold BL
 rw[bL (ρ':=wE ns (some (.sh (.lst (ks.map kI)))) (some (.ow (other.map .int))) (some (.sh (.int w))) (some (.sh (.lst (X.map .int)))) (some (.ow (row.map .int))) (some (.sh (.int m2))) (some (.ow (ks.map nmB))) (some (.sh (.int ((ks.length+i+m2:Nat):Int)))) none none none none none) (by
  simp -implicitDefEqProofs [aY,RV.pv,gj]
  omega)]
 unfold BX;rw[bL (ρ':=wE ns (some (.sh (.lst (ks.map kI)))) (some (.ow (other.map .int))) (some (.sh (.int w))) (some (.sh (.lst (X.map .int)))) (some (.ow (row.map .int))) (some (.sh (.int m2))) (some (.ow (ks.map nmB))) (some (.sh (.int ((ks.length+i+m2:Nat):Int)))) (some (.sh (.int ((0:Nat):Int)))) none none none none) (by simp[aY])];unfold Cp;obtain⟨o,hloop⟩:=BY ns (some (.sh (.lst (ks.map kI)))) (some (.ow (other.map .int))) (some (.sh (.int w))) (some (.sh (.lst (X.map .int)))) (some (.ow (row.map .int))) (some (.sh (.int m2))) (some (.ow (ks.map nmB))) (some (.sh (.int ((ks.length+i+m2:Nat):Int)))) none none none ks 0 none
 rw[bL (ρ':=wE ns (some (.sh (.lst (ks.map kI)))) (some (.ow (other.map .int))) (some (.sh (.int w))) (some (.sh (.lst (X.map .int)))) (some (.ow (row.map .int))) (some (.sh (.int m2))) (some (.ow (ks.map nmB))) (some (.sh (.int ((ks.length+i+m2:Nat):Int)))) (some (.sh (.int ((0+atN ks:Nat):Int)))) o none none none) (by
  show iQ 10 (aj 1) rF (wE ns (some (.sh (.lst (ks.map kI)))) (some (.ow (other.map .int))) (some (.sh (.int w))) (some (.sh (.lst (X.map .int)))) (some (.ow (row.map .int))) (some (.sh (.int m2))) (some (.ow (ks.map nmB))) (some (.sh (.int ((ks.length+i+m2:Nat):Int)))) (some (.sh (.int ((0:Nat):Int)))) none none none none)=_;unfold iQ;simp only[jw,List.getElem?_cons_succ,List.getElem?_cons_zero,eL,n6]
  exact hloop)]
 rw[Nat.zero_add];unfold y6
 rw[bL (ρ':=wE ns (some (.sh (.lst (ks.map kI)))) (some (.ow (other.map .int))) (some (.sh (.int w))) (some (.sh (.lst (X.map .int)))) (some (.ow (row.map .int))) (some (.sh (.int m2))) (some (.ow (ks.map nmB))) (some (.sh (.int ((ks.length+i+m2:Nat):Int)))) (some (.sh (.int (atN ks)))) o (some (.ow (Ah.map .int))) none none) (by
  have e:qy (row.map PV.int) none (some ((atN ks:Int)+i))=Ah.map .int:=by
   simp only[qy,vZ];rw[if_neg (by omega),List.drop_zero,Nat.sub_zero,show((atN ks:Int)+i).toNat=atN ks+i by omega,Nat.min_eq_left (by simp;omega),<- List.map_take,hAh]
  simp -implicitDefEqProofs [aY,gB,RV.pv,lF,yy,hi,e,gj])]
 unfold zm
 rw[bL (ρ':=wE ns (some (.sh (.lst (ks.map kI)))) (some (.ow (other.map .int))) (some (.sh (.int w))) (some (.sh (.lst (X.map .int)))) (some (.ow (row.map .int))) (some (.sh (.int m2))) (some (.ow (ks.map nmB))) (some (.sh (.int ((ks.length+i+m2:Nat):Int)))) (some (.sh (.int (atN ks)))) o (some (.ow (Ah.map .int))) (some (.ow (Bh.map .int))) none) (by
  have e:qy (row.map PV.int) (some ((atN ks:Int)+1)) none=Bh.map .int:=by
   simp only[qy,vZ];rw[if_neg (by omega),show((atN ks:Int)+1).toNat=atN ks+1 by omega,Nat.min_eq_left (by simp;omega),<- List.map_drop,hBh,List.take_of_length_le (by rw[<- hBh];simp)]
  simp -implicitDefEqProofs [aY,gB,RV.pv,lF,yy,e,gj])]
 unfold Ar
 rw[bL (ρ':=wE ns (some (.sh (.lst (ks.map kI)))) (some (.ow (other.map .int))) (some (.sh (.int w))) (some (.sh (.lst (X.map .int)))) (some (.ow (row.map .int))) (some (.sh (.int m2))) (some (.ow (ks.map nmB))) (some (.sh (.int ((ks.length+i+m2:Nat):Int)))) (some (.sh (.int (atN ks)))) o (some (.ow (Ah'.map .int))) (some (.ow (Bh.map .int))) none) (by
  by_cases z:w=2
  . rw[if_pos z]at hw2
    have l4:Ah.length+4<=lim:=ll _ (by omega)
    rw[Bk (by simp[aE,z])];simp -implicitDefEqProofs [aY,gy,RV.pv,gj,ll,l4,hw2]
  . rw[if_neg z]at hw2;rw[C5 (by simp[aE,z]),hw2]
    rfl)]
 unfold Al
 rw[bL (ρ':=wE ns (some (.sh (.lst (ks.map kI)))) (some (.sh (.lst (other.map .int)))) (some (.sh (.int w))) (some (.sh (.lst (X.map .int)))) (some (.sh (.lst (row.map .int)))) (some (.sh (.int m2))) (some (.sh (.lst (ks.map nmB)))) (some (.sh (.int ((ks.length+i+m2:Nat):Int)))) (some (.sh (.int (atN ks)))) o (some (.ow (Ah'.map .int))) (some (.ow (Bh.map .int))) (some (.sh (Dn c)))) (by
  show aY 13 (aQ dv (ah (aj 3) (ah (aj 5) (ah (aj 7) (ah (aj 2) aI))))) (wE ns (some (.sh (.lst (ks.map kI)))) (some (.sh (.lst (other.map .int)))) (some (.sh (.int w))) (some (.sh (.lst (X.map .int)))) (some (.sh (.lst (row.map .int)))) (some (.sh (.int m2))) (some (.sh (.lst (ks.map nmB)))) (some (.sh (.int ((ks.length+i+m2:Nat):Int)))) (some (.sh (.int (atN ks)))) o (some (.ow (Ah'.map .int))) (some (.ow (Bh.map .int))) none)=_
  have hv:aQ dv (ah (aj 3) (ah (aj 5) (ah (aj 7) (ah (aj 2) aI)))) (wE ns (some (.sh (.lst (ks.map kI)))) (some (.sh (.lst (other.map .int)))) (some (.sh (.int w))) (some (.sh (.lst (X.map .int)))) (some (.sh (.lst (row.map .int)))) (some (.sh (.int m2))) (some (.sh (.lst (ks.map nmB)))) (some (.sh (.int ((ks.length+i+m2:Nat):Int)))) (some (.sh (.int (atN ks)))) o (some (.ow (Ah'.map .int))) (some (.ow (Bh.map .int))) none)=.ok (.sh (Dn c)):=hdone
  unfold aY;rw[hv]
  rfl)]
 unfold yW
 by_cases hd:ks.length+i+m2<=64
 . have hz:=hflt.2 hd
   have hD:Dn c=.lst (c.map .int):=by unfold Dn;rw[if_pos hz]
   have hgt:¬ (64:Int)<((ks.length+i+m2:Nat):Int):=by omega
   rw[hD,sk (by
    simp only[aE,uS,jw,GC,List.getElem?_cons_succ,List.getElem?_cons_zero,ij,RV.pv];simp[gGt,gI]
    omega)]
   unfold y4
   have hcl:c.length<=9000:=by rw[hc];simp;omega
   have hwh:=FC c (by omega)
   have l1:Ah'.length+other.length<=lim:=ll _ (by omega)
   have l2:Ah'.length+other.length+Bh.length<=lim:=ll _ (by omega)
   have hcat:mOp gy (mOp gy (aj 11) (aj 2)) (aj 12) (wE ns (some (.sh (.lst (ks.map kI)))) (some (.sh (.lst (other.map .int)))) (some (.sh (.int w))) (some (.sh (.lst (X.map .int)))) (some (.sh (.lst (row.map .int)))) (some (.sh (.int m2))) (some (.sh (.lst (ks.map nmB)))) (some (.sh (.int ((ks.length+i+m2:Nat):Int)))) (some (.sh (.int (atN ks)))) o (some (.ow (Ah'.map .int))) (some (.ow (Bh.map .int))) (some (.sh (.lst (c.map .int)))))=.ok (.fr (c.map .int)):=by
    rw[hc];simp -implicitDefEqProofs [gy,RV.pv,l1,l2]
   have heq:mOp zD (aj 13) (mOp gy (mOp gy (aj 11) (aj 2)) (aj 12)) (wE ns (some (.sh (.lst (ks.map kI)))) (some (.sh (.lst (other.map .int)))) (some (.sh (.int w))) (some (.sh (.lst (X.map .int)))) (some (.sh (.lst (row.map .int)))) (some (.sh (.int m2))) (some (.sh (.lst (ks.map nmB)))) (some (.sh (.int ((ks.length+i+m2:Nat):Int)))) (some (.sh (.int (atN ks)))) o (some (.ow (Ah'.map .int))) (some (.ow (Bh.map .int))) (some (.sh (.lst (c.map .int)))))=.ok (.sh (.bl true)):=by
    rw[uS,hcat];simp -implicitDefEqProofs [RV.pv,K0]
   simp -implicitDefEqProofs only[ba,tK,yH,o8,Ei,jw,List.getElem?_cons_succ,List.getElem?_cons_zero,pZ,yE,ql,rP,ij,hwh,RV.pv,if_true,heq,eL]
   rfl
 . have hz:¬ PG.flt c=none:=fun z=>hd (hflt.1 z)
   have hD:Dn c=.int (-1):=by unfold Dn;rw[if_neg hz]
   have hgt:(64:Int)<((ks.length+i+m2:Nat):Int):=by omega
   rw[hD]
   exact IA (ρ:=wE ns (some (.sh (.lst (ks.map kI)))) (some (.sh (.lst (other.map .int)))) (some (.sh (.int w))) (some (.sh (.lst (X.map .int)))) (some (.sh (.lst (row.map .int)))) (some (.sh (.int m2))) (some (.sh (.lst (ks.map nmB)))) (some (.sh (.int ((ks.length+i+m2:Nat):Int)))) (some (.sh (.int (atN ks)))) o (some (.ow (Ah'.map .int))) (some (.ow (Bh.map .int))) (some (.sh (.int (-1))))) (st (by
    simp only[aE,uS,jw,GC,List.getElem?_cons_succ,List.getElem?_cons_zero,ij,RV.pv];simp[gGt,gI]
    omega) (by simp[zD,pf,dW]))
theorem xT{ks ks2:List Bool}{md:List (Bool×Int)}(hmd:∀ p∈md,p.2=97 \/ p.2=98)(hne:ks≠[]){c:List Int}(hc:c=eY ks++(fU md++(aL [49] ks2++(kz md++iT ks)))):PG.flt c=none↔ks.length+md.length+ks2.length<=64:=by
 have e:c=fU (psN ks++md++psN ks2)++([49]++kz (psN ks++md++psN ks2)):=by
  rw[hc,BF,BF,BQ,BQ,yM,yM,xw,xw,gT];simp
 have hp:∀ p∈psN ks++md++psN ks2,p.2=97 \/ p.2=98:=fun p h=>by
  rcases List.mem_append.mp h with h|h
  . rcases List.mem_append.mp h with h|h
    . exact Bw ks p h
    . exact hmd p h
  . exact Bw ks2 p h
 have hlen:(psN ks++md++psN ks2).length=ks.length+md.length+ks2.length:=by simp[psN];omega
 constructor
 . intro h
   by_cases z:ks.length+md.length+ks2.length<=64
   . exact z
   . obtain⟨k,hk⟩:=DT hp (by omega) ([49]++kz (psN ks++md++psN ks2));rw[<- e,h]at hk;cases hk
 . intro h;rw[e];refine zI xG hp ?_ (by omega);intro z
   have:(psN ks++md++psN ks2).length=0:=by rw[z];rfl
   rw[hlen]at this;exact hne (List.length_eq_zero_iff.mp (by omega))
theorem lI(X:List Int):∀ ks:List Bool,(aL X ks).length<=6*ks.length+X.length
 |[]=>by simp[aL]
 |true ::r=>by have:=lI X r;simp[aL];omega
 |false ::r=>by have:=lI X r;simp[aL];omega
theorem Ek(ns:List Int)(_:ns.length<=63):wV [.lst (ns.map .int)]=.ok (.sh (.bl true)):=by
 have x1:=fH ns 1;have x3:=fH ns 3;have x4:=fH ns 4
 obtain⟨m1,hm1,hm1a,hm1b⟩:∃ m:Nat,(30:Int)+PG.mix ns 1%11=m /\ 30<=m /\ m<=40:=⟨(30+PG.mix ns 1%11).toNat,by omega,by omega,by omega⟩
 obtain⟨m3,hm3,hm3a,hm3b⟩:∃ m:Nat,(22:Int)+PG.mix ns 3%15=m /\ 22<=m /\ m<=36:=⟨(22+PG.mix ns 3%15).toNat,by omega,by omega,by omega⟩
 obtain⟨ks,hks,hk1⟩:=BP ns 0 m1 (by omega) hm1;obtain⟨ks2,hks2,hk2⟩:=BP ns 2 m3 (by omega) hm3
 have hne:ks≠[]:=fun z=>by rw[z]at hks;simp at hks;omega
 have hne2:ks2≠[]:=fun z=>by rw[z]at hks2;simp at hks2;omega
 have hot:=FJ ks2 [49] (by omega) (by simp);have hol:=lI [49] ks2
 have hof:PG.flt (aL [49] ks2)=none:=oY xG hne2 (by omega)
 have hcnt:=vH ks2;have hlen:=kn ks
 have l3:(3:Nat)<=lim:=cx (by omega)
 have l2:(2:Nat)<=lim:=cx (by omega)
 have l1:(1:Nat)<=lim:=cx (by omega)
 unfold wV fnP;rw[if_pos (show List.length [PV.lst (ns.map .int)]=1 from rfl),show eW 14 [PV.lst (ns.map .int)]=wE ns none none none none none none none none none none none none none from rfl];unfold Hv;rw[bL (ρ':=wE ns (some (.ow (ks.map kI))) none none none none none none none none none none none none) (by simp -implicitDefEqProofs [aY,x1,hm1,hm1 ▸ hk1,gj])];unfold Cf
 rw[bL (ρ':=wE ns (some (.ow (ks.map kI))) (some (.ow ((aL [49] ks2).map .int))) none none none none none none none none none none none) (by
  have hot':ef [.lst (ks2.map kI),.lst [.int 49]]=.ok (.fr ((aL [49] ks2).map .int)):=hot
  simp -implicitDefEqProofs [aY,x3,hm3,hm3 ▸ hk2,gj,eX,l1,hot'])]
 unfold Cw;rw[bL (ρ':=wE ns (some (.ow (ks.map kI))) (some (.ow ((aL [49] ks2).map .int))) (some (.sh (.int (PG.mix ns 4%3)))) none none none none none none none none none none) (by simp -implicitDefEqProofs [aY,x4])]
 have hw:PG.mix ns 4%3=0 \/ PG.mix ns 4%3=1 \/ PG.mix ns 4%3=2:=by omega
 generalize PG.mix ns 4%3=w at hw ⊢
 generalize ho:aL [49] ks2=other at *
 have step:∀ X:List Int,X.length<=10->(mOp bR (b2 (ah (b2 (ah (mC (.int 49)) aI)) (ah (b2 (ah (mC (.int 91)) (ah (mC (.int 93)) aI))) (ah (b2 (ah (mC (.int 123)) (ah (mC (.int 125)) aI))) aI)))) (aj 3) (wE ns (some (.ow (ks.map kI))) (some (.ow (other.map .int))) (some (.sh (.int w))) none none none none none none none none none none)=.ok (.sh (.lst (X.map .int)))) ->
   xV (wE ns (some (.ow (ks.map kI))) (some (.ow (other.map .int))) (some (.sh (.int w))) none none none none none none none none none none)=ud (wE ns (some (.sh (.lst (ks.map kI)))) (some (.ow (other.map .int))) (some (.sh (.int w))) (some (.sh (.lst (X.map .int)))) (some (.ow ((aL X ks).map .int))) none none none none none none none none):=fun X hX hx=>by
  have hnr:=FJ ks X (by omega) (by omega);unfold xV;rw[bL (ρ':=wE ns (some (.ow (ks.map kI))) (some (.ow (other.map .int))) (some (.sh (.int w))) (some (.sh (.lst (X.map .int)))) none none none none none none none none none) (by unfold aY;rw[hx];rfl)];unfold B3
  exact bL (by
   show aY 5 (aQ ef (ah (aj 1) (ah (aj 4) aI))) (wE ns (some (.sh (.lst (ks.map kI)))) (some (.ow (other.map .int))) (some (.sh (.int w))) (some (.sh (.lst (X.map .int)))) none none none none none none none none none)=_
   have hv:aQ ef (ah (aj 1) (ah (aj 4) aI)) (wE ns (some (.sh (.lst (ks.map kI)))) (some (.ow (other.map .int))) (some (.sh (.int w))) (some (.sh (.lst (X.map .int)))) none none none none none none none none none)=.ok (.fr ((aL X ks).map .int)):=hnr
   unfold aY;rw[hv]
   rfl)
 rcases hw with z|z|z<;>subst z
 . rw[step [49] (by simp) (by simp -implicitDefEqProofs [bR,atP,ixP,RV.pv,l3,l2,l1,eX])];have hn:=lI [49] ks;have hs:=gT [49] ks;rw[List.length_singleton]at hn hol;refine ur ns ks (aL [49] ks) other [49] (eY ks) (eY ks) (iT ks) (eY ks++(other++iT ks)) 0 0 ks2.length (by omega) (by omega) (by omega) hcnt rfl ?_ ?_ ?_ (by omega) rfl (Jz (Cb hne (by omega) hof (by omega) (by omega))) (by simp) ?_
   . rw[hs,Nat.add_zero,<- hlen,List.take_left]
   . rw[hs,<- hlen,<- List.drop_drop,List.drop_left];rfl
   . rw[hs,List.length_append,hlen];simp
   . exact xT (md:=[]) (by simp) hne (by rw[<- ho];simp[fU,kz])
 . rw[step [91,93] (by simp) (by simp -implicitDefEqProofs [bR,atP,ixP,RV.pv,l3,l2,l1,eX])];have hn:=lI [91,93] ks;have hs:=gT [91,93] ks;simp only[List.length_cons,List.length_nil]at hn hol;refine ur ns ks (aL [91,93] ks) other [91,93] (eY ks++[91]) (eY ks++[91]) (93 ::iT ks) ((eY ks++[91])++(other++(93 ::iT ks))) 1 1 ks2.length (by omega) (by omega) (by omega) hcnt rfl ?_ ?_ ?_ (by omega) rfl (Jr (Ca hne (by omega) hof (by omega) (by omega))) (by simp) ?_
   . rw[hs,<- hlen,List.take_length_add_append];rfl
   . rw[hs,<- hlen,<- List.drop_drop,List.drop_left];rfl
   . rw[hs,List.length_append,hlen];simp
   . exact xT (md:=[(true,97)]) (by simp) hne (by rw[<- ho];simp[fU,kz,opb,dr])
 . rw[step [123,125] (by simp) (by simp -implicitDefEqProofs [bR,atP,ixP,RV.pv,l3,l2,l1,eX])];have hn:=lI [123,125] ks;have hs:=gT [123,125] ks;simp only[List.length_cons,List.length_nil]at hn hol;refine ur ns ks (aL [123,125] ks) other [123,125] (eY ks++[123]) ((eY ks++[123])++[34,98,34,58]) (125 ::iT ks) ((eY ks++[123])++(([34,98,34,58]++other)++(125 ::iT ks))) 2 1 ks2.length (by omega) (by omega) (by omega) hcnt rfl ?_ ?_ ?_ (by omega) rfl (II (IP hne (by omega) hof (by omega) (by omega))) (by simp) ?_
   . rw[hs,<- hlen,List.take_length_add_append];rfl
   . rw[hs,<- hlen,<- List.drop_drop,List.drop_left];rfl
   . rw[hs,List.length_append,hlen];simp
   . exact xT (md:=[(false,98)]) (by simp) hne (by rw[<- ho];simp[fU,kz,opb,dr])
end L2.plainglass_k44_texts_too_deep
namespace L2.plainglass_k44_texts_too_deep
open PySem PySem.Spec PyProof.Rows L2.E L2.P PG
def top(i:Nat):Stmt:=PySem.Challenge.pw_plainglass_k44_texts_too_deep.main.body.getD i (.Pass ⟨0,0,0,0⟩)
abbrev p7:Stmt:=top 15
abbrev oo:List Str:=["point"]
theorem yX:aP ["point"] oo (ay p7):=cz
abbrev xo:Stmt:=top 16
abbrev vc:List Str:=["point"]
theorem EW:aP ["point"] vc (ay xo):=cz
abbrev vw:Stmt:=top 18
abbrev rZ:List Str:=["row"]
theorem lE:aP ["row","found","at","end"] rZ (ay vw):=cz
abbrev jF:Stmt:=top 19
abbrev i3:List Str:=["row","at"]
theorem eR:aP ["row","at","spans","end","span"] i3 (ay jF):=cz
abbrev xI:Stmt:=top 20
abbrev uO:List Str:=["byte"]
theorem Fy:aP ["byte"] uO (ay xI):=cz
abbrev iK:Stmt:=top 21
abbrev gV:List Str:=["byte"]
theorem qa:aP ["byte"] gV (ay iK):=cz
abbrev iW:Stmt:=top 22
abbrev il:List Str:=["byte"]
theorem qV:aP ["byte"] il (ay iW):=cz
abbrev oO:Stmt:=top 23
abbrev mz:List Str:=["row","at","end"]
theorem j0:aP ["row","at","end","number","byte"] mz (ay oO):=cz
abbrev qk:Stmt:=top 45
abbrev nC:List Str:=["byte"]
theorem zb:aP ["byte"] nC (ay qk):=cz
abbrev nF:Stmt:=top 46
abbrev lZ:List Str:=["byte"]
theorem yd:aP ["byte"] lZ (ay nF):=cz
abbrev oA:Stmt:=top 47
abbrev mX:List Str:=["byte"]
theorem yI:aP ["byte"] mX (ay oA):=cz
abbrev ou:Stmt:=top 48
abbrev mE:List Str:=["byte"]
theorem yN:aP ["byte"] mE (ay ou):=cz
abbrev ko:Stmt:=top 49
abbrev jx:List Str:=["byte"]
theorem tW:aP ["byte"] jx (ay ko):=cz
abbrev yq:Stmt:=top 53
abbrev uC:List Str:=["row","tree","i"]
theorem zg:aP ["row","tree","i","node"] uC (ay yq):=cz
abbrev iG:Stmt:=top 54
abbrev gX:List Str:=["signs"]
theorem ee:aP ["signs","found","at","size"] gX (ay iG):=cz
abbrev oF:Stmt:=top 55
abbrev mI:List Str:=["signs","at"]
theorem yt:aP ["signs","at"] mI (ay oF):=cz
abbrev mU:Stmt:=top 56
abbrev lx:List Str:=["signs","at","size"]
theorem vR:aP ["signs","at","size"] lx (ay mU):=cz
abbrev Bg:Stmt:=top 58
abbrev yJ:List Str:=["numbers"]
theorem xn:aP ["numbers","row","point"] yJ (ay Bg):=cz
abbrev nT:Stmt:=top 59
abbrev mW:List Str:=["point"]
theorem qW:aP ["point","row"] mW (ay nT):=cz
abbrev yl:Stmt:=top 62
abbrev vo:List Str:=["tree","i"]
theorem rD:aP ["tree","i","found","k"] vo (ay yl):=cz
abbrev AI:Stmt:=top 63
abbrev ya:List Str:=["tree","i","k"]
theorem BZ:aP ["tree","i","k","found"] ya (ay AI):=cz
abbrev vm:Stmt:=top 64
abbrev sP:List Str:=["row","tree","i","name"]
theorem wQ:aP ["row","tree","i","name","k"] sP (ay vm):=cz
abbrev vg:Stmt:=top 70
abbrev su:List Str:=["item","byte"]
theorem CQ:aP ["item","byte"] su (ay vg):=cz
abbrev kr:Stmt:=top 71
abbrev jt:List Str:=["byte"]
theorem nh:aP ["byte","rest"] jt (ay kr):=cz
abbrev ly:Stmt:=top 72
abbrev ky:List Str:=["byte"]
theorem uQ:aP ["byte"] ky (ay ly):=cz
abbrev hE:Stmt:=top 73
abbrev gC:List Str:=["item","byte"]
theorem pz:aP ["item","byte"] gC (ay hE):=cz
abbrev iS:Stmt:=top 74
abbrev iD:List Str:=["item","byte"]
theorem kF:aP ["item","byte","worth"] iD (ay iS):=cz
abbrev g8:Stmt:=top 75
abbrev gE:List Str:=["byte"]
theorem jN:aP ["byte","spans"] gE (ay g8):=cz
abbrev hU:Stmt:=top 76
abbrev gJ:List Str:=["byte"]
theorem pj:aP ["byte"] gJ (ay hU):=cz
abbrev jA:Stmt:=top 77
abbrev i8:List Str:=["worth"]
theorem lO:aP ["worth","second"] i8 (ay jA):=cz
abbrev lQ:Stmt:=top 78
abbrev lh:List Str:=["item","byte"]
theorem pC:aP ["item","byte","worth"] lh (ay lQ):=cz
abbrev gn:Stmt:=top 79
abbrev fO:List Str:=["item","byte"]
theorem nB:aP ["item","byte"] fO (ay gn):=cz
abbrev gU:Stmt:=top 80
abbrev gG:List Str:=["byte"]
theorem jS:aP ["byte","items"] gG (ay gU):=cz
abbrev fN:Stmt:=top 81
abbrev fm:List Str:=["byte"]
theorem m6:aP ["byte"] fm (ay fN):=cz
abbrev lb:Stmt:=top 82
abbrev kj:List Str:=[]
theorem vq:aP [] kj (ay lb):=cz
abbrev yf:Stmt:=top 84
abbrev vN:List Str:=["row"]
theorem vp:aP ["row","walk","at"] vN (ay yf):=cz
abbrev kl:Stmt:=top 85
abbrev jJ:List Str:=["row"]
theorem ni:aP ["row","at"] jJ (ay kl):=cz
abbrev xq:Stmt:=top 88
abbrev uy:List Str:=["row"]
theorem gM:aP ["row","tree","unended","at","byte","i"] uy (ay xq):=cz
abbrev A9:Stmt:=top 89
abbrev xS:List Str:=["row","at","i"]
theorem yi:aP ["row","at","i","kind","end"] xS (ay A9):=cz
abbrev oq:Stmt:=top 90
abbrev m4:List Str:=["row","at"]
theorem m7:aP ["row","at","end"] m4 (ay oq):=cz
abbrev qt:Stmt:=top 91
abbrev oP:List Str:=["row","at"]
theorem oj:aP ["row","at","end"] oP (ay qt):=cz
abbrev r0:Stmt:=top 92
abbrev qo:List Str:=["row","end"]
theorem uP:aP ["row","end"] qo (ay r0):=cz
abbrev lD:Stmt:=top 93
abbrev kg:List Str:=["tree","i"]
theorem oQ:aP ["tree","i","node"] kg (ay lD):=cz
abbrev r9:Stmt:=top 95
abbrev qA:List Str:=["figures"]
theorem mT:aP ["figures","number","figure"] qA (ay r9):=cz
abbrev p6:Stmt:=top 97
abbrev oK:List Str:=["part"]
theorem Ag:aP ["part"] oK (ay p6):=cz
abbrev mY:Stmt:=top 98
abbrev lq:List Str:=["row","tree","names"]
theorem jb:aP ["row","tree","names","i","part"] lq (ay mY):=cz
abbrev lg:Stmt:=top 99
abbrev kf:List Str:=["row","tree","i","part"]
theorem nV:aP ["row","tree","i","part","place"] kf (ay lg):=cz
abbrev D7:Stmt:=top 101
abbrev Bu:List Str:=["row","names","other"]
theorem AW:aP ["row","names","other","tree","node"] Bu (ay D7):=cz
abbrev DG:Stmt:=top 102
abbrev AS:List Str:=["row","names","other"]
theorem Bp:aP ["row","names","other","tree","i"] AS (ay DG):=cz
abbrev nc:Stmt:=top 103
abbrev kZ:List Str:=["row","names","name","other"]
theorem lz:aP ["row","names","name","other","tree","i"] kZ (ay nc):=cz
abbrev kv:Stmt:=top 104
abbrev js:List Str:=["row","tree","names","kind"]
theorem nv:aP ["row","tree","names","kind","i"] js (ay kv):=cz
abbrev yL:Stmt:=top 105
abbrev vC:List Str:=["row","tree","i","more"]
theorem zV:aP ["row","tree","i","more","spans"] vC (ay yL):=cz
abbrev lj:Stmt:=top 106
abbrev kx:List Str:=["tree","i"]
theorem uB:aP ["tree","i"] kx (ay lj):=cz
abbrev sm:Stmt:=top 107
abbrev pX:List Str:=["row","begin","end","more"]
theorem uH:aP ["row","begin","end","more","changed"] pX (ay sm):=cz
abbrev qf:Stmt:=top 109
abbrev oz:List Str:=["_law_script","_law_k"]
theorem Ad:aP ["_law_script","_law_k"] oz (ay qf):=cz
abbrev sA:Stmt:=top 110
abbrev p8:List Str:=["_law_script","_law_k"]
theorem qd:aP ["_law_script","_law_k","_law_number"] p8 (ay sA):=cz
abbrev og:Stmt:=top 111
abbrev lS:List Str:=["_law_found"]
theorem yQ:aP ["_law_found"] lS (ay og):=cz
abbrev mx:Stmt:=top 112
abbrev la:List Str:=["_law_found"]
theorem vW:aP ["_law_found"] la (ay mx):=cz
abbrev p5:Stmt:=top 113
abbrev nZ:List Str:=["_law_kinds_here","_law_inside"]
theorem ig:aP ["_law_kinds_here","_law_inside","_law_row","_law_kind"] nZ (ay p5):=cz
abbrev oM:Stmt:=top 114
abbrev mL:List Str:=["_law_script","_law_base","_law_many_here"]
theorem xm:aP ["_law_script","_law_base","_law_many_here"] mL (ay oM):=cz
abbrev pY:Stmt:=top 115
abbrev nX:List Str:=["_law_way","_law_row","_law_names","_law_other"]
theorem fW:aP ["_law_way","_law_row","_law_names","_law_other","_law_found","e"] nX (ay pY):=cz
abbrev Ak:Stmt:=top 116
abbrev Ay:List Str:=["_law_script"]
theorem gF:aP ["_law_script","_law_kinds_here","_law_other","_law_way","_law_inside","_law_row","_law_many_here","_law_names","_law_deep","_law_at","_law_kind","_law_ahead","_law_behind_here","_law_found"] Ay (ay Ak):=cz
abbrev dP:Stmt:=inClass (top 69) 0
abbrev iZ:List Str:=["self"]
theorem sx:aP ["self"] iZ (ay dP):=cz
abbrev gb:Stmt:=inClass (top 69) 1
abbrev mP:List Str:=["self","row"]
theorem lX:aP ["self","row","at","byte"] mP (ay gb):=cz
abbrev dY:Stmt:=inClass (top 69) 2
abbrev jH:List Str:=["self","byte"]
theorem jG:aP ["self","byte","item","items"] jH (ay dY):=cz
abbrev dN:Stmt:=inClass (top 69) 3
abbrev i7:List Str:=["self"]
theorem sj:aP ["self"] i7 (ay dN):=cz
abbrev dM:Stmt:=inClass (top 69) 5
abbrev i4:List Str:=["self"]
theorem sF:aP ["self"] i4 (ay dM):=cz
set_option genInjectivity false in
set_option genSizeOf false in
structure Adr where
 g9:Addr
 d_is_point:FuncData
 mq:Addr
 d_eight:FuncData
 ka:Addr
 d_points:FuncData
 dQ:Addr
 d_character_end:FuncData
 fS:Addr
 d_tails:FuncData
 cA:Addr
 d_second_of_three:FuncData
 cP:Addr
 d_second_of_four:FuncData
 gd:Addr
 d_character:FuncData
 eN:Addr
 d_is_white:FuncData
 de:Addr
 d_is_figure:FuncData
 fc:Addr
 d_hex_worth:FuncData
 eE:Addr
 d_word_rest:FuncData
 bA:Addr
 d_short_escape:FuncData
 m5:Addr
 d_meant:FuncData
 cZ:Addr
 d_without_escapes:FuncData
 fX:Addr
 d_sign_size:FuncData
 fz:Addr
 d_sign_meant:FuncData
 mG:Addr
 d_told:FuncData
 fZ:Addr
 d_told_sign:FuncData
 jg:Addr
 d_inner:FuncData
 qc:Addr
 d_item:FuncData
 ki:Addr
 d_member:FuncData
 jm:Addr
 d_behind:FuncData
 bB:Addr
 d_behind_value:FuncData
 dA:Addr
 d_behind_lead:FuncData
 aV:Addr
 d_behind_in_number:FuncData
 bx:Addr
 d_behind_in_text:FuncData
 bJ:Addr
 d_behind_character:FuncData
 cg:Addr
 d_behind_backslash:FuncData
 dg:Addr
 d_behind_code_d:FuncData
 cY:Addr
 d_behind_hex:FuncData
 aZ:Addr
 d_behind_in_brackets:FuncData
 bY:Addr
 d_behind_row_begin:FuncData
 bP:Addr
 d_behind_fields_begin:FuncData
 dU:Addr
 d_member_rest:FuncData
 kH:Addr
 d_fault:FuncData
 cb:Addr
 d_refuse_fault:FuncData
 jc:Addr
 d_nodes:FuncData
 jB:Addr
 d_leaf:FuncData
 fV:Addr
 d_plain_end:FuncData
 hZ:Addr
 d_text_end:FuncData
 fG:Addr
 d_is_name:FuncData
 cX:Addr
 d_with_member:FuncData
 j8:Addr
 d_counted:FuncData
 eO:Addr
 d_place_of:FuncData
 dB:Addr
 d_node_there:FuncData
 dD:Addr
 d_node_behind:FuncData
 qP:Addr
 d_put:FuncData
 qO:Addr
 d_add:FuncData
 da:Addr
 d_add_member:FuncData
 cC:Addr
 d_node_of_kind:FuncData
 jY:Addr
 d_added:FuncData
 eM:Addr
 d_inner_spans:FuncData
 fJ:Addr
 d_swapped:FuncData
 gZ:Addr
 d_law_cell:FuncData
 fI:Addr
 d_law_mix:FuncData
 gf:Addr
 d_law_whole:FuncData
 fi:Addr
 d_law_wholes:FuncData
 ef:Addr
 d_law_nest:FuncData
 fb:Addr
 d_law_kinds:FuncData
 dv:Addr
 d_law_done:FuncData
 wV:Addr
 d_law:FuncData
 cG:Addr
 d_Walk___init__:FuncData
 eZ:Addr
 d_Walk_take:FuncData
 dG:Addr
 d_Walk_goes_on:FuncData
 cj:Addr
 d_Walk_brackets:FuncData
 cF:Addr
 d_Walk_is_whole:FuncData
 C_GlassError:Addr
 C_NoNode:Addr
 C_TooDeep:Addr
 C_Walk:Addr
 v_LAST_POINT:Value
 v_FIRST_PAIRED:Value
 v_LAST_PAIRED:Value
 v_MARKS:Addr
 v_TAIL_MARK:Value
 v_TAIL:Addr
 v_BLANK:Value
 v_QUOTE:Value
 v_PLUS:Value
 v_COMMA:Value
 v_MINUS:Value
 v_POINT:Value
 v_NOUGHT:Value
 v_NINE:Value
 v_COLON:Value
 v_BIG_E:Value
 v_ROW_BEGIN:Value
 v_BACKSLASH:Value
 v_ROW_END:Value
 v_SMALL_E:Value
 v_SMALL_U:Value
 v_FIELDS_BEGIN:Value
 v_FIELDS_END:Value
 v_WHITE:Addr
 v_WORDS:Addr
 v_SHORT_ESCAPES:Addr
 v_ESCAPED:Addr
 v_CODE_SIZE:Value
 v_MOST_BRACKETS:Value
 v_LOOSE:Addr
 v_UNENDED:Addr
 v_KINDS:Addr
structure Txt(K:PySem.W.Frag)(mg:Str->Option Value)(t:Adr):Prop where
 e_is_point:Ent K mg "is_point" p7 t.g9 t.d_is_point oo
 e_eight:Ent K mg "eight" xo t.mq t.d_eight vc
 e_points:Ent K mg "points" vw t.ka t.d_points rZ
 e_character_end:Ent K mg "character_end" jF t.dQ t.d_character_end i3
 e_tails:Ent K mg "tails" xI t.fS t.d_tails uO
 e_second_of_three:Ent K mg "second_of_three" iK t.cA t.d_second_of_three gV
 e_second_of_four:Ent K mg "second_of_four" iW t.cP t.d_second_of_four il
 e_character:Ent K mg "character" oO t.gd t.d_character mz
 cf:Ent K mg "is_white" qk t.eN t.d_is_white nC
 eJ:Ent K mg "is_figure" nF t.de t.d_is_figure lZ
 ie:Ent K mg "hex_worth" oA t.fc t.d_hex_worth mX
 e_word_rest:Ent K mg "word_rest" ou t.eE t.d_word_rest mE
 iE:Ent K mg "short_escape" ko t.bA t.d_short_escape jx
 uf:Ent K mg "meant" yq t.m5 t.d_meant uC
 e_without_escapes:Ent K mg "without_escapes" iG t.cZ t.d_without_escapes gX
 e_sign_size:Ent K mg "sign_size" oF t.fX t.d_sign_size mI
 e_sign_meant:Ent K mg "sign_meant" mU t.fz t.d_sign_meant lx
 e_told:Ent K mg "told" Bg t.mG t.d_told yJ
 e_told_sign:Ent K mg "told_sign" nT t.fZ t.d_told_sign mW
 j3:Ent K mg "inner" yl t.jg t.d_inner vo
 yb:Ent K mg "item" AI t.qc t.d_item ya
 e_member:Ent K mg "member" vm t.ki t.d_member sP
 qS:Ent K mg "behind" vg t.jm t.d_behind su
 eU:Ent K mg "behind_value" kr t.bB t.d_behind_value jt
 fL:Ent K mg "behind_lead" ly t.dA t.d_behind_lead ky
 e_behind_in_number:Ent K mg "behind_in_number" hE t.aV t.d_behind_in_number gC
 e_behind_in_text:Ent K mg "behind_in_text" iS t.bx t.d_behind_in_text iD
 fh:Ent K mg "behind_character" g8 t.bJ t.d_behind_character gE
 fo:Ent K mg "behind_backslash" hU t.cg t.d_behind_backslash gJ
 gP:Ent K mg "behind_code_d" jA t.dg t.d_behind_code_d i8
 e_behind_hex:Ent K mg "behind_hex" lQ t.cY t.d_behind_hex lh
 e_behind_in_brackets:Ent K mg "behind_in_brackets" gn t.aZ t.d_behind_in_brackets fO
 fg:Ent K mg "behind_row_begin" gU t.bY t.d_behind_row_begin gG
 eA:Ent K mg "behind_fields_begin" fN t.bP t.d_behind_fields_begin fm
 cW:Ent K mg "member_rest" lb t.dU t.d_member_rest kj
 o5:Ent K mg "fault" yf t.kH t.d_fault vN
 e_refuse_fault:Ent K mg "refuse_fault" kl t.cb t.d_refuse_fault jJ
 e_nodes:Ent K mg "nodes" xq t.jc t.d_nodes uy
 e_leaf:Ent K mg "leaf" A9 t.jB t.d_leaf xS
 e_plain_end:Ent K mg "plain_end" oq t.fV t.d_plain_end m4
 e_text_end:Ent K mg "text_end" qt t.hZ t.d_text_end oP
 e_is_name:Ent K mg "is_name" r0 t.fG t.d_is_name qo
 e_with_member:Ent K mg "with_member" lD t.cX t.d_with_member kg
 e_counted:Ent K mg "counted" r9 t.j8 t.d_counted qA
 e_place_of:Ent K mg "place_of" p6 t.eO t.d_place_of oK
 e_node_there:Ent K mg "node_there" mY t.dB t.d_node_there lq
 e_node_behind:Ent K mg "node_behind" lg t.dD t.d_node_behind kf
 Cb:Ent K mg "put" D7 t.qP t.d_put Bu
 Ca:Ent K mg "add" DG t.qO t.d_add AS
 e_add_member:Ent K mg "add_member" nc t.da t.d_add_member kZ
 e_node_of_kind:Ent K mg "node_of_kind" kv t.cC t.d_node_of_kind js
 o4:Ent K mg "added" yL t.jY t.d_added vC
 e_inner_spans:Ent K mg "inner_spans" lj t.eM t.d_inner_spans kx
 i0:Ent K mg "swapped" sm t.fJ t.d_swapped pX
 mS:Ent K mg "_law_cell" qf t.gZ t.d_law_cell oz
 fH:Ent K mg "_law_mix" sA t.fI t.d_law_mix p8
 kB:Ent K mg "_law_whole" og t.gf t.d_law_whole lS
 e_law_wholes:Ent K mg "_law_wholes" mx t.fi t.d_law_wholes la
 e_law_nest:Ent K mg "_law_nest" p5 t.ef t.d_law_nest nZ
 e_law_kinds:Ent K mg "_law_kinds" oM t.fb t.d_law_kinds mL
 e_law_done:Ent K mg "_law_done" pY t.dv t.d_law_done nX
 Ek:Ent K mg "law" Ak t.wV t.d_law Ay
 F_Walk___init__:Fun K "__init__" "Walk.__init__" dP t.cG t.d_Walk___init__
 b_Walk___init__:Binds K t.d_Walk___init__ iZ []
 F_Walk_take:Fun K "take" "Walk.take" gb t.eZ t.d_Walk_take
 h_Walk_take:Meth K t.C_Walk "take" t.eZ
 b_Walk_take:Binds K t.d_Walk_take mP []
 F_Walk_goes_on:Fun K "goes_on" "Walk.goes_on" dY t.dG t.d_Walk_goes_on
 h_Walk_goes_on:Meth K t.C_Walk "goes_on" t.dG
 b_Walk_goes_on:Binds K t.d_Walk_goes_on jH []
 F_Walk_brackets:Fun K "brackets" "Walk.brackets" dN t.cj t.d_Walk_brackets
 h_Walk_brackets:Meth K t.C_Walk "brackets" t.cj
 b_Walk_brackets:Binds K t.d_Walk_brackets i7 []
 F_Walk_is_whole:Fun K "is_whole" "Walk.is_whole" dM t.cF t.d_Walk_is_whole
 h_Walk_is_whole:Meth K t.C_Walk "is_whole" t.cF
 b_Walk_is_whole:Binds K t.d_Walk_is_whole i4 []
 n_len:mg "len" = none
 n_list:mg "list" = none
 n_isinstance:mg "isinstance" = none
 n_tuple:mg "tuple" = none
 n_range:mg "range" = none
 n_all:mg "all" = none
 n_int:mg "int" = none
 n_bool:mg "bool" = none
 n_reversed:mg "reversed" = none
 n_enumerate:mg "enumerate" = none
 n_ValueError:mg "ValueError" = none
 m_Walk:mg "Walk" = some (.ref t.C_Walk)
 c_Walk:Cls K t.C_Walk
 k_Walk:Mk K t.C_Walk t.cG
 na_Walk_coming:lr K t.C_Walk "coming"
 m_GlassError:mg "GlassError" = some (.ref t.C_GlassError)
 e_GlassError:n5 K t.C_GlassError [.type "ValueError",.type "Exception",.type "BaseException",.type "object"]
 x_GlassError:PySem.W.excIn K t.C_GlassError [.type "ValueError",.type "Exception",.type "BaseException",.type "object"] "ValueError.__new__" = true
 m_NoNode:mg "NoNode" = some (.ref t.C_NoNode)
 e_NoNode:n5 K t.C_NoNode [.ref t.C_GlassError,.type "ValueError",.type "Exception",.type "BaseException",.type "object"]
 x_NoNode:PySem.W.excIn K t.C_NoNode [.type "ValueError",.type "Exception",.type "BaseException",.type "object"] "ValueError.__new__" = true
 m_TooDeep:mg "TooDeep" = some (.ref t.C_TooDeep)
 e_TooDeep:n5 K t.C_TooDeep [.ref t.C_GlassError,.type "ValueError",.type "Exception",.type "BaseException",.type "object"]
 x_TooDeep:PySem.W.excIn K t.C_TooDeep [.type "ValueError",.type "Exception",.type "BaseException",.type "object"] "ValueError.__new__" = true
 m_LAST_POINT:mg "LAST_POINT" = some t.v_LAST_POINT
 r_LAST_POINT:RelV (.int 1114111) t.v_LAST_POINT
 m_FIRST_PAIRED:mg "FIRST_PAIRED" = some t.v_FIRST_PAIRED
 r_FIRST_PAIRED:RelV (.int 55296) t.v_FIRST_PAIRED
 m_LAST_PAIRED:mg "LAST_PAIRED" = some t.v_LAST_PAIRED
 r_LAST_PAIRED:RelV (.int 57343) t.v_LAST_PAIRED
 m_MARKS:mg "MARKS" = some (.ref t.v_MARKS)
 r_MARKS:RelV (.ref t.v_MARKS) (.ref t.v_MARKS)
 q_MARKS:∀ H,SqT K H t.v_MARKS [.int 0,.int 192,.int 224,.int 240]
 m_TAIL_MARK:mg "TAIL_MARK" = some t.v_TAIL_MARK
 r_TAIL_MARK:RelV (.int 128) t.v_TAIL_MARK
 m_TAIL:mg "TAIL" = some (.ref t.v_TAIL)
 r_TAIL:RelV (.ref t.v_TAIL) (.ref t.v_TAIL)
 q_TAIL:∀ H,SqT K H t.v_TAIL [.int 128,.int 191]
 m_BLANK:mg "BLANK" = some t.v_BLANK
 r_BLANK:RelV (.int 32) t.v_BLANK
 m_QUOTE:mg "QUOTE" = some t.v_QUOTE
 r_QUOTE:RelV (.int 34) t.v_QUOTE
 m_PLUS:mg "PLUS" = some t.v_PLUS
 r_PLUS:RelV (.int 43) t.v_PLUS
 m_COMMA:mg "COMMA" = some t.v_COMMA
 r_COMMA:RelV (.int 44) t.v_COMMA
 m_MINUS:mg "MINUS" = some t.v_MINUS
 r_MINUS:RelV (.int 45) t.v_MINUS
 m_POINT:mg "POINT" = some t.v_POINT
 r_POINT:RelV (.int 46) t.v_POINT
 m_NOUGHT:mg "NOUGHT" = some t.v_NOUGHT
 r_NOUGHT:RelV (.int 48) t.v_NOUGHT
 m_NINE:mg "NINE" = some t.v_NINE
 r_NINE:RelV (.int 57) t.v_NINE
 m_COLON:mg "COLON" = some t.v_COLON
 r_COLON:RelV (.int 58) t.v_COLON
 m_BIG_E:mg "BIG_E" = some t.v_BIG_E
 r_BIG_E:RelV (.int 69) t.v_BIG_E
 m_ROW_BEGIN:mg "ROW_BEGIN" = some t.v_ROW_BEGIN
 r_ROW_BEGIN:RelV (.int 91) t.v_ROW_BEGIN
 m_BACKSLASH:mg "BACKSLASH" = some t.v_BACKSLASH
 r_BACKSLASH:RelV (.int 92) t.v_BACKSLASH
 m_ROW_END:mg "ROW_END" = some t.v_ROW_END
 r_ROW_END:RelV (.int 93) t.v_ROW_END
 m_SMALL_E:mg "SMALL_E" = some t.v_SMALL_E
 r_SMALL_E:RelV (.int 101) t.v_SMALL_E
 m_SMALL_U:mg "SMALL_U" = some t.v_SMALL_U
 r_SMALL_U:RelV (.int 117) t.v_SMALL_U
 m_FIELDS_BEGIN:mg "FIELDS_BEGIN" = some t.v_FIELDS_BEGIN
 r_FIELDS_BEGIN:RelV (.int 123) t.v_FIELDS_BEGIN
 m_FIELDS_END:mg "FIELDS_END" = some t.v_FIELDS_END
 r_FIELDS_END:RelV (.int 125) t.v_FIELDS_END
 m_WHITE:mg "WHITE" = some (.ref t.v_WHITE)
 r_WHITE:RelV (.ref t.v_WHITE) (.ref t.v_WHITE)
 q_WHITE:∀ H,SqT K H t.v_WHITE [.int 9,.int 10,.int 13,.int 32]
 m_WORDS:mg "WORDS" = some (.ref t.v_WORDS)
 r_WORDS:RelV (.ref t.v_WORDS) (.ref t.v_WORDS)
 q_WORDS:DKP K t.v_WORDS [(110,.tup ([117,108,108].map .int)),(116,.tup ([114,117,101].map .int)),(102,.tup ([97,108,115,101].map .int))]
 m_SHORT_ESCAPES:mg "SHORT_ESCAPES" = some (.ref t.v_SHORT_ESCAPES)
 r_SHORT_ESCAPES:RelV (.ref t.v_SHORT_ESCAPES) (.ref t.v_SHORT_ESCAPES)
 q_SHORT_ESCAPES:DKP K t.v_SHORT_ESCAPES [(34,.int 34),(92,.int 92),(47,.int 47),(98,.int 8),(102,.int 12),(110,.int 10),(114,.int 13),(116,.int 9)]
 m_ESCAPED:mg "ESCAPED" = some (.ref t.v_ESCAPED)
 r_ESCAPED:RelV (.ref t.v_ESCAPED) (.ref t.v_ESCAPED)
 q_ESCAPED:DKP K t.v_ESCAPED [(8,.int 98),(9,.int 116),(10,.int 110),(12,.int 102),(13,.int 114),(34,.int 34),(92,.int 92)]
 m_CODE_SIZE:mg "CODE_SIZE" = some t.v_CODE_SIZE
 r_CODE_SIZE:RelV (.int 6) t.v_CODE_SIZE
 m_MOST_BRACKETS:mg "MOST_BRACKETS" = some t.v_MOST_BRACKETS
 r_MOST_BRACKETS:RelV (.int 64) t.v_MOST_BRACKETS
 m_LOOSE:mg "LOOSE" = some (.ref t.v_LOOSE)
 r_LOOSE:RelV (.ref t.v_LOOSE) (.ref t.v_LOOSE)
 q_LOOSE:∀ H,SqT K H t.v_LOOSE [.str "white",.str "figures",.str "fraction",.str "exponent",.str "sign"]
 m_UNENDED:mg "UNENDED" = some (.ref t.v_UNENDED)
 r_UNENDED:RelV (.ref t.v_UNENDED) (.ref t.v_UNENDED)
 q_UNENDED:∀ H,SqT K H t.v_UNENDED [.str "row",.str "more row",.str "fields",.str "more fields"]
 m_KINDS:mg "KINDS" = some (.ref t.v_KINDS)
 r_KINDS:RelV (.ref t.v_KINDS) (.ref t.v_KINDS)
 q_KINDS:DKP K t.v_KINDS [(34,.str "text"),(91,.str "row"),(102,.str "false"),(110,.str "null"),(116,.str "true"),(123,.str "fields")]
noncomputable def bc(t:Adr)(c:String):Option Addr:=if c = "GlassError" then some t.C_GlassError else if c = "NoNode" then some t.C_NoNode else if c = "TooDeep" then some t.C_TooDeep else if c = "Walk" then some t.C_Walk else none
theorem tR{K:PySem.W.Frag}{mg:Str->Option Value}{t:Adr}(T:Txt K mg t):∀ c C b,bc t c=some C->mJ c=some b->tj K t.C_NoNode C b:=by
 intro c C b h1 h2;unfold bc at h1;unfold mJ at h2
 by_cases e:c = "GlassError"
 . subst e;simp at h2
 rw[if_neg e]at h1
 by_cases e:c = "NoNode"
 . subst e;simp at h1 h2;subst h1;subst h2;exact takes T.e_NoNode T.e_NoNode (by simp)
 rw[if_neg e]at h1
 by_cases e:c = "TooDeep"
 . subst e;simp at h2
 rw[if_neg e]at h1
 by_cases e:c = "Walk"
 . subst e;simp at h2
 rw[if_neg e]at h1;cases h1
theorem pA{K:PySem.W.Frag}{mg:Str->Option Value}{t:Adr}(T:Txt K mg t):∀ c C b,bc t c=some C->eS c=some b->tj K t.C_GlassError C b:=by
 intro c C b h1 h2;unfold bc at h1;unfold eS at h2
 by_cases e:c = "GlassError"
 . subst e;simp at h1 h2;subst h1;subst h2;exact takes T.e_GlassError T.e_GlassError (by simp)
 rw[if_neg e]at h1
 by_cases e:c = "NoNode"
 . subst e;simp at h1 h2;subst h1;subst h2;exact takes T.e_NoNode T.e_GlassError (by simp)
 rw[if_neg e]at h1
 by_cases e:c = "TooDeep"
 . subst e;simp at h1 h2;subst h1;subst h2;exact takes T.e_TooDeep T.e_GlassError (by simp)
 rw[if_neg e]at h1
 by_cases e:c = "Walk"
 . subst e;simp at h2
 rw[if_neg e]at h1;cases h1
theorem Am{K:PySem.W.Frag}{mg:Str->Option Value}{t:Adr}(T:Txt K mg t):∀ c C,bc t c=some C->(c == "TooDeep")=true->∃ bm,n5 K C bm /\ ((∃ B bmB,(.ref t.C_TooDeep:V)=.ref B /\ n5 K B bmB /\ (Value.ref C ::bm).contains (.ref B)=true) \/ ((.ref t.C_TooDeep:V)=.ty "ValueError" /\ bm.contains (.type "ValueError")=true)):=by
 intro c C h1 h2;unfold bc at h1
 by_cases e:c = "GlassError"
 . subst e;simp at h2
 rw[if_neg e]at h1
 by_cases e:c = "NoNode"
 . subst e;simp at h2
 rw[if_neg e]at h1
 by_cases e:c = "TooDeep"
 . subst e;simp at h1;subst h1;exact⟨_,T.e_TooDeep,.inl ⟨_,_,rfl,T.e_TooDeep,by simp⟩⟩
 rw[if_neg e]at h1
 by_cases e:c = "Walk"
 . subst e;simp at h2
 rw[if_neg e]at h1;cases h1
theorem ia{K:PySem.W.Frag}{mg:Str->Option Value}{t:Adr}(T:Txt K mg t):∀ c C,bc t c=some C->nz c=true->Cls K C /\ lr K C "coming":=by
 intro c C h1 h2;unfold bc at h1;unfold nz at h2
 by_cases e:c = "GlassError"
 . subst e;simp at h2
 rw[if_neg e]at h1
 by_cases e:c = "NoNode"
 . subst e;simp at h2
 rw[if_neg e]at h1
 by_cases e:c = "TooDeep"
 . subst e;simp at h2
 rw[if_neg e]at h1
 by_cases e:c = "Walk"
 . subst e;simp at h1;subst h1;exact⟨T.c_Walk,T.na_Walk_coming⟩
 rw[if_neg e]at h1;cases h1
section
variable{P:Program}{w:World}{K:PySem.W.Frag}{mg:Str->Option Value}{base:Heap}{t:Adr}
theorem Aw(T:Txt K mg t):bF P w K mg base (CXE P w) 1 t.gZ t.d_law_cell oz (spP K (bc t) gZ):=
 cQ T.mS.F Ad fun _ _ _ _ _ _ hr=>⟨_,(ai (aS (dq (qv 0) (fun _=>rfl)) (ao (aA (qi bb (qv 0) (bj mR (qv 1) (mm T.n_len (qv 0)))))) aF)
   (ao (aA ax))),
  (aw (aT (dR ae) (aD (au bE ae (au lY ae (dO fq ae)))) aG)
    (aD ak))⟩
theorem lW(T:Txt K mg t):bF P w K mg base (CXE P w) 2 t.fI t.d_law_mix p8 (spP K (bc t) fI):=
 cQ T.fH.F qd fun _ _ _ _ _ _ hr=>⟨_,(ai (qz 2 qd.nd (bj mR (bj dj (qx (Aw T) T.mS hr aC (aa (qv 0) (aa (qv 1) aq))) (bj vf ax (bj dj (qv 1) ax))) ax))
   (ai (qz 2 qd.nd (bj mR (bj vf (qv 2) ax) ax))
   (ao (aA (bj mR (bj dj (bj vf (bj uj (qv 2) ax) ax) (qv 2)) ax))))),
  (aw (aR (au lY (au dh (aB (af ae (af ae av))) (au vI ak (au dh ae ak))) ak))
    (aw (aR (au lY (au vI ae ak) ak))
    (aD (au lY (au dh (au vI (au ug ae ak) ak) ae) ak))))⟩
theorem rj(T:Txt K mg t):bF P w K mg base (CXE P w) 3 t.fb t.d_law_kinds mL (spP K (bc t) fb):=
 cQ T.e_law_kinds.F xm fun _ _ _ _ _ _ hr=>⟨_,(ao (aA (kS (M:=["_law_script","_law_base"]) (ι:=[0,1]) (x:="_law_k") ⟨rfl,rfl,rfl,rfl,rfl,rfl,rfl,rfl,rfl,rfl,rfl,by decide +kernel⟩ rfl (wm rfl T.n_range (aa (qv 2) aq)) fun _ _ _ _=>(bj uj (bj mR (bj uj (bj uj (qx (lW T) T.fH hr ye (aa (qv 0) (aa (qv 1) aq))) (bj dj ax (bj mR (qv 2) ax))) ax) ax) ax)))),
  (aD (Ai (by decide) ae (au ug (au lY (au ug (au ug (aB (af ae (af ae av))) (au dh ak (au lY ae ak))) ak) ak) ak)))⟩
theorem sX(T:Txt K mg t):bF P w K mg base (CXE P w) 1 t.ef t.d_law_nest nZ (spP K (bc t) ef):=
 cQ T.e_law_nest.F ig fun _ _ _ _ _ _ hr=>⟨_,(ai (qz 2 ig.nd (aW aq))
   (ai (lA ez rfl (fR (qv 0)) (iI (i:=3) ig.nd rfl (by first|exact Or.inl rfl|exact Or.inr rfl)) (ao (qz 2 ig.nd (bj fk (qv 2) (qi bb (aW (aa (aW (aa ax aq)) (aa (aW (aa ax (aa ax (aa ax (aa ax (aa ax aq)))))) aq))) (qv 3))))))
   (ai (qz 2 ig.nd (bj fk (qv 2) (qv 1)))
   (ai (lA ez rfl (IM rfl T.n_reversed (aa (qv 0) aq)) (iI (i:=3) ig.nd rfl (by first|exact Or.inl rfl|exact Or.inr rfl)) (ao (qap eT (qv 2) (qi bb (aW (aa ax (aa ax aq))) (qv 3)))))
   (ao (aA (qv 2))))))),
  (aw (aR (aX av))
    (aw (mw ae (aR (au gY ae (au bE (aX (af (aX (af ak av)) (af (aX (af ak (af ak (af ak (af ak (af ak av)))))) av))) ae))))
    (aw (aR (au gY ae ae))
    (aw (FG ae (iU (au bE (aX (af ak (af ak av))) ae)))
    cO))))⟩
theorem sE(T:Txt K mg t):bF P w K mg base (CXE P w) 1 t.cG t.d_Walk___init__ iZ (spI K (bc t) cG):=
 y9 T.F_Walk___init__ sx fun _ _ _ _ _ _ hr=>⟨_,(ao (IQ (qv 0) (aW (aa aO (aa aO (aa aO aq)))))),
  (F5 jv (Lm (aX (af aN (af aN (af aN av))))) (ia T))⟩
theorem yK(T:Txt K mg t):bF P w K mg base (CXE P w) 1 t.eE t.d_word_rest mE (spP K (bc t) eE):=
 cQ T.e_word_rest.F yN fun _ _ _ _ _ _ hr=>⟨_,(ao (aA (zN (aK rfl T.m_WORDS T.r_WORDS) (qv 0)))),
  (aD (Au T.q_WORDS ae))⟩
theorem jW(T:Txt K mg t):bF P w K mg base (CXE P w) 1 t.de t.d_is_figure lZ (spP K (bc t) de):=
 cQ T.eJ.F yd fun _ _ _ _ _ _ hr=>⟨_,(ao (aA (u2 iR iR (aK rfl T.m_NOUGHT T.r_NOUGHT) (qv 0) (aK rfl T.m_NINE T.r_NINE)))),
  (aD (fA iO iO ak ae ak))⟩
theorem nI(T:Txt K mg t):bF P w K mg base (CXE P w) 2 t.dA t.d_behind_lead ky (spP K (bc t) dA):=
 cQ T.fL.F uQ fun _ _ _ _ _ _ hr=>⟨_,(ai (aS (bN bQ (qv 0) (aK rfl T.m_NOUGHT T.r_NOUGHT)) (ao (aA (aW (aa aO (aa aO aq))))) aF)
   (ai (aS (dq (qx (jW T) T.eJ hr aC (aa (qv 0) aq)) (fun _=>rfl)) (ao (aA (aW (aa aO (aa aO (aa aO aq)))))) aF)
   (ao (aA b9)))),
  (aw (aT (az (au bS ae ak)) (aD (aX (af aN (af aN av)))) aG)
    (aw (aT (dR (aB (af ae av))) (aD (aX (af aN (af aN (af aN av))))) aG)
    (aD b7)))⟩
theorem nj(T:Txt K mg t):bF P w K mg base (CXE P w) 3 t.bB t.d_behind_value jt (spP K (bc t) bB):=
 cQ T.eU.F nh fun _ _ _ _ _ _ hr=>⟨_,(ai (aS (bN bQ (qv 0) (aK rfl T.m_ROW_BEGIN T.r_ROW_BEGIN)) (ao (aA (aW (aa aO (aa aO aq))))) aF)
   (ai (aS (bN bQ (qv 0) (aK rfl T.m_FIELDS_BEGIN T.r_FIELDS_BEGIN)) (ao (aA (aW (aa aO (aa aO aq))))) aF)
   (ai (aS (bN bQ (qv 0) (aK rfl T.m_QUOTE T.r_QUOTE)) (ao (aA (aW (aa aO aq)))) aF)
   (ai (aS (bN bQ (qv 0) (aK rfl T.m_MINUS T.r_MINUS)) (ao (aA (aW (aa aO aq)))) aF)
   (ai (qz 1 nh.nd (qx (yK T) T.e_word_rest hr aC (aa (qv 0) aq)))
   (ai (aS (bN qI (qv 1) b9) (ao (aA (kS (M:=[]) (ι:=[]) (x:="sign") ⟨rfl,rfl,rfl,rfl,rfl,rfl,rfl,rfl,rfl,rfl,rfl,by decide +kernel⟩ rfl (Ew (qv 1)) fun _ _ _ _=>(cM (aa (qv 0) (aa (qv 0) aq)))))) aF)
   (ao (aA (qx (nI T) T.fL hr aC (aa (qv 0) aq)))))))))),
  (aw (aT (az (au bS ae ak)) (aD (aX (af aN (af aN av)))) aG)
    (aw (aT (az (au bS ae ak)) (aD (aX (af aN (af aN av)))) aG)
    (aw (aT (az (au bS ae ak)) (aD (aX (af aN av))) aG)
    (aw (aT (az (au bS ae ak)) (aD (aX (af aN av))) aG)
    (aw (aR (aB (af ae av)))
    (aw (aT (az (au qU ae b7)) (aD (zh (by decide) ae (cH (af ae (af ae av))))) aG)
    (aD (aB (af ae av)))))))))⟩
theorem pw(T:Txt K mg t):bF P w K mg base (CXE P w) 3 t.aV t.d_behind_in_number gC (spP K (bc t) aV):=
 cQ T.e_behind_in_number.F pz fun _ _ _ _ _ _ hr=>⟨_,(ai (aS (bN bQ (qv 0) aO) (ao (aA (qx (nI T) T.fL hr aC (aa (qv 1) aq)))) aF)
   (ai (aS (bN bQ (qv 0) aO) (ao (aA (dn (by exact(dq (qx (jW T) T.eJ hr aC (aa (qv 1) aq)) (fun _=>rfl))) (aW (aa aO aq)) b9))) aF)
   (ai (aS (bN bQ (qv 0) aO) (ao (aA (dn (by exact(bN bQ (qv 1) (aK rfl T.m_POINT T.r_POINT))) (aW (aa (cM (aa (aK rfl T.m_NOUGHT T.r_NOUGHT) (aa (aK rfl T.m_NINE T.r_NINE) aq))) (aa aO aq))) b9))) aF)
   (ai (aS (bN bQ (qv 0) aO) (ao (aA (dn (by exact(eH iJ (qv 1) (cM (aa (aK rfl T.m_SMALL_E T.r_SMALL_E) (aa (aK rfl T.m_BIG_E T.r_BIG_E) aq))) rfl)) (aW (aa aO (aa (cM (aa (aK rfl T.m_NOUGHT T.r_NOUGHT) (aa (aK rfl T.m_NINE T.r_NINE) aq))) (aa aO aq)))) b9))) aF)
   (ao (aA (dn (by exact(eH iJ (qv 1) (cM (aa (aK rfl T.m_PLUS T.r_PLUS) (aa (aK rfl T.m_MINUS T.r_MINUS) aq))) rfl)) (aW aq) b9))))))),
  (aw (aT (az (au bS ae aN)) (aD (aB (af ae av))) aG)
    (aw (aT (az (au bS ae aN)) (aD (iP (dR (aB (af ae av))) (aX (af aN av)) b7)) aG)
    (aw (aT (az (au bS ae aN)) (aD (iP (az (au bS ae ak)) (aX (af (cH (af ak (af ak av))) (af aN av))) b7)) aG)
    (aw (aT (az (au bS ae aN)) (aD (iP (az (au (kO hr.units) ae (cH (af ak (af ak av))))) (aX (af aN (af (cH (af ak (af ak av))) (af aN av)))) b7)) aG)
    (aD (iP (az (au (kO hr.units) ae (cH (af ak (af ak av))))) (aX av) b7))))))⟩
theorem rJ(T:Txt K mg t):bF P w K mg base (CXE P w) 2 t.fc t.d_hex_worth mX (spP K (bc t) fc):=
 cQ T.ie.F yI fun _ _ _ _ _ _ hr=>⟨_,(ai (aS (dq (qx (jW T) T.eJ hr aC (aa (qv 0) aq)) (fun _=>rfl)) (ao (aA (bj mi (qv 0) (aK rfl T.m_NOUGHT T.r_NOUGHT)))) aF)
   (ai (aS (iB iR iR ax (qv 0) ax) (ao (aA (bj mi (qv 0) ax))) aF)
   (ai (aS (iB iR iR ax (qv 0) ax) (ao (aA (bj mi (qv 0) ax))) aF)
   (ao (aA b9))))),
  (aw (aT (dR (aB (af ae av))) (aD (au lP ae ak)) aG)
    (aw (aT (az (fA iO iO ak ae ak)) (aD (au lP ae ak)) aG)
    (aw (aT (az (fA iO iO ak ae ak)) (aD (au lP ae ak)) aG)
    (aD b7))))⟩
theorem rO(T:Txt K mg t):bF P w K mg base (CXE P w) 1 t.dg t.d_behind_code_d i8 (spP K (bc t) dg):=
 cQ T.gP.F lO fun _ _ _ _ _ _ hr=>⟨_,(ai (aS (bN gK (qv 0) ax) (ao (aA (aW (aa aO (aa aO aq))))) aF)
   (ai (aS (bN gK (qv 0) ax) (ai (qz 1 lO.nd (aW (aa (cM (aa (aK rfl T.m_BACKSLASH T.r_BACKSLASH) (aa (aK rfl T.m_BACKSLASH T.r_BACKSLASH) aq))) (aa (cM (aa (aK rfl T.m_SMALL_U T.r_SMALL_U) (aa (aK rfl T.m_SMALL_U T.r_SMALL_U) aq))) (aa aO (aa aO (aa aO (aa aO aq))))))))
   (ao (aA (bj fk (aW (aa aO (aa aO aq))) (qv 1))))) aF)
   (ao (aA b9)))),
  (aw (aT (az (au gL ae ak)) (aD (aX (af aN (af aN av)))) aG)
    (aw (aT (az (au gL ae ak)) (aw (aR (aX (af (cH (af ak (af ak av))) (af (cH (af ak (af ak av))) (af aN (af aN (af aN (af aN av))))))))
    (aD (au gY (aX (af aN (af aN av))) ae))) aG)
    (aD b7)))⟩
theorem qj(T:Txt K mg t):bF P w K mg base (CXE P w) 1 t.cA t.d_second_of_three gV (spP K (bc t) cA):=
 cQ T.e_second_of_three.F qa fun _ _ _ _ _ _ hr=>⟨_,(ai (aS (bN bQ (qv 0) ax) (ao (aA (cM (aa ax (aa ax aq))))) aF)
   (ai (aS (bN bQ (qv 0) ax) (ao (aA (cM (aa ax (aa ax aq))))) aF)
   (ao (aA (aK rfl T.m_TAIL T.r_TAIL))))),
  (aw (aT (az (au bS ae ak)) (aD (cH (af ak (af ak av)))) aG)
    (aw (aT (az (au bS ae ak)) (aD (cH (af ak (af ak av)))) aG)
    (aD (kL T.q_TAIL))))⟩
theorem qG(T:Txt K mg t):bF P w K mg base (CXE P w) 1 t.cP t.d_second_of_four il (spP K (bc t) cP):=
 cQ T.e_second_of_four.F qV fun _ _ _ _ _ _ hr=>⟨_,(ai (aS (bN bQ (qv 0) ax) (ao (aA (cM (aa ax (aa ax aq))))) aF)
   (ai (aS (bN bQ (qv 0) ax) (ao (aA (cM (aa ax (aa ax aq))))) aF)
   (ao (aA (aK rfl T.m_TAIL T.r_TAIL))))),
  (aw (aT (az (au bS ae ak)) (aD (cH (af ak (af ak av)))) aG)
    (aw (aT (az (au bS ae ak)) (aD (cH (af ak (af ak av)))) aG)
    (aD (kL T.q_TAIL))))⟩
theorem zU(T:Txt K mg t):bF P w K mg base (CXE P w) 2 t.fS t.d_tails uO (spP K (bc t) fS):=
 cQ T.e_tails.F Fy fun _ _ _ _ _ _ hr=>⟨_,(ai (aS (iB iR gK ax (qv 0) ax) (ao (aA (aW aq))) aF)
   (ai (aS (iB iR gK ax (qv 0) ax) (ao (aA (aW (aa (aK rfl T.m_TAIL T.r_TAIL) aq)))) aF)
   (ai (aS (iB iR gK ax (qv 0) ax) (ao (aA (aW (aa (qx (qj T) T.e_second_of_three hr aC (aa (qv 0) aq)) (aa (aK rfl T.m_TAIL T.r_TAIL) aq))))) aF)
   (ai (aS (iB iR gK ax (qv 0) ax) (ao (aA (aW (aa (qx (qG T) T.e_second_of_four hr aC (aa (qv 0) aq)) (aa (aK rfl T.m_TAIL T.r_TAIL) (aa (aK rfl T.m_TAIL T.r_TAIL) aq)))))) aF)
   (ao (aA b9)))))),
  (aw (aT (az (fA iO gL ak ae ak)) (aD (aX av)) aG)
    (aw (aT (az (fA iO gL ak ae ak)) (aD (aX (af (kL T.q_TAIL) av))) aG)
    (aw (aT (az (fA iO gL ak ae ak)) (aD (aX (af (aB (af ae av)) (af (kL T.q_TAIL) av)))) aG)
    (aw (aT (az (fA iO gL ak ae ak)) (aD (aX (af (aB (af ae av)) (af (kL T.q_TAIL) (af (kL T.q_TAIL) av))))) aG)
    (aD b7)))))⟩
theorem pk(T:Txt K mg t):bF P w K mg base (CXE P w) 3 t.bJ t.d_behind_character gE (spP K (bc t) bJ):=
 cQ T.fh.F jN fun _ _ _ _ _ _ hr=>⟨_,(ai (aS (bN bQ (qv 0) (aK rfl T.m_QUOTE T.r_QUOTE)) (ao (aA (aW aq))) aF)
   (ai (aS (bN bQ (qv 0) (aK rfl T.m_BACKSLASH T.r_BACKSLASH)) (ao (aA (aW (aa aO (aa aO aq))))) aF)
   (ai (qz 1 jN.nd (qx (zU T) T.e_tails hr aC (aa (qv 0) aq)))
   (ai (aS (qH (BM (bN gK (qv 0) (aK rfl T.m_BLANK T.r_BLANK)) (xX (bN sQ (qv 1) b9)))) (ao (aA b9)) aF)
   (ao (aA (bj fk (qv 1) (aW (aa aO aq))))))))),
  (aw (aT (az (au bS ae ak)) (aD (aX av)) aG)
    (aw (aT (az (au bS ae ak)) (aD (aX (af aN (af aN av)))) aG)
    (aw (aR (aB (af ae av)))
    (aw (aT (Ck (az (au gL ae ak)) (az (au sI ae b7))) (aD b7) aG)
    (aD (au gY ae (aX (af aN av))))))))⟩
theorem tU(T:Txt K mg t):bF P w K mg base (CXE P w) 1 t.bA t.d_short_escape jx (spP K (bc t) bA):=
 cQ T.iE.F tW fun _ _ _ _ _ _ hr=>⟨_,(ao (aA (zN (aK rfl T.m_SHORT_ESCAPES T.r_SHORT_ESCAPES) (qv 0)))),
  (aD (Au T.q_SHORT_ESCAPES ae))⟩
theorem ph(T:Txt K mg t):bF P w K mg base (CXE P w) 2 t.cg t.d_behind_backslash gJ (spP K (bc t) cg):=
 cQ T.fo.F pj fun _ _ _ _ _ _ hr=>⟨_,(ai (aS (bN bQ (qv 0) (aK rfl T.m_SMALL_U T.r_SMALL_U)) (ao (aA (aW (aa aO aq)))) aF)
   (ao (aA (dn (by exact(bN sQ (qx (tU T) T.iE hr aC (aa (qv 0) aq)) b9)) b9 (aW aq))))),
  (aw (aT (az (au bS ae ak)) (aD (aX (af aN av))) aG)
    (aD (iP (az (au sI (aB (af ae av)) b7)) b7 (aX av))))⟩
theorem rl(T:Txt K mg t):bF P w K mg base (CXE P w) 4 t.bx t.d_behind_in_text iD (spP K (bc t) bx):=
 cQ T.e_behind_in_text.F kF fun _ _ _ _ _ _ hr=>⟨_,(ai (aS (bN bQ (qv 0) aO) (ao (aA (qx (pk T) T.fh hr aC (aa (qv 1) aq)))) aF)
   (ai (aS (bN bQ (qv 0) aO) (ao (aA (qx (ph T) T.fo hr aC (aa (qv 1) aq)))) aF)
   (ai (qz 2 kF.nd (qx (rJ T) T.ie hr aC (aa (qv 1) aq)))
   (ai (aS (bN sQ (qv 2) b9) (ao (aA b9)) aF)
   (ai (aS (bN bQ (qv 0) aO) (ao (aA (dn (by exact(bN bQ (qv 2) ax)) (aW (aa aO aq)) (aW (aa aO (aa aO (aa aO aq))))))) aF)
   (ao (aA (qx (rO T) T.gP hr aC (aa (qv 2) aq))))))))),
  (aw (aT (az (au bS ae aN)) (aD (aB (af ae av))) aG)
    (aw (aT (az (au bS ae aN)) (aD (aB (af ae av))) aG)
    (aw (aR (aB (af ae av)))
    (aw (aT (az (au sI ae b7)) (aD b7) aG)
    (aw (aT (az (au bS ae aN)) (aD (iP (az (au bS ae ak)) (aX (af aN av)) (aX (af aN (af aN (af aN av)))))) aG)
    (aD (aB (af ae av))))))))⟩
theorem vS(T:Txt K mg t):bF P w K mg base (CXE P w) 3 t.cY t.d_behind_hex lh (spP K (bc t) cY):=
 cQ T.e_behind_hex.F pC fun _ _ _ _ _ _ hr=>⟨_,(ai (qz 2 pC.nd (qx (rJ T) T.ie hr aC (aa (qv 1) aq)))
   (ai (aS (bN sQ (qv 2) b9) (ao (aA b9)) aF)
   (ai (aS (bN bQ (qv 0) aO) (ao (aA (dn (by exact(bN bQ (qv 2) ax)) (aW aq) b9))) aF)
   (ai (aS (bN bQ (qv 0) aO) (ao (aA (dn (by exact(bN L9 (qv 2) ax)) (aW aq) b9))) aF)
   (ao (aA (aW aq))))))),
  (aw (aR (aB (af ae av)))
    (aw (aT (az (au sI ae b7)) (aD b7) aG)
    (aw (aT (az (au bS ae aN)) (aD (iP (az (au bS ae ak)) (aX av) b7)) aG)
    (aw (aT (az (au bS ae aN)) (aD (iP (az (au LF ae ak)) (aX av) b7)) aG)
    (aD (aX av))))))⟩
theorem pd(T:Txt K mg t):bF P w K mg base (CXE P w) 4 t.bY t.d_behind_row_begin gG (spP K (bc t) bY):=
 cQ T.fg.F jS fun _ _ _ _ _ _ hr=>⟨_,(ai (aS (bN bQ (qv 0) (aK rfl T.m_ROW_END T.r_ROW_END)) (ao (aA (aW aq))) aF)
   (ai (qz 1 jS.nd (qx (nj T) T.eU hr aC (aa (qv 0) aq)))
   (ao (aA (dn (by exact(bN sQ (qv 1) b9)) b9 (bj fk (qv 1) (aW (aa aO (aa aO aq))))))))),
  (aw (aT (az (au bS ae ak)) (aD (aX av)) aG)
    (aw (aR (aB (af ae av)))
    (aD (iP (az (au sI ae b7)) b7 (au gY ae (aX (af aN (af aN av))))))))⟩
theorem oH(T:Txt K mg t):bF P w K mg base (CXE P w) 1 t.dU t.d_member_rest kj (spP K (bc t) dU):=
 cQ T.cW.F vq fun _ _ _ _ _ _ hr=>⟨_,(ao (aA (aW (aa aO (aa (cM (aa (aK rfl T.m_COLON T.r_COLON) (aa (aK rfl T.m_COLON T.r_COLON) aq))) (aa aO (aa aO (aa aO (aa aO aq))))))))),
  (aD (aX (af aN (af (cH (af ak (af ak av))) (af aN (af aN (af aN (af aN av))))))))⟩
theorem mZ(T:Txt K mg t):bF P w K mg base (CXE P w) 2 t.bP t.d_behind_fields_begin fm (spP K (bc t) bP):=
 cQ T.eA.F m6 fun _ _ _ _ _ _ hr=>⟨_,(ai (aS (bN bQ (qv 0) (aK rfl T.m_FIELDS_END T.r_FIELDS_END)) (ao (aA (aW aq))) aF)
   (ao (aA (dn (by exact(bN bQ (qv 0) (aK rfl T.m_QUOTE T.r_QUOTE))) (bj fk (aW (aa aO aq)) (wx ((oH T).mono (by decide)) hr rfl T.cW.m T.cW.F.kp T.cW.b aC)) b9)))),
  (aw (aT (az (au bS ae ak)) (aD (aX av)) aG)
    (aD (iP (az (au bS ae ak)) (au gY (aX (af aN av)) (aB av)) b7)))⟩
theorem nA(T:Txt K mg t):bF P w K mg base (CXE P w) 5 t.aZ t.d_behind_in_brackets fO (spP K (bc t) aZ):=
 cQ T.e_behind_in_brackets.F nB fun _ _ _ _ _ _ hr=>⟨_,(ai (aS (bN bQ (qv 0) aO) (ao (aA (qx (pd T) T.fg hr aC (aa (qv 1) aq)))) aF)
   (ai (aS (bN bQ (qv 0) aO) (ao (aA (qx (mZ T) T.eA hr aC (aa (qv 1) aq)))) aF)
   (ai (aS (bN bQ (qv 0) aO) (ai (aS (bN bQ (qv 1) (aK rfl T.m_COMMA T.r_COMMA)) (ao (aA (aW (aa aO (aa aO (aa aO (aa aO aq))))))) aF)
   (ao (aA (dn (by exact(bN bQ (qv 1) (aK rfl T.m_ROW_END T.r_ROW_END))) (aW aq) b9)))) aF)
   (ai (aS (bN bQ (qv 1) (aK rfl T.m_COMMA T.r_COMMA)) (ao (aA (bj fk (aW (aa aO (aa aO aq))) (wx ((oH T).mono (by decide)) hr rfl T.cW.m T.cW.F.kp T.cW.b aC)))) aF)
   (ao (aA (dn (by exact(bN bQ (qv 1) (aK rfl T.m_FIELDS_END T.r_FIELDS_END))) (aW aq) b9))))))),
  (aw (aT (az (au bS ae aN)) (aD (aB (af ae av))) aG)
    (aw (aT (az (au bS ae aN)) (aD (aB (af ae av))) aG)
    (aw (aT (az (au bS ae aN)) (aw (aT (az (au bS ae ak)) (aD (aX (af aN (af aN (af aN (af aN av)))))) aG)
    (aD (iP (az (au bS ae ak)) (aX av) b7))) aG)
    (aw (aT (az (au bS ae ak)) (aD (au gY (aX (af aN (af aN av))) (aB av))) aG)
    (aD (iP (az (au bS ae ak)) (aX av) b7))))))⟩
theorem kM(T:Txt K mg t):bF P w K mg base (CXE P w) 1 t.eN t.d_is_white nC (spP K (bc t) eN):=
 cQ T.cf.F zb fun _ _ _ _ _ _ hr=>⟨_,(ao (aA (j1 iJ (qv 0) (aK rfl T.m_WHITE T.r_WHITE) rfl))),
  (aD (au (kO hr.units) ae (kL T.q_WHITE)))⟩
theorem Df(T:Txt K mg t):bF P w K mg base (CXE P w) 6 t.jm t.d_behind su (spP K (bc t) jm):=
 cQ T.qS.F CQ fun _ _ _ _ _ _ hr=>⟨_,(ai (aS (dq (iH rK rfl T.n_isinstance L2.E.boot_isinstance (aa (qv 0) (aa (um (v:=.ty _) rfl T.n_tuple L2.E.boot_tuple rfl) aq))) (fun _=>rfl)) (ao (aA (dn (by exact(iB iR iR (qi b3 (qv 0) ax) (qv 1) (qi b3 (qv 0) ax))) (aW aq) b9))) aF)
   (ai (aS (eH iJ (qv 0) (cM (aa aO (aa aO (aa aO (aa aO (aa aO aq)))))) rfl) (ao (aA (qx (pw T) T.e_behind_in_number hr aC (aa (qv 0) (aa (qv 1) aq))))) aF)
   (ai (aS (eH iJ (qv 0) (cM (aa aO (aa aO (aa aO (aa aO aq))))) rfl) (ao (aA (qx (rl T) T.e_behind_in_text hr aC (aa (qv 0) (aa (qv 1) aq))))) aF)
   (ai (aS (eH iJ (qv 0) (cM (aa aO (aa aO (aa aO aq)))) rfl) (ao (aA (qx (vS T) T.e_behind_hex hr aC (aa (qv 0) (aa (qv 1) aq))))) aF)
   (ai (aS (eH iJ (qv 0) (aK rfl T.m_UNENDED T.r_UNENDED) rfl) (ao (aA (qx (nA T) T.e_behind_in_brackets hr aC (aa (qv 0) (aa (qv 1) aq))))) aF)
   (ai (aS (bN bQ (qv 0) aO) (ao (aA (dn (by exact(dq (qx (kM T) T.cf hr aC (aa (qv 1) aq)) (fun _=>rfl))) (aW (aa aO aq)) b9))) aF)
   (ai (aS (bN bQ (qv 0) aO) (ao (aA (dn (by exact(bN bQ (qv 1) (aK rfl T.m_QUOTE T.r_QUOTE))) (aW (aa aO aq)) b9))) aF)
   (ao (aA (qx (nj T) T.eU hr aC (aa (qv 1) aq))))))))))),
  (aw (aT (dR (yp ae)) (aD (iP (az (fA iO iO (au b4 ae ak) ae (au b4 ae ak))) (aX av) b7)) aG)
    (aw (aT (az (au (kO hr.units) ae (cH (af aN (af aN (af aN (af aN (af aN av)))))))) (aD (aB (af ae (af ae av)))) aG)
    (aw (aT (az (au (kO hr.units) ae (cH (af aN (af aN (af aN (af aN av))))))) (aD (aB (af ae (af ae av)))) aG)
    (aw (aT (az (au (kO hr.units) ae (cH (af aN (af aN (af aN av)))))) (aD (aB (af ae (af ae av)))) aG)
    (aw (aT (az (au (kO hr.units) ae (xt fun S=>by unfold Rep;exact⟨_,_,rfl,T.q_UNENDED S,(.cons (by unfold Rep;rfl) (.cons (by unfold Rep;rfl) (.cons (by unfold Rep;rfl) (.cons (by unfold Rep;rfl) .nil))))⟩))) (aD (aB (af ae (af ae av)))) aG)
    (aw (aT (az (au bS ae aN)) (aD (iP (dR (aB (af ae av))) (aX (af aN av)) b7)) aG)
    (aw (aT (az (au bS ae aN)) (aD (iP (az (au bS ae ak)) (aX (af aN av)) b7)) aG)
    (aD (aB (af ae av))))))))))⟩
theorem rS(T:Txt K mg t):bF P w K mg base (CXE P w) 1 t.cj t.d_Walk_brackets i7 (spI K (bc t) cj):=
 y9 T.F_Walk_brackets sj fun _ _ _ _ _ _ hr=>⟨_,(ao (aA (mm T.n_len (wD (M:=[]) (ι:=[]) (x:="item") ⟨rfl,rfl,rfl,rfl,rfl,rfl,rfl,rfl,rfl,rfl,rfl,by decide +kernel⟩ rfl (fR (u6 (qv 0))) (fun _ _ _ _=>(eH iJ (qv 0) (aK rfl T.m_UNENDED T.r_UNENDED) rfl)) fun _ _ _ _=>(qv 0))))),
  (aD (dO fq (uK (by decide) (BR (zA jv (ia T))) (az (au (kO hr.units) ae (xt fun S=>by unfold Rep;exact⟨_,_,rfl,T.q_UNENDED S,(.cons (by unfold Rep;rfl) (.cons (by unfold Rep;rfl) (.cons (by unfold Rep;rfl) (.cons (by unfold Rep;rfl) .nil))))⟩))) ae)))⟩
theorem tS(T:Txt K mg t):bF P w K mg base (CXE P w) 7 t.dG t.d_Walk_goes_on jH (spI K (bc t) dG):=
 y9 T.F_Walk_goes_on jG fun _ _ _ _ _ _ hr=>⟨_,(ai (jq ez (dq (u6 (qv 0)) (fun _=>rfl)) (ai (qz 2 jG.nd (E6 PySem.F.plainAttrs_list PySem.F.slot_list_pop PySem.F.type_list_pop Ea (u6 (qv 0))))
   (ai (qz 3 jG.nd (qx (Df T) T.qS hr aC (aa (qv 2) (aa (qv 1) aq))))
   (ai (aS (bN qI (qv 3) b9) (ai (qex AD (u6 (qv 0)) (Kf (qv 3) (vE qq ax)))
   (ao (aA (j1 iR (we (qv 0) T.c_Walk T.h_Walk_brackets ((rS T).mono (by decide)) hr T.b_Walk_brackets aC) (aK rfl T.m_MOST_BRACKETS T.r_MOST_BRACKETS) (n9 _))))) aF)
   (ao (aS (eH sN (qv 2) (aK rfl T.m_LOOSE T.r_LOOSE) rfl) (ao (aA Hx)) aF))))))
   (ao (aA Hx))),
  (aw (jr (Dc (zA jv (ia T))) (aw (yP (B6 (zA jv (ia T))))
    (aw (aR (aB (af ae (af ae av))))
    (aw (aT (az (au qU ae b7)) (aw (AM (zA jv (ia T)) (Jq ae (uU qh ak)))
    (aD (au iO (Aq rfl rfl (HG jv) uh) ak))) aG)
    (aT (az (au (uG hr.units) ae (xt fun S=>by unfold Rep;exact⟨_,_,rfl,T.q_LOOSE S,(.cons (by unfold Rep;rfl) (.cons (by unfold Rep;rfl) (.cons (by unfold Rep;rfl) (.cons (by unfold Rep;rfl) (.cons (by unfold Rep;rfl) .nil)))))⟩))) (aD HV) aG)))))
    (aD HV))⟩
theorem xZ(T:Txt K mg t):bF P w K mg base (CXE P w) 8 t.eZ t.d_Walk_take mP (spI K (bc t) eZ):=
 y9 T.F_Walk_take lX fun _ _ _ _ _ _ hr=>⟨_,(ai (lA ez rfl (GS rfl T.n_enumerate (aa (qv 1) aq)) (KW rfl (zT (iI (i:=2) lX.nd rfl (by first|exact Or.inl rfl|exact Or.inr rfl)) (zT (iI (i:=3) lX.nd rfl (by first|exact Or.inl rfl|exact Or.inr rfl)) Gs))) (ao (aS (qg (dq (Aa (qv 0) T.c_Walk T.h_Walk_goes_on ((tS T).mono (by decide)) hr T.b_Walk_goes_on aC (aa (qv 3) aq)) (fun _=>rfl))) (ao (aA (qv 2))) aF)))
   (ao (aA (mm T.n_len (qv 1))))),
  (aw (GY ae (FZ (yU rfl rfl (HA jv) (y0 (Ij (W:=fun _ _ _ _=>False) ae) uh)) cO aG))
    (aD (dO fq ae)))⟩
theorem r6(T:Txt K mg t):bF P w K mg base (CXE P w) 1 t.cF t.d_Walk_is_whole i4 (spI K (bc t) cF):=
 y9 T.F_Walk_is_whole sF fun _ _ _ _ _ _ hr=>⟨_,(ao (aA (iH rM rfl T.n_all L2.E.boot_all (aa (kS (M:=[]) (ι:=[]) (x:="item") ⟨rfl,rfl,rfl,rfl,rfl,rfl,rfl,rfl,rfl,rfl,rfl,by decide +kernel⟩ rfl (fR (u6 (qv 0))) fun _ _ _ _=>(j1 iJ (qv 0) (aK rfl T.m_LOOSE T.r_LOOSE) rfl)) aq)))),
  (aD (dO (Bn hr.hd) (oi (by decide) (BR (zA jv (ia T))) (au (kO hr.units) ae (xt fun S=>by unfold Rep;exact⟨_,_,rfl,T.q_LOOSE S,(.cons (by unfold Rep;rfl) (.cons (by unfold Rep;rfl) (.cons (by unfold Rep;rfl) (.cons (by unfold Rep;rfl) (.cons (by unfold Rep;rfl) .nil)))))⟩)))))⟩
theorem zB(T:Txt K mg t):bF P w K mg base (CXE P w) 9 t.kH t.d_fault vN (spP K (bc t) kH):=
 cQ T.o5.F vp fun _ _ _ _ _ _ hr=>⟨_,(ai (qz 1 vp.nd (EZ T.k_Walk (sE T) (hr.mono (by decide)) rfl T.m_Walk T.b_Walk___init__))
   (ai (qz 2 vp.nd (Aa (qv 1) T.c_Walk T.h_Walk_take ((xZ T).mono (by decide)) hr T.b_Walk_take aC (aa (qv 0) aq)))
   (ai (aS (qH (sO (bN bQ (qv 2) (mm T.n_len (qv 0))) (rL (dq (we (qv 1) T.c_Walk T.h_Walk_is_whole ((r6 T).mono (by decide)) hr T.b_Walk_is_whole aC) (fun _=>rfl))))) (ao (aA b9)) aF)
   (ao (aA (qv 2)))))),
  (aw (BJ (Ha rfl))
    (aw (yP (yU rfl rfl (HA jv) (y0 (Ij (W:=fun _ _ _ _=>False) ae) uh)))
    (aw (aT (rX (az (au bS ae (dO fq ae))) (dR (Aq rfl rfl (HG jv) uh))) (aD b7) aG)
    cO)))⟩
theorem gQ(T:Txt K mg t):bF P w K mg base (CXE P w) 10 t.cb t.d_refuse_fault jJ (spP K (bc t) cb):=
 cQ T.e_refuse_fault.F ni fun _ _ _ _ _ _ hr=>⟨_,(ai (qz 1 ni.nd (qx (zB T) T.o5 hr aC (aa (qv 0) aq)))
   (ao (aS (bN qI (qv 1) b9) (ao dz) aF))),
  (aw (aR (aB (af ae av)))
    (aT (az (au qU ae b7)) dC aG))⟩
theorem vM(T:Txt K mg t):bF P w K mg base (CXE P w) 1 t.cX t.d_with_member kg (spP K (bc t) cX):=
 cQ T.e_with_member.F oQ fun _ _ _ _ _ _ hr=>⟨_,(ai (qz 2 oQ.nd (qi bb (qv 0) (qv 1)))
   (ai (aS (bN xb (qi b3 (qv 2) ax) aO) (ao (aA (qv 2))) aF)
   (ao (aA (cM (aa (qi b3 (qv 2) ax) (aa (qi b3 (qv 2) ax) (aa (qi b3 (qv 2) ax) (aa (qi b3 (qi bb (qv 0) (bj dj (qv 1) ax)) ax) aq))))))))),
  (aw (aR (au bE ae ae))
    (aw (aT (az (au wY (au b4 ae ak) aN)) cO aG)
    (aD (cH (af (au b4 ae ak) (af (au b4 ae ak) (af (au b4 ae ak) (af (au b4 (au bE ae (au dh ae ak)) ak) av))))))))⟩
theorem yZ(T:Txt K mg t):bF P w K mg base (CXE P w) 1 t.hZ t.d_text_end oP (spP K (bc t) hZ):=
 cQ T.e_text_end.F oj fun _ _ _ _ _ _ hr=>⟨_,(ai (qz 2 oj.nd (bj dj (qv 1) ax))
   (ai (jq ez (bN xb (qi bb (qv 0) (qv 2)) (aK rfl T.m_QUOTE T.r_QUOTE)) (ao (oJ (i:=2) oj.nd rfl (Or.inl rfl) (dn (by exact(bN bQ (qi bb (qv 0) (qv 2)) (aK rfl T.m_BACKSLASH T.r_BACKSLASH))) ax ax) oa)))
   (ao (aA (bj dj (qv 2) ax))))),
  (aw (aR (au dh ae ak))
    (aw (jr (az (au wY (au bE ae ae) ak)) (gu (iP (az (au bS (au bE ae ae) ak)) ak ak)))
    (aD (au dh ae ak))))⟩
theorem xO(T:Txt K mg t):bF P w K mg base (CXE P w) 2 t.fV t.d_plain_end m4 (spP K (bc t) fV):=
 cQ T.e_plain_end.F m7 fun _ _ _ _ _ _ hr=>⟨_,(ai (qz 2 m7.nd (qv 1))
   (ai (jq ez (qH (sO (bN gK (qv 2) (mm T.n_len (qv 0))) (sO (qg (dq (qx (kM T) T.cf hr aC (aa (qi bb (qv 0) (qv 2)) aq)) (fun _=>rfl))) (rL (eH sN (qi bb (qv 0) (qv 2)) (cM (aa (aK rfl T.m_COMMA T.r_COMMA) (aa (aK rfl T.m_ROW_END T.r_ROW_END) (aa (aK rfl T.m_FIELDS_END T.r_FIELDS_END) aq)))) rfl))))) (ao (oJ (i:=2) m7.nd rfl (Or.inl rfl) ax oa)))
   (ao (aA (qv 2))))),
  (aw (aR ae)
    (aw (jr (rX (az (au gL ae (dO fq ae))) (rX (rR (dR (aB (af (au bE ae ae) av)))) (az (au (uG hr.units) (au bE ae ae) (cH (af ak (af ak (af ak av)))))))) (gu ak))
    cO))⟩
theorem AF(T:Txt K mg t):bF P w K mg base (CXE P w) 2 t.fG t.d_is_name qo (spP K (bc t) fG):=
 cQ T.e_is_name.F uP fun _ _ _ _ _ _ hr=>⟨_,(ai (jq ez (qH (sO (bN gK (qv 1) (mm T.n_len (qv 0))) (rL (dq (qx (kM T) T.cf hr aC (aa (qi bb (qv 0) (qv 1)) aq)) (fun _=>rfl))))) (ao (oJ (i:=1) uP.nd rfl (Or.inl rfl) ax oa)))
   (ao (aA (xU (j1 gK (qv 1) (mm T.n_len (qv 0)) (n9 _)) (uL (j1 bQ (qi bb (qv 0) (qv 1)) (aK rfl T.m_COLON T.r_COLON) (n9 _))))))),
  (aw (jr (rX (az (au gL ae (dO fq ae))) (dR (aB (af (au bE ae ae) av)))) (gu ak))
    (aD (x5 (au gL ae (dO fq ae)) (au bS (au bE ae ae) ak))))⟩
theorem Gm(T:Txt K mg t):bF P w K mg base (CXE P w) 3 t.jB t.d_leaf xS (spP K (bc t) jB):=
 cQ T.e_leaf.F yi fun _ _ _ _ _ _ hr=>⟨_,(ai (qz 3 yi.nd (CS (aK rfl T.m_KINDS T.r_KINDS) (qi bb (qv 0) (qv 1)) aO))
   (ai (aS (bN xb (qv 3) aO) (ao (aA (cM (aa (qv 3) (aa (qv 1) (aa (qx (xO T) T.e_plain_end hr aC (aa (qv 0) (aa (qv 1) aq))) (aa (bj dj (qv 2) ax) aq))))))) aF)
   (ai (qz 4 yi.nd (qx (yZ T) T.e_text_end hr aC (aa (qv 0) (aa (qv 1) aq))))
   (ao (aA (cM (aa (dn (by exact(dq (qx (AF T) T.e_is_name hr aC (aa (qv 0) (aa (qv 4) aq))) (fun _=>rfl))) aO aO) (aa (qv 1) (aa (qv 4) (aa (bj dj (qv 2) ax) aq)))))))))),
  (aw (aR (CW T.q_KINDS (au bE ae ae) aN))
    (aw (aT (az (au wY ae aN)) (aD (cH (af ae (af ae (af (aB (af ae (af ae av))) (af (au dh ae ak) av)))))) aG)
    (aw (aR (aB (af ae (af ae av))))
    (aD (cH (af (iP (dR (aB (af ae (af ae av)))) aN aN) (af ae (af ae (af (au dh ae ak) av)))))))))⟩
theorem uZ(T:Txt K mg t):bF P w K mg base (CXE P w) 11 t.jc t.d_nodes uy (spP K (bc t) jc):=
 cQ T.e_nodes.F gM fun _ _ _ _ _ _ hr=>⟨_,(ai (oX (qx (gQ T) T.e_refuse_fault hr aC (aa (qv 0) aq)))
   (ai (qz 1 gM.nd (aW aq))
   (ai (qz 2 gM.nd (aW aq))
   (ai (qz 3 gM.nd ax)
   (ai (jq ez (bN gK (qv 3) (mm T.n_len (qv 0))) (ai (qz 4 gM.nd (qi bb (qv 0) (qv 3)))
   (ao (aS (eH iJ (qv 4) (cM (aa (aK rfl T.m_ROW_BEGIN T.r_ROW_BEGIN) (aa (aK rfl T.m_FIELDS_BEGIN T.r_FIELDS_BEGIN) aq))) rfl) (ai (qap eT (qv 2) (mm T.n_len (qv 1)))
   (ai (qap eT (qv 1) (cM (aa (qi LM (aK rfl T.m_KINDS T.r_KINDS) (qv 4)) (aa (qv 3) aq))))
   (ao (oJ (i:=3) gM.nd rfl (Or.inl rfl) ax oa)))) (ao (aS (eH iJ (qv 4) (cM (aa (aK rfl T.m_ROW_END T.r_ROW_END) (aa (aK rfl T.m_FIELDS_END T.r_FIELDS_END) aq))) rfl) (ai (oJ (i:=3) gM.nd rfl (Or.inl rfl) ax oa)
   (ai (qz 5 gM.nd (E6 PySem.F.plainAttrs_list PySem.F.slot_list_pop PySem.F.type_list_pop Ea (qv 2)))
   (ao (Kk (cM (aa (qi b3 (qi bb (qv 1) (qv 5)) ax) (aa (qi b3 (qi bb (qv 1) (qv 5)) ax) (aa (qv 3) (aa (mm T.n_len (qv 1)) aq))))) (JQ (qv 1) (qv 5) set_list))))) (ao (aS (qH (BM (dq (qx (kM T) T.cf hr aC (aa (qv 4) aq)) (fun _=>rfl)) (xX (eH iJ (qv 4) (cM (aa (aK rfl T.m_COMMA T.r_COMMA) (aa (aK rfl T.m_COLON T.r_COLON) aq))) rfl)))) (ao (oJ (i:=3) gM.nd rfl (Or.inl rfl) ax oa)) (ai (qap eT (qv 1) (qx (Gm T) T.e_leaf hr aC (aa (qv 0) (aa (qv 3) (aa (mm T.n_len (qv 1)) aq)))))
   (ao (qz 3 gM.nd (qi b3 (qi bb (qv 1) (vE qq ax)) ax))))))))))))
   (ao (aA (kS (M:=["tree"]) (ι:=[1]) (x:="i") ⟨rfl,rfl,rfl,rfl,rfl,rfl,rfl,rfl,rfl,rfl,rfl,by decide +kernel⟩ rfl (wm rfl T.n_range (aa (mm T.n_len (qv 1)) aq)) fun _ _ _ _=>(qx (vM T) T.e_with_member hr ye (aa (qv 0) (aa (qv 1) aq))))))))))),
  (aw (uc (aB (af ae av)))
    (aw (aR (aX av))
    (aw (BJ (Lm (aX av)))
    (aw (aR ak)
    (aw (jr (az (au gL ae (dO fq ae))) (aw (aR (au bE ae ae))
    (aT (az (au (kO hr.units) ae (cH (af ak (af ak av))))) (aw (AK jv (Lm (dO fq ae)))
    (aw (iU (cH (af (G4 T.q_KINDS ae) (af ae av))))
    (gu ak))) (aT (az (au (kO hr.units) ae (cH (af ak (af ak av))))) (aw (gu ak)
    (aw (yP (B6 jv))
    (KC ae (cH (af (au b4 (au bE ae ae) ak) (af (au b4 (au bE ae ae) ak) (af ae (af (dO fq ae) av)))))))) (aT (Ck (dR (aB (af ae av))) (az (au (kO hr.units) ae (cH (af ak (af ak av)))))) (gu ak) (aw (iU (aB (af ae (af ae (af (dO fq ae) av)))))
    (aR (au b4 (au bE ae (uU qh ak)) ak))))))))
    (dX (i:=1) (aD (Ai (by decide) (dO fq ae) (aB (af ae (af ae av)))))))))))⟩
theorem qe(T:Txt K mg t):bF P w K mg base (CXE P w) 10 t.fJ t.d_swapped pX (spP K (bc t) fJ):=
 cQ T.i0.F uH fun _ _ _ _ _ _ hr=>⟨_,(ai (qz 4 uH.nd (bj fk (bj fk (lN oZ (qv 0) uo (kR (qv 1))) (qv 3)) (lN oZ (qv 0) (kR (qv 2)) uo)))
   (ai (aS (bN qI (qx (zB T) T.o5 hr aC (aa (qv 4) aq)) b9) (ao (DW aC hr.hd PySem.F.excBase_ValueError rfl T.m_TooDeep T.x_TooDeep (aa aO aq))) aF)
   (ao (aA (qv 4))))),
  (aw (aR (au gY (au gY (sG ae uk (kT ae)) ae) (sG ae (kT ae) uk)))
    (aw (dX (i:=4) (aT (az (au qU (aB (af ae av)) b7)) (Fe rfl (af aN av)) aG))
    cO))⟩
theorem Bz(T:Txt K mg t):bF P w K mg base (CXE P w) 1 t.j8 t.d_counted qA (spP K (bc t) j8):=
 cQ T.e_counted.F mT fun _ _ _ _ _ _ hr=>⟨_,(ai (qz 1 mT.nd ax)
   (ai (lA ez rfl (Lk (qv 0)) (iI (i:=2) mT.nd rfl (by first|exact Or.inl rfl|exact Or.inr rfl)) (ao (qz 1 mT.nd (bj mi (bj dj (bj vf ax (qv 1)) (qv 2)) (aK rfl T.m_NOUGHT T.r_NOUGHT)))))
   (ao (aA (qv 1))))),
  (aw (aR ak)
    (aw (GP ae (aR (au lP (au dh (au vI ak ae) ae) ak)))
    cO))⟩
theorem Aj(T:Txt K mg t):bF P w K mg base (CXE P w) 2 t.eO t.d_place_of oK (spP K (bc t) eO):=
 cQ T.e_place_of.F Ag fun _ _ _ _ _ _ hr=>⟨_,(ai (aS (qH (BM (qg (dq (qv 0) (fun _=>rfl))) (xX (qg (dq (iH rM rfl T.n_all L2.E.boot_all (aa (kS (M:=[]) (ι:=[]) (x:="sign") ⟨rfl,rfl,rfl,rfl,rfl,rfl,rfl,rfl,rfl,rfl,rfl,by decide +kernel⟩ rfl (Ew (qv 0)) fun _ _ _ _=>(qx (jW T) T.eJ hr ye (aa (qv 0) aq))) aq)) (fun _=>rfl)))))) (ao (aA b9)) aF)
   (ai (aS (qH (sO (bN bQ (qi b3 (qv 0) ax) (aK rfl T.m_NOUGHT T.r_NOUGHT)) (rL (bN BI (mm T.n_len (qv 0)) ax)))) (ao (aA b9)) aF)
   (ao (aA (qx (Bz T) T.e_counted hr aC (aa (qv 0) aq)))))),
  (aw (aT (Ck (rR (dR ae)) (rR (dR (dO (Bn hr.hd) (zh (by decide) ae (aB (af ae av))))))) (aD b7) aG)
    (aw (aT (rX (az (au bS (au b4 ae ak) ak)) (az (au CB (dO fq ae) ak))) (aD b7) aG)
    (aD (aB (af ae av)))))⟩
theorem rp(T:Txt K mg t):bF P w K mg base (CXE P w) 1 t.jg t.d_inner vo (spP K (bc t) jg):=
 cQ T.j3.F rD fun _ _ _ _ _ _ hr=>⟨_,(ai (qz 2 rD.nd (aW aq))
   (ai (aS (eH iJ (qi b3 (qi bb (qv 0) (qv 1)) ax) (cM (aa aO (aa aO aq))) rfl) (ai (qz 3 rD.nd (bj dj (qv 1) ax))
   (ao (jq ez (bN gK (qv 3) (qi b3 (qi bb (qv 0) (qv 1)) ax)) (ai (qap eT (qv 2) (qv 3))
   (ao (qz 3 rD.nd (qi b3 (qi bb (qv 0) (qv 3)) ax))))))) aF)
   (ao (aA (qv 2))))),
  (aw (aR (aX av))
    (aw (aT (az (au (kO hr.units) (au b4 (au bE ae ae) ak) (cH (af aN (af aN av))))) (aw (aR (au dh ae ak))
    (jr (az (au gL ae (au b4 (au bE ae ae) ak))) (aw (iU ae)
    (aR (au b4 (au bE ae ae) ak))))) aG)
    cO))⟩
theorem yh(T:Txt K mg t):bF P w K mg base (CXE P w) 1 t.fX t.d_sign_size mI (spP K (bc t) fX):=
 cQ T.e_sign_size.F yt fun _ _ _ _ _ _ hr=>⟨_,(ai (aS (bN xb (qi bb (qv 0) (qv 1)) (aK rfl T.m_BACKSLASH T.r_BACKSLASH)) (ao (aA ax)) aF)
   (ai (aS (bN xb (qi bb (qv 0) (bj dj (qv 1) ax)) (aK rfl T.m_SMALL_U T.r_SMALL_U)) (ao dz) aF)
   (ai dz
   (ao dz)))),
  (aw (aT (az (au wY (au bE ae ae) ak)) (aD ak) aG)
    (aw (aT (az (au wY (au bE ae (au dh ae ak)) ak)) dC aG)
    (aw dC
    dC)))⟩
theorem vQ(T:Txt K mg t):bF P w K mg base (CXE P w) 2 t.fz t.d_sign_meant lx (spP K (bc t) fz):=
 cQ T.e_sign_meant.F vR fun _ _ _ _ _ _ hr=>⟨_,(ai (aS (bN bQ (qv 2) ax) (ao (aA (qi bb (qv 0) (qv 1)))) aF)
   (ai (aS (bN bQ (qv 2) ax) (ao dz) aF)
   (ai (aS (bN bQ (qv 2) (aK rfl T.m_CODE_SIZE T.r_CODE_SIZE)) (ao dz) aF)
   (ao dz)))),
  (aw (aT (az (au bS ae ak)) (aD (au bE ae ae)) aG)
    (aw (aT (az (au bS ae ak)) dC aG)
    (aw (aT (az (au bS ae ak)) dC aG)
    dC)))⟩
theorem qr(T:Txt K mg t):bF P w K mg base (CXE P w) 3 t.cZ t.d_without_escapes gX (spP K (bc t) cZ):=
 cQ T.e_without_escapes.F ee fun _ _ _ _ _ _ hr=>⟨_,(ai (qz 1 ee.nd (aW aq))
   (ai (qz 2 ee.nd ax)
   (ai (jq ez (bN gK (qv 2) (mm T.n_len (qv 0))) (ai (qz 3 ee.nd (qx (yh T) T.e_sign_size hr aC (aa (qv 0) (aa (qv 2) aq))))
   (ai (qap eT (qv 1) (qx (vQ T) T.e_sign_meant hr aC (aa (qv 0) (aa (qv 2) (aa (qv 3) aq)))))
   (ao (oJ (i:=2) ee.nd rfl (Or.inl rfl) (qv 3) oa)))))
   (ao (aA (qv 1)))))),
  (aw (aR (aX av))
    (aw (aR ak)
    (aw (jr (az (au gL ae (dO fq ae))) (aw (aR (aB (af ae (af ae av))))
    (aw (iU (aB (af ae (af ae (af ae av)))))
    (gu ae))))
    cO)))⟩
theorem sR(T:Txt K mg t):bF P w K mg base (CXE P w) 3 t.dQ t.d_character_end i3 (spP K (bc t) dQ):=
 cQ T.e_character_end.F eR fun _ _ _ _ _ _ hr=>⟨_,(ai (qz 2 eR.nd (qx (zU T) T.e_tails hr aC (aa (qi bb (qv 0) (qv 1)) aq)))
   (ai (aS (bN sQ (qv 2) b9) (ao dz) aF)
   (ai (qz 3 eR.nd (bj dj (qv 1) ax))
   (ai (lA ez rfl (fR (qv 2)) (iI (i:=4) eR.nd rfl (by first|exact Or.inl rfl|exact Or.inr rfl)) (ai (aS (qH (BM (bN bQ (qv 3) (mm T.n_len (qv 0))) (xX (qg (iB iR iR (qi b3 (qv 4) ax) (qi bb (qv 0) (qv 3)) (qi b3 (qv 4) ax)))))) (ao dz) aF)
   (ao (oJ (i:=3) eR.nd rfl (Or.inl rfl) ax oa))))
   (ao (aA (qv 3))))))),
  (aw (aR (aB (af (au bE ae ae) av)))
    (aw (aT (az (au sI ae b7)) dC aG)
    (aw (aR (au dh ae ak))
    (aw (dX (i:=2) (mw ae (aw (aT (Ck (az (au bS ae (dO fq ae))) (rR (az (fA iO iO (au b4 ae ak) (au bE ae ae) (au b4 ae ak))))) dC aG)
    (gu ak))))
    cO))))⟩
theorem x9(T:Txt K mg t):bF P w K mg base (CXE P w) 1 t.gd t.d_character mz (spP K (bc t) gd):=
 cQ T.e_character.F j0 fun _ _ _ _ _ _ hr=>⟨_,(ai (qz 3 j0.nd (bj mi (qi bb (qv 0) (qv 1)) (qi b3 (aK rfl T.m_MARKS T.r_MARKS) (bj mi (bj mi (qv 2) (qv 1)) ax))))
   (ai (lA ez rfl (fR (lN oZ (qv 0) (kR (bj dj (qv 1) ax)) (kR (qv 2)))) (iI (i:=4) j0.nd rfl (by first|exact Or.inl rfl|exact Or.inr rfl)) (ao (qz 3 j0.nd (bj mi (bj dj (bj vf (qv 3) ax) (qv 4)) (aK rfl T.m_TAIL_MARK T.r_TAIL_MARK)))))
   (ao (aA (qv 3))))),
  (aw (aR (au lP (au bE ae ae) (au b4 (kL T.q_MARKS) (au lP (au lP ae ae) ak))))
    (aw (mw (sG ae (kT (au dh ae ak)) (kT ae)) (aR (au lP (au dh (au vI ae ak) ae) ak)))
    cO))⟩
theorem CN(T:Txt K mg t):bF P w K mg base (CXE P w) 4 t.ka t.d_points rZ (spP K (bc t) ka):=
 cQ T.e_points.F lE fun _ _ _ _ _ _ hr=>⟨_,(ai (qz 1 lE.nd (aW aq))
   (ai (qz 2 lE.nd ax)
   (ai (jq ez (bN gK (qv 2) (mm T.n_len (qv 0))) (ai (qz 3 lE.nd (qx (sR T) T.e_character_end hr aC (aa (qv 0) (aa (qv 2) aq))))
   (ai (qap eT (qv 1) (qx (x9 T) T.e_character hr aC (aa (qv 0) (aa (qv 2) (aa (qv 3) aq)))))
   (ao (qz 2 lE.nd (qv 3))))))
   (ao (aA (qv 1)))))),
  (aw (aR (aX av))
    (aw (aR ak)
    (aw (jr (az (au gL ae (dO fq ae))) (aw (aR (aB (af ae (af ae av))))
    (aw (iU (aB (af ae (af ae (af ae av)))))
    (aR ae))))
    cO)))⟩
theorem FF(T:Txt K mg t):bF P w K mg base (CXE P w) 5 t.m5 t.d_meant uC (spP K (bc t) m5):=
 cQ T.uf.F zg fun _ _ _ _ _ _ hr=>⟨_,(ai (qz 3 zg.nd (qi bb (qv 1) (qv 2)))
   (ai (aS (eH sN (qi b3 (qv 3) ax) (cM (aa aO (aa aO aq))) rfl) (ao dz) aF)
   (ao (aA (qx (qr T) T.e_without_escapes hr aC (aa (qx (CN T) T.e_points hr aC (aa (lN oZ (qv 0) (kR (bj dj (qi b3 (qv 3) ax) ax)) (kR (bj mi (qi b3 (qv 3) ax) ax))) aq)) aq)))))),
  (aw (aR (au bE ae ae))
    (aw (aT (az (au (uG hr.units) (au b4 ae ak) (cH (af aN (af aN av))))) dC aG)
    (aD (aB (af (aB (af (sG ae (kT (au dh (au b4 ae ak) ak)) (kT (au lP (au b4 ae ak) ak))) av)) av)))))⟩
theorem CV(T:Txt K mg t):bF P w K mg base (CXE P w) 6 t.ki t.d_member sP (spP K (bc t) ki):=
 cQ T.e_member.F wQ fun _ _ _ _ _ _ hr=>⟨_,(ai (aS (bN bQ (qi b3 (qi bb (qv 1) (qv 2)) ax) aO) (ao (lA ez rfl (fR (qx (rp T) T.j3 hr aC (aa (qv 1) (aa (qv 2) aq)))) (iI (i:=4) wQ.nd rfl (by first|exact Or.inl rfl|exact Or.inr rfl)) (ao (aS (bN Jy (qx (FF T) T.uf hr aC (aa (qv 0) (aa (qv 1) (aa (qv 4) aq)))) (sH xy rfl T.n_list L2.E.boot_list (aa (qv 3) aq))) (ao (aA (bj dj (qv 4) ax))) aF)))) aF)
   (ao dz)),
  (aw (aT (az (au bS (au b4 (au bE ae ae) ak) aN)) (mw (aB (af ae (af ae av))) (aT (az (au (JM hr.units) (aB (af ae (af ae (af ae av)))) (dO By ae))) (aD (au dh ae ak)) aG)) aG)
    dC)⟩
theorem He(T:Txt K mg t):bF P w K mg base (CXE P w) 2 t.qc t.d_item ya (spP K (bc t) qc):=
 cQ T.yb.F BZ fun _ _ _ _ _ _ hr=>⟨_,(ai (qz 3 BZ.nd (qx (rp T) T.j3 hr aC (aa (qv 0) (aa (qv 1) aq))))
   (ai (aS (qg (iB iR gK ax (qv 2) (mm T.n_len (qv 3)))) (ao dz) aF)
   (ai (aS (bN bQ (qi b3 (qi bb (qv 0) (qv 1)) ax) aO) (ao (aA (bj dj (qi bb (qv 3) (qv 2)) ax))) aF)
   (ao (aA (qi bb (qv 3) (qv 2))))))),
  (aw (aR (aB (af ae (af ae av))))
    (aw (aT (rR (az (fA iO gL ak ae (dO fq ae)))) dC aG)
    (aw (aT (az (au bS (au b4 (au bE ae ae) ak) aN)) (aD (au dh (au bE ae ae) ak)) aG)
    (aD (au bE ae ae)))))⟩
theorem uz(T:Txt K mg t):bF P w K mg base (CXE P w) 7 t.dD t.d_node_behind kf (spP K (bc t) dD):=
 cQ T.e_node_behind.F nV fun _ _ _ _ _ _ hr=>⟨_,(ai (qz 4 nV.nd (qx (Aj T) T.e_place_of hr aC (aa (qv 3) aq)))
   (ai (JF ⟨rfl,rfl⟩ (fun _ _ _ hW hO=>(ai (aS (bN bQ (qi b3 (qi bb (qv 1) (qv 2)) ax) aO) (ao (aA (qx (CV T) T.e_member hr hW (aa (qv 0) (aa (qv 1) (aa (qv 2) (aa (qv 3) aq))))))) aF)
   (ao (aS (qH (sO (bN bQ (qi b3 (qi bb (qv 1) (qv 2)) ax) aO) (rL (bN qI (qv 4) b9)))) (ao (aA (qx (He T) T.yb hr hW (aa (qv 1) (aa (qv 2) (aa (qv 4) aq)))))) aF)))) rfl T.m_NoNode (fun _=>(ao dz)) aC)
   (ao dz))),
  (aw (aR (aB (af ae av)))
    (aw (K6 (fun _=>(aw (aT (az (au bS (au b4 (au bE ae ae) ak) aN)) (aD (aB (af ae (af ae (af ae (af ae av)))))) aG)
    (aT (rX (az (au bS (au b4 (au bE ae ae) ak) aN)) (az (au qU ae b7))) (aD (aB (af ae (af ae (af ae av))))) aG))) dC (tR T))
    dC))⟩
theorem pI(T:Txt K mg t):bF P w K mg base (CXE P w) 8 t.dB t.d_node_there lq (spP K (bc t) dB):=
 cQ T.e_node_there.F jb fun _ _ _ _ _ _ hr=>⟨_,(ai (qz 3 jb.nd ax)
   (ai (lA ez rfl (fR (qv 2)) (iI (i:=4) jb.nd rfl (by first|exact Or.inl rfl|exact Or.inr rfl)) (ao (qz 3 jb.nd (qx (uz T) T.e_node_behind hr aC (aa (qv 0) (aa (qv 1) (aa (qv 3) (aa (qv 4) aq))))))))
   (ao (aA (qv 3))))),
  (aw (aR ak)
    (aw (mw ae (aR (aB (af ae (af ae (af ae (af ae av)))))))
    cO))⟩
theorem Ke(T:Txt K mg t):bF P w K mg base (CXE P w) 12 t.qP t.d_put Bu (spP K (bc t) qP):=
 cQ T.Cb.F AW fun _ _ _ _ _ _ hr=>⟨_,(ai (qz 3 AW.nd (qx (uZ T) T.e_nodes hr aC (aa (qv 0) aq)))
   (ai (qz 4 AW.nd (qi bb (qv 3) (qx (pI T) T.e_node_there hr aC (aa (qv 0) (aa (qv 3) (aa (qv 1) aq))))))
   (ai (oX (qx (gQ T) T.e_refuse_fault hr aC (aa (qv 2) aq)))
   (ao (aA (qx (qe T) T.i0 hr aC (aa (qv 0) (aa (qi b3 (qv 4) ax) (aa (qi b3 (qv 4) ax) (aa (qv 2) aq)))))))))),
  (aw (aR (aB (af ae av)))
    (aw (dX (i:=3) (aR (au bE ae (aB (af ae (af ae (af ae av)))))))
    (aw (uc (aB (af ae av)))
    (aD (aB (af ae (af (au b4 ae ak) (af (au b4 ae ak) (af ae av)))))))))⟩
theorem ng(T:Txt K mg t):bF P w K mg base (CXE P w) 9 t.cC t.d_node_of_kind js (spP K (bc t) cC):=
 cQ T.e_node_of_kind.F nv fun _ _ _ _ _ _ hr=>⟨_,(ai (qz 4 nv.nd (qx (pI T) T.e_node_there hr aC (aa (qv 0) (aa (qv 1) (aa (qv 2) aq)))))
   (ai (aS (bN xb (qi b3 (qi bb (qv 1) (qv 4)) ax) (qv 3)) (ao dz) aF)
   (ao (aA (qv 4))))),
  (aw (aR (aB (af ae (af ae (af ae av)))))
    (aw (aT (az (au wY (au b4 (au bE ae ae) ak) ae)) dC aG)
    cO))⟩
theorem u0(T:Txt K mg t):bF P w K mg base (CXE P w) 2 t.eM t.d_inner_spans kx (spP K (bc t) eM):=
 cQ T.e_inner_spans.F uB fun _ _ _ _ _ _ hr=>⟨_,(ai (aS (bN bQ (qi b3 (qi bb (qv 0) (qv 1)) ax) aO) (ao (aA (kS (M:=["tree"]) (ι:=[0]) (x:="k") ⟨rfl,rfl,rfl,rfl,rfl,rfl,rfl,rfl,rfl,rfl,rfl,by decide +kernel⟩ rfl (fR (qx (rp T) T.j3 hr aC (aa (qv 0) (aa (qv 1) aq)))) fun _ _ _ _=>(cM (aa (qi b3 (qi bb (qv 0) (qv 1)) ax) (aa (qi b3 (qi bb (qv 0) (bj dj (qv 1) ax)) ax) aq)))))) aF)
   (ao (aA (kS (M:=["tree"]) (ι:=[0]) (x:="k") ⟨rfl,rfl,rfl,rfl,rfl,rfl,rfl,rfl,rfl,rfl,rfl,by decide +kernel⟩ rfl (fR (qx (rp T) T.j3 hr aC (aa (qv 0) (aa (qv 1) aq)))) fun _ _ _ _=>(cM (aa (qi b3 (qi bb (qv 0) (qv 1)) ax) (aa (qi b3 (qi bb (qv 0) (qv 1)) ax) aq))))))),
  (aw (aT (az (au bS (au b4 (au bE ae ae) ak) aN)) (aD (oi (by decide) (aB (af ae (af ae av))) (cH (af (au b4 (au bE ae ae) ak) (af (au b4 (au bE ae (au dh ae ak)) ak) av))))) aG)
    (aD (oi (by decide) (aB (af ae (af ae av))) (cH (af (au b4 (au bE ae ae) ak) (af (au b4 (au bE ae ae) ak) av))))))⟩
theorem zC(T:Txt K mg t):bF P w K mg base (CXE P w) 11 t.jY t.d_added vC (spP K (bc t) jY):=
 cQ T.o4.F zV fun _ _ _ _ _ _ hr=>⟨_,(ai (qz 4 zV.nd (qx (u0 T) T.e_inner_spans hr aC (aa (qv 1) (aa (qv 2) aq))))
   (ai (aS (dq (qv 4) (fun _=>rfl)) (ao (aA (qx (qe T) T.i0 hr aC (aa (qv 0) (aa (qi b3 (qi bb (qv 4) (vE qq ax)) ax) (aa (qi b3 (qi bb (qv 4) (vE qq ax)) ax) (aa (bj fk (aW (aa (aK rfl T.m_COMMA T.r_COMMA) aq)) (qv 3)) aq))))))) aF)
   (ao (aA (qx (qe T) T.i0 hr aC (aa (qv 0) (aa (bj dj (qi b3 (qi bb (qv 1) (qv 2)) ax) ax) (aa (bj dj (qi b3 (qi bb (qv 1) (qv 2)) ax) ax) (aa (qv 3) aq))))))))),
  (aw (aR (aB (af ae (af ae av))))
    (aw (aT (dR ae) (aD (aB (af ae (af (au b4 (au bE ae (uU qh ak)) ak) (af (au b4 (au bE ae (uU qh ak)) ak) (af (au gY (aX (af ak av)) ae) av)))))) aG)
    (aD (aB (af ae (af (au dh (au b4 (au bE ae ae) ak) ak) (af (au dh (au b4 (au bE ae ae) ak) ak) (af ae av))))))))⟩
theorem JK(T:Txt K mg t):bF P w K mg base (CXE P w) 12 t.qO t.d_add AS (spP K (bc t) qO):=
 cQ T.Ca.F Bp fun _ _ _ _ _ _ hr=>⟨_,(ai (qz 3 Bp.nd (qx (uZ T) T.e_nodes hr aC (aa (qv 0) aq)))
   (ai (qz 4 Bp.nd (qx (ng T) T.e_node_of_kind hr aC (aa (qv 0) (aa (qv 3) (aa (qv 1) (aa aO aq))))))
   (ai (oX (qx (gQ T) T.e_refuse_fault hr aC (aa (qv 2) aq)))
   (ao (aA (qx (zC T) T.o4 hr aC (aa (qv 0) (aa (qv 3) (aa (qv 4) (aa (qv 2) aq)))))))))),
  (aw (aR (aB (af ae av)))
    (aw (dX (i:=3) (aR (aB (af ae (af ae (af ae (af aN av)))))))
    (aw (uc (aB (af ae av)))
    (dX (i:=3) (aD (aB (af ae (af ae (af ae (af ae av))))))))))⟩
theorem Ax(T:Txt K mg t):bF P w K mg base (CXE P w) 1 t.g9 t.d_is_point oo (spP K (bc t) g9):=
 cQ T.e_is_point.F yX fun _ _ _ _ _ _ hr=>⟨_,(ao (aA (Md (u2 iR gK ax (qv 0) (aK rfl T.m_FIRST_PAIRED T.r_FIRST_PAIRED)) (uL (u2 gK iR (aK rfl T.m_LAST_PAIRED T.r_LAST_PAIRED) (qv 0) (aK rfl T.m_LAST_POINT T.r_LAST_POINT)))))),
  (aD (Mi (fA iO gL ak ae ak) (fA gL iO ak ae ak)))⟩
theorem FP(T:Txt K mg t):bF P w K mg base (CXE P w) 2 t.mq t.d_eight vc (spP K (bc t) mq):=
 cQ T.e_eight.F EW fun _ _ _ _ _ _ hr=>⟨_,(ai (aS (qg (dq (qx (Ax T) T.e_is_point hr aC (aa (qv 0) aq)) (fun _=>rfl))) (ao dz) aF)
   (ai (aS (bN gK (qv 0) ax) (ao (aA (aW (aa (qv 0) aq)))) aF)
   (ai (aS (bN gK (qv 0) ax) (ao dz) aF)
   (ai (aS (bN gK (qv 0) ax) (ao dz) aF)
   (ao dz))))),
  (aw (aT (rR (dR (aB (af ae av)))) dC aG)
    (aw (aT (az (au gL ae ak)) (aD (aX (af ae av))) aG)
    (aw (aT (az (au gL ae ak)) dC aG)
    (aw (aT (az (au gL ae ak)) dC aG)
    dC))))⟩
theorem xu(T:Txt K mg t):bF P w K mg base (CXE P w) 3 t.fZ t.d_told_sign mW (spP K (bc t) fZ):=
 cQ T.e_told_sign.F qW fun _ _ _ _ _ _ hr=>⟨_,(ai (qz 1 qW.nd (qx (FP T) T.e_eight hr aC (aa (qv 0) aq)))
   (ai (aS (eH Hi (qv 0) (aK rfl T.m_ESCAPED T.r_ESCAPED) rfl) (ao dz) aF)
   (ai (aS (bN gK (qv 0) (aK rfl T.m_BLANK T.r_BLANK)) (ao dz) aF)
   (ao (aA (qv 1)))))),
  (aw (aR (aB (af ae av)))
    (aw (aT (az (GK T.q_ESCAPED ae)) dC aG)
    (aw (aT (az (au gL ae ak)) dC aG)
    cO)))⟩
theorem F6(T:Txt K mg t):bF P w K mg base (CXE P w) 4 t.mG t.d_told yJ (spP K (bc t) mG):=
 cQ T.e_told.F xn fun _ _ _ _ _ _ hr=>⟨_,(ai (qz 1 xn.nd (aW (aa (aK rfl T.m_QUOTE T.r_QUOTE) aq)))
   (ai (lA ez rfl (fR (qv 0)) (iI (i:=2) xn.nd rfl (by first|exact Or.inl rfl|exact Or.inr rfl)) (ao (qex C9 (qv 1) (qx (xu T) T.e_told_sign hr aC (aa (qv 2) aq)))))
   (ai (qap eT (qv 1) (aK rfl T.m_QUOTE T.r_QUOTE))
   (ao (aA (qv 1)))))),
  (aw (aR (aX (af ak av)))
    (aw (mw ae (DA (aB (af ae av))))
    (aw (iU ak)
    cO)))⟩
theorem vP(T:Txt K mg t):bF P w K mg base (CXE P w) 12 t.da t.d_add_member kZ (spP K (bc t) da):=
 cQ T.e_add_member.F lz fun _ _ _ _ _ _ hr=>⟨_,(ai (qz 4 lz.nd (qx (uZ T) T.e_nodes hr aC (aa (qv 0) aq)))
   (ai (qz 5 lz.nd (qx (ng T) T.e_node_of_kind hr aC (aa (qv 0) (aa (qv 4) (aa (qv 1) (aa aO aq))))))
   (ai (oX (qx (gQ T) T.e_refuse_fault hr aC (aa (qv 3) aq)))
   (ao (aA (qx (zC T) T.o4 hr aC (aa (qv 0) (aa (qv 4) (aa (qv 5) (aa (bj fk (bj fk (qx (F6 T) T.e_told hr aC (aa (qv 2) aq)) (aW (aa (aK rfl T.m_COLON T.r_COLON) aq))) (qv 3)) aq)))))))))),
  (aw (aR (aB (af ae av)))
    (aw (dX (i:=4) (aR (aB (af ae (af ae (af ae (af aN av)))))))
    (aw (uc (aB (af ae av)))
    (dX (i:=4) (aD (aB (af ae (af ae (af ae (af (au gY (au gY (aB (af ae av)) (aX (af ak av))) ae) av))))))))))⟩
theorem y2(T:Txt K mg t):bF P w K mg base (CXE P w) 13 t.dv t.d_law_done nX (spP K (bc t) dv):=
 cQ T.e_law_done.F fW fun _ _ _ _ _ _ hr=>⟨_,(ai (qz 4 fW.nd (aW aq))
   (ai (DQ (i:=5) ⟨rfl,rfl⟩ fW.nd rfl rfl (fun _ _ _ hW hO=>(ao (aS (bN bQ (qv 0) ax) (ao (qz 4 fW.nd (qx (Ke T) T.Cb hr hW (aa (qv 1) (aa (qv 2) (aa (qv 3) aq)))))) (ao (aS (bN bQ (qv 0) ax) (ao (qz 4 fW.nd (qx (JK T) T.Ca hr hW (aa (qv 1) (aa (qv 2) (aa (qv 3) aq)))))) (ao (qz 4 fW.nd (qx (vP T) T.e_add_member hr hW (aa (qv 1) (aa (qv 2) (aa (aW (aa ax aq)) (aa (qv 3) aq)))))))))))) rfl T.m_GlassError (fun _=>(ao (qz 4 fW.nd (dn (by exact(dq (iH EY rfl T.n_isinstance L2.E.boot_isinstance (aa (qv 5) (aa (aK (v:=.ref _) rfl T.m_TooDeep rfl) aq))) (fun _=>rfl))) (vE qq ax) (vE qq ax))))) aC)
   (ao (aA (qv 4))))),
  (aw (aR (aX av))
    (aw (D3 (fun _=>(aT (az (au bS ae ak)) (aR (aB (af ae (af ae (af ae av))))) (aT (az (au bS ae ak)) (aR (aB (af ae (af ae (af ae av))))) (aR (aB (af ae (af ae (af (aX (af ak av)) (af ae av))))))))) (aR (iP (dR (Jx (Am T))) (uU qh ak) (uU qh ak))) (pA T))
    cO))⟩
theorem yA(T:Txt K mg t):bF P w K mg base (CXE P w) 1 t.gf t.d_law_whole lS (spP K (bc t) gf):=
 cQ T.kB.F yQ fun _ _ _ _ _ _ hr=>⟨_,(ao (aA (xU (iH rK rfl T.n_isinstance L2.E.boot_isinstance (aa (qv 0) (aa (um (v:=.ty _) rfl T.n_int L2.E.boot_int rfl) aq))) (uL (Ll (iH rK rfl T.n_isinstance L2.E.boot_isinstance (aa (qv 0) (aa (um (v:=.ty _) rfl T.n_bool L2.E.boot_bool rfl) aq)))))))),
  (aD (x5 (yp ae) (Ky (yp ae))))⟩
theorem vU(T:Txt K mg t):bF P w K mg base (CXE P w) 2 t.fi t.d_law_wholes la (spP K (bc t) fi):=
 cQ T.e_law_wholes.F vW fun _ _ _ _ _ _ hr=>⟨_,(ao (aA (xU (iH rK rfl T.n_isinstance L2.E.boot_isinstance (aa (qv 0) (aa (um (v:=.ty _) rfl T.n_list L2.E.boot_list rfl) aq))) (uL (iH rM rfl T.n_all L2.E.boot_all (aa (kS (M:=[]) (ι:=[]) (x:="_law_one") ⟨rfl,rfl,rfl,rfl,rfl,rfl,rfl,rfl,rfl,rfl,rfl,by decide +kernel⟩ rfl (fR (qv 0)) fun _ _ _ _=>(qx (yA T) T.kB hr ye (aa (qv 0) aq))) aq)))))),
  (aD (x5 (yp ae) (dO (Bn hr.hd) (oi (by decide) ae (aB (af ae av))))))⟩
theorem K1(T:Txt K mg t):bF P w K mg base (CXE P w) 14 t.wV t.d_law Ay (spP K (bc t) wV):=
 cQ T.Ek.F gF fun _ _ _ _ _ _ hr=>⟨_,(ai (qz 1 gF.nd (qx (rj T) T.e_law_kinds hr aC (aa (qv 0) (aa ax (aa (bj dj ax (bj mR (qx (lW T) T.fH hr aC (aa (qv 0) (aa ax aq))) ax)) aq)))))
   (ai (qz 2 gF.nd (qx (sX T) T.e_law_nest hr aC (aa (qx (rj T) T.e_law_kinds hr aC (aa (qv 0) (aa ax (aa (bj dj ax (bj mR (qx (lW T) T.fH hr aC (aa (qv 0) (aa ax aq))) ax)) aq)))) (aa (aW (aa ax aq)) aq))))
   (ai (qz 3 gF.nd (bj mR (qx (lW T) T.fH hr aC (aa (qv 0) (aa ax aq))) ax))
   (ai (qz 4 gF.nd (qi bb (aW (aa (aW (aa ax aq)) (aa (aW (aa ax (aa ax aq))) (aa (aW (aa ax (aa ax aq))) aq)))) (qv 3)))
   (ai (qz 5 gF.nd (qx (sX T) T.e_law_nest hr aC (aa (qv 1) (aa (qv 4) aq))))
   (ai (qz 6 gF.nd (mm T.n_len (wD (M:=[]) (ι:=[]) (x:="_law_byte") ⟨rfl,rfl,rfl,rfl,rfl,rfl,rfl,rfl,rfl,rfl,rfl,by decide +kernel⟩ rfl (fR (qv 2)) (fun _ _ _ _=>(eH iJ (qv 0) (cM (aa ax (aa ax aq))) rfl)) fun _ _ _ _=>(qv 0))))
   (ai (G2 (i:=7) gF.nd rfl (by first|exact Or.inl rfl|exact Or.inr rfl) (M:=[]) (ι:=[]) (x:="_law_kind") ⟨rfl,rfl,rfl,rfl,rfl,rfl,rfl,rfl,rfl,rfl,rfl,by decide +kernel⟩ rfl (fR (qv 1)) fun _ _ _ _=>(qi bb (aW (aa (cM (aa ax aq)) (aa (cM (aa ax aq)) aq))) (qv 0)))
   (ai (qz 8 gF.nd (bj dj (bj dj (mm T.n_len (qv 1)) (sH wL rfl T.n_int L2.E.boot_int (aa (j1 BI (qv 3) ax (n9 _)) aq))) (qv 6)))
   (ai (qz 9 gF.nd ax)
   (ai (lA ez rfl (fR (qv 1)) (iI (i:=10) gF.nd rfl (by first|exact Or.inl rfl|exact Or.inr rfl)) (ao (qz 9 gF.nd (bj dj (qv 9) (qi bb (aW (aa ax (aa ax aq))) (qv 10))))))
   (ai (qz 11 gF.nd (lN oZ (qv 5) uo (kR (bj dj (qv 9) (sH wL rfl T.n_int L2.E.boot_int (aa (j1 BI (qv 3) ax (n9 _)) aq))))))
   (ai (qz 12 gF.nd (lN oZ (qv 5) (kR (bj dj (qv 9) ax)) uo))
   (ai (aS (bN bQ (qv 3) ax) (ao (qz 11 gF.nd (bj fk (qv 11) (aW (aa ax (aa ax (aa ax (aa ax aq)))))))) aF)
   (ai (qz 13 gF.nd (qx (y2 T) T.e_law_done hr aC (aa (qv 3) (aa (qv 5) (aa (qv 7) (aa (qv 2) aq))))))
   (ai (aS (bN BI (qv 8) ax) (ao (aA (j1 Ef (qv 13) (vE qq ax) (n9 _)))) aF)
   (ao (aA (xU (qx (vU T) T.e_law_wholes hr aC (aa (qv 13) aq)) (uL (j1 Ef (qv 13) (bj fk (bj fk (qv 11) (qv 2)) (qv 12)) (n9 _))))))))))))))))))))),
  (aw (aR (aB (af ae (af ak (af (au dh ak (au lY (aB (af ae (af ak av))) ak)) av)))))
    (aw (aR (aB (af (aB (af ae (af ak (af (au dh ak (au lY (aB (af ae (af ak av))) ak)) av)))) (af (aX (af ak av)) av))))
    (aw (aR (au lY (aB (af ae (af ak av))) ak))
    (aw (aR (au bE (aX (af (aX (af ak av)) (af (aX (af ak (af ak av))) (af (aX (af ak (af ak av))) av)))) ae))
    (aw (dX (i:=1) (aR (aB (af ae (af ae av)))))
    (aw (aR (dO fq (uK (by decide) ae (az (au (kO hr.units) ae (cH (af ak (af ak av))))) ae)))
    (aw (aR (oi (by decide) ae (au bE (aX (af (cH (af ak av)) (af (cH (af ak av)) av))) ae)))
    (aw (aR (au dh (au dh (dO fq ae) (dO B9 (au CB ae ak))) ae))
    (aw (aR ak)
    (aw (dX (i:=1) (mw ae (aR (au dh ae (au bE (aX (af ak (af ak av))) ae)))))
    (aw (aR (sG ae uk (kT (au dh ae (dO B9 (au CB ae ak))))))
    (aw (aR (sG ae (kT (au dh ae ak)) uk))
    (aw (aT (az (au bS ae ak)) (aR (au gY ae (aX (af ak (af ak (af ak (af ak av))))))) aG)
    (aw (dX (i:=2) (dX (i:=7) (dX (i:=5) (aR (aB (af ae (af ae (af ae (af ae av)))))))))
    (aw (aT (az (au CB ae ak)) (aD (au (E2 hr.units) ae (uU qh ak))) aG)
    (aD (x5 (aB (af ae av)) (au (E2 hr.units) ae (au gY (au gY ae ae) ae)))))))))))))))))))⟩
end
open PySem.W in
theorem all_mk{l:PySem.W.OpenLaw}{w:World}{K:PySem.W.Frag}{h:Heap}{mg:Str->Option Value}{fa:Addr}(X:K.In h)(G:h.Ns mainGlobals mg)(hfa:mg "law" = some (.ref fa))
  (h0:Fd K "is_point" p7 f0 d0)
  (h1:Fd K "eight" xo f1 d1)
  (h2:Fd K "points" vw f2 d2)
  (h3:Fd K "character_end" jF f3 d3)
  (h4:Fd K "tails" xI f4 d4)
  (h5:Fd K "second_of_three" iK f5 d5)
  (h6:Fd K "second_of_four" iW f6 d6)
  (h7:Fd K "character" oO f7 d7)
  (h8:Fd K "is_white" qk f8 d8)
  (h9:Fd K "is_figure" nF f9 d9)
  (h10:Fd K "hex_worth" oA f10 d10)
  (h11:Fd K "word_rest" ou f11 d11)
  (h12:Fd K "short_escape" ko f12 d12)
  (h13:Fd K "meant" yq f13 d13)
  (h14:Fd K "without_escapes" iG f14 d14)
  (h15:Fd K "sign_size" oF f15 d15)
  (h16:Fd K "sign_meant" mU f16 d16)
  (h17:Fd K "told" Bg f17 d17)
  (h18:Fd K "told_sign" nT f18 d18)
  (h19:Fd K "inner" yl f19 d19)
  (h20:Fd K "item" AI f20 d20)
  (h21:Fd K "member" vm f21 d21)
  (h22:Fd K "behind" vg f22 d22)
  (h23:Fd K "behind_value" kr f23 d23)
  (h24:Fd K "behind_lead" ly f24 d24)
  (h25:Fd K "behind_in_number" hE f25 d25)
  (h26:Fd K "behind_in_text" iS f26 d26)
  (h27:Fd K "behind_character" g8 f27 d27)
  (h28:Fd K "behind_backslash" hU f28 d28)
  (h29:Fd K "behind_code_d" jA f29 d29)
  (h30:Fd K "behind_hex" lQ f30 d30)
  (h31:Fd K "behind_in_brackets" gn f31 d31)
  (h32:Fd K "behind_row_begin" gU f32 d32)
  (h33:Fd K "behind_fields_begin" fN f33 d33)
  (h34:Fd K "member_rest" lb f34 d34)
  (h35:Fd K "fault" yf f35 d35)
  (h36:Fd K "refuse_fault" kl f36 d36)
  (h37:Fd K "nodes" xq f37 d37)
  (h38:Fd K "leaf" A9 f38 d38)
  (h39:Fd K "plain_end" oq f39 d39)
  (h40:Fd K "text_end" qt f40 d40)
  (h41:Fd K "is_name" r0 f41 d41)
  (h42:Fd K "with_member" lD f42 d42)
  (h43:Fd K "counted" r9 f43 d43)
  (h44:Fd K "place_of" p6 f44 d44)
  (h45:Fd K "node_there" mY f45 d45)
  (h46:Fd K "node_behind" lg f46 d46)
  (h47:Fd K "put" D7 f47 d47)
  (h48:Fd K "add" DG f48 d48)
  (h49:Fd K "add_member" nc f49 d49)
  (h50:Fd K "node_of_kind" kv f50 d50)
  (h51:Fd K "added" yL f51 d51)
  (h52:Fd K "inner_spans" lj f52 d52)
  (h53:Fd K "swapped" sm f53 d53)
  (h54:Fd K "_law_cell" qf f54 d54)
  (h55:Fd K "_law_mix" sA f55 d55)
  (h56:Fd K "_law_whole" og f56 d56)
  (h57:Fd K "_law_wholes" mx f57 d57)
  (h58:Fd K "_law_nest" p5 f58 d58)
  (h59:Fd K "_law_kinds" oM f59 d59)
  (h60:Fd K "_law_done" pY f60 d60)
  (a61:nsIn K mainGlobals "law" = some (some (.ref f61))) (l61:K.lookup f61=some ⟨oc61,od61,.func (fnOf "law" "law" (er Ak) (dk Ak) (ay Ak) .none kV61 dc61 pm61 an61 cd61 ct61),sl61⟩) (c61:codeIn K cd61 "law" = true) (k61:keepIn K (.ref f61)=true)
  (a62:findIn K (.ref C3) "__init__" = some (some (.ref f62))) (i62:isFn K (.ref f62)=true) (l62:K.lookup f62=some ⟨oc62,od62,.func (fnOf "__init__" "Walk.__init__" (er dP) (dk dP) (ay dP) .none kV62 dc62 pm62 an62 cd62 ct62),sl62⟩) (c62:codeIn K cd62 "Walk.__init__" = true) (k62:keepIn K (.ref f62)=true)
  (a63:findIn K (.ref C3) "take" = some (some (.ref f63))) (i63:isFn K (.ref f63)=true) (l63:K.lookup f63=some ⟨oc63,od63,.func (fnOf "take" "Walk.take" (er gb) (dk gb) (ay gb) .none kV63 dc63 pm63 an63 cd63 ct63),sl63⟩) (c63:codeIn K cd63 "Walk.take" = true) (k63:keepIn K (.ref f63)=true)
  (a64:findIn K (.ref C3) "goes_on" = some (some (.ref f64))) (i64:isFn K (.ref f64)=true) (l64:K.lookup f64=some ⟨oc64,od64,.func (fnOf "goes_on" "Walk.goes_on" (er dY) (dk dY) (ay dY) .none kV64 dc64 pm64 an64 cd64 ct64),sl64⟩) (c64:codeIn K cd64 "Walk.goes_on" = true) (k64:keepIn K (.ref f64)=true)
  (a65:findIn K (.ref C3) "brackets" = some (some (.ref f65))) (i65:isFn K (.ref f65)=true) (l65:K.lookup f65=some ⟨oc65,od65,.func (fnOf "brackets" "Walk.brackets" (er dN) (dk dN) (ay dN) .none kV65 dc65 pm65 an65 cd65 ct65),sl65⟩) (c65:codeIn K cd65 "Walk.brackets" = true) (k65:keepIn K (.ref f65)=true)
  (a66:findIn K (.ref C3) "is_whole" = some (some (.ref f66))) (i66:isFn K (.ref f66)=true) (l66:K.lookup f66=some ⟨oc66,od66,.func (fnOf "is_whole" "Walk.is_whole" (er dM) (dk dM) (ay dM) .none kV66 dc66 pm66 an66 cd66 ct66),sl66⟩) (c66:codeIn K cd66 "Walk.is_whole" = true) (k66:keepIn K (.ref f66)=true)
  (z0:nsIn K mainGlobals "len" = some none)
  (z1:nsIn K mainGlobals "list" = some none)
  (z2:nsIn K mainGlobals "isinstance" = some none)
  (z3:nsIn K mainGlobals "tuple" = some none)
  (z4:nsIn K mainGlobals "range" = some none)
  (z5:nsIn K mainGlobals "all" = some none)
  (z6:nsIn K mainGlobals "int" = some none)
  (z7:nsIn K mainGlobals "bool" = some none)
  (z8:nsIn K mainGlobals "reversed" = some none)
  (z9:nsIn K mainGlobals "enumerate" = some none)
  (z10:nsIn K mainGlobals "ValueError" = some none)
  (ca3:nsIn K mainGlobals "Walk" = some (some (.ref C3))) (pg3:plainGet K C3 Str.empty=true) (hd3:hasDictIn K C3=true) (po3:plainOver K C3=true) (sa3:findIn K (.ref C3) "__setattr__" = some (some (.builtin "object.__setattr__"))) (mk3:makesIn K C3=true) (kc3:keepIn K (.ref C3)=true)
  (na3_0:findIn K (.ref C3) "coming" = some none)
  (ca0:nsIn K mainGlobals "GlassError" = some (some (.ref C0))) (cl0:K.lookup C0=some (excClassObj nm0 qn0 C0 N0 bs0 [.type "ValueError",.type "Exception",.type "BaseException",.type "object"] hd0 sn0 sub0 ab0 co0 dd0 p00 p10 p20 p30 p50 id0))
  (cx0:excIn K C0 [.type "ValueError",.type "Exception",.type "BaseException",.type "object"] "ValueError.__new__" = true)
  (ca1:nsIn K mainGlobals "NoNode" = some (some (.ref C1))) (cl1:K.lookup C1=some (excClassObj nm1 qn1 C1 N1 bs1 [.ref C0,.type "ValueError",.type "Exception",.type "BaseException",.type "object"] hd1 sn1 sub1 ab1 co1 dd1 p01 p11 p21 p31 p51 id1))
  (cx1:excIn K C1 [.type "ValueError",.type "Exception",.type "BaseException",.type "object"] "ValueError.__new__" = true)
  (ca2:nsIn K mainGlobals "TooDeep" = some (some (.ref C2))) (cl2:K.lookup C2=some (excClassObj nm2 qn2 C2 N2 bs2 [.ref C0,.type "ValueError",.type "Exception",.type "BaseException",.type "object"] hd2 sn2 sub2 ab2 co2 dd2 p02 p12 p22 p32 p52 id2))
  (cx2:excIn K C2 [.type "ValueError",.type "Exception",.type "BaseException",.type "object"] "ValueError.__new__" = true)
  (va0:nsIn K mainGlobals "LAST_POINT" = some (some (.int 1114111 t0)))
  (va1:nsIn K mainGlobals "FIRST_PAIRED" = some (some (.int 55296 t1)))
  (va2:nsIn K mainGlobals "LAST_PAIRED" = some (some (.int 57343 t2)))
  (va3:nsIn K mainGlobals "MARKS" = some (some (.ref v3))) (vl3:K.lookup v3=some ⟨.type "tuple",vd3,.seq #[.int 0 t3_0,.int 192 t3_1,.int 224 t3_2,.int 240 t3_3] vn3,vs3⟩)
  (va4:nsIn K mainGlobals "TAIL_MARK" = some (some (.int 128 t4)))
  (va5:nsIn K mainGlobals "TAIL" = some (some (.ref v5))) (vl5:K.lookup v5=some ⟨.type "tuple",vd5,.seq #[.int 128 t5_0,.int 191 t5_1] vn5,vs5⟩)
  (va6:nsIn K mainGlobals "BLANK" = some (some (.int 32 t6)))
  (va7:nsIn K mainGlobals "QUOTE" = some (some (.int 34 t7)))
  (va8:nsIn K mainGlobals "PLUS" = some (some (.int 43 t8)))
  (va9:nsIn K mainGlobals "COMMA" = some (some (.int 44 t9)))
  (va10:nsIn K mainGlobals "MINUS" = some (some (.int 45 t10)))
  (va11:nsIn K mainGlobals "POINT" = some (some (.int 46 t11)))
  (va12:nsIn K mainGlobals "NOUGHT" = some (some (.int 48 t12)))
  (va13:nsIn K mainGlobals "NINE" = some (some (.int 57 t13)))
  (va14:nsIn K mainGlobals "COLON" = some (some (.int 58 t14)))
  (va15:nsIn K mainGlobals "BIG_E" = some (some (.int 69 t15)))
  (va16:nsIn K mainGlobals "ROW_BEGIN" = some (some (.int 91 t16)))
  (va17:nsIn K mainGlobals "BACKSLASH" = some (some (.int 92 t17)))
  (va18:nsIn K mainGlobals "ROW_END" = some (some (.int 93 t18)))
  (va19:nsIn K mainGlobals "SMALL_E" = some (some (.int 101 t19)))
  (va20:nsIn K mainGlobals "SMALL_U" = some (some (.int 117 t20)))
  (va21:nsIn K mainGlobals "FIELDS_BEGIN" = some (some (.int 123 t21)))
  (va22:nsIn K mainGlobals "FIELDS_END" = some (some (.int 125 t22)))
  (va23:nsIn K mainGlobals "WHITE" = some (some (.ref v23))) (vl23:K.lookup v23=some ⟨.type "tuple",vd23,.seq #[.int 9 t23_0,.int 10 t23_1,.int 13 t23_2,.int 32 t23_3] vn23,vs23⟩)
  (va24:nsIn K mainGlobals "WORDS" = some (some (.ref v24))) (vl24:K.lookup v24=some ⟨.type "dict",none,.dict #[⟨110,.int 110 tk24_0,.ref w24_0⟩,⟨116,.int 116 tk24_1,.ref w24_1⟩,⟨102,.int 102 tk24_2,.ref w24_2⟩] ep24,#[]⟩)
  (wl24_0:K.lookup w24_0=some ⟨.type "tuple",wd24_0,.seq #[.int 117 tx24_0_0,.int 108 tx24_0_1,.int 108 tx24_0_2] wn24_0,ws24_0⟩)
  (wl24_1:K.lookup w24_1=some ⟨.type "tuple",wd24_1,.seq #[.int 114 tx24_1_0,.int 117 tx24_1_1,.int 101 tx24_1_2] wn24_1,ws24_1⟩)
  (wl24_2:K.lookup w24_2=some ⟨.type "tuple",wd24_2,.seq #[.int 97 tx24_2_0,.int 108 tx24_2_1,.int 115 tx24_2_2,.int 101 tx24_2_3] wn24_2,ws24_2⟩)
  (vm24:(v24==sysModules)=false)
  (va25:nsIn K mainGlobals "SHORT_ESCAPES" = some (some (.ref v25))) (vl25:K.lookup v25=some ⟨.type "dict",none,.dict #[⟨34,.int 34 tk25_0,(.int 34 tv25_0)⟩,⟨92,.int 92 tk25_1,(.int 92 tv25_1)⟩,⟨47,.int 47 tk25_2,(.int 47 tv25_2)⟩,⟨98,.int 98 tk25_3,(.int 8 tv25_3)⟩,⟨102,.int 102 tk25_4,(.int 12 tv25_4)⟩,⟨110,.int 110 tk25_5,(.int 10 tv25_5)⟩,⟨114,.int 114 tk25_6,(.int 13 tv25_6)⟩,⟨116,.int 116 tk25_7,(.int 9 tv25_7)⟩] ep25,#[]⟩)
  (vm25:(v25==sysModules)=false)
  (va26:nsIn K mainGlobals "ESCAPED" = some (some (.ref v26))) (vl26:K.lookup v26=some ⟨.type "dict",none,.dict #[⟨8,.int 8 tk26_0,(.int 98 tv26_0)⟩,⟨9,.int 9 tk26_1,(.int 116 tv26_1)⟩,⟨10,.int 10 tk26_2,(.int 110 tv26_2)⟩,⟨12,.int 12 tk26_3,(.int 102 tv26_3)⟩,⟨13,.int 13 tk26_4,(.int 114 tv26_4)⟩,⟨34,.int 34 tk26_5,(.int 34 tv26_5)⟩,⟨92,.int 92 tk26_6,(.int 92 tv26_6)⟩] ep26,#[]⟩)
  (vm26:(v26==sysModules)=false)
  (va27:nsIn K mainGlobals "CODE_SIZE" = some (some (.int 6 t27)))
  (va28:nsIn K mainGlobals "MOST_BRACKETS" = some (some (.int 64 t28)))
  (va29:nsIn K mainGlobals "LOOSE" = some (some (.ref v29))) (vl29:K.lookup v29=some ⟨.type "tuple",vd29,.seq #[.str "white" t29_0,.str "figures" t29_1,.str "fraction" t29_2,.str "exponent" t29_3,.str "sign" t29_4] vn29,vs29⟩)
  (va30:nsIn K mainGlobals "UNENDED" = some (some (.ref v30))) (vl30:K.lookup v30=some ⟨.type "tuple",vd30,.seq #[.str "row" t30_0,.str "more row" t30_1,.str "fields" t30_2,.str "more fields" t30_3] vn30,vs30⟩)
  (va31:nsIn K mainGlobals "KINDS" = some (some (.ref v31))) (vl31:K.lookup v31=some ⟨.type "dict",none,.dict #[⟨34,.int 34 tk31_0,(.str "text" tv31_0)⟩,⟨91,.int 91 tk31_1,(.str "row" tv31_1)⟩,⟨102,.int 102 tk31_2,(.str "false" tv31_2)⟩,⟨110,.int 110 tk31_3,(.str "null" tv31_3)⟩,⟨116,.int 116 tk31_4,(.str "true" tv31_4)⟩,⟨123,.int 123 tk31_5,(.str "fields" tv31_5)⟩] ep31,#[]⟩)
  (vm31:(v31==sysModules)=false):
  ∃ fd:FuncData,(∀(s:Shared) (v:Value),BindsTo s fd ⟨[v],[]⟩ [("_law_script",v)]) /\ ∀ base:Heap,K.In base->base.Ns mainGlobals mg->bF l.prog w K mg base (CXE l.prog w) 14 fa fd ["_law_script"] (yz K):=by
 have e:=hfa.symm.trans (PySem.W.mg_of X G a61);cases e
 have T:Txt K mg ⟨f0,d0,f1,d1,f2,d2,f3,d3,f4,d4,f5,d5,f6,d6,f7,d7,f8,d8,f9,d9,f10,d10,f11,d11,f12,d12,f13,d13,f14,d14,f15,d15,f16,d16,f17,d17,f18,d18,f19,d19,f20,d20,f21,d21,f22,d22,f23,d23,f24,d24,f25,d25,f26,d26,f27,d27,f28,d28,f29,d29,f30,d30,f31,d31,f32,d32,f33,d33,f34,d34,f35,d35,f36,d36,f37,d37,f38,d38,f39,d39,f40,d40,f41,d41,f42,d42,f43,d43,f44,d44,f45,d45,f46,d46,f47,d47,f48,d48,f49,d49,f50,d50,f51,d51,f52,d52,f53,d53,f54,d54,f55,d55,f56,d56,f57,d57,f58,d58,f59,d59,f60,d60,f61,_,f62,_,f63,_,f64,_,f65,_,f66,_,C0,C1,C2,C3,_,_,_,v3,_,v5,_,_,_,_,_,_,_,_,_,_,_,_,_,_,_,_,_,v23,v24,v25,v26,_,_,v29,v30,v31⟩:=⟨h0.e1 X G,
  h1.e1 X G,
  h2.e1 X G,
  h3.e2 X G,
  h4.e1 X G,
  h5.e1 X G,
  h6.e1 X G,
  h7.e3 X G,
  h8.e1 X G,
  h9.e1 X G,
  h10.e1 X G,
  h11.e1 X G,
  h12.e1 X G,
  h13.e3 X G,
  h14.e1 X G,
  h15.e2 X G,
  h16.e3 X G,
  h17.e1 X G,
  h18.e1 X G,
  h19.e2 X G,
  h20.e3 X G,
  h21.e4 X G,
  h22.e2 X G,
  h23.e1 X G,
  h24.e1 X G,
  h25.e2 X G,
  h26.e2 X G,
  h27.e1 X G,
  h28.e1 X G,
  h29.e1 X G,
  h30.e2 X G,
  h31.e2 X G,
  h32.e1 X G,
  h33.e1 X G,
  h34.e0 X G,
  h35.e1 X G,
  h36.e1 X G,
  h37.e1 X G,
  h38.e3 X G,
  h39.e2 X G,
  h40.e2 X G,
  h41.e2 X G,
  h42.e2 X G,
  h43.e1 X G,
  h44.e1 X G,
  h45.e3 X G,
  h46.e4 X G,
  h47.e3 X G,
  h48.e3 X G,
  h49.e4 X G,
  h50.e4 X G,
  h51.e4 X G,
  h52.e2 X G,
  h53.e4 X G,
  h54.e2 X G,
  h55.e2 X G,
  h56.e1 X G,
  h57.e1 X G,
  h58.e2 X G,
  h59.e3 X G,
  h60.e4 X G,
  (bD a61 l61 c61 k61).e1 X G,
  j9 (st:=dP) l62 c62 k62,(j9 (st:=dP) l62 c62 k62).binds (ps:=["self"]) fun _ _ _ _ _ _ us hl=>match us,hl with|[_],_=>rfl,
  j9 (st:=gb) l63 c63 k63,⟨a63,i63,k63⟩,(j9 (st:=gb) l63 c63 k63).binds (ps:=["self","row"]) fun _ _ _ _ _ _ us hl=>match us,hl with|[_,_],_=>rfl,
  j9 (st:=dY) l64 c64 k64,⟨a64,i64,k64⟩,(j9 (st:=dY) l64 c64 k64).binds (ps:=["self","byte"]) fun _ _ _ _ _ _ us hl=>match us,hl with|[_,_],_=>rfl,
  j9 (st:=dN) l65 c65 k65,⟨a65,i65,k65⟩,(j9 (st:=dN) l65 c65 k65).binds (ps:=["self"]) fun _ _ _ _ _ _ us hl=>match us,hl with|[_],_=>rfl,
  j9 (st:=dM) l66 c66 k66,⟨a66,i66,k66⟩,(j9 (st:=dM) l66 c66 k66).binds (ps:=["self"]) fun _ _ _ _ _ _ us hl=>match us,hl with|[_],_=>rfl,
  PySem.W.mg_none_of X G z0,
  PySem.W.mg_none_of X G z1,
  PySem.W.mg_none_of X G z2,
  PySem.W.mg_none_of X G z3,
  PySem.W.mg_none_of X G z4,
  PySem.W.mg_none_of X G z5,
  PySem.W.mg_none_of X G z6,
  PySem.W.mg_none_of X G z7,
  PySem.W.mg_none_of X G z8,
  PySem.W.mg_none_of X G z9,
  PySem.W.mg_none_of X G z10,
  PySem.W.mg_of X G ca3,⟨pg3,hd3,po3,sa3⟩,⟨mk3,a62,i62,kc3⟩,
  na3_0,
  PySem.W.mg_of X G ca0,⟨by simp,_,_,_,_,_,_,_,_,_,_,_,_,_,_,_,_,cl0⟩,
  cx0,
  PySem.W.mg_of X G ca1,⟨by simp,_,_,_,_,_,_,_,_,_,_,_,_,_,_,_,_,cl1⟩,
  cx1,
  PySem.W.mg_of X G ca2,⟨by simp,_,_,_,_,_,_,_,_,_,_,_,_,_,_,_,_,cl2⟩,
  cx2,
  PySem.W.mg_of X G va0,⟨t0,rfl⟩,
  PySem.W.mg_of X G va1,⟨t1,rfl⟩,
  PySem.W.mg_of X G va2,⟨t2,rfl⟩,
  PySem.W.mg_of X G va3,rfl,fun H=>.inr ⟨_,_,_,vl3,rfl,rfl,(by show 4<=sizeLine;decide),.cons ⟨_,rfl⟩ (.cons ⟨_,rfl⟩ (.cons ⟨_,rfl⟩ (.cons ⟨_,rfl⟩ (.nil))))⟩,
  PySem.W.mg_of X G va4,⟨t4,rfl⟩,
  PySem.W.mg_of X G va5,rfl,fun H=>.inr ⟨_,_,_,vl5,rfl,rfl,(by show 2<=sizeLine;decide),.cons ⟨_,rfl⟩ (.cons ⟨_,rfl⟩ (.nil))⟩,
  PySem.W.mg_of X G va6,⟨t6,rfl⟩,
  PySem.W.mg_of X G va7,⟨t7,rfl⟩,
  PySem.W.mg_of X G va8,⟨t8,rfl⟩,
  PySem.W.mg_of X G va9,⟨t9,rfl⟩,
  PySem.W.mg_of X G va10,⟨t10,rfl⟩,
  PySem.W.mg_of X G va11,⟨t11,rfl⟩,
  PySem.W.mg_of X G va12,⟨t12,rfl⟩,
  PySem.W.mg_of X G va13,⟨t13,rfl⟩,
  PySem.W.mg_of X G va14,⟨t14,rfl⟩,
  PySem.W.mg_of X G va15,⟨t15,rfl⟩,
  PySem.W.mg_of X G va16,⟨t16,rfl⟩,
  PySem.W.mg_of X G va17,⟨t17,rfl⟩,
  PySem.W.mg_of X G va18,⟨t18,rfl⟩,
  PySem.W.mg_of X G va19,⟨t19,rfl⟩,
  PySem.W.mg_of X G va20,⟨t20,rfl⟩,
  PySem.W.mg_of X G va21,⟨t21,rfl⟩,
  PySem.W.mg_of X G va22,⟨t22,rfl⟩,
  PySem.W.mg_of X G va23,rfl,fun H=>.inr ⟨_,_,_,vl23,rfl,rfl,(by show 4<=sizeLine;decide),.cons ⟨_,rfl⟩ (.cons ⟨_,rfl⟩ (.cons ⟨_,rfl⟩ (.cons ⟨_,rfl⟩ (.nil))))⟩,
  PySem.W.mg_of X G va24,rfl,⟨[(110,.ref w24_0),(116,.ref w24_1),(102,.ref w24_2)],⟨vm24,by simp,_,_,vl24,.cons ⟨rfl,⟨_,rfl⟩,rfl⟩ (.cons ⟨rfl,⟨_,rfl⟩,rfl⟩ (.cons ⟨rfl,⟨_,rfl⟩,rfl⟩ (.nil)))⟩,.cons ⟨rfl,fun _=>by unfold Rep;exact⟨_,[.int 117,.int 108,.int 108],rfl,.inr ⟨_,_,_,wl24_0,rfl,rfl,(by show 3<=sizeLine;decide),.cons ⟨_,rfl⟩ (.cons ⟨_,rfl⟩ (.cons ⟨_,rfl⟩ (.nil)))⟩,bG.ints (ns:=[117,108,108])⟩⟩ (.cons ⟨rfl,fun _=>by unfold Rep;exact⟨_,[.int 114,.int 117,.int 101],rfl,.inr ⟨_,_,_,wl24_1,rfl,rfl,(by show 3<=sizeLine;decide),.cons ⟨_,rfl⟩ (.cons ⟨_,rfl⟩ (.cons ⟨_,rfl⟩ (.nil)))⟩,bG.ints (ns:=[114,117,101])⟩⟩ (.cons ⟨rfl,fun _=>by unfold Rep;exact⟨_,[.int 97,.int 108,.int 115,.int 101],rfl,.inr ⟨_,_,_,wl24_2,rfl,rfl,(by show 4<=sizeLine;decide),.cons ⟨_,rfl⟩ (.cons ⟨_,rfl⟩ (.cons ⟨_,rfl⟩ (.cons ⟨_,rfl⟩ (.nil))))⟩,bG.ints (ns:=[97,108,115,101])⟩⟩ (.nil)))⟩,
  PySem.W.mg_of X G va25,rfl,⟨[(34,.int 34),(92,.int 92),(47,.int 47),(98,.int 8),(102,.int 12),(110,.int 10),(114,.int 13),(116,.int 9)],⟨vm25,by simp,_,_,vl25,.cons ⟨rfl,⟨_,rfl⟩,⟨_,rfl⟩⟩ (.cons ⟨rfl,⟨_,rfl⟩,⟨_,rfl⟩⟩ (.cons ⟨rfl,⟨_,rfl⟩,⟨_,rfl⟩⟩ (.cons ⟨rfl,⟨_,rfl⟩,⟨_,rfl⟩⟩ (.cons ⟨rfl,⟨_,rfl⟩,⟨_,rfl⟩⟩ (.cons ⟨rfl,⟨_,rfl⟩,⟨_,rfl⟩⟩ (.cons ⟨rfl,⟨_,rfl⟩,⟨_,rfl⟩⟩ (.cons ⟨rfl,⟨_,rfl⟩,⟨_,rfl⟩⟩ (.nil))))))))⟩,.cons ⟨rfl,fun _=>by unfold Rep;rfl⟩ (.cons ⟨rfl,fun _=>by unfold Rep;rfl⟩ (.cons ⟨rfl,fun _=>by unfold Rep;rfl⟩ (.cons ⟨rfl,fun _=>by unfold Rep;rfl⟩ (.cons ⟨rfl,fun _=>by unfold Rep;rfl⟩ (.cons ⟨rfl,fun _=>by unfold Rep;rfl⟩ (.cons ⟨rfl,fun _=>by unfold Rep;rfl⟩ (.cons ⟨rfl,fun _=>by unfold Rep;rfl⟩ (.nil))))))))⟩,
  PySem.W.mg_of X G va26,rfl,⟨[(8,.int 98),(9,.int 116),(10,.int 110),(12,.int 102),(13,.int 114),(34,.int 34),(92,.int 92)],⟨vm26,by simp,_,_,vl26,.cons ⟨rfl,⟨_,rfl⟩,⟨_,rfl⟩⟩ (.cons ⟨rfl,⟨_,rfl⟩,⟨_,rfl⟩⟩ (.cons ⟨rfl,⟨_,rfl⟩,⟨_,rfl⟩⟩ (.cons ⟨rfl,⟨_,rfl⟩,⟨_,rfl⟩⟩ (.cons ⟨rfl,⟨_,rfl⟩,⟨_,rfl⟩⟩ (.cons ⟨rfl,⟨_,rfl⟩,⟨_,rfl⟩⟩ (.cons ⟨rfl,⟨_,rfl⟩,⟨_,rfl⟩⟩ (.nil)))))))⟩,.cons ⟨rfl,fun _=>by unfold Rep;rfl⟩ (.cons ⟨rfl,fun _=>by unfold Rep;rfl⟩ (.cons ⟨rfl,fun _=>by unfold Rep;rfl⟩ (.cons ⟨rfl,fun _=>by unfold Rep;rfl⟩ (.cons ⟨rfl,fun _=>by unfold Rep;rfl⟩ (.cons ⟨rfl,fun _=>by unfold Rep;rfl⟩ (.cons ⟨rfl,fun _=>by unfold Rep;rfl⟩ (.nil)))))))⟩,
  PySem.W.mg_of X G va27,⟨t27,rfl⟩,
  PySem.W.mg_of X G va28,⟨t28,rfl⟩,
  PySem.W.mg_of X G va29,rfl,fun H=>.inr ⟨_,_,_,vl29,rfl,rfl,(by show 5<=sizeLine;decide),.cons ⟨_,rfl⟩ (.cons ⟨_,rfl⟩ (.cons ⟨_,rfl⟩ (.cons ⟨_,rfl⟩ (.cons ⟨_,rfl⟩ (.nil)))))⟩,
  PySem.W.mg_of X G va30,rfl,fun H=>.inr ⟨_,_,_,vl30,rfl,rfl,(by show 4<=sizeLine;decide),.cons ⟨_,rfl⟩ (.cons ⟨_,rfl⟩ (.cons ⟨_,rfl⟩ (.cons ⟨_,rfl⟩ (.nil))))⟩,
  PySem.W.mg_of X G va31,rfl,⟨[(34,.str "text"),(91,.str "row"),(102,.str "false"),(110,.str "null"),(116,.str "true"),(123,.str "fields")],⟨vm31,by simp,_,_,vl31,.cons ⟨rfl,⟨_,rfl⟩,⟨_,rfl⟩⟩ (.cons ⟨rfl,⟨_,rfl⟩,⟨_,rfl⟩⟩ (.cons ⟨rfl,⟨_,rfl⟩,⟨_,rfl⟩⟩ (.cons ⟨rfl,⟨_,rfl⟩,⟨_,rfl⟩⟩ (.cons ⟨rfl,⟨_,rfl⟩,⟨_,rfl⟩⟩ (.cons ⟨rfl,⟨_,rfl⟩,⟨_,rfl⟩⟩ (.nil))))))⟩,.cons ⟨rfl,fun _=>by unfold Rep;rfl⟩ (.cons ⟨rfl,fun _=>by unfold Rep;rfl⟩ (.cons ⟨rfl,fun _=>by unfold Rep;rfl⟩ (.cons ⟨rfl,fun _=>by unfold Rep;rfl⟩ (.cons ⟨rfl,fun _=>by unfold Rep;rfl⟩ (.cons ⟨rfl,fun _=>by unfold Rep;rfl⟩ (.nil))))))⟩⟩
 exact⟨_,fun s v=>.of_eq rfl,fun base _ _=>(K1 T).imp (Gd fun ns h=>Ek ns h)⟩
theorem walk{l:PySem.W.OpenLaw}{q:Program}{loose:List Str}{XP:(Str->Option Value)->Heap->Prop}{YP:World->Heap->Prop}{d:DefRec}{K:Params->PySem.W.Frag}(hn:l.most=some 63)(hdf:d.params.defaults=[])
  (hY:∀(w:World) (h:Heap),YP w h->(K w.params).In h)
  (F:∀(w:World) (mg:Str->Option Value) (fa:Addr) (h:Heap),(K w.params).In h->h.Ns mainGlobals mg->mg d.name=some (.ref fa) ->
    ∃ fd:FuncData,(∀(s:Shared) (u:Value),BindsTo s fd ⟨[u],[]⟩ [("_law_script",u)]) /\ ∀ base:Heap,(K w.params).In base->base.Ns mainGlobals mg->bF l.prog w (K w.params) mg base (CXE l.prog w) 14 fa fd ["_law_script"] (yz (K w.params))):
  PySem.W.WalkO q loose XP YP l.row.toRowW d [] (fun f vs=>PySem.call f vs):=
 L2.GB (n:=63) (k:=14) (x:="_law_script") (CX:=fun w=>CXE l.prog w) (sp:=fun w=>yz (K w.params)) hn (by decide) hdf ⟨rfl,by decide,by decide⟩ hY F (fun _ _ a ns hl _ hS=>⟨a,ns,rfl,hS,hl,fun _=>rfl⟩) fun _ _ _ _ _ z=>let ⟨_,_,_,_,_,_,_,_,_,_,f⟩:=z;f
end L2.plainglass_k44_texts_too_deep
open PySem PySem.W PyProof.Rows
namespace PySem.W.Fast
def tw6748959927324430905:=0
def tw9495969529234113116:=0
def tw12529450750211553924:=0
def tw136866089439955622:=0
def tw7461754029257397419:=0
def tw7057246581251098977:=0
def tw17908181980860442803:=0
def tw15908909608069559020:=0
def tw4192769760486375280:=0
def tw5730721022412633081:=0
def tw6519744032622414423:=0
def tw4556818458799046150:=0
def tw9909178719771761681:=0
def tw12123745779748316675:=0
def tw9726314353695847622:=0
def tw15111947329696750123:=0
def tw5593571771368221977:=0
def tw18444989499079173816:=0
def tw6635440309982297925:=0
def tw13155997787498754228:=0
def tw530410081122030568:=0
def tw10130380171271035815:=0
def tw7161410771141239750:=0
def tw7910838348852944071:=0
def tw5959255027961884922:=0
def tw17933363145303997460:=0
def tw16582665948926431274:=0
def tw11313857349364284805:=0
def tw3546302083160675137:=0
def tw11545718082385627108:=0
def tw4188860194580595883:=0
def tw7314376231212828395:=0
def tw17589234158782857971:=0
def tw4430800706462104028:=0
def tw4220930663454334592:=0
def tw1234521290502285066:=0
def tw8237847989868742719:=0
def tw8073205919538509023:=0
def tw15025764044870056264:=0
def tw8191805517948441456:=0
def tw9916387461300868258:=0
def tw13421741252810904363:=0
def tw11267326197688760911:=0
def tw15899628045900664977:=0
def tw16411995923168717723:=0
def tw16612016869195370923:=0
def tw11377109849180232313:=0
def tw9930963163455156571:=0
def tw9347461317727865981:=0
def tw7509456328786911864:=0
def tw5757172640048765273:=0
def tw3234084278832118182:=0
def tw2827556070592238686:=0
def tw4350409912225480116:=0
def tw18314878771844286322:=0
def tw13438409959941199268:=0
def tw5661011916847238522:=0
def tw7928857190729278066:=0
def tw9039561484770993553:=0
def tw15051012885558101315:=0
def tw4183731073636238866:=0
def tw16998242143399438984:=0
def tw14622971472533362576:=0
def tw1428646682903491315:=0
def tw8930677219260090340:=0
def tw3668404589250697871:=0
def tw8756590959532225301:=0
def tw6359209624497500718:=0
def tw7567084372262968000:=0
def tw5847073627761993991:=0
def tw1421311743724246393:=0
def tw7430532689421636655:=0
def tw13873889015308709962:=0
def tw11358224921437069378:=0
def tw11986042282550187558:=0
def tw16788519763677421725:=0
def tw4686828535657093530:=0
def tw1284400760859609865:=0
def tw13085291723650290522:=0
def tw11994295931557339170:=0
def tw12617742296631920068:=0
def tw10916645840150035772:=0
def tw6555510501772964217:=0
def tw18019743420241581283:=0
def tw2754214460622245560:=0
def tw11697846691481585166:=0
def tw7264402834917067685:=0
def tw14692677320563429596:=0
def tw955244592212466729:=0
def tw8789244310451464324:=0
def tw18193225363162085652:=0
def tw852259680517115608:=0
def tw3559404870044232543:=0
def tw15176583843289852955:=0
def tw7845701881993513832:=0
def tw7237458480308360269:=0
def tw14657917839352014133:=0
def tw5080655692571625893:=0
def tw1266031184963309351:=0
def tw1234903843966984674:=0
def tw9342619908613609275:=0
def tw6526121835519818740:=0
def tw14494794244752425931:=0
def tw18046400923271025043:=0
def tw9816100800989808901:=0
def tw6480477135656810340:=0
def tw5240084454054969449:=0
def tw8938335225885451576:=0
def tw7140662951158918378:=0
def tw12908564509866068278:=0
def tw4048981036229862110:=0
def tw6521564289287597365:=0
def tw6189885660037408186:=0
def tw3255840836913714752:=0
def tw17443090879243516361:=0
def tw14085318396580221804:=0
def tw9049125088506298972:=0
def tw11016394872639321113:=0
def tw6903789508199308946:=0
def tw18371787760143245668:=0
def tw18036036690768593735:=0
def tw17601829804395816621:=0
def tw1841227100127302815:=0
def tw10857519814904031448:=0
def tw6540576119076703453:=0
def tw15783505772529937844:=0
def tw14846249471498717107:=0
def tw8438071418872451285:=0
def tw11923007214152915334:=0
def tw2394765841981555796:=0
def tw18439816956618634576:=0
def tw5304883206679465666:=0
def tw18264769649546594273:=0
def tw11106655471739334539:=0
def tw1382711596557976713:=0
def tw15409465197957547805:=0
def tw7736632201796197904:=0
def tw11637380340867854091:=0
def tw16254825982696290818:=0
def tw16129594020215280027:=0
def tw9376129298288887554:=0
def tw4282114565046106636:=0
def tw6125303218918840869:=0
def tw9384362747885723434:=0
def tw8125832568986599962:=0
def tw1556461683455794604:=0
def tw13502033916039776156:=0
def tw14887648385132148383:=0
def tw13855952452112020442:=0
def tw13899862519728645377:=0
def tw1520166150192042813:=0
def tw4683471357295690079:=0
def tw7393021263816520448:=0
def tw3243008070896228546:=0
def tw14885556527669239912:=0
def tw1672466313211096001:=0
def tw15345641004290995002:=0
def tw3463946257391686643:=0
def tw16759572767973287231:=0
def tw490349102428502413:=0
end PySem.W.Fast
set_option maxRecDepth 100000 in
set_option maxHeartbeats 0 in
theorem PySem.Challenge.cw_plainglass_k44_texts_too_deep_holds : PySem.Challenge.rw_plainglass_k44_texts_too_deep.Holds := by
 w_on;o_law;k_head;(case hw=>w_witness2)
 k_fill
 refine L2.plainglass_k44_texts_too_deep.walk (l:=PySem.Challenge.rw_plainglass_k44_texts_too_deep) rfl rfl (fun w h Y=>PySem.W.kIn_of Y) ?F
 case F=>
  intro w mg fa h KX G hmg
  refine' L2.plainglass_k44_texts_too_deep.all_mk KX G hmg (L2.E.bD ?a0 ?l0 ?c0 ?k0) (L2.E.bD ?a1 ?l1 ?c1 ?k1) (L2.E.bD ?a2 ?l2 ?c2 ?k2) (L2.E.bD ?a3 ?l3 ?c3 ?k3) (L2.E.bD ?a4 ?l4 ?c4 ?k4) (L2.E.bD ?a5 ?l5 ?c5 ?k5) (L2.E.bD ?a6 ?l6 ?c6 ?k6) (L2.E.bD ?a7 ?l7 ?c7 ?k7) (L2.E.bD ?a8 ?l8 ?c8 ?k8) (L2.E.bD ?a9 ?l9 ?c9 ?k9) (L2.E.bD ?a10 ?l10 ?c10 ?k10) (L2.E.bD ?a11 ?l11 ?c11 ?k11) (L2.E.bD ?a12 ?l12 ?c12 ?k12) (L2.E.bD ?a13 ?l13 ?c13 ?k13) (L2.E.bD ?a14 ?l14 ?c14 ?k14) (L2.E.bD ?a15 ?l15 ?c15 ?k15) (L2.E.bD ?a16 ?l16 ?c16 ?k16) (L2.E.bD ?a17 ?l17 ?c17 ?k17) (L2.E.bD ?a18 ?l18 ?c18 ?k18) (L2.E.bD ?a19 ?l19 ?c19 ?k19) (L2.E.bD ?a20 ?l20 ?c20 ?k20) (L2.E.bD ?a21 ?l21 ?c21 ?k21) (L2.E.bD ?a22 ?l22 ?c22 ?k22) (L2.E.bD ?a23 ?l23 ?c23 ?k23) (L2.E.bD ?a24 ?l24 ?c24 ?k24) (L2.E.bD ?a25 ?l25 ?c25 ?k25) (L2.E.bD ?a26 ?l26 ?c26 ?k26) (L2.E.bD ?a27 ?l27 ?c27 ?k27) (L2.E.bD ?a28 ?l28 ?c28 ?k28) (L2.E.bD ?a29 ?l29 ?c29 ?k29) (L2.E.bD ?a30 ?l30 ?c30 ?k30) (L2.E.bD ?a31 ?l31 ?c31 ?k31) (L2.E.bD ?a32 ?l32 ?c32 ?k32) (L2.E.bD ?a33 ?l33 ?c33 ?k33) (L2.E.bD ?a34 ?l34 ?c34 ?k34) (L2.E.bD ?a35 ?l35 ?c35 ?k35) (L2.E.bD ?a36 ?l36 ?c36 ?k36) (L2.E.bD ?a37 ?l37 ?c37 ?k37) (L2.E.bD ?a38 ?l38 ?c38 ?k38) (L2.E.bD ?a39 ?l39 ?c39 ?k39) (L2.E.bD ?a40 ?l40 ?c40 ?k40) (L2.E.bD ?a41 ?l41 ?c41 ?k41) (L2.E.bD ?a42 ?l42 ?c42 ?k42) (L2.E.bD ?a43 ?l43 ?c43 ?k43) (L2.E.bD ?a44 ?l44 ?c44 ?k44) (L2.E.bD ?a45 ?l45 ?c45 ?k45) (L2.E.bD ?a46 ?l46 ?c46 ?k46) (L2.E.bD ?a47 ?l47 ?c47 ?k47) (L2.E.bD ?a48 ?l48 ?c48 ?k48) (L2.E.bD ?a49 ?l49 ?c49 ?k49) (L2.E.bD ?a50 ?l50 ?c50 ?k50) (L2.E.bD ?a51 ?l51 ?c51 ?k51) (L2.E.bD ?a52 ?l52 ?c52 ?k52) (L2.E.bD ?a53 ?l53 ?c53 ?k53) (L2.E.bD ?a54 ?l54 ?c54 ?k54) (L2.E.bD ?a55 ?l55 ?c55 ?k55) (L2.E.bD ?a56 ?l56 ?c56 ?k56) (L2.E.bD ?a57 ?l57 ?c57 ?k57) (L2.E.bD ?a58 ?l58 ?c58 ?k58) (L2.E.bD ?a59 ?l59 ?c59 ?k59) (L2.E.bD ?a60 ?l60 ?c60 ?k60) ?a61 ?l61 ?c61 ?k61 ?a62 ?i62 ?l62 ?c62 ?k62 ?a63 ?i63 ?l63 ?c63 ?k63 ?a64 ?i64 ?l64 ?c64 ?k64 ?a65 ?i65 ?l65 ?c65 ?k65 ?a66 ?i66 ?l66 ?c66 ?k66 ?z0 ?z1 ?z2 ?z3 ?z4 ?z5 ?z6 ?z7 ?z8 ?z9 ?z10 ?ca3 ?pg3 ?hd3 ?po3 ?sa3 ?mk3 ?kc3 ?na3_0 ?ca0 ?cl0 ?cx0 ?ca1 ?cl1 ?cx1 ?ca2 ?cl2 ?cx2 ?va0 ?va1 ?va2 ?va3 ?vl3 ?va4 ?va5 ?vl5 ?va6 ?va7 ?va8 ?va9 ?va10 ?va11 ?va12 ?va13 ?va14 ?va15 ?va16 ?va17 ?va18 ?va19 ?va20 ?va21 ?va22 ?va23 ?vl23 ?va24 ?vl24 ?wl24_0 ?wl24_1 ?wl24_2 ?vm24 ?va25 ?vl25 ?vm25 ?va26 ?vl26 ?vm26 ?va27 ?va28 ?va29 ?vl29 ?va30 ?vl30 ?va31 ?vl31 ?vm31
  (case ca3|a0|l0|c0|k0|a1|l1|c1|k1|a2|l2|c2|k2|a3|l3|c3|k3|a4|l4|c4|k4|a5|l5|c5|k5|a6|l6|c6|k6|a7|l7|c7|k7|a8|l8|c8|k8|a9|l9|c9|k9|a10|l10|c10|k10|a11|l11|c11|k11|a12|l12|c12|k12|a13|l13|c13|k13|a14|l14|c14|k14|a15|l15|c15|k15|a16|l16|c16|k16|a17|l17|c17|k17|a18|l18|c18|k18|a19|l19|c19|k19|a20|l20|c20|k20|a21|l21|c21|k21|a22|l22|c22|k22|a23|l23|c23|k23|a24|l24|c24|k24|a25|l25|c25|k25|a26|l26|c26|k26|a27|l27|c27|k27|a28|l28|c28|k28|a29|l29|c29|k29|a30|l30|c30|k30|a31|l31|c31|k31|a32|l32|c32|k32|a33|l33|c33|k33|a34|l34|c34|k34|a35|l35|c35|k35|a36|l36|c36|k36|a37|l37|c37|k37|a38|l38|c38|k38|a39|l39|c39|k39|a40|l40|c40|k40|a41|l41|c41|k41|a42|l42|c42|k42|a43|l43|c43|k43|a44|l44|c44|k44|a45|l45|c45|k45|a46|l46|c46|k46|a47|l47|c47|k47|a48|l48|c48|k48|a49|l49|c49|k49|a50|l50|c50|k50|a51|l51|c51|k51|a52|l52|c52|k52|a53|l53|c53|k53|a54|l54|c54|k54|a55|l55|c55|k55|a56|l56|c56|k56|a57|l57|c57|k57|a58|l58|c58|k58|a59|l59|c59|k59|a60|l60|c60|k60|a61|l61|c61|k61|a62|i62|l62|c62|k62|a63|i63|l63|c63|k63|a64|i64|l64|c64|k64|a65|i65|l65|c65|k65|a66|i66|l66|c66|k66|z0|z1|z2|z3|z4|z5|z6|z7|z8|z9|z10|pg3|hd3|po3|sa3|mk3|kc3|na3_0|ca0|cl0=>k_is)
  (case cx0=>k_exc)
  (case ca1|cl1=>k_is)
  (case cx1=>k_exc)
  (case ca2|cl2=>k_is)
  (case cx2=>k_exc)
  (case va0|va1|va2|va3|vl3|va4|va5|vl5|va6|va7|va8|va9|va10|va11|va12|va13|va14|va15|va16|va17|va18|va19|va20|va21|va22|va23|vl23|va24|vl24|wl24_0|wl24_1|wl24_2=>k_is)
  (case vm24=>first|decide|rfl)
  (case va25|vl25=>k_is)
  (case vm25=>first|decide|rfl)
  (case va26|vl26=>k_is)
  (case vm26=>first|decide|rfl)
  (case va27|va28|va29|vl29|va30|vl30|va31|vl31=>k_is)
  (case vm31=>first|decide|rfl)
