import PyProof.Rows.All
import Wide.All
import OpenK.AllK
import Wide.FinOn
import Lean
import PyProof.EqAt
import PyProof.EqKinds
import PyProof.TupleCall
import PySem.Challenge.RW_plainglass_k11_nodes_told
set_option Elab.async false
set_option linter.all false
set_option maxRecDepth 100000
namespace L2
open PySem PySem.Spec PyProof.Rows
abbrev Key:=Sum Int Str
def ye:Key->Value->Bool
 |.inl k,v=>Value.isInt k v
 |.inr x,v=>Value.isStrOf x v
def Oa(w:World):Key->Int
 |.inl k=>hashInt k
 |.inr x=>hashStr w x
theorem fE:∀{k:Key} {v:Value},ye k v=true->(∃ i t,k=Sum.inl i /\ v=Value.int i t) \/ (∃ x t,k=Sum.inr x /\ v=Value.str x t)
 | .inl i,v,h=>by
   obtain⟨t,e⟩:=Value.isInt_shape (k:=i) (v:=v) h;exact .inl ⟨i,t,rfl,e⟩
 | .inr x,v,h=>by
   obtain⟨t,e⟩:=Value.isStrOf_shape (x:=x) (v:=v) h;exact .inr ⟨x,t,rfl,e⟩
theorem DW(i:Int)(t:Tok):ye (.inl i) (.int i t)=true:=by simp[ye,Value.isInt]
theorem DB(x:Str)(t:Tok):ye (.inr x) (.str x t)=true:=by simp[ye,Value.isStrOf]
theorem LM(a b:Int):decide ((Sum.inl a:Key)=Sum.inl b)=(a==b):=by
 by_cases e:a=b
 . subst e;simp
 . have h:¬ (Sum.inl a:Key)=Sum.inl b:=fun q=>e (Sum.inl.inj q)
   rw[decide_eq_false h]
   exact(beq_eq_false_iff_ne.mpr e).symm
theorem L3(a b:Str):decide ((Sum.inr a:Key)=Sum.inr b)=decide (a=b):=by
 by_cases e:a=b
 . subst e;simp
 . have h:¬ (Sum.inr a:Key)=Sum.inr b:=fun q=>e (Sum.inr.inj q)
   rw[decide_eq_false h,decide_eq_false e]
theorem Kq(a:Int)(b:Str):decide ((Sum.inl a:Key)=Sum.inr b)=false:=decide_eq_false (fun q=>nomatch q)
theorem Lx(a:Str)(b:Int):decide ((Sum.inr a:Key)=Sum.inl b)=false:=decide_eq_false (fun q=>nomatch q)
def gf(prog:Program)(w:World):PySem.KeyKind prog w Key where
 is:=ye
 hash:=Oa w
 inj:=fun v a b ha hb=>by
  rcases fE ha with⟨i,t,rfl,rfl⟩|⟨x,t,rfl,rfl⟩
  . rcases fE hb with⟨j,u,rfl,e⟩|⟨y,u,rfl,e⟩
    . injection e with e1 _;rw[e1]
    . exact nomatch e
  . rcases fE hb with⟨j,u,rfl,e⟩|⟨y,u,rfl,e⟩
    . exact nomatch e
    . injection e with e1 _;rw[e1]
 byValue:=fun k v h=>by
  rcases fE h with⟨i,t,rfl,rfl⟩|⟨x,t,rfl,rfl⟩<;>rfl
 pyHash:=fun hv h=>by
  rcases fE hv with⟨i,t,rfl,rfl⟩|⟨x,t,rfl,rfl⟩
  . exact wpAny_pyHash_int h
  . exact wpAny_pyHash_str h
 eqBool:=fun hu hv h=>by
  rcases fE hu with⟨i,t,rfl,rfl⟩|⟨x,t,rfl,rfl⟩
  . rcases fE hv with⟨j,u,rfl,rfl⟩|⟨y,u,rfl,rfl⟩
    . rw[LM]at h;exact wpAny_eqBool_int h
    . rw[Kq]at h;exact SeqAt.EqAt.int_str i t y u _ _ _ _ h
  . rcases fE hv with⟨j,u,rfl,rfl⟩|⟨y,u,rfl,rfl⟩
    . rw[Lx]at h;exact SeqAt.EqAt.str_int x t j u _ _ _ _ h
    . rw[L3]at h;exact wpAny_eqBool_str h
 «strs»:=fun k x t v h=>by
  rcases fE h with⟨i,u,rfl,e⟩|⟨y,u,rfl,e⟩
  . exact nomatch e
  . injection e with e1 _
    subst e1
    cases v<;>rfl
theorem Ae(prog:Program)(w:World)(i:Int)(t:Tok):(gf prog w).is (.inl i) (.int i t)=true:=DW i t
theorem AX(prog:Program)(w:World)(x:Str)(t:Tok):(gf prog w).is (.inr x) (.str x t)=true:=DB x t
inductive V where
 |non|bl (b:Bool)|int (i:Int)|str (x:Str)|byt (b:Array UInt8)|flt (b:UInt64)|ref (a:Addr)|ty (n:String)
 deriving DecidableEq
def RelV:V->Value->Prop
 |.non,u=>u=Value.none
 |.bl b,u=>u=Value.bool b
 |.int i,u=>∃ t,u=Value.int i t
 |.str x,u=>∃ t,u=Value.str x t
 |.byt b,u=>∃ t,u=Value.bytes b t
 |.flt b,u=>∃ t,u=Value.float b t
 |.ref a,u=>u=Value.ref a
 |.ty n,u=>u=Value.type n
abbrev Vals:List V->List Value->Prop:=Paired RelV
theorem Vals.length{xs:List V}{us:List Value}(r:Vals xs us):xs.length=us.length:=Paired.length r
theorem Vals.get:∀{xs:List V} {us:List Value} {i:Nat} {x:V},Vals xs us->xs[i]?=some x->∃ u,us[i]?=some u /\ RelV x u
 |_,_,_,_,.nil,e=>by simp at e
 |_,_,0,_,.cons r _,e=>by simp at e;subst e;exact⟨_,rfl,r⟩
 | _,_,i+1,x,.cons _ t,e=>by
   obtain⟨u,h1,h2⟩:=Vals.get (i:=i) (x:=x) t (by simpa using e)
   exact⟨u,by simpa using h1,h2⟩
theorem Vals.set(r:RelV x u):∀{xs:List V} {us:List Value} (i:Nat),Vals xs us->Vals (xs.set i x) (us.set i u)
 |_,_,_,.nil=>.nil
 |_,_,0,.cons _ t=>.cons r t
 |_,_,i+1,.cons q t=>.cons q (Vals.set r i t)
theorem Vals.append:∀{xs ys:List V} {us ws:List Value},Vals xs us->Vals ys ws->Vals (xs++ys) (us++ws)
 |_,_,_,_,.nil,s=>s
 |_,_,_,_,.cons r t,s=>.cons r (Vals.append t s)
theorem Vals.take:∀{xs:List V} {us:List Value} (n:Nat),Vals xs us->Vals (xs.take n) (us.take n)
 |_,_,0,_=>.nil
 |_,_,_+1,.nil=>.nil
 |_,_,n+1,.cons r t=>.cons r (Vals.take n t)
theorem Vals.drop:∀{xs:List V} {us:List Value} (n:Nat),Vals xs us->Vals (xs.drop n) (us.drop n)
 |_,_,0,r=>r
 |_,_,_+1,.nil=>.nil
 |_,_,n+1,.cons _ t=>Vals.drop n t
def bA:Option V->Option Value->Prop
 |some v,some u=>RelV v u
 |none,none=>True
 |_,_=>False
def KV{κ:Type}:List (κ×V)->List (κ×Value)->Prop:=Paired fun (p:κ×V) (q:κ×Value)=>p.1=q.1 /\ RelV p.2 q.2
def kV:Key->V
 |.inl i=>.int i
 |.inr x=>.str x
inductive HO where
  |lst (xs:List V)
  |tup (xs:List V)
  |dK (kvs:List (Key×V))|dT (kvs:List (List Key×V))
  |set (S:Int->Bool) (n:Nat)
  |ins (C dx:Addr) (fs:List (Str×V))
  |own (x:Addr)
  |xd (fs:List (Str×V))
  |met (f x:Addr)
  |rng (lo hi:Int)
  |frz (o:Obj) (u:HO)
  |tbl (ps:Array Value)
  |ext (φ:Heap->Prop)
abbrev Hp:=Addr->Option HO
def upd(H:Hp)(a:Addr)(o:HO):Hp:=fun b=>if b=a then some o else H b
theorem bC:upd H a o a=some o:=by unfold upd;rw[if_pos rfl]
theorem bQ(h:b≠a):upd H a o b=H b:=by unfold upd;rw[if_neg h]
theorem HE:upd (upd H a o) a u=upd H a u:=by
 funext b;unfold upd;split<;>rfl
theorem eZ{H:Hp}{a b:Addr}{o:HO}(h:H a=some o)(h':H b=none):a≠b:=by
 intro e;subst e;rw[h]at h';cases h'
section
variable(P:Program)(w:World)
def gJ(H:Hp)(h:Heap)(a:Addr):HO->Prop
 |.lst xs=>xs.length<=sizeLine /\ ∃(its:List Value) (n:Nat),Vals xs its /\ h.get? a=some { cls:=.type "list",data:=.seq its.toArray n }
 |.tup xs=>xs.length<=sizeLine /\ ∃ its:List Value,Vals xs its /\ IsTup h a its.toArray
 |.dK kvs=>kvs.length<=sizeLine /\ (a==sysModules)=false /\ ∃ vs,KV kvs vs /\ h.DictOf (gf P w) a vs
 | .dT kvs=>kvs.length <= sizeLine /\ (a == sysModules) = false /\ ∃ xs:List (List Key × Addr × Value),
    Paired (fun (p:List Key×V) (q:List Key×Addr×Value)=>p.1=q.1 /\ H q.2.1=some (.tup (p.1.map kV)) /\ RelV p.2 q.2.2) kvs xs /\
    ∃ o es ep,h.get? a=some o /\ o.ExactDict /\ o.data=.dict es ep /\ es.toList=xs.map (entryOfKey (tupleKind (gf P w))) /\ (xs.map (·.1)).Nodup
 |.set S n=>h.SetOf (intKind P w) a S n
 | .ins C dx fs=>H dx = some (.own a) /\ fs.length <= 1000 /\ dx ≠ a /\ h.get? a = some (PySem.W.instObj C dx) /\
    ∃ mA,h.Ns1 dx mA /\ (∀ f,bA (fs.lookup f) (mA f)) /\ PySem.Within mA (fs.map (·.1))
 |.own _=>∃ o,h.get? a=some o
 |.xd fs=>∃ mA,h.Ns1 a mA /\ ∀ f,bA (fs.lookup f) (mA f)
 |.rng lo hi=>∃ t u v,h.get? a=some { cls:=.type "range",data:=.fields #[.int lo t,.int hi u,.int 1 v] }
 |.frz o u=>h.get? a=some o /\ gJ H h a u
 |.tbl ps=>h.get? a=some { cls:=.none,data:=.fields ps }
 |.met f x=>h.get? a=some (PySem.W.methodObj (.ref f) (.ref x))
 |.ext φ=>φ h /\ (∃ o,h.get? a=some o) /\ ∀ h1 h2:Heap,φ h1->(∀ o,h1.get? a=some o->h2.get? a=some o)->φ h2
def HOk(H:Hp)(h:Heap):Prop:=∀ a o,H a=some o->gJ P w H h a o
end
section
variable{P:Program}{w:World}{H H':Hp}{h h':Heap}{a:Addr}{o:HO}
theorem gJ.lt(x:gJ P w H h a o):a<h.objs.size:=by
 cases o with
 |lst xs=>obtain⟨_,_,_,_,e⟩:=x;exact Heap.lt_size e
 |tup xs=>obtain⟨_,_,_,p⟩:=x;exact p.lt
 |dK kvs=>obtain⟨_,_,_,_,o,_,_,e,_⟩:=x;exact Heap.lt_size e
 |dT kvs=>obtain⟨_,_,_,_,o,_,_,e,_⟩:=x;exact Heap.lt_size e
 |set S n=>obtain⟨o,_,_,_,e,_⟩:=x;exact Heap.lt_size e
 |ins C dx fs=>obtain⟨_,_,_,e,_⟩:=x;exact Heap.lt_size e
 |own y=>obtain⟨_,e⟩:=x;exact Heap.lt_size e
 |xd fs=>obtain⟨_,⟨_,_,_,e,_⟩,_⟩:=x;exact Heap.lt_size e
 |rng lo hi=>obtain⟨_,_,_,e⟩:=x;exact Heap.lt_size e
 |frz ob u=>obtain⟨e,_⟩:=x;exact Heap.lt_size e
 |tbl ps=>exact Heap.lt_size (show h.get? a=some _ from x)
 |met f y=>exact Heap.lt_size (show h.get? a=some _ from x)
 |ext φ=>obtain⟨_,⟨_,e⟩,_⟩:=x;exact Heap.lt_size e
theorem Paired.LZ{α β:Type}{F G:α->β->Prop}:∀{l₁:List α} {l₂:List β},Paired F l₁ l₂->(∀ a b,F a b->G a b)->Paired G l₁ l₂
 |_,_,.nil,_=>.nil
 |_,_,.cons r t,f=>.cons (f _ _ r) (Paired.LZ t f)
theorem gJ.vn(x:gJ P w H h a o)(k:∀ b u,(b=a \/ H b=some (.own a))->h.get? b=some u->h'.get? b=some u)
  (ho:∀ b,H b=some (.own a)->H' b=some (.own a)) (ht:∀ b xs,H b=some (.tup xs)->H' b=some (.tup xs)):gJ P w H' h' a o:=by
 induction o with
 |lst xs=>obtain⟨z,its,n,r,e⟩:=x;exact⟨z,its,n,r,k _ _ (.inl rfl) e⟩
 |tup xs=>obtain⟨z,its,r,ob,e,c⟩:=x;exact⟨z,its,r,ob,k _ _ (.inl rfl) e,c⟩
 |dK kvs=>obtain⟨z,y,vs,r,ob,es,ep,e,c⟩:=x;exact⟨z,y,vs,r,ob,es,ep,k _ _ (.inl rfl) e,c⟩
 | dT kvs=>
   obtain⟨z,y,xs,r,ob,es,ep,e,c⟩:=x
   exact⟨z,y,xs,Paired.LZ r fun p q z=>⟨z.1,ht _ _ z.2.1,z.2.2⟩,ob,es,ep,k _ _ (.inl rfl) e,c⟩
 |set S n=>obtain⟨ob,es,ep,t,e,c⟩:=x;exact⟨ob,es,ep,t,k _ _ (.inl rfl) e,c⟩
 | ins C dx fs=>
   obtain⟨d,z,ne,e,mA,⟨od,es,ep,e2,c⟩,r⟩:=x
   exact⟨ho _ d,z,ne,k _ _ (.inl rfl) e,mA,⟨od,es,ep,k _ _ (.inr d) e2,c⟩,r⟩
 |own y=>obtain⟨ob,e⟩:=x;exact⟨ob,k _ _ (.inl rfl) e⟩
 |xd fs=>obtain⟨mA,⟨od,es,ep,e,c⟩,r⟩:=x;exact⟨mA,⟨od,es,ep,k _ _ (.inl rfl) e,c⟩,r⟩
 |rng lo hi=>obtain⟨t,u,v,e⟩:=x;exact⟨t,u,v,k _ _ (.inl rfl) e⟩
 |frz ob u ih=>obtain⟨e,q⟩:=x;exact⟨k _ _ (.inl rfl) e,ih q⟩
 | tbl ps=>
   have e:h.get? a=some { cls:=.none,data:=.fields ps }:=x
   show h'.get? a=some { cls:=.none,data:=.fields ps };exact k a _ (.inl rfl) e
 | met f y=>
   have e:h.get? a=some (PySem.W.methodObj (.ref f) (.ref y)):=x
   show h'.get? a=some (PySem.W.methodObj (.ref f) (.ref y));exact k a _ (.inl rfl) e
 |ext φ=>obtain⟨p,⟨o,e⟩,st⟩:=x;exact⟨st _ _ p fun o q=>k _ _ (.inl rfl) q,⟨o,k _ _ (.inl rfl) e⟩,st⟩
theorem HOk.lt(x:HOk P w H h)(e:H a=some o):a<h.objs.size:=(x a o e).lt
theorem HOk.fresh(x:HOk P w H h)(e:h.objs.size<=a):H a=none:=by
 cases q:H a with
 |none=>rfl
 |some u=>exact absurd (Nat.lt_of_lt_of_le (x.lt q) e) (Nat.lt_irrefl _)
theorem HOk.kept(x:HOk P w H h)(k:∀ b u,h.get? b=some u->h'.get? b=some u):HOk P w H h':=fun a o e=>
 (x a o e).vn (fun b u _ q=>k b u q) (fun _ q=>q) fun _ _ q=>q
theorem HOk.laid(x:HOk P w H h)(k:∀ b u,h.get? b=some u->h'.get? b=some u)(hp:h.objs.size<=a)(new:gJ P w (upd H a o) h' a o):HOk P w (upd H a o) h':=fun b u e=>by
 have hn:=x.fresh hp
 by_cases hb:b=a
 . subst hb;rw[bC]at e;cases e;exact new
 . rw[bQ hb]at e
   exact(x b u e).vn (fun c v _ q=>k c v q) (fun c q=>by rw[bQ (eZ q hn)];exact q) fun c xs q=>by rw[bQ (eZ q hn)];exact q
end
def Rd(H:Hp)(a:Addr)(u:HO):Prop:=H a=some u \/ ∃ o,H a=some (.frz o u)
theorem Rd.ok(r:Rd H a u)(x:HOk P w H h):gJ P w H h a u:=by
 rcases r with r|⟨o,r⟩
 . exact x a u r
 . obtain⟨_,q⟩:=x a _ r;exact q
def Mut:Option HO->Prop
 |some (.lst _)=>True
 |some (.dK _)=>True
 |some (.dT _)=>True
 |some (.set _ _)=>True
 |some (.ins _ _ _)=>True
 |some (.ext _)=>True
 |_=>False
section
variable{P:Program}{w:World}{H:Hp}{h h':Heap}{x e:Addr}{o':HO}
theorem HOk.write(ok:HOk P w H h)(mu:Mut (H x))(he:e=x \/ H e=some (.own x))(k:∀ b u,b≠e->h.get? b=some u->h'.get? b=some u)(heo:∃ u,h'.get? e=some u)
  (new:gJ P w (upd H x o') h' x o'):HOk P w (upd H x o') h':=fun b u q=>by
 have nown:∀ c y,H c=some (.own y)->c≠x:=fun c y r z=>by subst z;rw[r]at mu;exact mu
 have ntup:∀ c xs,H c=some (.tup xs)->c≠x:=fun c xs r z=>by subst z;rw[r]at mu;exact mu
 by_cases hb:b=x
 . subst hb;rw[bC]at q;cases q;exact new
 . rw[bQ hb]at q
   by_cases hbe:b=e
   . have q':H b = some (.own x):=by
      rcases he with z|z
      . exact absurd (hbe.trans z) hb
      . rw[hbe];exact z
     rw[q]at q';cases q';obtain⟨v,hv⟩:=heo
     exact⟨v,by rw[hbe];exact hv⟩
   . refine(ok b u q).vn (fun c v hc r=>k c v ?_ r) (fun c r=>by rw[bQ (nown c b r)];exact r) fun c xs r=>by rw[bQ (ntup c xs r)];exact r
     rcases hc with rfl|hc
     . exact hbe
     . rintro rfl
       rcases he with z|z
       . exact nown c b hc z
       . rw[hc]at z;cases z;exact hb rfl
end
structure Un(fs ex:List Addr)(H H':Hp)(h h':Heap):Prop where
 keep:∀ b o,h.get? b=some o->H b=none->b∉fs->b∉ex->h'.get? b=some o
 slot:∀ b o,h.get? b=some o->H b=none->b∈fs->b∉ex->∃ sl,h'.get? b=some { o with slots:=sl }
 free:∀ b o,h.get? b=some o->H b=none->b∉ex->H' b=none
 there:∀ b o,h.get? b=some o->b∉ex->∃ o',h'.get? b=some o'
 tups:∀ b xs,H b=some (.tup xs)->H' b=some (.tup xs)
 frzs:∀ b o u,H b=some (.frz o u)->H' b=some (.frz o u)
 tbls:∀ b ps,H b=some (.tbl ps)->∃ more,H' b=some (.tbl (ps++more))
section
variable{fs fs' ex ex':List Addr}{H H1 H2:Hp}{h h1 h2 h':Heap}{a x e:Addr}{o:HO}
theorem Un.any(u:Un fs ex H H1 h h1)(q:h.get? b=some ob)(n:H b=none)(hx:b∉ex):∃ sl,h1.get? b=some { ob with slots:=sl }:=by
 by_cases hb:b∈fs
 . exact u.slot b ob q n hb hx
 . exact⟨ob.slots,u.keep b ob q n hb hx⟩
theorem Un.kept(k:∀ b u,h.get? b=some u->h'.get? b=some u):Un fs ex H H h h':=
 ⟨fun b ob q _ _ _=>k b ob q,fun b ob q _ _ _=>⟨ob.slots,k b ob q⟩,fun _ _ _ n _=>n,fun b ob q _=>⟨ob,k b ob q⟩,fun _ _ q=>q,fun _ _ _ q=>q,fun _ ps q=>⟨#[],by rw[q];simp⟩⟩
theorem Un.refl:Un fs ex H H h h:=Un.kept fun _ _ q=>q
theorem Un.laid(k:∀ b u,h.get? b=some u->h'.get? b=some u)(hp:h.objs.size<=a)(hn:H a=none):Un fs ex H (upd H a o) h h' where
 keep:=fun b u q _ _ _=>k b u q
 slot:=fun b u q _ _ _=>⟨u.slots,k b u q⟩
 free:=fun b u q n _=>by rw[bQ (Nat.ne_of_lt (Nat.lt_of_lt_of_le (Heap.lt_size q) hp))];exact n
 there:=fun b u q _=>⟨u,k b u q⟩
 tups:=fun b xs q=>by rw[bQ (eZ q hn)];exact q
 frzs:=fun b u xs q=>by rw[bQ (eZ q hn)];exact q
 tbls:=fun b ps q=>⟨#[],by rw[bQ (eZ q hn),q];simp⟩
theorem Un.write(mu:Mut (H x))(he:e=x \/ H e=some (.own x))(k:∀ b u,b≠e->h.get? b=some u->h'.get? b=some u)(heo:∃ u,h'.get? e=some u):Un fs ex H (upd H x o) h h':=by
 have hx:∀ b,H b=none->b≠x:=fun b n z=>by subst z;rw[n]at mu;exact mu
 have hb:∀ b,H b=none->b≠e:=fun b n z=>by
  subst z
  rcases he with r|r
  . exact hx b n r
  . rw[n]at r;cases r
 have hm:∀ b u,H b=some u->¬ Mut (some u)->b≠x:=fun b u q nm z=>by subst z;rw[q]at mu;exact nm mu
 refine⟨fun b u q n _ _=>k b u (hb b n) q,fun b u q n _ _=>⟨u.slots,k b u (hb b n) q⟩,fun b u q n _=>by rw[bQ (hx b n)];exact n,fun b u q _=>?_,
  fun b xs q=>by rw[bQ (hm b _ q fun z=>z)];exact q,fun b u xs q=>by rw[bQ (hm b _ q fun z=>z)];exact q,fun b ps q=>⟨#[],by rw[bQ (hm b _ q fun z=>z),q];simp⟩⟩
 by_cases hbe:b=e
 . subst hbe;exact heo
 . exact⟨u,k b u hbe q⟩
end
def trk(h:Heap)(H:Hp):List Addr:=(List.range h.objs.size).filter fun a=>(H a).isSome
def yB(h:Heap)(H:Hp):Heap:=PySem.W.hideAll h (trk h H)
theorem DZ(h:Heap)(H:Hp):(yB h H).objs.size=h.objs.size:=PySem.W.hideAll_size _ _
theorem Gk{h:Heap}(e:h.get? b=some o)(n:H b=none):(yB h H).get? b=some o:=
 PySem.W.hideAll_get _ e fun hm=>by
  have q:(H b).isSome=true:=(List.mem_filter.mp hm).2
  rw[n]at q;simp at q
theorem He{h:Heap}(e:(yB h H).get? b=some o):h.get? b=some o /\ H b=none:=by
 have e':h.get? b=some o:=PySem.W.of_hideAll (trk h H) e
 refine⟨e',?_⟩
 cases q:H b with
 |none=>rfl
 | some x=>
   have hm:b∈trk h H:=List.mem_filter.mpr ⟨List.mem_range.mpr (Heap.lt_size e'),by simp[q]⟩
   have z:(yB h H).get? b=none:=PySem.W.hideAll_none (trk h H) hm
   rw[z]at e;cases e
def GS(g h:Heap)(L:Addr):List (Addr×Obj):=(List.range h.objs.size).filterMap fun a=>if a=L \/ (g.get? a).isSome=true then none else(h.get? a).map fun o=>(a,o)
def rest(g h:Heap)(L d:Addr):List (Addr×Obj):=(GS g h L).filter fun p=>decide (p.1≠d)
structure Mod(K:PySem.W.Frag)(mg:Str->Option Value)(base:Heap):Prop where
 kin:K.In base
 glob:base.Ns mainGlobals mg
 blt:∃ mb,base.Ns builtinsNs mb /\ ∀ x:Str,x ≠ "__name__" -> mb x=bootBuiltins x
 nolimit:base.NoLimit
structure Cx where
 prog:Program
 w:World
 K:PySem.W.Frag
 mg:Str->Option Value
 base:Heap
 A:Around
 N:List Str
 s₀:Shared
 H₀:Hp
 env:Env
 outer:List Env
 stack:List Env
 ex:List Addr
 fn:Str->Bool
 calm:Bool
 pn:List (Addr×Obj)
 xe:Value->Shared->Prop
def frs(l:List Env):List Addr:=l.filterMap (·.frame)
abbrev Cx.fs(X:Cx):List Addr:=frs X.outer
def Vis(sc:Scope)(x:Str):Prop:=sc.names.lookup x=some .local \/ sc.names.lookup x=some .cell \/ sc.names.lookup x=some .free
def Loc(sc:Scope)(x:Str):Prop:=sc.names.lookup x=some .local \/ sc.names.lookup x=some .cell
def Look(env:Env)(h:Heap)(m:Str->Option Value)(x:Str)(u:Value):Prop:=
 (env.kindOf x=some .local /\ m x=some u) \/ ((env.kindOf x=some .cell \/ env.kindOf x=some .free) /\ ∃ c,env.cells.lookup x=some c /\ h.IsCell c (some u))
structure Cx.Ok(X:Cx):Prop where
 mod:Mod X.K X.mg X.base
 kind:X.env.scope.kind=.function
 glob:X.env.globals=mainGlobals
 blt:X.env.builtins=builtinsNs
 above:X.s₀.heap.objs.size<=X.env.locals
 inj:∀ x y c,X.env.cells.lookup x=some c->X.env.cells.lookup y=some c->x=y
 has:∀ x,(X.env.kindOf x=some .cell \/ X.env.kindOf x=some .free)->∃ c,X.env.cells.lookup x=some c
 cab:∀ x c,X.fn x=true->X.env.cells.lookup x=some c->X.s₀.heap.objs.size<=c
 hd:X.calm=true->X.A.handled=none
 frames:X.A.frames=some X.stack
 stk:X.stack=X.outer \/ (X.stack=X.env ::X.outer /\ X.env.frame=some X.env.locals)
 exf:∀ b∈X.ex,b≠X.env.locals /\ ∀ x c,X.env.cells.lookup x=some c->c≠b
 bs:∀ b o,X.base.get? b=some o->X.s₀.heap.get? b=some o /\ X.H₀ b=none
 bsz:X.base.objs.size<=X.s₀.heap.objs.size
 noex:∀ b o,X.base.get? b=some o->b∉X.ex
 exfs:∀ b∈X.ex,b∉X.fs
 xt:X.s₀.heap.FunFrames X.base X.outer
 frf:∀ b∈X.fs,X.H₀ b=none
structure Inv(X:Cx)(pins:List (Addr×Obj))(σ:List (Option V))(H:Hp)(s:Shared):Prop where
 ok:X.Ok
 os:s.os=X.s₀.os
 bare:AllBare s.gens
 base:Un X.fs X.ex X.H₀ H X.s₀.heap s.heap
 loc:∃ m,s.heap.Ns X.env.locals m /\ ∀(i:Nat) (x:Str) (v:V),X.N[i]?=some x->σ[i]?=some (some v)->Vis X.env.scope x->∃ u,RelV v u /\ Look X.env s.heap m x u
 cell:∀ x c,X.env.cells.lookup x=some c->∃ v,s.heap.IsCell c v
 free:H X.env.locals=none
 freeC:∀ x c,X.env.cells.lookup x=some c->H c=none
 pin:∀ p∈X.pn++pins,s.heap.get? p.1=some p.2 /\ H p.1=none /\ p.1≠X.env.locals /\ p.1∉X.fs /\ ∀ v,p.2.data≠.cell v
 hok:HOk X.prog X.w H s.heap
 len:σ.length=X.N.length
section
variable{X:Cx}{pins:List (Addr×Obj)}{σ:List (Option V)}{H H':Hp}{s:Shared}{h':Heap}
theorem Cx.Ok.OQ(ok:X.Ok)(e:X.base.get? b=some o):b∉X.fs:=fun hb=>by
 have:=(ok.xt.mem hb).1;rw[e]at this;cases this
theorem Inv.bs(I:Inv X pins σ H s):∀ b o,X.base.get? b=some o->s.heap.get? b=some o /\ H b=none:=fun b o e=>
 ⟨I.base.keep b o (I.ok.bs b o e).1 (I.ok.bs b o e).2 (I.ok.OQ e) (I.ok.noex b o e),I.base.free b o (I.ok.bs b o e).1 (I.ok.bs b o e).2 (I.ok.noex b o e)⟩
theorem Inv.bk(I:Inv X pins σ H s):∀ b o,X.base.get? b=some o->s.heap.get? b=some o:=fun b o e=>(I.bs b o e).1
theorem Inv.mod(I:Inv X pins σ H s):Mod X.K X.mg X.base:=I.ok.mod
theorem Inv.kIn(I:Inv X pins σ H s):X.K.In s.heap:=I.ok.mod.kin.keeps I.bk
theorem Inv.nolimit(I:Inv X pins σ H s):s.heap.NoLimit:=I.ok.mod.nolimit.keeps I.bk
theorem Inv.lt(I:Inv X pins σ H s):X.env.locals<s.heap.objs.size:=let ⟨_,hn,_⟩:=I.loc;hn.lt
theorem Inv.sz(I:Inv X pins σ H s):X.s₀.heap.objs.size<=s.heap.objs.size:=Nat.le_trans I.ok.above (Nat.le_of_lt I.lt)
theorem Inv.OR(I:Inv X pins σ H s)(h:s.heap.objs.size<=a):a∉X.fs:=fun hb=>by
 obtain⟨_,o,ho,_⟩:=I.ok.xt.mem hb;exact absurd (Nat.lt_of_lt_of_le (Heap.lt_size ho) (Nat.le_trans I.sz h)) (Nat.lt_irrefl _)
theorem Inv.cne(I:Inv X pins σ H s):∀ x c,X.env.cells.lookup x=some c->c≠X.env.locals:=fun x c e z=>by
 obtain⟨v,o,ho,hd⟩:=I.cell x c e;obtain⟨m,⟨o',es,ep,ho',hd',_⟩,_⟩:=I.loc;rw[z,ho']at ho;cases ho;rw[hd']at hd;cases hd
theorem Inv.xt(I:Inv X pins σ H s):s.heap.FunFrames X.base X.outer:=by
 have all:∀(l:List Env),(∀ b∈frs l,b∈X.fs)->X.s₀.heap.FunFrames X.base l->s.heap.FunFrames X.base l:=by
  intro l
  induction l with
  |nil=>intro _ _;trivial
  | cons env r ih=>
    intro hs hl;obtain⟨hk,⟨L,o,hf,hn,ho,hd⟩,hr⟩:=hl
    have hL:L∈X.fs:=hs L (by unfold frs;rw[List.filterMap_cons,hf];exact List.mem_cons_self)
    obtain⟨sl,e⟩:=I.base.slot L o ho (I.ok.frf L hL) hL fun z=>I.ok.exfs L z hL
    exact⟨hk,⟨L,_,hf,hn,e,hd⟩,ih (fun b hb=>hs b (by unfold frs;rw[List.filterMap_cons,hf];exact List.mem_cons_of_mem _ hb)) hr⟩
 exact all X.outer (fun _ hb=>hb) I.ok.xt
theorem Inv.stack(I:Inv X pins σ H s):s.heap.FunFrames X.base X.stack:=by
 rcases I.ok.stk with e|⟨e,hf⟩
 . rw[e];exact I.xt
 . rw[e];obtain⟨m,hn,_⟩:=I.loc;refine .cons (by rw[I.ok.kind];decide) hf hn ?_ I.xt;exact Heap.get?_none_of_le (Nat.le_trans I.ok.bsz I.ok.above)
theorem Inv.Bu(I:Inv X pins σ H s):∀ b∈frs X.stack,b∈X.env.locals ::X.fs:=fun b hb=>by
 rcases I.ok.stk with e|⟨e,hf⟩
 . rw[e]at hb;exact List.mem_cons_of_mem _ hb
 . rw[e]at hb;unfold frs at hb;rw[List.filterMap_cons,hf]at hb;exact hb
theorem Inv.zu(I:Inv X pins σ H s):∀ b∈frs X.stack,H b=none:=fun b hb=>by
 rcases List.mem_cons.mp (I.Bu b hb)with e|hb
 . rw[e];exact I.free
 . obtain⟨_,o,ho,_⟩:=I.ok.xt.mem hb
   exact I.base.free b o ho (I.ok.frf b hb) fun z=>I.ok.exfs b z hb
theorem Inv.step{g':Array GenState}{t':Nat}{d':Drawn}{ch:List Addr}(I:Inv X pins σ H s)
  (hch:∀ b∈ch,(b∈X.ex \/ X.s₀.heap.objs.size<=b) /\ b≠X.env.locals /\ (∀ x c,X.env.cells.lookup x=some c->c≠b) /\ ∀ p∈X.pn++pins,p.1≠b)
  (keep:∀ b o,b≠X.env.locals->b∉X.fs->b∉ch->s.heap.get? b=some o->H b=none->h'.get? b=some o)
  (slot:∀ b o,b≠X.env.locals->b∈X.fs->b∉ch->s.heap.get? b=some o->H b=none->∃ sl,h'.get? b=some { o with slots:=sl }) (free:∀ b o,b∉ch->s.heap.get? b=some o->H b=none->H' b=none)
  (there:∀ b o,b∉ch->s.heap.get? b=some o->∃ o',h'.get? b=some o')
  (tups:∀ b xs,H b=some (.tup xs)->H' b=some (.tup xs)) (frzs:∀ b o u,H b=some (.frz o u)->H' b=some (.frz o u)) (tbls:∀ b ps,H b=some (.tbl ps)->∃ more,H' b=some (.tbl (ps++more)))
  (ns:∀ m,s.heap.Ns X.env.locals m->h'.Ns X.env.locals m) (hok:HOk X.prog X.w H' h') (hg:AllBare g'):
  Inv X pins σ H' { s with heap:=h',gens:=g',drawn:=d',toks:=t' }:=by
 have neL:∀ b o,X.s₀.heap.get? b=some o->b≠X.env.locals:=fun b o e=>Nat.ne_of_lt (Nat.lt_of_lt_of_le (Heap.lt_size e) I.ok.above)
 have neC:∀ b o,X.s₀.heap.get? b=some o->b∉X.ex->b∉ch:=fun b o e hx hb=>by
  rcases(hch b hb).1 with z|z
  . exact hx z
  . exact absurd (Nat.lt_of_lt_of_le (Heap.lt_size e) z) (Nat.lt_irrefl _)
 have cellK:∀ x c,X.env.cells.lookup x=some c->∀ v,s.heap.IsCell c v->h'.IsCell c v:=fun x c e v ⟨o,ho,hd⟩=>by
  have nch:c∉ch:=fun z=>(hch c z).2.2.1 x c e rfl
  by_cases hc:c∈X.fs
  . obtain⟨sl,q⟩:=slot c o (I.cne x c e) hc nch ho (I.freeC x c e)
    exact⟨_,q,hd⟩
  . exact⟨o,keep c o (I.cne x c e) hc nch ho (I.freeC x c e),hd⟩
 refine⟨I.ok,I.os,hg,⟨fun b o e n hb hx=>?_,fun b o e n hb hx=>?_,fun b o e n hx=>?_,fun b o e hx=>?_,fun b xs e=>tups b xs (I.base.tups b xs e),fun b o xs e=>frzs b o xs (I.base.frzs b o xs e),fun b ps e=>?_⟩,?_,fun x c e=>?_,?_,fun x c e=>?_,fun p hp=>?_,hok,I.len⟩
 . exact keep b o (neL b o e) hb (neC b o e hx) (I.base.keep b o e n hb hx) (I.base.free b o e n hx)
 . obtain⟨sl,e1⟩:=I.base.slot b o e n hb hx;obtain⟨sl',e2⟩:=slot b _ (neL b o e) hb (neC b o e hx) e1 (I.base.free b o e n hx)
   exact⟨sl',e2⟩
 . obtain⟨o',e1⟩:=I.base.there b o e hx;exact free b o' (neC b o e hx) e1 (I.base.free b o e n hx)
 . obtain⟨o',e1⟩:=I.base.there b o e hx;exact there b o' (neC b o e hx) e1
 . obtain⟨m1,e1⟩:=I.base.tbls b ps e;obtain⟨m2,e2⟩:=tbls b _ e1
   exact⟨m1++m2,by rw[e2,Array.append_assoc]⟩
 . obtain⟨m,hn,hl⟩:=I.loc
   refine⟨m,ns m hn,fun i x v e1 e2 e3=>?_⟩
   obtain⟨u,r,l⟩:=hl i x v e1 e2 e3
   refine⟨u,r,?_⟩
   rcases l with l|⟨k,c,e,z⟩
   . exact .inl l
   . exact .inr ⟨k,c,e,cellK x c e _ z⟩
 . obtain⟨v,z⟩:=I.cell x c e
   exact⟨v,cellK x c e v z⟩
 . obtain⟨m,⟨o,_,_,ho,_⟩,_⟩:=I.loc;exact free _ o (fun z=>(hch _ z).2.1 rfl) ho I.free
 . obtain⟨v,o,ho,hd⟩:=I.cell x c e;exact free c o (fun z=>(hch c z).2.2.1 x c e rfl) ho (I.freeC x c e)
 . obtain⟨e,n,ne,nf,d⟩:=I.pin p hp
   have nch:p.1∉ch:=fun z=>(hch p.1 z).2.2.2 p hp rfl
   exact⟨keep p.1 p.2 ne nf nch e n,free p.1 p.2 nch e n,ne,nf,d⟩
theorem Inv.un{t':Nat}(I:Inv X pins σ H s)(u:Un X.fs [] H H' s.heap h')(hok:HOk X.prog X.w H' h'):Inv X pins σ H' { s with heap:=h',toks:=t' }:=by
 obtain⟨m,⟨o,es,ep,ho,r⟩,_⟩:=id I.loc;obtain⟨sl,hL⟩:=u.any ho I.free (by simp)
 exact I.step (g':=s.gens) (d':=s.drawn) (ch:=[]) (fun _ z=>nomatch z) (fun b o _ hb _ e n=>u.keep b o e n hb (by simp)) (fun b o _ hb _ e n=>u.slot b o e n hb (by simp)) (fun b o _ e n=>u.free b o e n (by simp)) (fun b o _ e=>u.there b o e (by simp)) u.tups u.frzs u.tbls (fun m' hm=>by
  obtain⟨o',es',ep',ho',r'⟩:=hm;rw[ho]at ho';cases ho'
  exact⟨_,es',ep',hL,r'⟩) hok I.bare
theorem Inv.call{g':Array GenState}{t':Nat}{d':Drawn}{ch:List Addr}(I:Inv X pins σ H s)(u:Un (frs X.stack) ch H H' s.heap h')(hok:HOk X.prog X.w H' h')(hg:AllBare g')
  (hch:∀ b∈ch,(b∈X.ex \/ X.s₀.heap.objs.size<=b) /\ b≠X.env.locals /\ (∀ x c,X.env.cells.lookup x=some c->c≠b) /\ ∀ p∈X.pn++pins,p.1≠b):
  Inv X pins σ H' { s with heap:=h',gens:=g',drawn:=d',toks:=t' }:=by
 obtain⟨m,⟨o,es,ep,ho,r⟩,_⟩:=id I.loc
 obtain⟨sl,hL⟩:=u.any ho I.free fun z=>(hch _ z).2.1 rfl
 exact I.step (ch:=ch) hch (fun b o hL hb hc e n=>u.keep b o e n (fun z=>(List.mem_cons.mp (I.Bu b z)).elim hL hb) hc) (fun b o _ _ hc e n=>u.any e n hc) (fun b o hc e n=>u.free b o e n hc) (fun b o hc e=>u.there b o e hc) u.tups u.frzs u.tbls (fun m' hm=>by
  obtain⟨o',es',ep',ho',r'⟩:=hm;rw[ho]at ho';cases ho'
  exact⟨_,es',ep',hL,r'⟩) hok hg
theorem Inv.turned{t':Nat}{it:Addr}(I:Inv X pins σ H s)(k:∀ b o,b≠it->s.heap.get? b=some o->h'.get? b=some o)(hn:H it=none)(hL:it≠X.env.locals)
  (h1:it∈X.ex \/ X.s₀.heap.objs.size<=it) (h2:∀ x c,X.env.cells.lookup x=some c->c≠it) (h3:∀ p∈X.pn++pins,p.1≠it):Inv X pins σ H { s with heap:=h',toks:=t' }:=by
 have nit:∀ b u,H b=some u->b≠it:=fun b u e z=>by rw[z,hn]at e;cases e
 refine I.step (g':=s.gens) (d':=s.drawn) (ch:=[it]) (fun b hb=>?_) (fun b o _ _ hc e _=>k b o (fun z=>hc (by simp[z])) e) (fun b o _ _ hc e _=>⟨o.slots,k b o (fun z=>hc (by simp[z])) e⟩) (fun _ _ _ _ n=>n)
  (fun b o hc e=>⟨o,k b o (fun z=>hc (by simp[z])) e⟩) (fun _ _ e=>e) (fun _ _ _ e=>e) (fun b ps e=>⟨#[],by rw[e];simp⟩) (fun m hm=>?_) (fun b u e=>?_) I.bare
 . have e:b=it:=by simpa using hb
   subst e
   exact⟨h1,hL,h2,h3⟩
 . obtain⟨o,es,ep,ho,r⟩:=hm
   exact⟨o,es,ep,k _ o (Ne.symm hL) ho,r⟩
 . refine(I.hok b u e).vn (fun c v hc q=>k c v ?_ q) (fun _ q=>q) fun _ _ q=>q
   rcases hc with z|z
   . rw[z];exact nit b u e
   . exact nit c _ z
theorem Inv.tok(I:Inv X pins σ H s)(t:Nat):Inv X pins σ H { s with toks:=t }:=I.un (h':=s.heap) (t':=t) Un.refl I.hok
theorem Inv.kept(I:Inv X pins σ H s)(k:∀ b u,s.heap.get? b=some u->h'.get? b=some u):Inv X pins σ H { s with heap:=h',toks:=t' }:=I.un (Un.kept k) (I.hok.kept k)
theorem Inv.laid(I:Inv X pins σ H s)(k:∀ b u,s.heap.get? b=some u->h'.get? b=some u)(hp:s.heap.objs.size<=a)(new:gJ X.prog X.w (upd H a o) h' a o):
  Inv X pins σ (upd H a o) { s with heap:=h',toks:=t' }:=I.un (Un.laid k hp (I.hok.fresh hp)) (I.hok.laid k hp new)
theorem Inv.write(I:Inv X pins σ H s)(mu:Mut (H x))(he:e=x \/ H e=some (.own x))(k:∀ b u,b≠e->s.heap.get? b=some u->h'.get? b=some u)(heo:∃ u,h'.get? e=some u)
  (new:gJ X.prog X.w (upd H x o) h' x o):Inv X pins σ (upd H x o) { s with heap:=h',toks:=t' }:=I.un (Un.write mu he k heo) (I.hok.write mu he k heo new)
theorem Inv.CJ{pins':List (Addr×Obj)}(I:Inv X pins σ H s)(h:∀ p∈pins',s.heap.get? p.1=some p.2 /\ H p.1=none /\ p.1≠X.env.locals /\ p.1∉X.fs /\ ∀ v,p.2.data≠.cell v):Inv X pins' σ H s:=
 ⟨I.ok,I.os,I.bare,I.base,I.loc,I.cell,I.free,I.freeC,fun p hp=>(List.mem_append.mp hp).elim (fun z=>I.pin p (List.mem_append_left _ z)) (h p),I.hok,I.len⟩
theorem AG{N:List Str}(hN:N.Nodup){i j:Nat}{x:Str}(a:N[i]?=some x)(b:N[j]?=some x):i=j:=by
 obtain⟨h1,e1⟩:=List.getElem?_eq_some_iff.mp a;obtain⟨h2,e2⟩:=List.getElem?_eq_some_iff.mp b
 exact(List.getElem_inj hN).mp (e1.trans e2.symm)
theorem Ei{M:Model}{A:Around}{E:Value->Shared->Prop}{i:Nat}{x:Str}{v:V}{u:Value}{Q:Unit->Shared->Prop}(I:Inv X pins σ H s)(hN:X.N.Nodup)(hi:X.N[i]?=some x)(hx:Loc X.env.scope x)(r:RelV v u)
  (h:∀ s',Inv X pins (σ.set i (some v)) H s'->(∃ a,Heap.SameBut a s.heap s'.heap /\ (a=X.env.locals \/ X.env.cells.lookup x=some a))->Q () s') (hf:X.fn x=true \/ X.env.scope.names.lookup x=some .local:=by first|exact .inl rfl|exact .inr rfl|assumption):wpAny M A (storeName X.env x u) Q E s:=by
 obtain⟨m,hn,hl⟩:=id I.loc
 have hcls:(X.env.scope.kind == .class||(X.env.scope.kind == .module&&X.env.locals != X.env.globals))=false:=by rw[I.ok.kind];rfl
 have hiσ:i<σ.length:=by rw[I.len];exact(List.getElem?_eq_some_iff.mp hi).1
 have cne:=I.cne
 have tracked:∀{a:Addr} {h':Heap},(∃ o,s.heap.get? a=some o /\ H a=none)->Heap.SameBut a s.heap h'->HOk X.prog X.w H h':=fun {a h'} ha hs b ob e=>by
  obtain⟨_,_,hfree⟩:=ha
  refine(I.hok b ob e).vn (fun c w' hc q=>(hs.2 c ?_).trans q) (fun _ q=>q) fun _ _ q=>q
  rintro rfl
  rcases hc with rfl|hc
  . rw[hfree]at e;cases e
  . rw[hfree]at hc;cases hc
 rcases hx with hk|hk
 . refine wpAny_storeName_local hk hn (fun h' hn' hs=>?_) hcls;obtain⟨oL,_,_,hoL,_⟩:=id hn;refine h _ ⟨I.ok,I.os,I.bare,⟨fun b o e n hb hx=>?_,fun b o e n hb hx=>?_,I.base.free,fun b o e hx=>?_,I.base.tups,I.base.frzs,I.base.tbls⟩,⟨_,hn',fun j y v' e1 e2 e3=>?_⟩,fun y c e=>?_,I.free,I.freeC,fun p hp=>?_,tracked ⟨oL,hoL,I.free⟩ hs,by simpa using I.len⟩ ⟨_,hs,.inl rfl⟩
   . exact(hs.2 b (Nat.ne_of_lt (Nat.lt_of_lt_of_le (Heap.lt_size e) I.ok.above))).trans (I.base.keep b o e n hb hx)
   . obtain⟨sl,e1⟩:=I.base.slot b o e n hb hx
     exact⟨sl,(hs.2 b (Nat.ne_of_lt (Nat.lt_of_lt_of_le (Heap.lt_size e) I.ok.above))).trans e1⟩
   . obtain⟨o',e1⟩:=I.base.there b o e hx
     exact⟨o',(hs.2 b (Nat.ne_of_lt (Nat.lt_of_lt_of_le (Heap.lt_size e) I.ok.above))).trans e1⟩
   . by_cases hj:j=i
     . subst hj;rw[hi]at e1;cases e1;rw[List.getElem?_set_self hiσ]at e2;cases e2
       exact⟨u,r,.inl ⟨hk,by simp⟩⟩
     . rw[List.getElem?_set_ne (Ne.symm hj)]at e2;obtain⟨u',r',q⟩:=hl j y v' e1 e2 e3
       refine⟨u',r',?_⟩
       rcases q with⟨k,e⟩|⟨k,c,e,z⟩
       . refine .inl ⟨k,?_⟩
         have:y≠x:=fun e=>hj (AG hN e1 (e ▸ hi))
         simp[this,e]
       . exact .inr ⟨k,c,e,z.sameBut hs (cne y c e)⟩
   . obtain⟨w',z⟩:=I.cell y c e
     exact⟨w',z.sameBut hs (cne y c e)⟩
   . obtain⟨e,n,ne,nf,d⟩:=I.pin p hp
     exact⟨(hs.2 p.1 ne).trans e,n,ne,nf,d⟩
 . have hfn:X.fn x = true:=by
    rcases hf with z|z
    . exact z
    . rw[z]at hk;cases hk
   obtain⟨c,hc⟩:=I.ok.has x (.inl hk);obtain⟨w',z⟩:=I.cell x c hc;refine wpAny_storeName_cell I.ok.kind hk hc z (fun h' hc' hs=>?_);obtain⟨oc,hoc,hocd⟩:=id z;refine h { s with heap:=h' } ⟨I.ok,I.os,I.bare,⟨fun b o e n hb hx=>?_,fun b o e n hb hx=>?_,I.base.free,fun b o e hx=>?_,I.base.tups,I.base.frzs,I.base.tbls⟩,⟨m,hn.sameBut hs (Ne.symm (cne x c hc)),fun j y v' e1 e2 e3=>?_⟩,fun y c' e=>?_,I.free,I.freeC,fun p hp=>?_,tracked ⟨oc,hoc,I.freeC x c hc⟩ hs,by simpa using I.len⟩ ⟨c,hs,.inr hc⟩
   . exact(hs.2 b (Nat.ne_of_lt (Nat.lt_of_lt_of_le (Heap.lt_size e) (I.ok.cab x c hfn hc)))).trans (I.base.keep b o e n hb hx)
   . obtain⟨sl,e1⟩:=I.base.slot b o e n hb hx
     exact⟨sl,(hs.2 b (Nat.ne_of_lt (Nat.lt_of_lt_of_le (Heap.lt_size e) (I.ok.cab x c hfn hc)))).trans e1⟩
   . obtain⟨o',e1⟩:=I.base.there b o e hx
     exact⟨o',(hs.2 b (Nat.ne_of_lt (Nat.lt_of_lt_of_le (Heap.lt_size e) (I.ok.cab x c hfn hc)))).trans e1⟩
   . by_cases hj:j=i
     . subst hj;rw[hi]at e1;cases e1;rw[List.getElem?_set_self hiσ]at e2;cases e2
       exact⟨u,r,.inr ⟨.inl hk,c,hc,hc'⟩⟩
     . rw[List.getElem?_set_ne (Ne.symm hj)]at e2;obtain⟨u',r',q⟩:=hl j y v' e1 e2 e3
       refine⟨u',r',?_⟩
       rcases q with q|⟨k,c',e,z'⟩
       . exact .inl q
       . refine .inr ⟨k,c',e,z'.sameBut hs ?_⟩
         rintro rfl
         exact hj (AG hN e1 (I.ok.inj _ _ _ e hc ▸ hi))
   . by_cases hcc:c'=c
     . subst hcc;exact⟨_,hc'⟩
     . obtain⟨w2,z2⟩:=I.cell y c' e
       exact⟨w2,z2.sameBut hs hcc⟩
   . obtain⟨e,n,ne,nf,d⟩:=I.pin p hp
     refine⟨(hs.2 p.1 ?_).trans e,n,ne,nf,d⟩
     intro q;rw[q,hoc]at e
     have q':oc=p.2:=Option.some.inj e
     exact d w' (by rw[<- q'];exact hocd)
theorem mH{E:Value->Shared->Prop}{Q:Unit->Shared->Prop}(I:Inv X pins σ H s)(hN:X.N.Nodup)(hi:X.N[i]?=some x)(hx:Loc X.env.scope x)(r:RelV v u)
  (h:∀ s',Inv X pins (σ.set i (some v)) H s'->Q () s') (hf:X.fn x=true \/ X.env.scope.names.lookup x=some .local:=by first|exact .inl rfl|exact .inr rfl|assumption):wpAny M A (storeName X.env x u) Q E s:=
 Ei I hN hi hx r (fun s' I' _=>h s' I') hf
theorem Inv.JF{s':Shared}(I:Inv X pins σ H s)(ho:s'.os=s.os)(u:Un (frs X.stack) ch H H' s.heap s'.heap)(hok:HOk X.prog X.w H' s'.heap)(hg:AllBare s'.gens)
  (hch:∀ b∈ch,(b∈X.ex \/ X.s₀.heap.objs.size<=b) /\ b≠X.env.locals /\ (∀ x c,X.env.cells.lookup x=some c->c≠b) /\ ∀ p∈X.pn++pins,p.1≠b):Inv X pins σ H' s':=by
 obtain⟨h',g',d',t',o'⟩:=s'
 have e:o'=s.os:=ho
 subst e;exact I.call (g':=g') (t':=t') (d':=d') u hok hg hch
end
abbrev XK:=Value->Option Addr->Hp->Prop
abbrev St:=List (Option V)
abbrev VK:=V->Hp->Prop
abbrev TE:=St->Hp->VK->Prop
abbrev TT:=St->Hp->(Bool->Hp->Prop)->Prop
abbrev TA:=St->Hp->(List V->Hp->Prop)->Prop
structure Ends where
 nx:St->Hp->Prop
 rt:VK
 bk:St->Hp->Prop:=fun _ _=>False
 ct:St->Hp->Prop:=fun _ _=>False
abbrev TS:=Ends->St->Hp->Prop
def EP(X:Cx)(pins:List (Addr×Obj))(σ:St)(Q:VK)(u:Value)(s':Shared):Prop:=∃ v H',Inv X pins σ H' s' /\ RelV v u /\ Q v H'
def TP(X:Cx)(pins:List (Addr×Obj))(σ:St)(Q:Bool->Hp->Prop)(b:Bool)(s':Shared):Prop:=∃ H',Inv X pins σ H' s' /\ Q b H'
def AP(X:Cx)(pins:List (Addr×Obj))(σ:St)(Q:List V->Hp->Prop)(us:List Value)(s':Shared):Prop:=∃ vs H',Inv X pins σ H' s' /\ Vals vs us /\ Q vs H'
def SP(X:Cx)(pins:List (Addr×Obj))(D:Ends)(f:Flow)(s':Shared):Prop:=
 match f with
 |.next=>∃ σ' H',Inv X pins σ' H' s' /\ D.nx σ' H'
 |.brk=>∃ σ' H',Inv X pins σ' H' s' /\ D.bk σ' H'
 |.cont=>∃ σ' H',Inv X pins σ' H' s' /\ D.ct σ' H'
 |.ret u=>∃ v σ' H',Inv X pins σ' H' s' /\ RelV v u /\ D.rt v H'
def PE(X:Cx)(e:Expr)(t:TE):Prop:=
 ∀(pins:List (Addr×Obj)) (s:Shared) (σ:St) (H:Hp) (Q:VK),Inv X pins σ H s->t σ H Q->wpAny (model X.prog X.w) X.A (eval e X.env) (EP X pins σ Q) X.xe s
def PT(X:Cx)(e:Expr)(t:TT):Prop:=
 ∀(pins:List (Addr×Obj)) (s:Shared) (σ:St) (H:Hp) (Q:Bool->Hp->Prop),Inv X pins σ H s->t σ H Q->wpAny (model X.prog X.w) X.A (isTrue e X.env (eval e X.env)) (TP X pins σ Q) X.xe s
def PW(X:Cx)(e:Expr)(t:TT):Prop:=
 ∀(whole:Sem Value) (pins:List (Addr×Obj)) (s:Shared) (σ:St) (H:Hp) (Q:Bool->Hp->Prop),Inv X pins σ H s->t σ H Q->wpAny (model X.prog X.w) X.A (isTrue e X.env whole) (TP X pins σ Q) X.xe s
theorem PW.pt(h:PW X e t):PT X e t:=h _
def PA(X:Cx)(es:List Expr)(t:TA):Prop:=
 ∀(pos:Pos) (pins:List (Addr×Obj)) (s:Shared) (σ:St) (H:Hp) (Q:List V->Hp->Prop),Inv X pins σ H s->t σ H Q->wpAny (model X.prog X.w) X.A (spliced (backTo pos (starEach es X.env))) (AP X pins σ Q) X.xe s
def PS(X:Cx)(st:Stmt)(t:TS):Prop:=
 ∀(pins:List (Addr×Obj)) (s:Shared) (σ:St) (H:Hp) (D:Ends),Inv X pins σ H s->t D σ H->wpAny (model X.prog X.w) X.A (exec st X.env) (SP X pins D) X.xe s
def PSs(X:Cx)(st:List Stmt)(t:TS):Prop:=
 ∀(pins:List (Addr×Obj)) (s:Shared) (σ:St) (H:Hp) (D:Ends),Inv X pins σ H s->t D σ H->wpAny (model X.prog X.w) X.A (execs st X.env) (SP X pins D) X.xe s
theorem thn{α:Type}{t:Sem α}{Q Q':α->Shared->Prop}{E:Value->Shared->Prop}(h:wpAny M A t Q E s)(hQ:∀ a s,Q a s->Q' a s):wpAny M A t Q' E s:=wpAny_mono h hQ fun _ _ x=>x
section
variable{X:Cx}
theorem bin(ha:PE X a ta)(hb:PE X b tb){pins:List (Addr×Obj)}{R:V->V->Hp->Prop}(I:Inv X pins σ H s)(h:ta σ H fun x H1=>tb σ H1 fun y H2=>R x y H2)
  {α:Type} {Q:α->Shared->Prop} {f:Value->Value->Sem α}
  (hf:∀ v u s2 x y H2,Inv X pins σ H2 s2->RelV x v->RelV y u->R x y H2->wpAny (model X.prog X.w) X.A (f v u) Q X.xe s2):
  wpAny (model X.prog X.w) X.A (eval a X.env) (fun v s₁=>wpAny (model X.prog X.w) X.A (eval b X.env) (fun u s₂=>wpAny (model X.prog X.w) X.A (f v u) Q X.xe s₂) X.xe s₁) X.xe s:=by
 refine thn (ha pins s σ H _ I h) fun v s1 ⟨x,H1,I1,r1,q1⟩=>?_
 refine thn (hb pins s1 σ H1 _ I1 q1) fun u s2 ⟨y,H2,I2,r2,q2⟩=>?_
 exact hf v u s2 x y H2 I2 r1 r2 q2
def zC(i:Nat):TE:=fun σ H Q=>∃ v,σ[i]?=some (some v) /\ Q v H
def tC(v:V):TE:=fun _ H Q=>Q v H
theorem KD(hN:X.N[i]?=some x)(hv:Vis X.env.scope x)(hd:(x==("__debug__":Str))=false:=by decide)(hcd:(x==("__classdict__":Str))=false:=by decide):PE X (.Name x pos) (zC i):=by
 intro pins s σ H Q I h;obtain⟨v,e,h⟩:=h;obtain⟨m,hn,hl⟩:=I.loc;obtain⟨u,r,l⟩:=hl i x v hN e hv
 have fin:EP X pins σ Q u s:=⟨v,H,I,r,h⟩
 rcases l with⟨hk,hm⟩|⟨hk,c,hc,hcell⟩
 . exact wpAny_Name (wpAny_loadName_local I.ok.kind hk hn hm fin) hd
 . rcases hk with hk|hk
   . exact wpAny_Name (wpAny_loadName_cell I.ok.kind hk hc hcell fin) hd
   . exact wpAny_Name (wpAny_loadName_free I.ok.kind hk hc hcell fin hcd) hd
theorem KZ{i j pos}:PE X (.Constant (.int i) j pos) (tC (.int i)):=fun _ _ _ H _ I h=>wpAny_Constant_int ⟨.int i,H,I.tok _,⟨_,rfl⟩,h⟩
theorem ME{b j pos}:PE X (.Constant (.bool b) j pos) (tC (.bl b)):=fun _ _ _ H _ I h=>Constant_bool ⟨.bl b,H,I,rfl,h⟩
theorem K0{j pos}:PE X (.Constant .none j pos) (tC .non):=fun _ _ _ H _ I h=>Constant_none ⟨.non,H,I,rfl,h⟩
theorem L0{x j pos}:PE X (.Constant (.str x) j pos) (tC (.str x)):=fun _ _ _ H _ I h=>Calls.Constant_str ⟨.str x,H,I.tok _,⟨_,rfl⟩,h⟩
def Gl(X:Cx)(x:Str):Prop:=X.env.kindOf x=some .globalImplicit
theorem vw{E:Value->Shared->Prop}{pins:List (Addr×Obj)}{Q:Value->Shared->Prop}(I:Inv X pins σ H s)(hg:Gl X x)(hm:X.mg x=some u)(h:Q u s)
  (hd:(x==("__debug__":Str))=false:=by decide):wpAny (model X.prog X.w) X.A (eval (.Name x pos) X.env) Q E s:=
 Calls.Name_function_global I.ok.kind hg (Calls.loadGlobal_global (by rw[I.ok.glob];exact I.mod.glob.keeps I.bk) hm h) hd
theorem wY{E:Value->Shared->Prop}{pins:List (Addr×Obj)}{Q:Value->Shared->Prop}(I:Inv X pins σ H s)(hg:Gl X x)(hm:X.mg x=none)(hv:bootBuiltins x=some u)(h:Q u s)
  (hn:x ≠ "__name__":=by decide) (hd:(x==("__debug__":Str))=false:=by decide):wpAny (model X.prog X.w) X.A (eval (.Name x pos) X.env) Q E s:=by
 obtain⟨mb,h1,h2⟩:=I.mod.blt;exact Calls.Name_function_global I.ok.kind hg (Calls.loadGlobal_builtin (by rw[I.ok.glob];exact I.mod.glob.keeps I.bk) hm (by rw[I.ok.blt];exact h1.keeps I.bk) ((h2 x hn).trans hv) h) hd
theorem IW(hg:Gl X x)(hm:X.mg x=some u)(r:RelV v u)(hd:(x==("__debug__":Str))=false:=by decide):PE X (.Name x pos) (tC v):=
 fun _ _ _ H _ I h=>vw I hg hm ⟨v,H,I,r,h⟩ hd
theorem G4(hg:Gl X x)(hm:X.mg x=none)(hv:bootBuiltins x=some u)(r:RelV v u)(hn:x ≠ "__name__":=by decide)(hd:(x==("__debug__":Str))=false:=by decide):PE X (.Name x pos) (tC v):=
 fun _ _ _ H _ I h=>wY I hg hm hv ⟨v,H,I,r,h⟩ hn hd
variable{a b:Expr}{ta tb:TE}{pos:Pos}
def PC(X:Cx)(op:CmpOp)(a b:Expr)(t:TE):Prop:=
 ∀(pins:List (Addr×Obj)) (s:Shared) (σ:St) (H:Hp) (Q:VK),Inv X pins σ H s->t σ H Q ->
   wpAny (model X.prog X.w) X.A (eval a X.env) (fun v s₁=>wpAny (model X.prog X.w) X.A (eval b X.env) (fun u s₂=>wpAny (model X.prog X.w) X.A (compareOp op v u) (EP X pins σ Q) X.xe s₂) X.xe s₁) X.xe s
theorem zU(b:Expr)(h:op≠.In)(h2:op≠.NotIn):behindInMarks op b=false:=by
 have e1:(op==CmpOp.In)=false:=by cases op<;>first|rfl|exact absurd rfl h
 have e2:(op==CmpOp.NotIn)=false:=by cases op<;>first|rfl|exact absurd rfl h2
 cases b<;>simp[behindInMarks,e1,e2]
def tB(t:TE):TT:=fun σ H Q=>t σ H fun x H1=>∃ c,x=.bl c /\ Q c H1
theorem Mo(h:PC X op a b t)(h1:behindInMarks op b=false:=by first|exact zU _ (by decide) (by decide)|rfl):PT X (.Compare a [op] [b] pos) (tB t):=by
 intro pins s σ H Q I hw;refine wpAny_isTrue_Compare1 (thn (h pins s σ H _ I hw) fun v s1 h1=>thn h1 fun u s2 h2=>thn h2 fun c s3 ⟨x,H1,I1,r1,q1⟩=>?_) h1;obtain⟨d,rfl,q⟩:=q1;cases r1;exact wpAny_truthy_bool ⟨H1,I1,q⟩
variable{tA tB':TT}{rest:List Expr}
def Mf(t u:TT):TT:=fun σ H Q=>t σ H fun c H1=>if c=true then u σ H1 Q else Q false H1
def tOr(t u:TT):TT:=fun σ H Q=>t σ H fun c H1=>if c=true then Q true H1 else u σ H1 Q
def IF(t:TT):TT:=fun σ H Q=>t σ H fun c H1=>Q (!c) H1
theorem HL(ha:PT X a tA):PW X (.BoolOp .And [a] pos) tA:=by
 intro wh pins s σ H Q I h;refine isTrue_and (thn (ha pins s σ H Q I h) fun c s1 e=>?_)
 cases c with
 |true=>exact isTrue_and_nil e
 |false=>exact e
theorem JW(ha:PT X a tA):PW X (.BoolOp .Or [a] pos) tA:=by
 intro wh pins s σ H Q I h;refine isTrue_or (thn (ha pins s σ H Q I h) fun c s1 e=>?_)
 cases c with
 |false=>exact isTrue_or_nil e
 |true=>exact e
theorem Lv(ha:PT X a tA)(hb:PW X (.BoolOp .And (b ::rest) pos) tB'):PW X (.BoolOp .And (a ::b ::rest) pos) (Mf tA tB'):=by
 intro wh pins s σ H Q I h;refine isTrue_and (thn (ha pins s σ H _ I h) fun c s1 ⟨H1,I1,q1⟩=>?_)
 cases c with
 |true=>exact hb wh pins s1 σ H1 Q I1 q1
 |false=>exact⟨H1,I1,q1⟩
theorem MF(ha:PT X a tA)(hb:PW X (.BoolOp .Or (b ::rest) pos) tB'):PW X (.BoolOp .Or (a ::b ::rest) pos) (tOr tA tB'):=by
 intro wh pins s σ H Q I h;refine isTrue_or (thn (ha pins s σ H _ I h) fun c s1 ⟨H1,I1,q1⟩=>?_)
 cases c with
 |true=>exact⟨H1,I1,q1⟩
 |false=>exact hb wh pins s1 σ H1 Q I1 q1
theorem La(ha:PT X a tA):PT X (.UnaryOp .Not a pos) (IF tA):=by
 intro pins s σ H Q I h;exact isTrue_not (ha pins s σ H (fun c H1=>Q (!c) H1) I h)
def Gp(ta tb:TE):TE:=fun σ H Q=>ta σ H fun x H1=>∃ c,x=.bl c /\ if c=true then tb σ H1 Q else Q (.bl false) H1
def EX(ta:TE):TE:=fun σ H Q=>ta σ H fun x H1=>∃ c,x=.bl c /\ Q (.bl (!c)) H1
theorem L4{op}(h:PE X a t):PE X (.BoolOp op [a] pos) t:=fun pins s σ H Q I hw=>BoolOp_one (h pins s σ H Q I hw)
theorem Kv(ha:PE X a ta)(hb:PE X (.BoolOp .And (b ::rest) pos) tb):PE X (.BoolOp .And (a ::b ::rest) pos) (Gp ta tb):=by
 intro pins s σ H Q I h;refine BoolOp_and (thn (ha pins s σ H _ I h) fun v s1 ⟨x,H1,I1,r1,q1⟩=>?_);obtain⟨c,rfl,q1⟩:=q1;cases r1;refine wpAny_truthy_bool ?_
 cases c with
 |true=>exact hb pins s1 σ H1 Q I1 q1
 |false=>exact⟨.bl false,H1,I1,rfl,q1⟩
theorem Mh(ha:PE X a ta):PE X (.UnaryOp .Not a pos) (EX ta):=by
 intro pins s σ H Q I h;refine UnaryOp_ (thn (ha pins s σ H _ I h) fun v s1 ⟨x,H1,I1,r1,q1⟩=>?_);obtain⟨c,rfl,q1⟩:=q1;cases r1;exact not_of (wpAny_truthy_bool ⟨.bl (!c),H1,I1,rfl,q1⟩)
def tIf(t:TT)(ta tb:TE):TE:=fun σ H Q=>t σ H fun c H1=>if c=true then ta σ H1 Q else tb σ H1 Q
theorem Gu(hc:PT X c tA)(ha:PE X a ta)(hb:PE X b tb):PE X (.IfExp c a b pos) (tIf tA ta tb):=by
 intro pins s σ H Q I h;refine wpAny_IfExp (thn (hc pins s σ H _ I h) fun d s1 ⟨H1,I1,q1⟩=>?_)
 cases d with
 |true=>exact ha pins s1 σ H1 Q I1 q1
 |false=>exact hb pins s1 σ H1 Q I1 q1
end
def SqL(K:PySem.W.Frag)(H:Hp)(a:Addr)(xs:List V):Prop:=
 Rd H a (.lst xs) \/
  ∃(o:Obj) (its:Array Value) (n:Nat),K.lookup a=some o /\ o.cls=.type "list" /\ o.dict=none /\ o.data=.seq its n /\ its.size<=sizeLine /\ Vals xs its.toList
def SqT(K:PySem.W.Frag)(H:Hp)(a:Addr)(xs:List V):Prop:=
 Rd H a (.tup xs) \/
  ∃(o:Obj) (its:Array Value) (n:Nat),K.lookup a=some o /\ o.cls=.type "tuple" /\ o.data=.seq its n /\ its.size<=sizeLine /\ Vals xs its.toList
def N0:Value->Option V
 |.none=>some .non
 |.bool b=>some (.bl b)
 |.int i _=>some (.int i)
 |.str x _=>some (.str x)
 |.bytes b _=>some (.byt b)
 |.float b _=>some (.flt b)
 |.ref a=>some (.ref a)
 |.type n=>some (.ty n)
 |_=>none
theorem RelV.abs(r:RelV x u):N0 u=some x:=by
 cases x with
 |non=>cases r;rfl
 |bl _=>cases r;rfl
 |int _=>obtain⟨t,rfl⟩:=r;rfl
 |str _=>obtain⟨t,rfl⟩:=r;rfl
 |byt _=>obtain⟨t,rfl⟩:=r;rfl
 |flt _=>obtain⟨t,rfl⟩:=r;rfl
 |ref _=>cases r;rfl
 |ty _=>cases r;rfl
theorem RelV.inj(r:RelV x u)(q:RelV y u):x=y:=Option.some.inj (r.abs.symm.trans q.abs)
theorem Vals.inj:∀{xs ys:List V} {us:List Value},Vals xs us->Vals ys us->xs=ys
 |_,_,_,.nil,.nil=>rfl
 |_,_,_,.cons r t,.cons r' t'=>by rw[r.inj r',Vals.inj t t']
section
variable{X:Cx}{pins:List (Addr×Obj)}{σ:St}{H:Hp}{s:Shared}{a:Addr}{xs ys:List V}
theorem Inv.list(I:Inv X pins σ H s)(h:SqL X.K H a xs):∃ its:List Value,Vals xs its /\ PlainL s.heap a its.toArray /\ xs.length<=sizeLine:=by
 rcases h with h|⟨o,its,n,hk,hc,hd,hs,hz,r⟩
 . obtain⟨z,its,n,r,e⟩:=h.ok I.hok
   exact⟨its,r,⟨_,n,e,rfl,rfl,rfl⟩,z⟩
 . refine⟨its.toList,r,⟨o,n,I.kIn a o hk,hc,hd,by simpa using hs⟩,?_⟩
   have e:=r.length;simp only[Array.length_toList]at e;omega
theorem Inv.tuple(I:Inv X pins σ H s)(h:SqT X.K H a xs):∃ its:List Value,Vals xs its /\ IsTup s.heap a its.toArray /\ xs.length<=sizeLine:=by
 rcases h with h|⟨o,its,n,hk,hc,hs,hz,r⟩
 . obtain⟨z,its,r,p⟩:=h.ok I.hok
   exact⟨its,r,p,z⟩
 . refine⟨its.toList,r,⟨o,I.kIn a o hk,hc,n,by simpa using hs⟩,?_⟩
   have e:=r.length;simp only[Array.length_toList]at e;omega
theorem Inv.Aq(I:Inv X pins σ H s)(h:SqL X.K H a xs)(h':SqL X.K H a ys):xs=ys:=by
 obtain⟨its,r,⟨o,n,e,_,_,d⟩,_⟩:=I.list h;obtain⟨its',r',⟨o',n',e',_,_,d'⟩,_⟩:=I.list h';rw[e]at e';cases e';rw[d]at d'
 injection d' with d1 _
 have:its=its':=by simpa using congrArg Array.toList d1
 subst this;exact r.inj r'
theorem Inv.DA(I:Inv X pins σ H s)(h:SqT X.K H a xs)(h':SqT X.K H a ys):xs=ys:=by
 obtain⟨its,r,⟨o,e,_,n,d⟩,_⟩:=I.tuple h;obtain⟨its',r',⟨o',e',_,n',d'⟩,_⟩:=I.tuple h';rw[e]at e';cases e';rw[d]at d'
 injection d' with d1 _
 have:its=its':=by simpa using congrArg Array.toList d1
 subst this;exact r.inj r'
end
section
variable{X:Cx}{st:Stmt}{rest:List Stmt}{t u:TS}{e:Expr}{te:TE}{pos:Pos}
def Ge:TS:=fun D σ H=>D.nx σ H
def K2(t u:TS):TS:=fun D σ H=>t { D with nx:=u D } σ H
theorem Il:PSs X [] Ge:=fun _ _ σ H _ I h=>wpAny_execs_nil ⟨σ,H,I,h⟩
theorem FG(h1:PS X st t)(h2:PSs X rest u):PSs X (st ::rest) (K2 t u):=by
 intro pins s σ H D I h;refine wpAny_execs_cons (thn (h1 pins s σ H { D with nx:=u D } I h) fun f s1 q=>?_)
 cases f with
 | next=>
   obtain⟨σ',H',I',q⟩:=q;exact h2 pins s1 σ' H' D I' q
 |ret v=>exact q
 |brk=>exact q
 |cont=>exact q
theorem Ib(h1:PS X st t):PSs X [st] t:=by
 intro pins s σ H D I h;refine wpAny_execs_cons (thn (h1 pins s σ H D I h) fun f s1 q=>?_)
 cases f with
 |next=>exact wpAny_execs_nil q
 |ret v=>exact q
 |brk=>exact q
 |cont=>exact q
theorem Inv.quiet{pins:List (Addr×Obj)}(I:Inv X pins σ H s):interactive X.env=false:=by simp[interactive,I.ok.kind]
def u0(te:TE):TS:=fun D σ H=>te σ H fun _ H1=>D.nx σ H1
theorem Hl(he:PE X e te)(hs:swapsWith e none pos.line X.env=pure false:=by rfl):PS X (.Expr e pos) (u0 te):=by
 intro pins s σ H D I h;exact wpAny_Expr_any (thn (he pins s σ H _ I h) fun v s1 ⟨x,H1,I1,r1,q1⟩=>⟨σ,H1,I1,q1⟩) I.quiet hs
def Iz(te:TE):TS:=fun D σ H=>te σ H D.rt
theorem Ld(he:PE X e te):PS X (.Return (some e) pos) (Iz te):=by
 intro pins s σ H D I h;exact wpAny_Return_some (thn (he pins s σ H _ I h) fun v s1 ⟨x,H1,I1,r1,q1⟩=>⟨x,σ,H1,I1,r1,q1⟩)
def IV(c:TT)(t u:TS):TS:=fun D σ H=>c σ H fun b H1=>if b=true then t D σ H1 else u D σ H1
theorem ML(hc:PT X c tc)(ha:PSs X a t)(hb:PSs X b u):PS X (.If c a b pos) (IV tc t u):=by
 intro pins s σ H D I h;refine wpAny_If (thn (hc pins s σ H _ I h) fun d s1 ⟨H1,I1,q1⟩=>?_)
 cases d with
 |true=>exact ha pins s1 σ H1 D I1 q1
 |false=>exact hb pins s1 σ H1 D I1 q1
end
abbrev TG:=V->St->Hp->(St->Hp->Prop)->Prop
abbrev TGs:=List V->St->Hp->(St->Hp->Prop)->Prop
def PG(X:Cx)(target:Expr)(t:TG):Prop:=
 ∀(pins:List (Addr×Obj)) (s:Shared) (σ:St) (H:Hp) (v:V) (u:Value) (Q:St->Hp->Prop),Inv X pins σ H s->RelV v u->t v σ H Q ->
   wpAny (model X.prog X.w) X.A (assign target X.env u) (fun _ s'=>∃ σ' H',Inv X pins σ' H' s' /\ Q σ' H') X.xe s
def PGs(X:Cx)(ts:List Expr)(t:TGs):Prop:=
 ∀(pins:List (Addr×Obj)) (s:Shared) (σ:St) (H:Hp) (vs:List V) (us:List Value) (Q:St->Hp->Prop),Inv X pins σ H s->Vals vs us->t vs σ H Q ->
   wpAny (model X.prog X.w) X.A (assignInOrder ((assignEach ts X.env).map (·.2)) us) (fun _ s'=>∃ σ' H',Inv X pins σ' H' s' /\ Q σ' H') X.xe s
abbrev LJ:=V->V->V->Hp->(Hp->Prop)->Prop
def LN(X:Cx)(t:LJ):Prop:=
 ∀(pins:List (Addr×Obj)) (s:Shared) (σ:St) (H:Hp) (o i v:V) (ov iv u:Value) (Q:Hp->Prop),Inv X pins σ H s->RelV o ov->RelV i iv->RelV v u->t o i v H Q ->
   wpAny (model X.prog X.w) X.A (setItem ov iv u) (fun _ s'=>∃ H',Inv X pins σ H' s' /\ Q H') X.xe s
abbrev TIp:=V->V->Hp->VK->Prop
def PIp(X:Cx)(op:Operator)(t:TIp):Prop:=
 ∀(pins:List (Addr×Obj)) (s:Shared) (σ:St) (H:Hp) (x y:V) (v u:Value) (Q:VK),Inv X pins σ H s->RelV x v->RelV y u->t x y H Q ->
   wpAny (model X.prog X.w) X.A (inplaceOp op v u) (EP X pins σ Q) X.xe s
section
variable{X:Cx}{pos:Pos}
def mx(i:Nat):TG:=fun v σ H Q=>Q (σ.set i (some v)) H
theorem Hv(hN:X.N.Nodup)(hi:X.N[i]?=some x)(hx:Loc X.env.scope x)(hf:X.fn x=true \/ X.env.scope.names.lookup x=some .local:=by first|exact .inl rfl|exact .inr rfl|assumption):PG X (.Name x pos) (mx i):=by
 intro pins s σ H v u Q I r h;exact wpAny_assign_Name (mH I hN hi hx r (fun s' I'=>⟨_,H,I',h⟩) hf)
def Kc:TGs:=fun vs σ H Q=>vs=[] /\ Q σ H
def Cg(t:TG)(u:TGs):TGs:=fun vs σ H Q=>∃ v r,vs=v ::r /\ t v σ H fun σ' H'=>u r σ' H' Q
theorem Ig:PGs X [] Kc:=by
 intro pins s σ H vs us Q I r h;obtain⟨e,h⟩:=h;subst e;cases r;exact assignInOrder_nil ⟨σ,H,I,h⟩
theorem Gv(h1:PG X e t)(h2:PGs X es u)
  (hs:(assignEach (e ::es) X.env).map (·.2)=assign e X.env ::(assignEach es X.env).map (·.2):=by rfl):PGs X (e ::es) (Cg t u):=by
 intro pins s σ H vs us Q I r h;obtain⟨v,vr,e1,h⟩:=h;subst e1
 cases r with
 | cons r rr=>
   rw[hs];refine assignInOrder_cons (thn (h1 pins s σ H _ _ _ I r h) fun _ s1 ⟨σ1,H1,I1,q1⟩=>?_);exact h2 pins s1 σ1 H1 _ _ Q I1 rr q1
def LI(K:PySem.W.Frag)(n:Nat)(t:TGs):TG:=fun v σ H Q=>∃ a xs,v=.ref a /\ SqT K H a xs /\ xs.length=n /\ t xs σ H Q
theorem K4(hc:X.calm=true)(h:PGs X es t)
  (hn:(assignEach es X.env).length=n:=by rfl) (hst:(assignEach es X.env).findIdx? (·.1)=none:=by rfl):PG X (.Tuple es k pos) (LI X.K n t):=by
 intro pins s σ H v u Q I r hw;obtain⟨a,xs,e1,hq,hl,hw⟩:=hw;subst e1;cases r;obtain⟨its,rv,ht,hz⟩:=I.tuple hq
 refine assign_Tuple_tuple (I.ok.hd hc) ht (by simp[hn,<- hl,rv.length]) hst fun h' hx=>?_
 have I1:Inv X pins σ H { s with heap:=h' }:=I.kept (t':=s.toks) fun b o e=>hx b o (Nat.ne_of_lt (Heap.lt_size e)) e
 exact h pins _ σ H xs _ Q I1 (by simpa using rv) hw
def Im(to ti:TE)(t:LJ):TG:=fun v σ H Q=>to σ H fun o H1=>ti σ H1 fun i H2=>t o i v H2 fun H3=>Q σ H3
theorem KA(ho:PE X o to)(hi:PE X i ti)(hs:LN X t)
  (ha:∀ v,assign (.Subscript o i pos) X.env v=(do
    let ov <- holding [v] (eval o X.env)
    let iv <- holding [v,ov] (eval i X.env)
    standAt pos
    holding [v,ov,iv] (setItem ov iv v)
    release [v,ov,iv] []):=by intro _;rfl):PG X (.Subscript o i pos) (Im to ti t):=by
 intro pins s σ H v u Q I r h;rw[ha];refine wpAny_bind (wpAny_holding (thn (ho pins s σ H _ I h) fun ov s1 ⟨x,H1,I1,r1,q1⟩=>?_));refine wpAny_bind (wpAny_holding (thn (hi pins s1 σ H1 _ I1 q1) fun iv s2 ⟨y,H2,I2,r2,q2⟩=>?_));refine wpAny_bind (wpAny_standAt (wpAny_bind (wpAny_holding (thn (hs pins s2 σ H2 x y v ov iv u _ I2 r1 r2 r q2) fun _ s3 ⟨H3,I3,q3⟩=>?_))));exact wpAny_release ⟨σ,H3,I3,q3⟩
def vh(te:TE)(g:TG):TS:=fun D σ H=>te σ H fun x H1=>g x σ H1 D.nx
theorem LY(he:PE X e te)(hg:PG X tg g)(hs:swapsWithSole [tg] e pos.line X.env=pure false:=by rfl)(hw:swappedStores [tg] e X.env=pure none:=by rfl)
  (h1:(assignEach [tg] X.env).map (·.2)=[assign tg X.env]:=by rfl):PS X (.Assign [tg] e pos) (vh te g):=by
 intro pins s σ H D I h;refine wpAny_Assign_stores (thn (he pins s σ H _ I h) fun v s1 ⟨x,H1,I1,r1,q1⟩=>?_) hs hw;rw[h1]
 exact thn (hg pins s1 σ H1 x v _ I1 r1 q1) fun _ s2 q=>q
theorem KN(hN:X.N.Nodup)(hi:X.N[i]?=some x)(hx:Loc X.env.scope x)(he:PE X e te)(hs:swapsWith e (some (.Name x pos')) pos.line X.env=pure false:=by rfl)(hf:X.fn x=true \/ X.env.scope.names.lookup x=some .local:=by first|exact .inl rfl|exact .inr rfl|assumption):
  PS X (.Assign [.Name x pos'] e pos) (vh te (mx i)):=by
 intro pins s σ H D I h;refine wpAny_Assign_Name (thn (he pins s σ H _ I h) fun v s1 ⟨y,H1,I1,r1,q1⟩=>?_) hs;exact mH I1 hN hi hx r1 (fun s2 I2=>⟨_,H1,I2,q1⟩) hf
def Hh(i:Nat)(te:TE)(ti:TIp):TS:=fun D σ H=>∃ x,σ[i]?=some (some x) /\ te σ H fun y H1=>ti x y H1 fun z H2=>D.nx (σ.set i (some z)) H2
theorem L6(hN:X.N.Nodup)(hi:X.N[i]?=some x)(hx:Loc X.env.scope x)(he:PE X e te)(ho:PIp X op ti)(hf:X.fn x=true \/ X.env.scope.names.lookup x=some .local:=by first|exact .inl rfl|exact .inr rfl|assumption):
  PS X (.AugAssign (.Name x pos') op e pos) (Hh i te ti):=by
 intro pins s σ H D I h;obtain⟨v,e1,h⟩:=h;obtain⟨m,hn,hl⟩:=I.loc
 have vis:Vis X.env.scope x:=by rcases hx with k|k;exact .inl k;exact .inr (.inl k)
 obtain⟨u,r,l⟩:=hl i x v hi e1 vis;refine wpAny_AugAssign_Name ?_
 have go:wpAny (model X.prog X.w) X.A (eval e X.env) (fun w s₂=>wpAny (model X.prog X.w) X.A (inplaceOp op u w) (fun r s₃=>wpAny (model X.prog X.w) X.A (storeName X.env x r) (fun _=>SP X pins D .next) X.xe s₃) X.xe s₂) X.xe s:=by
  refine thn (he pins s σ H _ I h) fun w s1 ⟨y,H1,I1,r1,q1⟩=>?_
  refine thn (ho pins s1 σ H1 v y u w _ I1 r r1 q1) fun z s2 ⟨zv,H2,I2,r2,q2⟩=>?_
  exact mH I2 hN hi hx r2 (fun s3 I3=>⟨_,H2,I3,q2⟩) hf
 rcases l with⟨hk,hm⟩|⟨hk,c,hc,hcell⟩
 . exact wpAny_loadName_local I.ok.kind hk hn hm go
 . rcases hk with hk|hk
   . exact wpAny_loadName_cell I.ok.kind hk hc hcell go
   . rcases hx with k|k
     . have:X.env.scope.names.lookup x=some .free:=hk
       rw[k]at this;cases this
     . have:X.env.scope.names.lookup x=some .free:=hk
       rw[k]at this;cases this
def ipI(f:Int->Int->Int):TIp:=fun x y H Q=>∃ i j,x=.int i /\ y=.int j /\ Q (.int (f i j)) H
theorem uE:PIp X .Add (ipI fun i j=>i+j):=by
 intro pins s σ H x y v u Q I r1 r2 h;obtain⟨i,j,e1,e2,q⟩:=h;subst e1;subst e2;obtain⟨t,rfl⟩:=r1;obtain⟨t',rfl⟩:=r2;exact iadd_int ⟨.int _,H,I.tok _,⟨_,rfl⟩,q⟩
end
section
variable{X:Cx}{pos:Pos}
def By(c:TT)(tb:TS):TS:=fun D σ H=>∃ W:Nat->St->Hp->Prop,(∃ m,W m σ H) /\ ∀ m σ H,W m σ H ->
 c σ H fun b H1=>if b=true then ∃ N:St->Hp->Prop,(∀ σ' H',N σ' H'->∃ m',m'<m /\ W m' σ' H') /\ tb { D with nx:=N,ct:=N,bk:=D.nx } σ H1 else D.nx σ H1
theorem Fg(hp:PassesOwn (model X.prog X.w) X.A X.env X.xe)(hc:PT X c tc)(hb:PSs X body tb):PS X (.While c body [] pos) (By tc tb):=by
 intro pins s σ H D I h;obtain⟨W,⟨m0,w0⟩,turn⟩:=h;refine wpAny_While (codeAny_whileLoop (fun n s'=>∃ σ' H',Inv X pins σ' H' s' /\ W n σ' H') ?_ m0 ⟨σ,H,I,w0⟩)
 rintro n s1 ⟨σ1,H1,I1,w1⟩
 refine wpAny_passesOwn hp (thn (hc pins s1 σ1 H1 _ I1 (turn n σ1 H1 w1)) fun b s2 ⟨H2,I2,q2⟩=>?_)
 cases b with
 | true=>
   obtain⟨N,hN,q2⟩:=q2;rw[if_pos rfl];refine wpAny_passesOwn hp (thn (hb pins s2 σ1 H2 _ I2 q2) fun f s3 q3=>?_)
   cases f with
   | next=>
     obtain⟨σ3,H3,I3,n3⟩:=q3;obtain⟨m',hm,w3⟩:=hN σ3 H3 n3
     exact⟨m',hm,σ3,H3,I3,w3⟩
   | cont=>
     obtain⟨σ3,H3,I3,n3⟩:=q3;obtain⟨m',hm,w3⟩:=hN σ3 H3 n3
     exact⟨m',hm,σ3,H3,I3,w3⟩
   |brk=>exact q3
   |ret v=>exact q3
 | false=>
   rw[if_neg Bool.false_ne_true];exact wpAny_execs_nil ⟨σ1,H2,I2,q2⟩
end
structure It where
 go:Nat->Hp->Prop
 yld:Nat->Hp->V->Hp->Prop
 stop:Nat->Hp->Prop
def p8(X:Cx)(pins:List (Addr×Obj))(H:Hp)(b:Addr):Prop:=
 H b=none /\ b≠X.env.locals /\ b∉X.fs /\ (b∈X.ex \/ X.s₀.heap.objs.size<=b) /\ (∀ x c,X.env.cells.lookup x=some c->c≠b) /\ ∀ p∈X.pn++pins,p.1≠b
theorem Inv.Dj{pins:List (Addr×Obj)}{s:Shared}(I:Inv X pins σ H s)(hb:s.heap.objs.size<=b)(hn:H' b=none):p8 X pins H' b:=by
 refine⟨hn,Nat.ne_of_gt (Nat.lt_of_lt_of_le I.lt hb),I.OR hb,.inr (Nat.le_trans I.sz hb),fun x c e z=>?_,fun p hp z=>?_⟩
 . obtain⟨v,q⟩:=I.cell x c e;exact absurd (Nat.lt_of_lt_of_le q.lt (by rw[z];exact hb)) (Nat.lt_irrefl _)
 . exact absurd (Nat.lt_of_lt_of_le (Heap.lt_size (I.pin p hp).1) (by rw[z];exact hb)) (Nat.lt_irrefl _)
structure Turn(P:Program)(w:World)(K:PySem.W.Frag)(tg:Expr)(J:It)(fp:List Addr)(it:Addr)(tn:Nat->Heap->Prop):Prop where
 mem:it∈fp
 obj:∀ i h,tn i h->∀ b∈fp,∃ o,h.get? b=some o /\ ∀ v,o.data≠.cell v
 keep:∀ i h h',tn i h->(∀ b∈fp,∀ o,h.get? b=some o->h'.get? b=some o)->tn i h'
 item:∀(X:Cx),X.prog=P->X.w=w->X.K=K->X.calm=true->∀(i:Nat) (pins:List (Addr×Obj)) (s:Shared) (σ:St) (H:Hp) (E:Value->Shared->Prop),Inv X pins σ H s->(∀ b∈fp,p8 X pins H b)->tn i s.heap->J.go i H ->
  wpAny (model P w) X.A (pyNext (.ref it)) (fun r s1=>∃ u,r=some u /\
   wpAny (model P w) X.A (letOwnedTupleGo tg (.ref it) u) (fun _ s2=>∃ x H',Inv X pins σ H' s2 /\ RelV x u /\ J.yld i H x H' /\ tn (i+1) s2.heap /\ ∀ b∈fp,H' b=none) E s1) E s
 done:∀(X:Cx),X.prog=P->X.w=w->X.K=K->X.calm=true->∀(i:Nat) (pins:List (Addr×Obj)) (s:Shared) (σ:St) (H:Hp) (E:Value->Shared->Prop),Inv X pins σ H s->(∀ b∈fp,p8 X pins H b)->tn i s.heap->J.stop i H ->
  wpAny (model P w) X.A (pyNext (.ref it)) (fun r s1=>r=none /\ Inv X pins σ H s1) E s
 self:∀(A:Around) (i:Nat) (s:Shared) (Q:Value->Shared->Prop) (E:Value->Shared->Prop),tn i s.heap->Q (.ref it) s->wpAny (model P w) A (pyIter (.ref it)) Q E s
abbrev TI:=St->Hp->(It->Hp->Prop)->Prop
def PIE(X:Cx)(pins:List (Addr×Obj))(σ:St)(tg:Expr)(R:It->Hp->Prop)(itv:Value)(s2:Shared):Prop:=
 ∃(it:Addr) (fp:List Addr) (tn:Nat->Heap->Prop) (J:It) (H':Hp),itv=.ref it /\ Inv X pins σ H' s2 /\ Turn X.prog X.w X.K tg J fp it tn /\ tn 0 s2.heap /\ (∀ b∈fp,p8 X pins H' b) /\ R J H'
def PI(X:Cx)(tg iter:Expr)(wi:TI):Prop:=
 ∀(pins:List (Addr×Obj)) (s:Shared) (σ:St) (H:Hp) (R:It->Hp->Prop),Inv X pins σ H s->wi σ H R ->
   wpAny (model X.prog X.w) X.A (eval iter X.env) (fun v s1=>wpAny (model X.prog X.w) X.A (pyIter v) (PIE X pins σ tg R) X.xe s1) X.xe s
theorem CL{E:Value->Shared->Prop}{s:Shared}{o:Obj}{vs:Array Value}{Q:Unit->Shared->Prop}(ho:s.heap.get? it=some o)(hc:o.cls=.type n)(hd:o.data=.fields vs)
  (hn:["enumerate","zip","dict_itemiterator","dict_reverseitemiterator","odict_iterator","itertools.zip_longest","itertools.pairwise"].contains n=false) (hQ:Q () s):wpAny M A (letOwnedTupleGo tg (.ref it) u) Q E s:=by
 unfold letOwnedTupleGo
 cases tg<;>first
  |exact wpAny_pure hQ
  | (cases u <;> first
      |exact wpAny_pure hQ
      | (refine wpAny_bind (wpAny_load ho ?_)
         rw[hc,hd];show wpAny M A (if(["enumerate","zip","dict_itemiterator","dict_reverseitemiterator","odict_iterator","itertools.zip_longest","itertools.pairwise"].contains n&&vs[0]?==some (rawInt _))=true then _ else _) Q E s;rw[if_neg (by intro h;rw[hn,Bool.false_and]at h;cases h)]
         exact wpAny_pure hQ))
def Itl(K:PySem.W.Frag)(a:Addr):It:=
 ⟨fun i H=>∃ xs x,SqL K H a xs /\ xs[i]?=some x,fun i H x H'=>H'=H /\ ∀ xs,SqL K H a xs->xs[i]?=some x,fun i H=>∃ xs,SqL K H a xs /\ xs.length<=i⟩
def Itt(K:PySem.W.Frag)(a:Addr):It:=
 ⟨fun i H=>∃ xs x,SqT K H a xs /\ xs[i]?=some x,fun i H x H'=>H'=H /\ ∀ xs,SqT K H a xs->xs[i]?=some x,fun i H=>∃ xs,SqT K H a xs /\ xs.length<=i⟩
def Itr(lo:Int)(n:Nat):It:=⟨fun i _=>i<n,fun i H x H'=>H'=H /\ x=.int (lo+i),fun i _=>n<=i⟩
theorem D5{K:PySem.W.Frag}(a it:Addr):Turn P w K tg (Itl K a) [it] it (fun i h=>h.IsListIter it a i) where
 mem:=by simp
 obj:=fun i h st b hb=>by
  have e:b=it:=by simpa using hb
  subst e;obtain⟨o,e,c,d⟩:=st
  exact⟨o,e,fun v z=>by rw[d]at z;cases z⟩
 keep:=fun i h h' st k=>st.at fun o e=>k it (by simp) o e
 item:=by
  intro X hP hw hK hc i pins s σ H E I hf st hg;subst hP hw hK;obtain⟨xs,x,hq,hx⟩:=hg;obtain⟨its,rv,p,hz⟩:=I.list hq;obtain⟨u,hu,ru⟩:=rv.get hx;obtain⟨f0,f1,f2,f3,f4,f5⟩:=hf it (by simp)
  refine wpAny_pyNext_list_item st p.isList (x:=u) (by simpa using hu) fun h' st' sb=>?_
  have I1:Inv X pins σ H { s with heap:=h' }:=I.turned (t':=s.toks) (fun b o hb e=>(sb.2 b hb).trans e) f0 f1 f3 f4 f5
  obtain⟨o,e,c,d⟩:=id st'
  exact⟨u,rfl,CL (s:={ s with heap:=h' }) e c d (by decide) ⟨x,H,I1,ru,⟨rfl,fun ys hy=>by rw[I.Aq hy hq];exact hx⟩,st',fun b hb=>(hf b hb).1⟩⟩
 done:=by
  intro X hP hw hK hc i pins s σ H E I hf st hg;subst hP hw hK;obtain⟨xs,hq,hx⟩:=hg;obtain⟨its,rv,p,hz⟩:=I.list hq;obtain⟨f0,f1,f2,f3,f4,f5⟩:=hf it (by simp);have hl:=rv.length
  exact wpAny_pyNext_list_end (I.ok.hd hc) st p.isList (by simp;omega) fun h' eb=>⟨rfl,I.turned (t':=s.toks) (fun b o hb e=>eb b o hb e) f0 f1 f3 f4 f5⟩
 self:=fun _ _ _ _ _ st h=>wpAny_pyIter_listiter st h
theorem Bv{K:PySem.W.Frag}(a it:Addr):Turn P w K tg (Itt K a) [it] it (fun i h=>h.IsTupleIter it a i) where
 mem:=by simp
 obj:=fun i h st b hb=>by
  have e:b=it:=by simpa using hb
  subst e;obtain⟨o,e,c,d⟩:=st
  exact⟨o,e,fun v z=>by rw[d]at z;cases z⟩
 keep:=fun i h h' st k=>st.at fun o e=>k it (by simp) o e
 item:=by
  intro X hP hw hK hc i pins s σ H E I hf st hg;subst hP hw hK;obtain⟨xs,x,hq,hx⟩:=hg;obtain⟨its,rv,p,hz⟩:=I.tuple hq;obtain⟨u,hu,ru⟩:=rv.get hx;obtain⟨f0,f1,f2,f3,f4,f5⟩:=hf it (by simp)
  refine wpAny_pyNext_tuple_item st (show s.heap.IsTuple a its.toArray from p) (x:=u) (by simpa using hu) fun h' st' sb=>?_
  have I1:Inv X pins σ H { s with heap:=h' }:=I.turned (t':=s.toks) (fun b o hb e=>(sb.2 b hb).trans e) f0 f1 f3 f4 f5
  obtain⟨o,e,c,d⟩:=id st'
  exact⟨u,rfl,CL (s:={ s with heap:=h' }) e c d (by decide) ⟨x,H,I1,ru,⟨rfl,fun ys hy=>by rw[I.DA hy hq];exact hx⟩,st',fun b hb=>(hf b hb).1⟩⟩
 done:=by
  intro X hP hw hK hc i pins s σ H E I hf st hg;subst hP hw hK;obtain⟨xs,hq,hx⟩:=hg;obtain⟨its,rv,p,hz⟩:=I.tuple hq;obtain⟨f0,f1,f2,f3,f4,f5⟩:=hf it (by simp);have hl:=rv.length
  exact wpAny_pyNext_tuple_end (I.ok.hd hc) st (show s.heap.IsTuple a its.toArray from p) (by simp;omega) fun h' eb=>⟨rfl,I.turned (t':=s.toks) (fun b o hb e=>eb b o hb e) f0 f1 f3 f4 f5⟩
 self:=fun _ _ _ _ _ st h=>wpAny_pyIter_tupleiter st h
theorem B4{K:PySem.W.Frag}(it:Addr)(lo:Int)(n:Nat):Turn P w K tg (Itr lo n) [it] it (fun i h=>IsRangeIter h it (lo+(i:Nat)*1) ((n:Int) - (i:Nat)) 1) where
 mem:=by simp
 obj:=fun i h st b hb=>by
  have e:b=it:=by simpa using hb
  subst e
  exact⟨_,st,fun v z=>by
   have z':Data.fields _=Data.cell v:=z
   cases z'⟩
 keep:=fun i h h' st k=>k it (by simp) _ st
 item:=by
  intro X hP hw hK hc i pins s σ H E I hf st hg;subst hP hw hK;obtain⟨f0,f1,f2,f3,f4,f5⟩:=hf it (by simp);have W:=Walks.range (prog:=X.prog) (w:=X.w) (I.ok.hd hc) it lo 1 n
  refine W.item i s _ _ hg st fun v h' tk hv st' kk=>?_
  obtain⟨t,rfl⟩:=hv
  have I1:Inv X pins σ H { s with heap:=h',toks:=tk }:=I.turned (fun b o hb e=>kk b o (by simpa using hb) e) f0 f1 f3 f4 f5
  refine⟨_,rfl,CL (s:={ s with heap:=h',toks:=tk }) (n:="range_iterator") st' rfl rfl (by decide) ⟨.int (lo+i),H,I1,⟨t,?_⟩,⟨rfl,rfl⟩,st',fun b hb=>(hf b hb).1⟩⟩
  rw[Int.mul_one]
 done:=by
  intro X hP hw hK hc i pins s σ H E I hf st hg;subst hP hw hK;obtain⟨f0,f1,f2,f3,f4,f5⟩:=hf it (by simp)
  exact wpAny_pyNext_range_end (I.ok.hd hc) st (by have:n<=i:=hg;omega) fun h' eb=>⟨rfl,I.turned (t':=s.toks) (fun b o hb e=>eb b o hb e) f0 f1 f3 f4 f5⟩
 self:=fun _ _ _ _ _ st h=>wpAny_pyIter_rangeiter st h
section
variable{X:Cx}{tg:Expr}
def AL(K:PySem.W.Frag)(tl:TE):TI:=fun σ H R=>tl σ H fun x H1=>∃ a,x=.ref a /\ (∃ xs,SqL K H1 a xs) /\ R (Itl K a) H1
def LH(K:PySem.W.Frag)(tl:TE):TI:=fun σ H R=>tl σ H fun x H1=>∃ a,x=.ref a /\ (∃ xs,SqT K H1 a xs) /\ R (Itt K a) H1
theorem Ir(hl:PE X l tl):PI X tg l (AL X.K tl):=by
 intro pins s σ H R I h
 refine thn (hl pins s σ H _ I h) fun v s1 ⟨x,H1,I1,r1,q1⟩=>?_
 obtain⟨a,e,⟨xs,hq⟩,q⟩:=q1;subst e;cases r1;obtain⟨its,rv,p,hz⟩:=I1.list hq;refine wpAny_pyIter_list p.isList ?_
 refine⟨s1.heap.objs.size,[s1.heap.objs.size],_,_,H1,rfl,I1.kept (t':=s1.toks) fun b o e=>Heap.get?_push_of_some _ e,D5 a _,⟨_,Heap.get?_push_size _ rfl,rfl,rfl⟩,fun b hb=>?_,q⟩
 have e:b=s1.heap.objs.size:=by simpa using hb
 subst e;exact I1.Dj (Nat.le_refl _) (I1.hok.fresh (Nat.le_refl _))
theorem Kk(hl:PE X l tl):PI X tg l (LH X.K tl):=by
 intro pins s σ H R I h
 refine thn (hl pins s σ H _ I h) fun v s1 ⟨x,H1,I1,r1,q1⟩=>?_
 obtain⟨a,e,⟨xs,hq⟩,q⟩:=q1;subst e;cases r1;obtain⟨its,rv,p,hz⟩:=I1.tuple hq;refine wpAny_pyIter_tuple (show s1.heap.IsTuple a its.toArray from p) ?_
 refine⟨s1.heap.objs.size,[s1.heap.objs.size],_,_,H1,rfl,I1.kept (t':=s1.toks) fun b o e=>Heap.get?_push_of_some _ e,Bv a _,⟨_,Heap.get?_push_size _ rfl,rfl,rfl⟩,fun b hb=>?_,q⟩
 have e:b=s1.heap.objs.size:=by simpa using hb
 subst e;exact I1.Dj (Nat.le_refl _) (I1.hok.fresh (Nat.le_refl _))
theorem Gf{pins:List (Addr×Obj)}{σ:St}{H:Hp}{s:Shared}{R:It->Hp->Prop}{E:Value->Shared->Prop}{lo hi:Int}{t u v:Tok}{tk:Nat}(I:Inv X pins σ H s)(h1:-(2 ^ 62)<=lo)(h2:lo<2 ^ 62)(h3:-(2 ^ 62)<=hi)(h4:hi<2 ^ 62)
  (q:R (Itr lo (hi - lo).toNat) H):wpAny (model X.prog X.w) X.A (pyIter (.ref s.heap.objs.size)) (PIE X pins σ tg R) E { s with heap:=s.heap.push { cls:=.type "range",data:=.fields #[.int lo t,.int hi u,.int 1 v] },toks:=tk }:=by
 refine wpAny_pyIter_range (IsRange.new ..) (small_one h1 h2 h3 h4) ?_
 have I1:Inv X pins σ H { s with heap:=s.heap.push { cls:=.type "range",data:=.fields #[.int lo t,.int hi u,.int 1 v] },toks:=tk }:=I.kept fun b o e=>Heap.get?_push_of_some _ e
 refine⟨(s.heap.push { cls:=.type "range",data:=.fields #[.int lo t,.int hi u,.int 1 v] }).objs.size,[(s.heap.push { cls:=.type "range",data:=.fields #[.int lo t,.int hi u,.int 1 v] }).objs.size],_,_,H,rfl,
  I1.kept (t':=tk) fun b o e=>Heap.get?_push_of_some _ e,B4 _ lo (hi - lo).toNat,?_,fun b hb=>?_,q⟩
 . have e1:lo+((0:Nat):Int)*1=lo:=by simp
   have e2:(((hi - lo).toNat:Nat):Int) - ((0:Nat):Int)=Builtin.Range.rangeSize lo hi 1:=by rw[rangeSize_one];split<;>omega
   show IsRangeIter _ _ (lo+((0:Nat):Int)*1) ((((hi - lo).toNat:Nat):Int) - ((0:Nat):Int)) 1;rw[e1,e2];exact Heap.get?_push_size _ rfl
 . have e:b=(s.heap.push { cls:=.type "range",data:=.fields #[.int lo t,.int hi u,.int 1 v] }).objs.size:=by simpa using hb
   subst e;exact I1.Dj (Nat.le_refl _) (I1.hok.fresh (Nat.le_refl _))
def CU(ta:TA):TI:=fun σ H R=>ta σ H fun vs H1=>∃ j:Int,vs=[.int j] /\ -(2 ^ 62)<=j /\ j<2 ^ 62 /\ R (Itr 0 j.toNat) H1
theorem DF{a:Expr}{ta:TA}{p pos:Pos}(hg:Gl X "range")(hm:X.mg "range" = none)(ha:PA X [a] ta)(hs:starEach [a] X.env=[(false,eval a X.env)]:=by rfl):PI X tg (.Call (.Name "range" p) [a] [] pos) (CU ta):=by
 intro pins s σ H R I h;refine Call_ (wY I hg hm boot_range (PyProof.Rows.callWith_type1 (thn (ha pos pins s σ H _ I h) fun us s1 ⟨vs,H1,I1,r1,q1⟩=>?_) hs rfl));obtain⟨j,e,q1,q2,q⟩:=q1;subst e
 cases r1 with
 | cons r rr=>
   cases rr;obtain⟨t,rfl⟩:=r;exact call_range_1 (Gf I1 (by omega) (by omega) q1 q2 (by simpa using q))
def F7(wi:TI)(g:TG)(tb:TS):TS:=fun D σ H=>wi σ H fun J H1=>∃ W:Nat->Nat->St->Hp->Prop,(∃ m,W 0 m σ H1) /\ ∀ i m σ H,W i m σ H ->
 (J.stop i H /\ D.nx σ H) \/ (J.go i H /\ ∃ N:St->Hp->Prop,(∀ σ' H',N σ' H'->∃ m',m'<m /\ W (i+1) m' σ' H') /\ ∀ x H',J.yld i H x H'->g x σ H' fun σ2 H2=>tb { D with nx:=N,ct:=N,bk:=D.nx } σ2 H2)
def yM(fp:List Addr)(h:Heap):List (Addr×Obj):=fp.filterMap fun b=>(h.get? b).map fun o=>(b,o)
theorem eX{h:Heap}(hb:b∈fp)(e:h.get? b=some o):(b,o)∈yM fp h:=List.mem_filterMap.mpr ⟨b,hb,by rw[e];rfl⟩
theorem D8{h:Heap}{p:Addr×Obj}(hp:p∈yM fp h):p.1∈fp /\ h.get? p.1=some p.2:=by
 obtain⟨b,hb,e⟩:=List.mem_filterMap.mp hp
 cases q:h.get? b with
 |none=>rw[q]at e;cases e
 | some o=>
   rw[q]at e
   have e':(b,o)=p:=Option.some.inj e
   subst e'
   exact⟨hb,q⟩
theorem Inv.pinned{pins:List (Addr×Obj)}{s:Shared}(I:Inv X pins σ H s)(hf:∀ b∈fp,p8 X pins H b)(ho:∀ b∈fp,∃ o,s.heap.get? b=some o /\ ∀ v,o.data≠.cell v):Inv X (pins++yM fp s.heap) σ H s:=
 I.CJ fun p hp=>(List.mem_append.mp hp).elim (fun z=>I.pin p (List.mem_append_right _ z)) fun z=>by
  obtain⟨hb,e⟩:=D8 z;obtain⟨f0,f1,f2,_⟩:=hf p.1 hb;obtain⟨o,e',d⟩:=ho p.1 hb;rw[e]at e';cases e'
  exact⟨e,f0,f1,f2,d⟩
theorem Inv.kK{pins pl:List (Addr×Obj)}(I:Inv X (pins++pl) σ H s):Inv X pins σ H s:=I.CJ fun p hp=>I.pin p (List.mem_append_right _ (List.mem_append_left _ hp))
theorem K8(hp:PassesOwn (model X.prog X.w) X.A X.env X.xe)(hc:X.calm=true)(hi:PI X tg iter wi)(hg:PG X tg g)(hb:PSs X body tb)
  (hs:∀ x,foldedSetIterable iter X.env x=pure x:=by intro _;rfl):PS X (.For tg iter body [] pos) (F7 wi g tb):=by
 intro pins s σ H D I h;refine wpAny_For (thn (hi pins s σ H _ I h) fun v s1 h1=>thn h1 fun itv s2 h2=>?_) hs;obtain⟨it,fp,tn,J,H2,e,I2,T,st2,f2,W,⟨m0,w0⟩,turn⟩:=h2;subst e
 have stat:∀{H':Hp},(∀ b∈fp,H' b=none)->∀ b∈fp,p8 X pins H' b:=fun hn b hb=>⟨hn b hb,(f2 b hb).2⟩
 refine codeAny_forLoop_any (fun n s'=>∃ i σ' H',Inv X pins σ' H' s' /\ tn i s'.heap /\ (∀ b∈fp,H' b=none) /\ W i n σ' H') ?_ m0 ⟨0,σ,H2,I2,st2,fun b hb=>(f2 b hb).1,w0⟩
 rintro n s3 ⟨i,σ3,H3,I3,st3,fr3,w3⟩
 rcases turn i n σ3 H3 w3 with⟨stop,qn⟩|⟨go,N,hN,step⟩
 . refine wpAny_passesOwn hp (thn (T.done X rfl rfl rfl hc i pins s3 σ3 H3 X.xe I3 (stat fr3) st3 stop) fun r s4 ⟨hr,I4⟩=>?_);subst hr;exact wpAny_execs_nil ⟨σ3,H3,I4,qn⟩
 . refine wpAny_passesOwn hp (thn (T.item X rfl rfl rfl hc i pins s3 σ3 H3 X.xe I3 (stat fr3) st3 go) fun r s4 ⟨u,hr,h4⟩=>?_);subst hr;refine wpAny_passesOwn hp (thn h4 fun _ s5 ⟨x,H5,I5,r5,y5,st5,fr5⟩=>?_)
   have I5':=I5.pinned (stat fr5) (T.obj _ _ st5)
   refine wpAny_passesOwn hp (thn (hg _ s5 σ3 H5 x u _ I5' r5 (step x H5 y5)) fun _ s6 ⟨σ6,H6,I6,q6⟩=>?_);refine wpAny_passesOwn hp (thn (hb _ s6 σ6 H6 _ I6 q6) fun f s7 q7=>?_)
   have again:∀{σ7:St} {H7:Hp},Inv X (pins++yM fp s5.heap) σ7 H7 s7->N σ7 H7->∃ m,m<n /\ ∃ i σ' H',Inv X pins σ' H' s7 /\ tn i s7.heap /\ (∀ b∈fp,H' b=none) /\ W i m σ' H':=fun {σ7 H7} I7 n7=>by
    obtain⟨m',hm,w7⟩:=hN σ7 H7 n7
    refine⟨m',hm,i+1,σ7,H7,I7.kK,T.keep _ _ _ st5 fun b hb o e=>(I7.pin (b,o) (List.mem_append_right _ (List.mem_append_right _ (eX hb e)))).1,fun b hb=>?_,w7⟩
    obtain⟨o,e,d⟩:=T.obj _ _ st5 b hb
    exact(I7.pin (b,o) (List.mem_append_right _ (List.mem_append_right _ (eX hb e)))).2.1
   cases f with
   |next=>obtain⟨σ7,H7,I7,n7⟩:=q7;exact again I7 n7
   |cont=>obtain⟨σ7,H7,I7,n7⟩:=q7;exact again I7 n7
   |brk=>obtain⟨σ7,H7,I7,q7⟩:=q7;exact⟨σ7,H7,I7.kK,q7⟩
   |ret v=>obtain⟨x7,σ7,H7,I7,r7,q7⟩:=q7;exact⟨x7,σ7,H7,I7.kK,r7,q7⟩
end
theorem Gw{K:PySem.W.Frag}{a:Addr}{xs:List V}{g:TG}{tb:TS}{D:Ends}{σ:St}{H:Hp}(Pv:Nat->St->Hp->Prop)(h0:Pv 0 σ H)(hl:∀ i σ H,i<=xs.length->Pv i σ H->SqL K H a xs)
  (hs:∀ i x σ H,xs[i]?=some x->Pv i σ H->g x σ H fun σ2 H2=>tb { D with nx:=Pv (i+1),ct:=Pv (i+1),bk:=D.nx } σ2 H2) (hd:∀ σ H,Pv xs.length σ H->D.nx σ H):
  ∃ W:Nat->Nat->St->Hp->Prop,(∃ m,W 0 m σ H) /\ ∀ i m σ H,W i m σ H ->
    ((Itl K a).stop i H /\ D.nx σ H) \/ ((Itl K a).go i H /\ ∃ N:St->Hp->Prop,(∀ σ' H',N σ' H'->∃ m',m'<m /\ W (i+1) m' σ' H') /\ ∀ x H',(Itl K a).yld i H x H'->g x σ H' fun σ2 H2=>tb { D with nx:=N,ct:=N,bk:=D.nx } σ2 H2):=by
 refine⟨fun i m σ H=>m=xs.length - i /\ i<=xs.length /\ Pv i σ H,⟨xs.length,by simp,Nat.zero_le _,h0⟩,?_⟩
 rintro i m σ H ⟨rfl,hi,p⟩
 have q:=hl i σ H hi p
 by_cases hlt:i<xs.length
 . refine .inr ⟨⟨xs,xs[i],q,by simp[hlt]⟩,Pv (i+1),fun σ' H' p'=>⟨xs.length - (i+1),by omega,rfl,hlt,p'⟩,fun x H' y=>?_⟩;obtain⟨e,y⟩:=y;subst e;exact hs i x σ _ (y xs q) p
 . have e:i=xs.length:=by omega
   subst e;exact .inl ⟨⟨xs,q,Nat.le_refl _⟩,hd σ H p⟩
theorem Dz{lo:Int}{n:Nat}{g:TG}{tb:TS}{D:Ends}{σ:St}{H:Hp}(Pv:Nat->St->Hp->Prop)(h0:Pv 0 σ H)
  (hs:∀ i σ H,i<n->Pv i σ H->g (.int (lo+i)) σ H fun σ2 H2=>tb { D with nx:=Pv (i+1),ct:=Pv (i+1),bk:=D.nx } σ2 H2) (hd:∀ σ H,Pv n σ H->D.nx σ H):
  ∃ W:Nat->Nat->St->Hp->Prop,(∃ m,W 0 m σ H) /\ ∀ i m σ H,W i m σ H ->
    ((Itr lo n).stop i H /\ D.nx σ H) \/ ((Itr lo n).go i H /\ ∃ N:St->Hp->Prop,(∀ σ' H',N σ' H'->∃ m',m'<m /\ W (i+1) m' σ' H') /\ ∀ x H',(Itr lo n).yld i H x H'->g x σ H' fun σ2 H2=>tb { D with nx:=N,ct:=N,bk:=D.nx } σ2 H2):=by
 refine⟨fun i m σ H=>m=n - i /\ i<=n /\ Pv i σ H,⟨n,by simp,Nat.zero_le _,h0⟩,?_⟩
 rintro i m σ H ⟨rfl,hi,p⟩
 by_cases hlt:i<n
 . refine .inr ⟨hlt,Pv (i+1),fun σ' H' p'=>⟨n - (i+1),by omega,rfl,hlt,p'⟩,fun x H' y=>?_⟩;obtain⟨e,y⟩:=y;subst e y;exact hs i σ _ hlt p
 . have e:i=n:=by omega
   subst e;exact .inl ⟨Nat.le_refl _,hd σ H p⟩
abbrev R2:=V->V->Hp->VK->Prop
def OpR(X:Cx)(f:Value->Value->Sem Value)(r:R2):Prop:=
 ∀(pins:List (Addr×Obj)) (s:Shared) (σ:St) (H:Hp) (x y:V) (v u:Value) (Q:VK),Inv X pins σ H s->RelV x v->RelV y u->r x y H Q ->
   wpAny (model X.prog X.w) X.A (f v u) (EP X pins σ Q) X.xe s
def UnR(X:Cx)(f:Value->Sem Value)(r:V->Hp->VK->Prop):Prop:=
 ∀(pins:List (Addr×Obj)) (s:Shared) (σ:St) (H:Hp) (x:V) (v:Value) (Q:VK),Inv X pins σ H s->RelV x v->r x H Q ->
   wpAny (model X.prog X.w) X.A (f v) (EP X pins σ Q) X.xe s
def n4(X:Cx)(f:Value)(r:List V->Hp->VK->Prop):Prop:=
 ∀(pins:List (Addr×Obj)) (s:Shared) (σ:St) (H:Hp) (xs:List V) (us:List Value) (Q:VK),Inv X pins σ H s->Vals xs us->r xs H Q ->
   wpAny (model X.prog X.w) X.A (call f us) (EP X pins σ Q) X.xe s
def Oy(X:Cx)(r:V->Hp->(Bool->Hp->Prop)->Prop):Prop:=
 ∀(pins:List (Addr×Obj)) (s:Shared) (σ:St) (H:Hp) (x:V) (v:Value) (Q:Bool->Hp->Prop),Inv X pins σ H s->RelV x v->r x H Q ->
   wpAny (model X.prog X.w) X.A (truthy v) (TP X pins σ Q) X.xe s
def tOp(r:R2)(ta tb:TE):TE:=fun σ H Q=>ta σ H fun x H1=>tb σ H1 fun y H2=>r x y H2 Q
def tUn(r:V->Hp->VK->Prop)(ta:TE):TE:=fun σ H Q=>ta σ H fun x H1=>r x H1 Q
def rI(C:Int->Int->Prop)(g:Int->Int->V):R2:=fun x y H Q=>∃ i j,x=.int i /\ y=.int j /\ C i j /\ Q (g i j) H
def rI0(g:Int->Int->V):R2:=fun x y H Q=>∃ i j,x=.int i /\ y=.int j /\ Q (g i j) H
def rU(g:Int->V):V->Hp->VK->Prop:=fun x H Q=>∃ i,x=.int i /\ Q (g i) H
section
variable{X:Cx}{a b c:Expr}{ta tb tc:TE}{pos:Pos}
theorem Mb(ha:PE X a ta)(hb:PE X b tb){pins:List (Addr×Obj)}{R:V->V->Hp->Prop}(I:Inv X pins σ H s)
  (h:ta σ H fun x H1=>tb σ H1 fun y H2=>R x y H2) {Q:Value->Shared->Prop} {f:Value->Value->Sem Value}
  (hf:∀ v u s2 x y H2,Inv X pins σ H2 s2->RelV x v->RelV y u->R x y H2->wpAny (model X.prog X.w) X.A (f v u) Q X.xe s2):
  wpAny (model X.prog X.w) X.A (eval a X.env) (fun v s₁=>wpAny (model X.prog X.w) X.A (eval b X.env) (fun u s₂=>wpAny (model X.prog X.w) X.A (f v u) Q X.xe s₂) X.xe s₁) X.xe s:=by
 refine thn (ha pins s σ H _ I h) fun v s1 ⟨x,H1,I1,r1,q1⟩=>?_
 refine thn (hb pins s1 σ H1 _ I1 q1) fun u s2 ⟨y,H2,I2,r2,q2⟩=>?_
 exact hf v u s2 x y H2 I2 r1 r2 q2
theorem M4(ho:OpR X (binaryOp op) r)(ha:PE X a ta)(hb:PE X b tb):PE X (.BinOp a op b pos) (tOp r ta tb):=by
 intro pins s σ H Q I h;exact wpAny_BinOp (Mb ha hb I h fun v u s2 x y H2 I2 rx ry q=>ho pins s2 σ H2 x y v u Q I2 rx ry q)
theorem MG{r:V->Hp->VK->Prop}(ho:UnR X (unaryOp op) r)(ha:PE X a ta):PE X (.UnaryOp op a pos) (tUn r ta):=by
 intro pins s σ H Q I h;exact UnaryOp_ (thn (ha pins s σ H _ I h) fun v s1 ⟨x,H1,I1,r1,q1⟩=>ho pins s1 σ H1 x v Q I1 r1 q1)
theorem opI{f:Value->Value->Sem Value}{C:Int->Int->Prop}{g:Int->Int->Int}
  (rule:∀(i j:Int) (t u:Tok) (s:Shared) (Q:Value->Shared->Prop) (E:Value->Shared->Prop),C i j->Q (.int (g i j) s.toks) { s with toks:=s.toks+1 }->wpAny (model X.prog X.w) X.A (f (.int i t) (.int j u)) Q E s):
  OpR X f (rI C fun i j=>.int (g i j)):=by
 intro pins s σ H x y v u Q I rx ry h;obtain⟨i,j,rfl,rfl,hc,q⟩:=h;obtain⟨t,rfl⟩:=rx;obtain⟨t',rfl⟩:=ry;exact rule i j t t' s _ _ hc ⟨.int (g i j),H,I.tok _,⟨_,rfl⟩,q⟩
theorem MX{f:Value->Value->Sem Value}{g:Int->Int->Int}
  (rule:∀(i j:Int) (t u:Tok) (s:Shared) (Q:Value->Shared->Prop) (E:Value->Shared->Prop),Q (.int (g i j) s.toks) { s with toks:=s.toks+1 }->wpAny (model X.prog X.w) X.A (f (.int i t) (.int j u)) Q E s):
  OpR X f (rI0 fun i j=>.int (g i j)):=by
 intro pins s σ H x y v u Q I rx ry h;obtain⟨i,j,rfl,rfl,q⟩:=h;obtain⟨t,rfl⟩:=rx;obtain⟨t',rfl⟩:=ry;exact rule i j t t' s _ _ ⟨.int (g i j),H,I.tok _,⟨_,rfl⟩,q⟩
theorem GZ{f:Value->Value->Sem Value}{g:Int->Int->Bool}
  (rule:∀(i j:Int) (t u:Tok) (s:Shared) (Q:Value->Shared->Prop) (E:Value->Shared->Prop),Q (.bool (g i j)) s->wpAny (model X.prog X.w) X.A (f (.int i t) (.int j u)) Q E s):
  OpR X f (rI0 fun i j=>.bl (g i j)):=by
 intro pins s σ H x y v u Q I rx ry h;obtain⟨i,j,rfl,rfl,q⟩:=h;obtain⟨t,rfl⟩:=rx;obtain⟨t',rfl⟩:=ry;exact rule i j t t' s _ _ ⟨.bl (g i j),H,I,rfl,q⟩
def Kj(i j:Int):Prop:=0<j /\ j<1073741824
def EH(i j:Int):Prop:=(-(2 ^ 64)<i /\ i<2 ^ 64) \/ (-(2 ^ 64)<j /\ j<2 ^ 64)
theorem EH.ok(h:EH i j):IntMulOk i j:=by
 rcases h with⟨h1,h2⟩|⟨h1,h2⟩
 . exact .of_left (intBits_le_64 h1 h2)
 . exact .of_right (intBits_le_64 h1 h2)
theorem cb:OpR X (binaryOp .Add) (rI0 fun i j=>.int (i+j)):=MX fun _ _ _ _ _ _ _ q=>add_int q
theorem sj:OpR X (binaryOp .Sub) (rI0 fun i j=>.int (i - j)):=MX fun _ _ _ _ _ _ _ q=>sub_int q
theorem uF:OpR X (binaryOp .Mult) (rI EH fun i j=>.int (i*j)):=opI fun _ _ _ _ _ _ _ hc q=>mul_int q hc.ok
theorem bT:OpR X (binaryOp .FloorDiv) (rI Kj fun i j=>.int (i/j)):=opI fun i j _ _ _ _ _ hc q=>by
 have h1:(0:Int)<j:=hc.1
 have h2:j<1073741824:=hc.2
 exact floordiv_int (by omega) (by rw[Int.fdiv_eq_ediv_of_nonneg i (by omega)];exact q) (.inl (PyProof.noPylong_small (by omega)))
theorem bV:OpR X (binaryOp .Mod) (rI (fun _ j=>0<j) fun i j=>.int (i%j)):=opI fun i j _ _ _ _ _ hc q=>by
 have h1:(0:Int)<j:=hc
 exact mod_int' (by omega) (by rw[Int.fmod_eq_emod_of_nonneg i (by omega)];exact q)
theorem unI{f:Value->Sem Value}{g:Int->Int}
  (rule:∀(i:Int) (t:Tok) (s:Shared) (Q:Value->Shared->Prop) (E:Value->Shared->Prop),Q (.int (g i) s.toks) { s with toks:=s.toks+1 }->wpAny (model X.prog X.w) X.A (f (.int i t)) Q E s):
  UnR X f (rU fun i=>.int (g i)):=by
 intro pins s σ H x v Q I rx h;obtain⟨i,rfl,q⟩:=h;obtain⟨t,rfl⟩:=rx;exact rule i t s _ _ ⟨.int (g i),H,I.tok _,⟨_,rfl⟩,q⟩
theorem ke:UnR X (unaryOp .USub) (rU fun i=>.int (-i)):=unI fun _ _ _ _ _ q=>neg_int q
end
def L9:V->V->Bool
 |.non,.non=>true|.non,.int _=>true|.int _,.non=>true|.non,.bl _=>true|.bl _,.non=>true|.non,.str _=>true|.str _,.non=>true
 |.int _,.int _=>true|.bl _,.bl _=>true|.str _,.str _=>true|.byt _,.byt _=>true
 |.int _,.str _=>true|.str _,.int _=>true|.bl _,.str _=>true|.str _,.bl _=>true
 |_,_=>false
def rEq:R2:=fun x y H Q=>L9 x y=true /\ Q (.bl (decide (x=y))) H
def rNe:R2:=fun x y H Q=>L9 x y=true /\ Q (.bl (!decide (x=y))) H
theorem CS:decide (V.int i=V.int j)=(i==j):=by
 rw[Bool.eq_iff_iff];simp
theorem FY:decide (V.bl i=V.bl j)=(i==j):=by
 rw[Bool.eq_iff_iff];simp
theorem Cv:decide (V.str i=V.str j)=(i==j):=by
 rw[Bool.eq_iff_iff];simp
theorem CC{i j:Array UInt8}:decide (V.byt i=V.byt j)=(i.toList==j.toList):=by
 rw[Bool.eq_iff_iff];cases i;cases j;simp
section
variable{X:Cx}{a b c:Expr}{ta tb tc:TE}{pos:Pos}
theorem de{pins:List (Addr×Obj)}(I:Inv X pins σ H s)(q:Q (.bl k) H)(e:k=k'):EP X pins σ Q (.bool k') s:=by
 subst e
 exact⟨.bl k,H,I,rfl,q⟩
theorem bw:OpR X (compareOp .Eq) rEq:=by
 intro pins s σ H x y v u Q I rx ry h;obtain⟨hs,q⟩:=h
 cases x with
 | non=>
   cases rx
   cases y with
   |non=>cases ry;exact PySem.EqNone.eq_none_none (de I q (by simp))
   |bl j=>cases ry;exact PySem.EqNone.eq_none_bool (de I q (by simp))
   |int j=>obtain⟨t',rfl⟩:=ry;exact PySem.EqNone.eq_none_int (de I q (by simp))
   |str j=>obtain⟨t',rfl⟩:=ry;exact PySem.EqNone.eq_none_str (de I q (by simp))
   |_=>exact absurd (show false=true from hs) Bool.false_ne_true
 | bl i=>
   cases rx
   cases y with
   |non=>cases ry;exact PySem.EqNone.eq_bool_none (de I q (by simp))
   |bl j=>cases ry;exact eq_bool (de I q FY)
   |str j=>obtain⟨t',rfl⟩:=ry;exact PySem.EqMixed.eq_bool_str (de I q (by simp))
   |_=>exact absurd (show false=true from hs) Bool.false_ne_true
 | int i=>
   obtain⟨t,rfl⟩:=rx
   cases y with
   |non=>cases ry;exact PySem.EqNone.eq_int_none (de I q (by simp))
   |int j=>obtain⟨t',rfl⟩:=ry;exact eq_int (de I q CS)
   |str j=>obtain⟨t',rfl⟩:=ry;exact PySem.EqMixed.eq_int_str (de I q (by simp))
   |_=>exact absurd (show false=true from hs) Bool.false_ne_true
 | str i=>
   obtain⟨t,rfl⟩:=rx
   cases y with
   |non=>cases ry;exact PySem.EqNone.eq_str_none (de I q (by simp))
   |bl j=>cases ry;exact PySem.EqMixed.eq_str_bool (de I q (by simp))
   |int j=>obtain⟨t',rfl⟩:=ry;exact PySem.EqMixed.eq_str_int (de I q (by simp))
   |str j=>obtain⟨t',rfl⟩:=ry;exact eq_str (de I q Cv)
   |_=>exact absurd (show false=true from hs) Bool.false_ne_true
 | byt i=>
   obtain⟨t,rfl⟩:=rx
   cases y with
   |byt j=>obtain⟨t',rfl⟩:=ry;exact PySem.W.eq_bytes (de I q CC)
   |_=>exact absurd (show false=true from hs) Bool.false_ne_true
 |_=>cases y<;>exact absurd (show false=true from hs) Bool.false_ne_true
theorem xk:OpR X (compareOp .NotEq) rNe:=by
 intro pins s σ H x y v u Q I rx ry h;obtain⟨hs,q⟩:=h
 cases x with
 | non=>
   cases rx
   cases y with
   |non=>cases ry;exact PySem.EqNone.ne_none_none (de I q (by simp))
   |bl j=>cases ry;exact PySem.EqNone.ne_none_bool (de I q (by simp))
   |int j=>obtain⟨t',rfl⟩:=ry;exact PySem.EqNone.ne_none_int (de I q (by simp))
   |str j=>obtain⟨t',rfl⟩:=ry;exact PySem.EqNone.ne_none_str (de I q (by simp))
   |_=>exact absurd (show false=true from hs) Bool.false_ne_true
 | bl i=>
   cases rx
   cases y with
   |non=>cases ry;exact PySem.EqNone.ne_bool_none (de I q (by simp))
   |bl j=>cases ry;exact ne_bool (de I q (congrArg not FY))
   |str j=>obtain⟨t',rfl⟩:=ry;exact PySem.EqMixed.ne_bool_str (de I q (by simp))
   |_=>exact absurd (show false=true from hs) Bool.false_ne_true
 | int i=>
   obtain⟨t,rfl⟩:=rx
   cases y with
   |non=>cases ry;exact PySem.EqNone.ne_int_none (de I q (by simp))
   |int j=>obtain⟨t',rfl⟩:=ry;exact ne_int (de I q (congrArg not CS))
   |str j=>obtain⟨t',rfl⟩:=ry;exact PySem.EqMixed.ne_int_str (de I q (by simp))
   |_=>exact absurd (show false=true from hs) Bool.false_ne_true
 | str i=>
   obtain⟨t,rfl⟩:=rx
   cases y with
   |non=>cases ry;exact PySem.EqNone.ne_str_none (de I q (by simp))
   |bl j=>cases ry;exact PySem.EqMixed.ne_str_bool (de I q (by simp))
   |int j=>obtain⟨t',rfl⟩:=ry;exact PySem.EqMixed.ne_str_int (de I q (by simp))
   |str j=>obtain⟨t',rfl⟩:=ry;exact ne_str (de I q (congrArg not Cv))
   |_=>exact absurd (show false=true from hs) Bool.false_ne_true
 | byt i=>
   obtain⟨t,rfl⟩:=rx
   cases y with
   |byt j=>obtain⟨t',rfl⟩:=ry;exact PySem.W.ne_bytes (de I q (congrArg not CC))
   |_=>exact absurd (show false=true from hs) Bool.false_ne_true
 |_=>cases y<;>exact absurd (show false=true from hs) Bool.false_ne_true
theorem lp:OpR X (compareOp .Lt) (rI0 fun i j=>.bl (decide (i<j))):=GZ fun _ _ _ _ _ _ _ q=>lt_int q
theorem nW:OpR X (compareOp .LtE) (rI0 fun i j=>.bl (decide (i<=j))):=GZ fun _ _ _ _ _ _ _ q=>le_int q
theorem C3:OpR X (compareOp .Gt) (rI0 fun i j=>.bl (decide (j<i))):=GZ fun _ _ _ _ _ _ _ q=>gt_int q
theorem C2:OpR X (compareOp .GtE) (rI0 fun i j=>.bl (decide (j<=i))):=GZ fun _ _ _ _ _ _ _ q=>ge_int q
theorem wU:OpR X (compareOp .Is) (fun x y H Q=>y=.non /\ Q (.bl (decide (x=.non))) H):=by
 intro pins s σ H x y v u Q I rx ry h;obtain⟨rfl,q⟩:=h;cases ry;refine is_none_gen (de I q ?_)
 cases x<;>first
  |(cases rx;rfl)
  |(obtain⟨t,rfl⟩:=rx;rfl)
theorem zt:OpR X (compareOp .IsNot) (fun x y H Q=>y=.non /\ Q (.bl (!decide (x=.non))) H):=by
 intro pins s σ H x y v u Q I rx ry h;obtain⟨rfl,q⟩:=h;cases ry;refine isnot_none_gen (de I q ?_)
 cases x<;>first
  |(cases rx;rfl)
  |(obtain⟨t,rfl⟩:=rx;rfl)
theorem lT(b:Expr)(h:op≠.In:=by decide)(h2:op≠.NotIn:=by decide):behindInMarks op b=false:=by
 have e1:(op==CmpOp.In)=false:=by cases op<;>first|rfl|exact absurd rfl h
 have e2:(op==CmpOp.NotIn)=false:=by cases op<;>first|rfl|exact absurd rfl h2
 cases b<;>simp[behindInMarks,e1,e2]
theorem IQ(ho:OpR X (compareOp op) r)(ha:PE X a ta)(hb:PE X b tb)(hm:behindInMarks op b=false):PE X (.Compare a [op] [b] pos) (tOp r ta tb):=by
 intro pins s σ H Q I h;exact wpAny_Compare1 (Mb ha hb I h fun v u s2 x y H2 I2 rx ry q=>ho pins s2 σ H2 x y v u Q I2 rx ry q) hm
def yf(t:TE):TT:=fun σ H Q=>t σ H fun x H'=>∃ k,x=.bl k /\ Q k H'
theorem HR(ho:OpR X (compareOp op) r)(ha:PE X a ta)(hb:PE X b tb)(hm:behindInMarks op b=false):PT X (.Compare a [op] [b] pos) (yf (tOp r ta tb)):=by
 intro pins s σ H Q I h
 refine wpAny_isTrue_Compare1 (thn (ha pins s σ H _ I h) fun v s1 ⟨x,H1,I1,r1,q1⟩=>thn (hb pins s1 σ H1 _ I1 q1) fun u s2 ⟨y,H2,I2,r2,q2⟩=>
  thn (ho pins s2 σ H2 x y v u _ I2 r1 r2 q2) fun c s3 ⟨z,H3,I3,r3,k,e,q3⟩=>?_) hm
 subst e;cases r3;exact wpAny_truthy_bool ⟨H3,I3,q3⟩
def wL(r r':R2)(ta tb tc:TE):TE:=fun σ H Q=>ta σ H fun x H1=>tb σ H1 fun y H2=>r x y H2 fun z H3=>∃ k,z=.bl k /\
 (if k=true then tc σ H3 fun w' H4=>r' y w' H4 Q else Q (.bl false) H3)
theorem EG(ho:OpR X (compareOp op) r)(ho':OpR X (compareOp op') r')(ha:PE X a ta)(hb:PE X b tb)(hc:PE X c tc)
  (hm:lastMarks [op,op'] [b,c]=false:=by with_unfolding_all rfl):PE X (.Compare a [op,op'] [b,c] pos) (wL r r' ta tb tc):=by
 intro pins s σ H Q I h
 refine Compare_chain (thn (ha pins s σ H _ I h) fun v s1 ⟨x,H1,I1,r1,q1⟩=>chain_link (thn (hb pins s1 σ H1 _ I1 q1) fun u s2 ⟨y,H2,I2,r2,q2⟩=>
  thn (ho pins s2 σ H2 x y v u _ I2 r1 r2 q2) fun d s3 ⟨z,H3,I3,r3,k,e,q3⟩=>?_)) hm
 subst e;cases r3;refine wpAny_truthy_bool ?_
 cases k with
 |false=>exact ite_ff ⟨.bl false,H3,I3,rfl,q3⟩
 |true=>exact ite_tt (chain_last (thn (hc pins s3 σ H3 _ I3 q3) fun w' s4 ⟨z',H4,I4,r4,q4⟩=>ho' pins s4 σ H4 y z' u w' Q I4 r2 r4 q4))
theorem FD(ho:OpR X (compareOp op) r)(ho':OpR X (compareOp op') r')(ha:PE X a ta)(hb:PE X b tb)(hc:PE X c tc)
  (hm:lastMarks [op,op'] [b,c]=false:=by with_unfolding_all rfl):PT X (.Compare a [op,op'] [b,c] pos) (yf (wL r r' ta tb tc)):=by
 intro pins s σ H Q I h
 refine isTrue_chain (thn (ha pins s σ H _ I h) fun v s1 ⟨x,H1,I1,r1,q1⟩=>test_link (thn (hb pins s1 σ H1 _ I1 q1) fun u s2 ⟨y,H2,I2,r2,q2⟩=>
  thn (ho pins s2 σ H2 x y v u _ I2 r1 r2 q2) fun d s3 ⟨z,H3,I3,r3,k,e,q3⟩=>?_)) hm
 subst e;cases r3;refine wpAny_truthy_bool ?_
 cases k with
 | false=>
   obtain⟨k',e',q'⟩:=q3
   cases e'
   exact ite_ff ⟨H3,I3,q'⟩
 | true=>
   refine ite_tt (test_last (thn (hc pins s3 σ H3 _ I3 q3) fun w' s4 ⟨z',H4,I4,r4,q4⟩=>thn (ho' pins s4 σ H4 y z' u w' _ I4 r2 r4 q4) fun d' s5 ⟨z2,H5,I5,r5,k2,e2,q5⟩=>?_));subst e2;cases r5;exact wpAny_truthy_bool ⟨H5,I5,q5⟩
def Ca(K:PySem.W.Frag)(x:V)(H:Hp)(k:Bool):Prop:=
 match x with
 |.non=>k=false
 |.bl b=>k=b
 |.int i=>k=(i != 0)
 |.str y=>y.length<=sizeLine /\ k=((y.length:Int) != 0)
 |.byt y=>y.size<=sizeLine /\ k=((y.size:Int) != 0)
 |.ref p=>(∃ xs,SqL K H p xs /\ k=!xs.isEmpty) \/ (∃ xs,SqT K H p xs /\ k=!xs.isEmpty) \/ ∃ kvs,H p=some (.dK kvs) /\ k=!kvs.isEmpty
 |_=>False
theorem BS{κ:Type}{kvs:List (κ×V)}{vs:List (κ×Value)}(r:KV kvs vs):(!vs.isEmpty)=!kvs.isEmpty:=by
 cases r<;>rfl
theorem vI{xs:List V}{its:List Value}(r:Vals xs its):(!its.toArray.isEmpty)=!xs.isEmpty:=by
 cases r<;>simp
theorem wW:(sizeLine:Nat)<2 ^ 63:=by rw[sizeLine_eq];decide
theorem Ks:Oy X (fun x H Q=>∃ k,Ca X.K x H k /\ Q k H):=by
 intro pins s σ H x v Q I rx h;obtain⟨k,e,q⟩:=h;have hl:=wW
 have hs:sizeLine=16777216:=sizeLine_eq
 cases x with
 | non=>
   cases rx
   have e':k=false:=e
   subst e';exact truthy_none ⟨H,I,q⟩
 | bl b=>
   cases rx
   have e':k=b:=e
   subst e';exact wpAny_truthy_bool ⟨H,I,q⟩
 | int i=>
   obtain⟨t,rfl⟩:=rx
   have e':k=(i != 0):=e
   subst e';exact PySem.P.truthy_int ⟨H,I,q⟩
 | str y=>
   obtain⟨t,rfl⟩:=rx
   obtain⟨hy,e'⟩:y.length<=sizeLine /\ k=((y.length:Int) != 0):=e
   subst e';exact PySem.P.truthy_str (by omega) ⟨H,I.tok _,q⟩
 | byt y=>
   obtain⟨t,rfl⟩:=rx
   obtain⟨hy,e'⟩:y.size<=sizeLine /\ k=((y.size:Int) != 0):=e
   subst e';exact PySem.W.truthy_bytes (by omega) ⟨H,I.tok _,q⟩
 | ref p=>
   cases rx
   have e':(∃ xs,SqL X.K H p xs /\ k=!xs.isEmpty) \/ (∃ xs,SqT X.K H p xs /\ k=!xs.isEmpty) \/ ∃ kvs,H p=some (.dK kvs) /\ k=!kvs.isEmpty:=e
   rcases e' with⟨xs,hx,e'⟩|⟨xs,hx,e'⟩|⟨kvs,hx,e'⟩
   . subst e';obtain⟨its,r,pl,hz⟩:=I.list hx;have hlen:=r.length;exact wpAny_truthy_list pl.isList (by simp only[List.size_toArray];omega) ⟨H,I.tok _,by rw[vI r];exact q⟩
   . subst e';obtain⟨its,r,pl,hz⟩:=I.tuple hx;have hlen:=r.length;exact truthy_tuple pl (by simp only[List.size_toArray];omega) ⟨H,I.tok _,by rw[vI r];exact q⟩
   . subst e'
     obtain⟨hz,hS,vs,r,m⟩:kvs.length<=sizeLine /\ (p==sysModules)=false /\ ∃ vs,KV kvs vs /\ s.heap.DictOf (gf X.prog X.w) p vs:=I.hok p _ hx
     have hlen:kvs.length=vs.length:=Paired.length r
     exact wpAny_truthy_dict hS m (by omega) ⟨H,I.tok _,by rw[BS r];exact q⟩
 |_=>exact(show False from e).elim
theorem FI(ha:PE X a ta)(he:∀ whole,isTrue a X.env whole=(do let v <- whole;standAt a.pos;holding [v] (truthy v))):
  PT X a (fun σ H Q=>ta σ H fun x H'=>∃ k,Ca X.K x H' k /\ Q k H'):=by
 intro pins s σ H Q I h;exact isTrue_plain (thn (ha pins s σ H _ I h) fun v s1 ⟨x,H1,I1,r1,q1⟩=>Ks pins s1 σ H1 x v Q I1 r1 q1) (he _)
theorem vals1(r:Vals [x] us):∃ u,us=[u] /\ RelV x u:=by
 cases r with
 |cons r1 r2=>cases r2;exact⟨_,rfl,r1⟩
theorem xy:n4 X (.type "int") (fun xs H Q=>(∃ i,xs=[.int i] /\ Q (.int i) H) \/ ∃ k,xs=[.bl k] /\ Q (.int (if k then 1 else 0)) H):=by
 intro pins s σ H xs us Q I r h
 rcases h with⟨i,rfl,q⟩|⟨k,rfl,q⟩
 . obtain⟨u,rfl,t,rfl⟩:=vals1 r;exact call_int_int ⟨.int i,H,I,⟨_,rfl⟩,q⟩
 . obtain⟨u,rfl,r1⟩:=vals1 r;cases r1;exact call_int_bool ⟨.int (if k then 1 else 0),H,I.tok _,⟨_,rfl⟩,q⟩
theorem tY:n4 X (.type "str") (fun xs H Q=>∃ i,xs=[.int i] /\ i.natAbs.log2<1920 /\ Q (.str (toString i)) H):=by
 intro pins s σ H xs us Q I r h;obtain⟨i,rfl,hz,q⟩:=h;obtain⟨u,rfl,t,rfl⟩:=vals1 r;exact PySem.P.str_of_int hz ⟨.str _,H,I.tok _,⟨_,rfl⟩,q⟩
theorem EM:n4 X (.builtin "ord") (fun xs H Q=>∃ x,xs=[.str x] /\ x.length=1 /\ Q (.int (x.cps.getD 0 0:Nat)) H):=by
 intro pins s σ H xs us Q I r h;obtain⟨x,rfl,hz,q⟩:=h;obtain⟨u,rfl,t,rfl⟩:=vals1 r;exact ord_of_one hz ⟨.int _,H,I.tok _,⟨_,rfl⟩,q⟩
end
structure BF(h:Heap)(x dx C:Addr)(mA:Str->Option Value):Prop where
 obj:h.get? x=some (PySem.W.instObj C dx)
 ns:h.Ns1 dx mA
 ne:dx≠x
theorem Di{h:Heap}{mA:Str->Option Value}(n:h.Ns1 dx mA):∃ od,h.get? dx=some od /\ ∀ name,PySem.W.lookIn name od=some (mA name):=by
 obtain⟨o,es,ep,ho,hd,hk,_,hm⟩:=n
 refine⟨o,ho,fun name=>?_⟩
 have e:=hm name;unfold nsFind findBy at e;rw[<- Array.find?_toList]at e;unfold PySem.W.lookIn;rw[hd];dsimp only;split
 . rename_i y q;rw[q]at e;exact congrArg some e
 . rename_i q;rw[q]at e
   have a:es.toList.any (·.refKey)=false:=by
    rw[List.any_eq_false];intro y hy;obtain⟨z,t,hkey⟩:=hk y (Array.mem_toList_iff.mp hy);simp[DictEntry.refKey,hkey]
   have a':¬ es.toList.any (·.refKey)=true:=by rw[a];exact Bool.false_ne_true
   rw[if_neg a'];exact congrArg some e
theorem BF.look{mA:Str->Option Value}(I:BF h x dx C mA):∃ od,PySem.W.InstAt h x (PySem.W.instObj C dx) C (some od) /\ ∀ name,PySem.W.lookIn name od=some (mA name):=
 let ⟨od,ho,hl⟩:=Di I.ns
 ⟨od,⟨I.obj,rfl,rfl,ho⟩,hl⟩
section
variable{prog:Program}{w:World}{A:Around}{E:Value->Shared->Prop}{s:Shared}{K:PySem.W.Frag}{x dx C f:Addr}{mA:Str->Option Value}{name:Str}{v:Value}
theorem get_map{Q:Value->Shared->Prop}(X:K.In s.heap)(I:BF s.heap x dx C mA)(hg:PySem.W.plainGet K C name=true)(hh:PySem.W.hasDictIn K C=true)
  (ha:PySem.W.findIn K (.ref C) name=some none) (hv:mA name=some v) (hv':PySem.W.handedIn v=true) (h:Q v { s with toks:=s.toks+1 }):
  wpAny (model prog w) A (getAttr (.ref x) name expr) Q E s:=by
 obtain⟨od,J,hl⟩:=I.look;exact PySem.W.get_value X J (PySem.W.plainGet_of hg).1 (PySem.W.findObj_own hh ha rfl (by rw[hl,hv])) hv' h
theorem Gn{pl:Sem Bool}{Q:Value×List Value->Shared->Prop}(X:K.In s.heap)(I:BF s.heap x dx C mA)(hg:PySem.W.plainGet K C name=true)
  (hf:PySem.W.findIn K (.ref C) name=some (some (.ref f))) (ht:PySem.W.isFn K (.ref f)=true) (hv:mA name=none) (h:Q (.ref f,[.ref x]) s):
  wpAny (model prog w) A (getMethod (.ref x) name pl) Q E s:=by
 obtain⟨od,J,hl⟩:=I.look;exact PySem.W.method_fn X J (PySem.W.plainGet_of hg).1 (PySem.W.plainGet_of hg).2 hf (beq_iff_eq.mp ht) (by show(PySem.W.lookIn name od).map (·.isSome)=some false;rw[hl,hv];rfl) h
theorem Hj{ns:List Str}{Q:Unit->Shared->Prop}(X:K.In s.heap)(I:BF s.heap x dx C mA)
  (hs:PySem.W.findIn K (.ref C) "__setattr__" = some (some (.builtin "object.__setattr__"))) (hp:PySem.W.plainOver K C=true) (ht:PySem.W.takerIn K C name=some none) (hh:PySem.W.hasDictIn K C=true)
  (hw:PySem.Within mA ns) (hsz:ns.length<=sizeLine)
  (h:∀ h',BF h' x dx C (fun y=>if y=name then some v else mA y)->Heap.SameBut dx s.heap h'->Q () { s with heap:=h',toks:=s.toks+2 }):
  wpAny (model prog w) A (setAttr (.ref x) name v) Q E s:=by
 obtain⟨od,J,hl⟩:=I.look;refine PySem.W.set_plain X J hs (PySem.W.osa_open (s:={ s with toks:=s.toks+1 }) (r:=none) X J hp ht fun b=>?_);obtain⟨cd,hc,hd'⟩:=PySem.W.any_some hh
 have hx:s.heap.get? x=some ⟨.ref C,some dx,.plain,#[]⟩:=I.obj
 refine wpAny_bind (wpAny_pure (wpAny_bind (wpAny_bind (wpAny_loadPart hx (wpAny_bind (PySem.W.Looks.here (s:={ s with toks:=s.toks+1 }) (PySem.W.looks_clsIn X hc) ?_))))));rw[hd'];refine wpAny_pure (a:=some dx) (wpAny_bind (wpAny_pure (wpAny_bind ?_)))
 refine wpAny_nsSet1 (s:={ s with toks:=s.toks+1 }) I.ns fun h' hn2 hs2=>?_
 obtain⟨oD,esD,epD,hoD,hdD,hcD⟩:=hn2.count (PySem.Within.cons name v hw);refine wpAny_bind (wpAny_lookBehind hoD (by rw[hdD];exact pastItsLine_dict (Nat.le_trans hcD (by rw[List.length_cons];omega))) ?_);exact wpAny_pure (h _ ⟨(hs2.2 _ (Ne.symm I.ne)).trans I.obj,hn2,I.ne⟩ hs2)
theorem E4{R:Result->Shared->Prop}{kw:List (Str×Value)}(X:K.In s.heap)(hm:PySem.W.makesIn K C=true)
  (hi:PySem.W.findIn K (.ref C) "__init__" = some (some (.ref f))) (hf:PySem.W.typeIn K (.ref f)=some (.type "function"))
  (h:codeAny (model prog w) (A.under (.builtin "type.__call__" ⟨.ref C ::vs,kw⟩)) (.call (.ref f) ⟨.ref (s.heap.objs.size+1) ::vs,kw⟩) (PySem.W.InitBack (s.heap.objs.size+1) R)
    { s with heap:=(s.heap.push PySem.W.emptyDict).push (PySem.W.instObj C s.heap.objs.size) }):
  codeAny (model prog w) A (.call (.ref C) ⟨vs,kw⟩) R s:=by
 obtain⟨hh,g,d,t,os⟩:=s;exact PySem.W.make_core (PySem.W.makes_of X hm) (PySem.W.looks_findIn X hi) (fun self=>PySem.W.bind_fn X self hf) (.inl rfl) h
end
def kR(f:Str)(v:V):List (Str×V)->List (Str×V)
 |[]=>[(f,v)]
 |(g,x) ::r=>if g=f then(g,v) ::r else(g,x) ::kR f v r
theorem uY(f g:Str)(v:V):∀ fs:List (Str×V),(kR f v fs).lookup g=if g=f then some v else fs.lookup g
 | []=>by
   show List.lookup g [(f,v)]=_
   by_cases h:g=f
   . have hb:(g==f)=true:=beq_iff_eq.mpr h
     simp only[List.lookup,hb,if_pos h]
   . have hb:(g==f)=false:=beq_eq_false_iff_ne.mpr h
     simp only[List.lookup,hb,if_neg h]
 | (k,x) ::r=>by
   have ih:=uY f g v r;rw[show kR f v ((k,x) ::r)=(if k=f then(k,v) ::r else(k,x) ::kR f v r) from rfl]
   by_cases hk:k=f
   . rw[if_pos hk]
     by_cases h:g=k
     . have hb:(g==k)=true:=beq_iff_eq.mpr h
       simp only[List.lookup,hb,if_pos (h.trans hk)]
     . have hb:(g==k)=false:=beq_eq_false_iff_ne.mpr h
       simp only[List.lookup,hb,if_neg (fun e:g=f=>h (e.trans hk.symm))]
   . rw[if_neg hk]
     by_cases h:g=k
     . have hb:(g==k)=true:=beq_iff_eq.mpr h
       simp only[List.lookup,hb,if_neg (fun e:g=f=>hk (h.symm.trans e))]
     . have hb:(g==k)=false:=beq_eq_false_iff_ne.mpr h
       simp only[List.lookup,hb];exact ih
theorem uc(f:Str)(v:V):∀ fs:List (Str×V),f∈(kR f v fs).map (·.1) /\ ∀ g,g∈fs.map (·.1)->g∈(kR f v fs).map (·.1)
 |[]=>⟨by simp[kR],fun g h=>by simp at h⟩
 | (k,x) ::r=>by
   obtain⟨i1,i2⟩:=uc f v r;rw[show kR f v ((k,x) ::r)=(if k=f then(k,v) ::r else(k,x) ::kR f v r) from rfl]
   by_cases hk:k=f
   . rw[if_pos hk];subst hk
     exact⟨by simp,fun g h=>by simpa using h⟩
   . rw[if_neg hk]
     refine⟨?_,fun g h=>?_⟩
     . rw[List.map_cons];exact List.mem_cons_of_mem _ i1
     . rw[List.map_cons]at h ⊢
       rcases List.mem_cons.mp h with e|e
       . exact List.mem_cons.mpr (.inl e)
       . exact List.mem_cons_of_mem _ (i2 g e)
theorem uZ(f:Str)(v:V):∀ fs:List (Str×V),(kR f v fs).length<=fs.length+1
 |[]=>by simp[kR]
 | (k,x) ::r=>by
   have ih:=uZ f v r;rw[show kR f v ((k,x) ::r)=(if k=f then(k,v) ::r else(k,x) ::kR f v r) from rfl]
   by_cases hk:k=f
   . rw[if_pos hk,List.length_cons,List.length_cons];omega
   . rw[if_neg hk,List.length_cons,List.length_cons];omega
theorem bA.some_of(r:bA (some v) o):∃ u,o=some u /\ RelV v u:=by
 cases o with
 |none=>exact(show False from r).elim
 |some u=>exact⟨u,rfl,r⟩
theorem bA.none_of(r:bA none o):o=none:=by
 cases o with
 |none=>rfl
 |some u=>exact(show False from r).elim
theorem DO(r:RelV v u):PySem.W.handedIn u=true:=by
 cases v with
 |non=>cases(show u=Value.none from r);rfl
 |bl b=>cases(show u=Value.bool b from r);rfl
 |int i=>obtain⟨t,e⟩:=(show ∃ t,u=Value.int i t from r);cases e;rfl
 |str x=>obtain⟨t,e⟩:=(show ∃ t,u=Value.str x t from r);cases e;rfl
 |byt b=>obtain⟨t,e⟩:=(show ∃ t,u=Value.bytes b t from r);cases e;rfl
 |flt b=>obtain⟨t,e⟩:=(show ∃ t,u=Value.float b t from r);cases e;rfl
 |ref a=>cases(show u=Value.ref a from r);rfl
 |ty n=>cases(show u=Value.type n from r);rfl
section
variable{P:Program}{w:World}{H H':Hp}{h h':Heap}{a C dx:Addr}{fs fs':List (Str×V)}
theorem yQ(hok:HOk P w H h)(e:H a=some (.ins C dx fs)):∃ mA,BF h a dx C mA /\ (∀ f,bA (fs.lookup f) (mA f)) /\ PySem.Within mA (fs.map (·.1)) /\ fs.length<=1000 /\ H dx=some (.own a):=by
 obtain⟨d,z,ne,ob,mA,n,r,q⟩:=(show gJ P w H h a (.ins C dx fs) from hok a _ e)
 exact⟨mA,⟨ob,n,ne⟩,r,q,z,d⟩
end
structure Cls(K:PySem.W.Frag)(C:Addr):Prop where
 pg:PySem.W.plainGet K C Str.empty=true
 hd:PySem.W.hasDictIn K C=true
 po:PySem.W.plainOver K C=true
 sa:PySem.W.findIn K (.ref C) "__setattr__" = some (some (.builtin "object.__setattr__"))
theorem Cls.get{K:PySem.W.Frag}(c:Cls K C)(f:Str):PySem.W.plainGet K C f=true:=c.pg
def nr(K:PySem.W.Frag)(C:Addr)(f:Str):Prop:=PySem.W.findIn K (.ref C) f=some none
theorem nr.Nf{K:PySem.W.Frag}(n:nr K C f):PySem.W.takerIn K C f=some none:=by
 unfold PySem.W.takerIn;rw[show PySem.W.findIn K (.ref C) f=some none from n];rfl
structure Meth(K:PySem.W.Frag)(C:Addr)(m:Str)(f:Addr):Prop where
 at_:PySem.W.findIn K (.ref C) m=some (some (.ref f))
 fn:PySem.W.isFn K (.ref f)=true
 kp:PySem.W.keepIn K (.ref f)=true
section
variable{X:Cx}{pins:List (Addr×Obj)}{σ:St}{H:Hp}{s:Shared}{a C dx:Addr}{fs:List (Str×V)}{f:Str}{v:V}{A:Around}{E:Value->Shared->Prop}
theorem Bg{Q:Value->Shared->Prop}(I:Inv X pins σ H s)(e:H a=some (.ins C dx fs))(c:Cls X.K C)(n:nr X.K C f)(l:fs.lookup f=some v)
  (h:∀ u s',Inv X pins σ H s'->RelV v u->Q u s'):wpAny (model X.prog X.w) A (getAttr (.ref a) f b) Q E s:=by
 obtain⟨mA,O,r,_,_,_⟩:=yQ I.hok e;obtain⟨u,hu,ru⟩:=bA.some_of (v:=v) (o:=mA f) (by rw[<- l];exact r f);exact get_map I.kIn O (c.get f) c.hd n hu (DO ru) (h u _ (I.tok _) ru)
theorem vM{pl:Sem Bool}{Q:Value×List Value->Shared->Prop}(I:Inv X pins σ H s)(e:H a=some (.ins C dx fs))(c:Cls X.K C)(k:Meth X.K C m g)(l:fs.lookup m=none)
  (h:Q (.ref g,[.ref a]) s):wpAny (model X.prog X.w) A (getMethod (.ref a) m pl) Q E s:=by
 obtain⟨mA,O,r,_,_,_⟩:=yQ I.hok e
 have hn:mA m=none:=bA.none_of (by rw[<- l];exact r m)
 exact Gn I.kIn O (c.get m) k.at_ k.fn hn h
theorem Bf{Q:Unit->Shared->Prop}(I:Inv X pins σ H s)(e:H a=some (.ins C dx fs))(c:Cls X.K C)(n:nr X.K C f)(hl:fs.length<1000)(ry:RelV y u)
  (h:∀ s',Inv X pins σ (upd H a (.ins C dx (kR f y fs))) s'->Q () s'):wpAny (model X.prog X.w) A (setAttr (.ref a) f u) Q E s:=by
 obtain⟨mA,O,r,wi,_,ho⟩:=yQ I.hok e
 have hz:(fs.map (·.1)).length<=sizeLine:=by rw[List.length_map,sizeLine_eq];omega
 refine Hj I.kIn O c.sa c.po n.Nf c.hd wi hz fun h' O' sb=>h _ ?_
 have hd:∃ o,h'.get? dx=some o:=let ⟨o,_,_,e',_⟩:=O'.ns;⟨o,e'⟩
 refine I.write (x:=a) (e:=dx) (by rw[e];exact True.intro) (.inr ho) (fun b q hb z=>(sb.2 b hb).trans z) hd ?_
 refine⟨by rw[bQ O.ne];exact ho,?_,O.ne,O'.obj,_,O'.ns,fun g=>?_,fun g hg=>?_⟩
 . have:=uZ f y fs;omega
 . show bA ((kR f y fs).lookup g) (if g=f then some u else mA g);rw[uY]
   by_cases q:g=f
   . rw[if_pos q,if_pos q];exact ry
   . rw[if_neg q,if_neg q];exact r g
 . by_cases q:g=f
   . rw[q];exact(uc f y fs).1
   . refine(uc f y fs).2 g (wi g fun z=>hg ?_)
     show(if g=f then some u else mA g)=none
     rw[if_neg q];exact z
theorem Inv.made(I:Inv X pins σ H s):Inv X pins σ (upd (upd H s.heap.objs.size (.own (s.heap.objs.size+1))) (s.heap.objs.size+1) (.ins C s.heap.objs.size []))
  { s with heap:=(s.heap.push PySem.W.emptyDict).push (PySem.W.instObj C s.heap.objs.size) }:=by
 have e1:(s.heap.push PySem.W.emptyDict).get? s.heap.objs.size=some PySem.W.emptyDict:=Heap.get?_push_size s.heap rfl
 have e2:((s.heap.push PySem.W.emptyDict).push (PySem.W.instObj C s.heap.objs.size)).get? (s.heap.objs.size+1)=some (PySem.W.instObj C s.heap.objs.size):=by
  have:=Heap.get?_push_size (s.heap.push PySem.W.emptyDict) (o:=PySem.W.instObj C s.heap.objs.size) rfl
  rwa [Heap.size_push]at this
 have e3:(s.heap.push PySem.W.emptyDict).Ns s.heap.objs.size (fun _=>none):=⟨PySem.W.emptyDict,#[],_,e1,rfl,(fun e he=>absurd he (by simp)),fun _=>rfl⟩
 have I1:=I.laid (a:=s.heap.objs.size) (o:=.own (s.heap.objs.size+1)) (h':=s.heap.push PySem.W.emptyDict) (t':=s.toks) (fun b u q=>Heap.get?_push_of_some _ q) (Nat.le_refl _) ⟨_,e1⟩;refine I1.laid (a:=s.heap.objs.size+1) (o:=.ins C s.heap.objs.size []) (t':=s.toks) (fun b u q=>Heap.get?_push_of_some _ q) (Nat.le_of_eq (Heap.size_push _ _)) ?_
 have ne:s.heap.objs.size≠s.heap.objs.size+1:=Nat.ne_of_lt (Nat.lt_succ_self _)
 refine⟨by rw[bQ ne,bC],Nat.zero_le _,ne,e2,fun _=>none,(Heap.Ns1.of_empty e3).at fun o q=>Heap.get?_push_of_some _ q,fun _=>True.intro,fun y hy=>absurd rfl hy⟩
theorem Io{Q:Value->Shared->Prop}(hb:attributeBase e f env (eval e env)=eval e env)
  (h:wpAny (model prog w) A (eval e env) (fun o s₁=>wpAny (model prog w) A (getAttr o f true) Q E s₁) E s):wpAny (model prog w) A (eval (.Attribute e f pos) env) Q E s:=
 Attribute_any_ h (by rw[arm_eval_Attribute,hb])
end
def KH(K:PySem.W.Frag)(ta:TE)(f:Str):TE:=fun σ H Q=>ta σ H fun x H1=>∃ a C dx fs v,x=.ref a /\ H1 a=some (.ins C dx fs) /\ Cls K C /\ nr K C f /\ fs.lookup f=some v /\ Q v H1
def LQ(K:PySem.W.Frag)(ta tv:TE)(f:Str):TS:=fun D σ H=>tv σ H fun y H1=>ta σ H1 fun x H2=>∃ a C dx fs,x=.ref a /\ H2 a=some (.ins C dx fs) /\ Cls K C /\ nr K C f /\ fs.length<1000 /\
 D.nx σ (upd H2 a (.ins C dx (kR f y fs)))
section
variable{X:Cx}{o e value:Expr}{f:Str}{pos pos' tpos:Pos}{ta tv:TE}
theorem KU(he:PE X e ta)(hb:attributeBase e f X.env (eval e X.env)=eval e X.env):PE X (.Attribute e f pos) (KH X.K ta f):=by
 intro pins s σ H Q I h;refine Io hb (thn (he pins s σ H _ I h) fun u s1 ⟨x,H1,I1,rx,a,C,dx,fs,v,ex,ea,c,n,l,q⟩=>?_);subst ex
 obtain rfl:u=Value.ref a:=rx
 exact Bg I1 ea c n l fun u' s2 I2 ru=>⟨v,H1,I2,ru,q⟩
theorem Km(ha:PE X o ta)(hv:PE X value tv)(hs:swapsWith value (some (.Attribute o f pos')) pos.line X.env=pure false):PS X (.Assign [.Attribute o f pos'] value pos) (LQ X.K ta tv f):=by
 intro pins s σ H D I h;refine plainObj_wpAny_Assign_Attribute (thn (hv pins s σ H _ I h) fun u s1 ⟨y,H1,I1,ry,q⟩=>thn (ha pins s1 σ H1 _ I1 q) fun ov s2 ⟨x,H2,I2,rx,a,C,dx,fs,ex,ea,c,n,l,q2⟩=>?_) hs;subst ex
 obtain rfl:ov=Value.ref a:=rx
 exact Bf I2 ea c n l ry fun s3 I3=>⟨σ,_,I3,q2⟩
end
structure iM(k:Nat)(A:Around):Prop where
 hd:A.handled=none
 dp:A.depth+3*k+5<recursionLimit
 un:A.units+16*k+200<cLine
theorem iM.mono(r:iM k A)(h:j<=k):iM j A:=⟨r.hd,by have:=r.dp;omega,by have:=r.un;omega⟩
theorem iM.deeper{A:Around}(r:iM (k+1) A)(env:Env):iM k (A.deeper env):=
 ⟨r.hd,by have:=r.dp;show A.depth+1+3*k+5<_;omega,by have:=r.un;show A.units+3+16*k+200<_;omega⟩
theorem Br{A:Around}{kw:List (Str×Value)}:(A.under (.builtin "type.__call__" ⟨.ref C ::us,kw⟩)).depth=A.depth+1:=by
 first|rfl|simp[Around.under,Code.weight,Code.isCreation,Code.isGuard,Code.isCaller,Code.frames,Code.isFrame,guardIds]
theorem BY{A:Around}{kw:List (Str×Value)}:(A.under (.builtin "type.__call__" ⟨.ref C ::us,kw⟩)).units=A.units+1:=by
 first|rfl|simp[Around.under,Code.cUnits,Code.frames,Code.isFrame]
theorem iM.make{A:Around}(r:iM (k+1) A)(C:Addr)(us:List Value)(kw:List (Str×Value)):iM k (A.under (.builtin "type.__call__" ⟨.ref C ::us,kw⟩)):=
 ⟨r.hd,by have:=r.dp;rw[Br];omega,by have:=r.un;rw[BY];omega⟩
theorem iM.depth{A:Around}(r:iM k A):A.depth<recursionLimit:=by have:=r.dp;omega
theorem iM.units{A:Around}(r:iM k A):A.units+64<cLine:=by have:=r.un;omega
def lZ:TA:=fun _ H Q=>Q [] H
def jN(ta:TE)(tr:TA):TA:=fun σ H Q=>ta σ H fun x H1=>tr σ H1 fun xs H2=>Q (x ::xs) H2
section
variable{X:Cx}{e:Expr}{es:List Expr}{te:TE}{t:TA}{pos:Pos}
theorem Ls:PA X [] lZ:=fun _ _ _ _ H Q I h=>Calls.spliced_nil ⟨[],H,I,.nil,h⟩
theorem HW(ha:PE X e te)(hr:PA X es t)(hs:starEach (e ::es) X.env=(false,eval e X.env) ::starEach es X.env:=by rfl):PA X (e ::es) (jN te t):=by
 intro pos pins s σ H Q I h;rw[hs];show wpAny _ _ (spliced ((false,eval e X.env) ::backTo pos (starEach es X.env))) _ _ s;refine Calls.spliced_cons (thn (ha pins s σ H _ I h) fun u s1 ⟨x,H1,I1,r1,q1⟩=>?_)
 exact thn (hr pos pins s1 σ H1 _ I1 q1) fun us s2 ⟨xs,H2,I2,r2,q2⟩=>⟨x ::xs,H2,I2,.cons r1 r2,q2⟩
def LG(t:TA):TE:=fun σ H Q=>t σ H fun xs H1=>xs.length<=sizeLine /\ ∀ p,H1 p=none->Q (.ref p) (upd H1 p (.tup xs))
def II(t:TA):TE:=fun σ H Q=>t σ H fun xs H1=>xs.length<=sizeLine /\ ∀ p,H1 p=none->Q (.ref p) (upd H1 p (.lst xs))
theorem Ku{x1}(h:PA X es t):PE X (.Tuple es x1 pos) (LG t):=by
 intro pins s σ H Q I hq;refine wpAny_Tuple_spliced (thn (h pos pins s σ H _ I hq) fun us s1 ⟨xs,H1,I1,r,z,q⟩=>⟨by rw[<- r.length];exact z,?_⟩)
 have hf:H1 s1.heap.objs.size=none:=I1.hok.fresh (Nat.le_refl _)
 refine⟨.ref s1.heap.objs.size,upd H1 s1.heap.objs.size (.tup xs),I1.laid (t':=s1.toks) (fun b u e=>Heap.get?_push_of_some _ e) (Nat.le_refl _) ?_,rfl,q _ hf⟩
 exact⟨z,us,r,⟨_,Heap.get?_push_size _ rfl,rfl,_,rfl⟩⟩
theorem Lp(h:PA X es t):PE X (.List es pos) (II t):=by
 intro pins s σ H Q I hq;refine wpAny_List_spliced (thn (h pos pins s σ H _ I hq) fun us s1 ⟨xs,H1,I1,r,z,q⟩=>⟨by rw[<- r.length];exact z,?_⟩)
 have hf:H1 s1.heap.objs.size=none:=I1.hok.fresh (Nat.le_refl _)
 refine⟨.ref s1.heap.objs.size,upd H1 s1.heap.objs.size (.lst xs),I1.laid (t':=s1.toks) (fun b u e=>Heap.get?_push_of_some _ e) (Nat.le_refl _) ?_,rfl,q _ hf⟩
 exact⟨z,us,0,r,Heap.get?_push_size _ rfl⟩
end
abbrev Sp:=List V->Hp->VK->XK->Prop
abbrev CXT:=List Env->Hp->Shared->XK->Value->Shared->Prop
structure BL(P:Program)(w:World)(K:PySem.W.Frag)(mg:Str->Option Value)(base:Heap)(A:Around)(outer:List Env)(s:Shared)(H:Hp):Prop where
 frames:A.frames=some outer
 mod:Mod K mg base
 bs:∀ b o,base.get? b=some o->s.heap.get? b=some o /\ H b=none
 bsz:base.objs.size<=s.heap.objs.size
 xt:s.heap.FunFrames base outer
 frf:∀ b∈frs outer,H b=none
 hok:HOk P w H s.heap
 bare:AllBare s.gens
def CE(outer:List Env)(P:Program)(w:World)(H:Hp)(s:Shared)(Q:VK)(u:Value)(s':Shared):Prop:=
 ∃ v H',s'.os=s.os /\ AllBare s'.gens /\ Un (frs outer) [] H H' s.heap s'.heap /\ HOk P w H' s'.heap /\ RelV v u /\ Q v H'
def CR(CX:CXT)(outer:List Env)(P:Program)(w:World)(H:Hp)(s:Shared)(Q:VK)(E:XK)(r:Result)(s':Shared):Prop:=
 match r with
 |.ok (.ret u)=>CE outer P w H s Q u s'
 |.ok _=>False
 |.error e=>CX outer H s E e s'
structure cx(P:Program)(w:World)(K:PySem.W.Frag)(mg:Str->Option Value)(base:Heap)(CX:CXT)(k:Nat)(f:Addr)(fd:FuncData)(ps:List Str)(sp:Sp):Prop where
 len:∀ vs H Q E,sp vs H Q E->vs.length=ps.length
 run:∀(A:Around) (outer:List Env) (s:Shared) (H:Hp) (args:Args) (us:List Value) (vs:List V) (Q:VK) (E:XK),iM k A->BL P w K mg base A outer s H->BindsTo s fd args (ps.zip us)->Vals vs us->sp vs H Q E ->
  codeAny (model P w) A (.call (.ref f) args) (CR CX outer P w H s Q E) s
theorem cx.mono{K:PySem.W.Frag}{mg:Str->Option Value}(F:cx P w K mg base CX j f fd ps sp)(h:j<=k):
  cx P w K mg base CX k f fd ps sp:=⟨F.len,fun A outer s H args us vs Q E hr=>F.run A outer s H args us vs Q E (hr.mono h)⟩
theorem cx.imp{K:PySem.W.Frag}{mg:Str->Option Value}(F:cx P w K mg base CX k f fd ps sp)
  (h:∀ vs H Q E,sp' vs H Q E->sp vs H Q E):cx P w K mg base CX k f fd ps sp':=
 ⟨fun vs H Q E q=>F.len vs H Q E (h _ _ _ _ q),fun A outer s H args us vs Q E hr he hb hv hs=>F.run A outer s H args us vs Q E hr he hb hv (h _ _ _ _ hs)⟩
theorem BL.make{K:PySem.W.Frag}{mg:Str->Option Value}{A:Around}(e:BL P w K mg base A outer s H)(C:Addr)(us:List Value)(kw:List (Str×Value)):
  BL P w K mg base (A.under (.builtin "type.__call__" ⟨.ref C ::us,kw⟩)) outer s H:=⟨by first|exact e.frames|(simpa [Around.under,Code.envs,Code.isFrame,pushEnvs]using e.frames),e.mod,e.bs,e.bsz,e.xt,e.frf,e.hok,e.bare⟩
section
variable{X:Cx}{pins:List (Addr×Obj)}{σ:St}{H:Hp}{s s':Shared}
theorem Inv.M3(I:Inv X pins σ H s):BL X.prog X.w X.K X.mg X.base X.A X.stack s H:=
 ⟨I.ok.frames,I.ok.mod,I.bs,Nat.le_trans I.ok.bsz I.sz,I.stack,I.zu,I.hok,I.bare⟩
theorem Inv.after(I:Inv X pins σ H s)(h:CE X.stack X.prog X.w H s Q u s'):EP X pins σ Q u s':=by
 obtain⟨v,H',os,bare,un,hok,r,q⟩:=h;obtain⟨hh,g,d,t,os'⟩:=s'
 obtain rfl:os'=s.os:=os
 exact⟨v,H',I.call (h':=hh) (g':=g) (d':=d) (t':=t) (ch:=[]) un hok bare (fun b z=>absurd z (by simp)),r,q⟩
end
def GH(C:Addr)(sp:Sp)(dvs:List V)(E:XK)(t:TA):TE:=fun σ H Q=>t σ H fun vs H1=>∀ x dx,H1 x=none->H1 dx=none->dx≠x ->
 sp (.ref x ::(vs++dvs)) (upd (upd H1 dx (.own x)) x (.ins C dx [])) (fun v H2=>v=.non /\ Q (.ref x) H2) E
def Binds(K:PySem.W.Frag)(fd:FuncData)(ps:List Str)(ds:List Value):Prop:=
 ∀(s:Shared) (us:List Value),K.In s.heap->(us++ds).length=ps.length->BindsTo s fd ⟨us,[]⟩ (ps.zip (us++ds))
theorem Binds.all{K:PySem.W.Frag}{ps:List Str}(h:∀ us:List Value,us.length=ps.length->bindArgs fd ⟨us,[]⟩=pure (ps.zip us)):Binds K fd ps []:=fun s us _ hl=>by
 rw[List.append_nil]at hl ⊢
 exact .of_eq (h us hl)
def Passes(CX:CXT)(X:Cx)(E:XK):Prop:=∀(pins:List (Addr×Obj)) (σ:St) (H:Hp) (s:Shared) (e:Value) (s':Shared),Inv X pins σ H s->CX X.stack H s E e s'->X.xe e s'
section
variable{X:Cx}{CX:CXT}{k:Nat}{f C:Addr}{fd:FuncData}{ps:List Str}{sp:Sp}{dvs:List V}{ds:List Value}{E:XK}{x m:Str}{p pos apos:Pos}{e o:Expr}{es:List Expr}{ta:TE}{t:TA}
structure Mk(K:PySem.W.Frag)(C f:Addr):Prop where
 makes:PySem.W.makesIn K C=true
 init:PySem.W.findIn K (.ref C) "__init__" = some (some (.ref f))
 fn:PySem.W.isFn K (.ref f)=true
 kp:PySem.W.keepIn K (.ref C)=true
theorem E7{pins:List (Addr×Obj)}(M:Mk X.K C f)(F:cx X.prog X.w X.K X.mg X.base CX k f fd ps sp)(hr:iM (k+1) X.A)(hb:Binds X.K fd ps ds)(hd:Vals dvs ds)
  (hx:Passes CX X E) (I:Inv X pins σ H s) (r:Vals vs us)
  (h:∀ x dx,H x=none->H dx=none->dx≠x->sp (.ref x ::(vs++dvs)) (upd (upd H dx (.own x)) x (.ins C dx [])) (fun v H2=>v=.non /\ Q (.ref x) H2) E):
  wpAny (model X.prog X.w) X.A (call (.ref C) us) (EP X pins σ Q) X.xe s:=by
 have hq:=h (s.heap.objs.size+1) s.heap.objs.size (I.hok.fresh (Nat.le_succ _)) (I.hok.fresh (Nat.le_refl _)) (Nat.ne_of_lt (Nat.lt_succ_self _));have I2:=Inv.made (C:=C) I
 have r2:Vals (V.ref (s.heap.objs.size+1) ::(vs++dvs)) (Value.ref (s.heap.objs.size+1) ::(us++ds)):=.cons rfl (r.append hd)
 have hl:(Value.ref (s.heap.objs.size+1) ::us++ds).length=ps.length:=by
  have e:=r2.length;rw[F.len _ _ _ _ hq]at e;exact e.symm
 refine wpAny_call (E4 (f:=f) I.kIn M.makes M.init (beq_iff_eq.mp M.fn) (codeAny_mono (F.run _ X.stack _ _ ⟨Value.ref (s.heap.objs.size+1) ::us,[]⟩ (Value.ref (s.heap.objs.size+1) ::(us++ds)) _ _ E (hr.make C us [])
  (I2.M3.make C us []) (hb _ (Value.ref (s.heap.objs.size+1) ::us) I2.kIn hl) r2 hq) fun r s' hq'=>?_))
 cases r with
 |error e=>exact hx pins σ _ _ e s' I2 hq'
 | ok fl=>
   cases fl with
   | ret u=>
     obtain⟨v,H',I3,rv,ev,q3⟩:=I2.after hq';subst ev
     exact⟨rv,⟨V.ref (s.heap.objs.size+1),H',I3,rfl,q3⟩⟩
   |next=>exact False.elim hq'
   |brk=>exact False.elim hq'
   |cont=>exact False.elim hq'
theorem EY(M:Mk X.K C f)(F:cx X.prog X.w X.K X.mg X.base CX k f fd ps sp)(hr:iM (k+1) X.A)(hg:Gl X x)(hm:X.mg x=some (.ref C))(hb:Binds X.K fd ps ds)(hd:Vals dvs ds)(hx:Passes CX X E)
  (hdb:(x==("__debug__":Str))=false:=by decide):PE X (.Call (.Name x p) [] [] pos) (GH C sp dvs E lZ):=by
 intro pins s σ H Q I h;refine wpAny_Call_Name_kw (vw I hg hm ?_ hdb);exact PySem.W.callWith_K0 I.kIn M.kp (E7 (us:=[]) M F hr hb hd hx I .nil h)
end
structure aU(N P:List Str)(sc:Scope):Prop where
 kind:sc.kind=.function
 co:sc.isCoroutine=false
 gen:sc.isGenerator=false
 nd:N.Nodup
 pre:N.take P.length=P
 par:∀ x∈P,sc.names.lookup x=some .local \/ sc.names.lookup x=some .cell
 nofree:∀ y∈sc.names,y.2≠.free
theorem x6{kindOf:Str->Option NameKind}:∀{binds:List (Str×Value)} {m:Str->Option Value},(∀ v,(x,v)∉binds)->bindL kindOf binds m x=m x
 |[],_,_=>rfl
 | (n,v) ::r,m,h=>by
   unfold bindL;rw[x6 fun w hw=>h w (List.mem_cons_of_mem _ hw)];split
   . have:x≠n:=by rintro rfl;exact h v List.mem_cons_self
     simp[this]
   . rfl
theorem xE{kindOf:Str->Option NameKind}:∀{binds:List (Str×Value)} {m:Str->Option Value},(∀ v,(x,v)∉binds)->bindC kindOf binds m x=m x
 |[],_,_=>rfl
 | (n,v) ::r,m,h=>by
   unfold bindC;rw[xE fun w hw=>h w (List.mem_cons_of_mem _ hw)];split
   . rfl
   . have:x≠n:=by rintro rfl;exact h v List.mem_cons_self
     simp[this]
theorem xJ{kindOf:Str->Option NameKind}:∀{P:List Str} {vs:List Value} {i:Nat} {m:Str->Option Value},P.Nodup->P[i]?=some x->vs[i]?=some v->kindOf x=some .local ->
  bindL kindOf (P.zip vs) m x=some v
 |[],_,_,_,_,h,_,_=>by simp at h
 |_ ::_,[],_,_,_,_,h,_=>by simp at h
 | p ::P,w ::vs,0,m,nd,h1,h2,hk=>by
   simp at h1 h2;subst h1;subst h2;show bindL kindOf ((p,w) ::P.zip vs) m p=_;unfold bindL;rw[x6 fun v hv=>(List.nodup_cons.mp nd).1 (List.of_mem_zip hv).1,if_pos hk];simp
 | p ::P,w ::vs,i+1,m,nd,h1,h2,hk=>by
   show bindL kindOf ((p,w) ::P.zip vs) m x=_;unfold bindL;exact xJ (i:=i) (List.nodup_cons.mp nd).2 (by simpa using h1) (by simpa using h2) hk
theorem xT{kindOf:Str->Option NameKind}:∀{P:List Str} {vs:List Value} {i:Nat} {m:Str->Option Value},P.Nodup->P[i]?=some x->vs[i]?=some v->kindOf x≠some .local ->
  bindC kindOf (P.zip vs) m x=some v
 |[],_,_,_,_,h,_,_=>by simp at h
 |_ ::_,[],_,_,_,_,h,_=>by simp at h
 | p ::P,w ::vs,0,m,nd,h1,h2,hk=>by
   simp at h1 h2;subst h1;subst h2;show bindC kindOf ((p,w) ::P.zip vs) m p=_;unfold bindC;rw[xE fun v hv=>(List.nodup_cons.mp nd).1 (List.of_mem_zip hv).1,if_neg hk];simp
 | p ::P,w ::vs,i+1,m,nd,h1,h2,hk=>by
   show bindC kindOf ((p,w) ::P.zip vs) m x=_;unfold bindC;exact xT (i:=i) (List.nodup_cons.mp nd).2 (by simpa using h1) (by simpa using h2) hk
def start(N:List Str)(vs:List V):St:=vs.map some++List.replicate (N.length - vs.length) none
def uk(CX:CXT)(P:Program)(w:World)(K:PySem.W.Frag)(mg:Str->Option Value)(base:Heap)(N:List Str)(qual:Str)(scope:Scope)(f:Addr)(cd:Value)(A:Around)(outer:List Env)(s:Shared)(H:Hp)(E:XK):Cx where
 prog:=P
 w:=w
 K:=K
 mg:=mg
 base:=base
 A:=A.deeper (envOfC qual scope s.heap.objs.size f cd)
 N:=N
 s₀:=s
 H₀:=H
 env:=envOfC qual scope s.heap.objs.size f cd
 outer:=outer
 stack:=envOfC qual scope s.heap.objs.size f cd ::outer
 ex:=[]
 calm:=true
 fn:=fun _=>true
 pn:=[]
 xe:=fun e s'=>wpAny (model P w) (A.deeper (envOfC qual scope s.heap.objs.size f cd)) (leaving (envOfC qual scope s.heap.objs.size f cd) e) (fun _ s''=>CX outer H s E e s'') (fun e' s''=>CX outer H s E e' s'') s'
theorem AS{sc:Scope}(h:sc.names.lookup x=some .cell):∃ c,(cellsFrom n sc.names []).lookup x=some c:=by
 have q:=PySem.W.cellsFrom_some sc.names n [] (.inl h);exact Option.isSome_iff_exists.mp q
theorem DY{K:PySem.W.Frag}{mg:Str->Option Value}{N ps:List Str}{scope:Scope}{A:Around}{s s1:Shared}{vs:List V}
  (S:aU N ps scope) (hd:A.handled=none) (e0:BL P w K mg base A outer s H) (hl:vs.length=ps.length) (r:Vals vs us)
  (x:InCallC s s.heap.objs.size (bindL (envOfC qual scope s.heap.objs.size f cd).kindOf (ps.zip us) fun _=>none) (cellsFrom (s.heap.objs.size+1) scope.names []) (bindC (envOfC qual scope s.heap.objs.size f cd).kindOf (ps.zip us) fun _=>none) s1):
  Inv (uk CX P w K mg base N qual scope f cd A outer s H E) [] (start N vs) H s1:=by
 have hpl:ps.length<=N.length:=by have:=congrArg List.length S.pre;rw[List.length_take]at this;omega
 obtain⟨h1,tk,rfl,hk⟩:=x.done
 have noA:∀ b:Addr,b∉(uk CX P w K mg base N qual scope f cd A outer s H E).ex:=fun b z=>absurd (show b∈([]:List Addr) from z) (by simp)
 refine⟨⟨e0.mod,S.kind,rfl,rfl,Nat.le_refl _,fun y z c h1 h2=>?_,fun y hy=>?_,fun y c _ h=>?_,fun _=>hd,Around.frames_deeper e0.frames,.inr ⟨rfl,rfl⟩,fun b z=>absurd z (noA b),e0.bs,e0.bsz,fun b _ _=>noA b,fun b z=>absurd z (noA b),e0.xt,e0.frf⟩,
  rfl,e0.bare,Un.kept hk,⟨_,x.toInCall.ns,fun i y v h1 h2 h3=>?_⟩,fun y c h=>⟨_,x.cell y c h⟩,e0.hok.fresh (Nat.le_refl _),fun y c h=>?_,fun p hp=>absurd (show p∈([]:List (Addr×Obj)) from hp) (by simp),e0.hok.kept hk,?_⟩
 . exact name_of_addr x.apart (PySem.mem_of_lookup h1) (PySem.mem_of_lookup h2)
 . have hy:scope.names.lookup y=some .cell \/ scope.names.lookup y=some .free:=hy
   rcases hy with hy|hy
   . exact AS hy
   . exact absurd rfl (S.nofree _ (PySem.mem_of_lookup hy))
 . exact Nat.le_of_lt (x.above y c (PySem.mem_of_lookup h))
 . have hi:i < vs.length:=by
    unfold start at h2
    by_cases hi:i<vs.length
    . exact hi
    . rw[List.getElem?_append_right (by simpa using hi)]at h2;rw[List.getElem?_replicate]at h2
      split at h2<;>cases h2
   have ha:vs[i]?=some v:=by
    unfold start at h2;rw[List.getElem?_append_left (by simpa using hi),List.getElem?_map]at h2
    cases e:vs[i]? with
    |none=>rw[e]at h2;cases h2
    |some a=>rw[e]at h2;cases h2;rfl
   obtain⟨u,hu,rv⟩:=r.get ha
   have hp:ps[i]?=some y:=by
    rw[<- S.pre,List.getElem?_take_of_lt (by omega)];exact h1
   have ndP:ps.Nodup:=by rw[<- S.pre];exact S.nd.sublist (List.take_sublist _ _)
   refine⟨u,rv,?_⟩
   rcases S.par y (List.mem_of_getElem? hp)with k|k
   . exact .inl ⟨k,xJ ndP hp hu k⟩
   . obtain⟨c,e⟩:=AS (n:=s.heap.objs.size+1) k;refine .inr ⟨.inl k,c,e,?_⟩;have q:=x.cell y c e;rw[xT ndP hp hu (by show scope.names.lookup y≠_;rw[k];decide)]at q;exact q
 . exact e0.hok.fresh (Nat.le_of_lt (x.above y c (PySem.mem_of_lookup h)))
 . unfold start;show _=N.length;rw[List.length_append,List.length_map,List.length_replicate];omega
theorem Nl{CX:CXT}{P:Program}{w:World}{K:PySem.W.Frag}{mg:Str->Option Value}{base:Heap}{k:Nat}{f:Addr}{name qual:Str}{params:Arguments}{body:List Stmt}{scope:Scope}{dV kV doc pm cdv ct oc:Value}{an od:Option Addr}
  {osl:Array (Option Value)} {N ps:List Str} {sp:Sp} (lk:K.lookup f=some ⟨oc,od,.func (PySem.W.fnOf name qual params body scope dV kV doc pm an cdv ct),osl⟩) (hcd:PySem.W.codeIn K cdv qual=true) (S:aU N ps scope)
  (len:∀ vs H Q E,sp vs H Q E->vs.length=ps.length)
  (hbody:∀(A:Around) (outer:List Env) (s:Shared) (H:Hp) (vs:List V) (Q:VK) (E:XK),iM k (A.deeper (envOfC qual scope s.heap.objs.size f cdv))->sp vs H Q E ->
    ∃ t,PSs (uk CX P w K mg base N qual scope f cdv A outer s H E) body t /\ t { nx:=fun _ H'=>Q .non H',rt:=Q } (start N vs) H):
  cx P w K mg base CX (k+1) f (PySem.W.fnOf name qual params body scope dV kV doc pm an cdv ct) ps sp:=by
 refine⟨len,fun A outer s H args us vs Q E hr e0 hb r hsp=>?_⟩
 have hl:=len _ _ _ _ hsp
 have KX:K.In s.heap:=e0.mod.kin.keeps fun b o e=>(e0.bs b o e).1
 have lim:s.heap.NoLimit:=e0.mod.nolimit.keeps fun b o e=>(e0.bs b o e).1
 have hkind:∀ y∈ps.zip us,scope.names.lookup y.1=some .local \/ (scope.names.lookup y.1=some .cell /\ ((cellsFrom (s.heap.objs.size+1) scope.names []).lookup y.1).isSome=true):=fun ⟨n,v⟩ hy=>by
  rcases S.par n (List.of_mem_zip hy).1 with q|q
  . exact .inl q
  . exact .inr ⟨q,PySem.W.cellsFrom_some _ _ _ (.inl q)⟩
 refine codeAny_call_function hr.depth (KX _ _ lk) rfl S.co S.gen rfl (PySem.W.codeRec_of KX hcd) (hb _ _ _ _ ?_)
 refine wpAny_newFunctionEnv_cells S.kind hkind fun env he s1 x=>?_
 subst he
 refine⟨lim.keeps x.toInCall.keep,codeAny_func ?_⟩
 obtain⟨t,ht,hq⟩:=hbody A outer s H vs Q E (hr.deeper _) hsp
 have I:Inv (uk CX P w K mg base N qual scope f cdv A outer s H E) [] (start N vs) H s1:=DY S hr.hd e0 hl r x
 refine wpAny_mono (ht [] s1 (start N vs) H _ I hq) (fun fl s' hs=>?_) fun e s' hs=>hs
 have fin:∀{σ':St} {H':Hp} {v:V} {u:Value},Inv (uk CX P w K mg base N qual scope f cdv A outer s H E) [] σ' H' s'->RelV v u->Q v H'->CE outer P w H s Q u s':=
  fun {σ' H' v u} J rv q=>⟨v,H',J.os,J.bare,J.base,J.hok,rv,q⟩
 cases fl with
 | ret u=>
   obtain⟨v,σ',H',J,rv,q⟩:=hs;exact fin J rv q
 | next=>
   obtain⟨σ',H',J,q⟩:=hs;exact fin (v:=V.non) (u:=Value.none) J rfl q
 | brk=>
   obtain⟨_,_,_,q⟩:=hs;exact False.elim q
 | cont=>
   obtain⟨_,_,_,q⟩:=hs;exact False.elim q
section
variable{X:Cx}{x:Str}{p pos:Pos}{e:Expr}{es:List Expr}{t:TA}{id T:String}{r:List V->Hp->VK->Prop}
def tCB(r:List V->Hp->VK->Prop)(t:TA):TE:=fun σ H Q=>t σ H fun vs H1=>r vs H1 Q
theorem Fh(hc:n4 X (.builtin id) r)(hg:Gl X x)(hm:X.mg x=none)(hv:bootBuiltins x=some (.builtin id))(ha:PA X (e ::es) t)(hn:x ≠ "__name__":=by decide)(hdb:(x==("__debug__":Str))=false:=by decide)
  (he:starEach (e ::es) X.env=(false,eval e X.env) ::starEach es X.env:=by rfl) (hpl:(backTo pos (starEach es X.env)).any (·.1)=false:=by rfl):PE X (.Call (.Name x p) (e ::es) [] pos) (tCB r t):=by
 intro pins s σ H Q I h;refine wpAny_Call_Name_kw (wY I hg hm hv ?_ hn hdb);exact PyProof.Rows.callWith_builtin1 (thn (ha pos pins s σ H _ I h) fun us s1 ⟨vs,H1,I1,r1,q1⟩=>hc pins s1 σ H1 vs us Q I1 r1 q1) he hpl
theorem Dm(hc:n4 X (.type T) r)(hg:Gl X x)(hm:X.mg x=none)(hv:bootBuiltins x=some (.type T))(ha:PA X (e ::es) t)(hn:x ≠ "__name__":=by decide)(hdb:(x==("__debug__":Str))=false:=by decide)
  (he:starEach (e ::es) X.env=(false,eval e X.env) ::starEach es X.env:=by rfl) (hpl:(backTo pos (starEach es X.env)).any (·.1)=false:=by rfl):PE X (.Call (.Name x p) (e ::es) [] pos) (tCB r t):=by
 intro pins s σ H Q I h;refine wpAny_Call_Name_kw (wY I hg hm hv ?_ hn hdb);exact PyProof.Rows.callWith_type1 (thn (ha pos pins s σ H _ I h) fun us s1 ⟨vs,H1,I1,r1,q1⟩=>hc pins s1 σ H1 vs us Q I1 r1 q1) he hpl
end
end L2
namespace HT
open PySem PyProof.Rows
section
open PySem.SeqAt
open PySem.AutoSeq1 (wpAny_loadPart')
open PySem.MeetsSeq PySem.MeetsSeq2 PySem.MeetsSeq3
end
section
variable{prog:Program}{w:World}{A:Around}{E:Value->Shared->Prop}{s:Shared}
def sIx(n d:Nat):Option Int->Nat
 |none=>d
 |some v=>if v<0 then(v+(n:Int)).toNat else min v.toNat n
end
end HT
namespace L2
open PySem PySem.Spec PyProof.Rows
abbrev TO:=St->Hp->(Option Int->Hp->Prop)->Prop
def PO(X:Cx)(e:Option Expr)(t:TO):Prop:=
 ∀(pins:List (Addr×Obj)) (s:Shared) (σ:St) (H:Hp) (Q:Option Int->Hp->Prop),Inv X pins σ H s->t σ H Q ->
   wpAny (model X.prog X.w) X.A (evalPart e X.env) (fun u s'=>∃ o H',Inv X pins σ H' s' /\ IsPart u o /\ Q o H') X.xe s
def zd:TO:=fun _ H Q=>Q none H
def GL(t:TE):TO:=fun σ H Q=>t σ H fun x H1=>∃ i,x=.int i /\ Q (some i) H1
section
variable{X:Cx}{e:Expr}{te:TE}{lo hi:Option Expr}{tl th:TO}{pos p2:Pos}
theorem Ic:PO X none zd:=by
 intro pins s σ H Q I h;rw[evalPart_none];exact wpAny_pure ⟨none,H,I,.none,h⟩
theorem Ha(h:PE X e te):PO X (some e) (GL te):=by
 intro pins s σ H Q I hw;rw[evalPart_some]
 refine thn (h pins s σ H _ I hw) fun u s1 ⟨x,H1,I1,r1,q1⟩=>?_
 obtain⟨i,rfl,q⟩:=q1;obtain⟨t,rfl⟩:=r1
 exact⟨some i,H1,I1,.int i t,q⟩
def SlR(X:Cx)(r:V->Option Int->Option Int->Hp->VK->Prop):Prop:=
 ∀(pins:List (Addr×Obj)) (s:Shared) (σ:St) (H:Hp) (x:V) (v vl vu:Value) (lo hi:Option Int) (sl:Addr) (Q:VK),Inv X pins σ H s->RelV x v->s.heap.IsSliceOf sl vl vu .none->IsPart vl lo->IsPart vu hi->r x lo hi H Q ->
   ∃ T id,typeLookup (.type T) "__getitem__" = pure (some (.builtin id)) /\ s.TypeIs v T /\ wpAny (model X.prog X.w) X.A (getItem v (.ref sl)) (EP X pins σ Q) X.xe s
def tSl(r:V->Option Int->Option Int->Hp->VK->Prop)(te:TE)(tl th:TO):TE:=fun σ H Q=>te σ H fun x H1=>tl σ H1 fun l H2=>th σ H2 fun u H3=>r x l u H3 Q
theorem FH{r:V->Option Int->Option Int->Hp->VK->Prop}(hr:SlR X r)(he:PE X e te)(hl:PO X lo tl)(hu:PO X hi th):PE X (.Subscript e (.Slice lo hi none p2) pos) (tSl r te tl th):=by
 intro pins s σ H Q I h;refine Subscript_ (thn (he pins s σ H _ I h) fun v s1 ⟨x,H1,I1,r1,q1⟩=>?_);refine wpAny_Slice (thn (hl pins s1 σ H1 _ I1 q1) fun vl s2 ⟨l,H2,I2,pl,q2⟩=>thn (hu pins s2 σ H2 _ I2 q2) fun vu s3 ⟨u,H3,I3,pu,q3⟩=>?_);rw[evalPart_none];refine wpAny_pure ?_
 have I4:Inv X pins σ H3 { s3 with heap:=s3.heap.push { cls:=.type "slice",data:=.fields #[vl,vu,.none] } }:=I3.kept (t':=s3.toks) fun b ob q=>Heap.get?_push_of_some _ q
 obtain⟨T,id,hT,ht,hg⟩:=hr pins { s3 with heap:=s3.heap.push { cls:=.type "slice",data:=.fields #[vl,vu,.none] } } σ H3 x v vl vu l u s3.heap.objs.size Q I4 r1 (Heap.IsSliceOf.new ..) pl pu q3;show wpAny (model X.prog X.w) X.A (subscriptTail e (.Slice lo hi none p2) v (.ref s3.heap.objs.size)) (EP X pins σ Q) X.xe { s3 with heap:=s3.heap.push { cls:=.type "slice",data:=.fields #[vl,vu,.none] } };exact tail_any (ops:=[.ref s3.heap.objs.size,v]) ht hT hg (by with_unfolding_all rfl)
def Dq(xs:List V)(lo hi:Option Int):List V:=(xs.drop (HT.sIx xs.length 0 lo)).take (HT.sIx xs.length xs.length hi - HT.sIx xs.length 0 lo)
theorem Ac(xs:List V)(lo hi:Option Int):(Dq xs lo hi).length<=xs.length:=by
 unfold Dq;rw[List.length_take,List.length_drop];omega
end
def ixN(n:Nat)(i:Int):Option Nat:=if 0<=i then(if i<n then some i.toNat else none)else if -(n:Int)<=i then some (i+n).toNat else none
def atI{α:Type}(xs:List α)(i:Int):Option α:=(ixN xs.length i).bind fun j=>xs[j]?
theorem CN(h:ixN n i=some j):seqIndex? i n=some j /\ j<n /\ -(n:Int)<=i /\ i<n:=by
 unfold ixN at h
 by_cases h0:0<=i
 . rw[if_pos h0]at h
   by_cases h1:i<n
   . rw[if_pos h1]at h
     have e:i.toNat=j:=Option.some.inj h
     exact⟨by rw[seqIndex_of h0 h1,e],by omega,by omega,h1⟩
   . rw[if_neg h1]at h;cases h
 . rw[if_neg h0]at h
   by_cases h1:-(n:Int)<=i
   . rw[if_pos h1]at h
     have e:(i+n).toNat=j:=Option.some.inj h
     exact⟨by rw[seqIndex_neg (by omega) h1,e],by omega,h1,by omega⟩
   . rw[if_neg h1]at h;cases h
theorem CG{α:Type}{xs:List α}{v:α}(h:atI xs i=some v):∃ j,seqIndex? i xs.length=some j /\ xs[j]?=some v /\ j<xs.length /\ -(xs.length:Int)<=i /\ i<xs.length:=by
 unfold atI at h
 cases e:ixN xs.length i with
 |none=>rw[e]at h;cases h
 | some j=>
   rw[e]at h;obtain⟨h1,h2,h3,h4⟩:=CN e
   exact⟨j,h1,h,h2,h3,h4⟩
def za(b:Expr):Prop:=∀ o i,subscripted b false o i=operate [o,i] (getItem o i)
def IxR(X:Cx)(r:R2):Prop:=
 ∀(value slice:Expr) (pins:List (Addr×Obj)) (s:Shared) (σ:St) (H:Hp) (x y:V) (v u:Value) (Q:VK),Inv X pins σ H s->RelV x v->RelV y u->r x y H Q ->
   subscripted slice false v u=operate [v,u] (getItem v u)->wpAny (model X.prog X.w) X.A (subscriptTail value slice v u) (EP X pins σ Q) X.xe s
def MtR(X:Cx)(id:String)(r:V->List V->Hp->VK->Prop):Prop:=
 ∀(pins:List (Addr×Obj)) (s:Shared) (σ:St) (H:Hp) (x:V) (xs:List V) (v:Value) (us:List Value) (Q:VK),Inv X pins σ H s->RelV x v->Vals xs us->r x xs H Q ->
   wpAny (model X.prog X.w) X.A (call (.builtin id) (v ::us)) (EP X pins σ Q) X.xe s
section
variable{X:Cx}{a b:Expr}{ta tb:TE}{pos:Pos}
theorem MT(hr:IxR X r)(ha:PE X a ta)(hb:PE X b tb)(hs:za b):PE X (.Subscript a b pos) (tOp r ta tb):=by
 intro pins s σ H Q I h;exact Subscript_ (Mb ha hb I h fun v u s2 x y H2 I2 rx ry q=>hr a b pins s2 σ H2 x y v u Q I2 rx ry q (hs _ _))
def HQ(K:PySem.W.Frag):R2:=fun x y H Q=>∃ p xs i v,x=.ref p /\ y=.int i /\ SqL K H p xs /\ atI xs i=some v /\ Q v H
def Nb(K:PySem.W.Frag):R2:=fun x y H Q=>∃ p xs i v,x=.ref p /\ y=.int i /\ SqT K H p xs /\ atI xs i=some v /\ Q v H
theorem bg:IxR X (HQ X.K):=by
 intro value slice pins s σ H x y v u Q I rx ry h hs;obtain⟨p,xs,i,z,rfl,rfl,hq,he,q⟩:=h;cases rx;obtain⟨t,rfl⟩:=ry;obtain⟨its,r,pl,hz⟩:=I.list hq;obtain⟨j,h1,h2,h3,h4,h5⟩:=CG he;obtain⟨w,ew,rw'⟩:=r.get h2;have hl:=r.length;have hn:=wW
 have fin:EP X pins σ Q w s:=⟨z,H,I,rw',q⟩
 by_cases h0:0<=i
 . have hj:i.toNat = j:=by
    rw[seqIndex_of h0 h5]at h1;exact Option.some.inj h1
   exact item_listR pl.isList h0 (by omega) (by rw[hj];simpa using ew) fin hs
 . have hj:(i + (its.toArray.size:Int)).toNat = j:=by
    rw[seqIndex_neg (by omega) h4]at h1;rw[List.size_toArray,<- hl];exact Option.some.inj h1
   exact subscriptTail_builtinR (x:=w) pl.isList.typeIs slot_list_getitem.lookup
    (wpAny_getItem_list_neg (Q:=fun r s'=>r=w /\ EP X pins σ Q r s') pl.isList (by omega) (by rw[List.size_toArray]<;>omega) (by omega) (by rw[hj];simpa using ew) ⟨rfl,fin⟩) hs
theorem dZ:IxR X (Nb X.K):=by
 intro value slice pins s σ H x y v u Q I rx ry h hs;obtain⟨p,xs,i,z,rfl,rfl,hq,he,q⟩:=h;cases rx;obtain⟨t,rfl⟩:=ry;obtain⟨its,r,pl,hz⟩:=I.tuple hq;obtain⟨j,h1,h2,h3,h4,h5⟩:=CG he;obtain⟨w,ew,rw'⟩:=r.get h2;have hl:=r.length;have hn:=wW
 have fin:EP X pins σ Q w s:=⟨z,H,I,rw',q⟩
 exact subscriptTail_builtinR (x:=w) pl.typeIs slot_tuple_getitem.lookup
  (getItem_tuple (j:=j) (Q:=fun r s'=>r=w /\ EP X pins σ Q r s') pl (by omega) (by omega) (by rw[List.size_toArray,<- hl];exact h1) (by simpa using ew) ⟨rfl,fin⟩) hs
theorem Bo(its:List Value)(n j:Nat)(u:Value):Obj.mapSeq (·.setIfInBounds j u) { cls:=.type "list",data:=.seq its.toArray n }={ cls:=.type "list",data:=.seq (its.set j u).toArray n }:=by
 simp[Obj.mapSeq]
theorem Inv.lst{pins:List (Addr×Obj)}{s:Shared}{xs:List V}(I:Inv X pins σ H s)(h:H p=some (.lst xs)):
  ∃(its:List Value) (n:Nat),Vals xs its /\ s.heap.get? p=some { cls:=.type "list",data:=.seq its.toArray n } /\ xs.length<=sizeLine:=by
 obtain⟨z,its,n,r,e⟩:=I.hok p _ h
 exact⟨its,n,r,e,z⟩
theorem Inv.JZ{pins:List (Addr×Obj)}{s:Shared}{xs ys:List V}{its its':List Value}{f:Obj->Obj}(I:Inv X pins σ H s)(h:H p=some (.lst xs))
  (ho:s.heap.get? p=some { cls:=.type "list",data:=.seq its.toArray n }) (hf:f { cls:=.type "list",data:=.seq its.toArray n }={ cls:=.type "list",data:=.seq its'.toArray n' }) (r:Vals ys its') (hz:ys.length<=sizeLine) (t:Nat):
  Inv X pins σ (upd H p (.lst ys)) { s with heap:=s.heap.update p f,toks:=t }:=by
 have e:(s.heap.update p f).get? p=some { cls:=.type "list",data:=.seq its'.toArray n' }:=by
  rw[Heap.get?_update_self f ho (by rw[hf]<;>rfl),hf]
 refine I.write (x:=p) (e:=p) (by rw[h];trivial) (.inl rfl) (fun b u hb q=>(Heap.get?_update_other _ _ (Ne.symm hb)).trans q) ⟨_,e⟩ ?_
 exact⟨hz,its',n',r,e⟩
def EV:V->V->V->Hp->(Hp->Prop)->Prop:=fun o i v H Q=>∃ p xs k j,o=.ref p /\ i=.int k /\ H p=some (.lst xs) /\ ixN xs.length k=some j /\ Q (upd H p (.lst (xs.set j v)))
theorem set_list:LN X EV:=by
 intro pins s σ H o i v ov iv u Q I ro ri rv h;obtain⟨p,xs,k,j,rfl,rfl,hp,hj,q⟩:=h;cases ro;obtain⟨t,rfl⟩:=ri;obtain⟨its,n,r,ho,hz⟩:=I.lst hp;obtain⟨h1,h2,h3,h4⟩:=CN hj;have hl:=r.length;have hn:=wW
 have I':Inv X pins σ (upd H p (.lst (xs.set j v))) { s with heap:=s.heap.update p (Obj.mapSeq (·.setIfInBounds j u)) }:=
  I.JZ hp ho (Bo its n j u) (r.set rv j) (by rw[List.length_set];exact hz) s.toks
 by_cases h0:0<=k
 . have hk:k.toNat = j:=by
    rw[seqIndex_of h0 h4]at h1;exact Option.some.inj h1
   exact PySem.W.ki_setAt ho h0 (by omega) (by rw[List.size_toArray,<- hl];exact h4) (by rw[hk];exact⟨_,I',q⟩)
 . have hk:(k + (its.toArray.size:Int)).toNat = j:=by
    rw[seqIndex_neg (by omega) h3]at h1;rw[List.size_toArray,<- hl];exact Option.some.inj h1
   exact PySem.W.ki_setBack ho (by omega) (by rw[List.size_toArray,<- hl];exact h3) (by omega) (by rw[hk];exact⟨_,I',q⟩)
theorem ym(lo hi:Option Int)(n:Nat):(sliceBounds lo hi none n).1=((HT.sIx n 0 lo:Nat):Int) /\ (sliceBounds lo hi none n).2.1=((HT.sIx n n hi:Nat):Int) /\ (sliceBounds lo hi none n).2.2=1:=by
 refine⟨?_,?_,rfl⟩
 . cases lo with
   |none=>simp[sliceBounds,HT.sIx]
   | some i=>
     simp only[sliceBounds,HT.sIx,Option.getD_none,show(1:Int)>0 by decide,if_true]
     by_cases h:i<0
     . simp only[h,if_true]<;>omega
     . simp only[h,if_false]<;>omega
 . cases hi with
   |none=>simp[sliceBounds,HT.sIx]
   | some i=>
     simp only[sliceBounds,HT.sIx,Option.getD_none,show(1:Int)>0 by decide,if_true]
     by_cases h:i<0
     . simp only[h,if_true]<;>omega
     . simp only[h,if_false]<;>omega
theorem xp(its:List Value)(lo hi:Option Int):slicePick its.toArray lo hi none=((its.drop (HT.sIx its.length 0 lo)).take (HT.sIx its.length its.length hi - HT.sIx its.length 0 lo)).toArray:=by
 obtain⟨h1,h2,h3⟩:=ym lo hi its.toArray.size;unfold slicePick;rw[h1,h2,h3]
 simp only[sliceRange_one,pick_run,List.size_toArray]<;>rfl
def MW(K:PySem.W.Frag):V->Option Int->Option Int->Hp->VK->Prop:=fun x lo hi H Q=>∃ a xs,x=.ref a /\ SqL K H a xs /\ ∀ p,H p=none->Q (.ref p) (upd H p (.lst (Dq xs lo hi)))
theorem Hq:SlR X (MW X.K):=by
 intro pins s σ H x v vl vu lo hi sl Q I rx hs pl pu h;obtain⟨a,xs,rfl,hx,q⟩:=h;cases rx;obtain⟨its,r,ht,hz⟩:=I.list hx;have hlen:=r.length
 refine⟨"list",_,slot_list_getitem.lookup,ht.isList.typeIs,?_⟩
 refine wpAny_getItem_list_slice ht.isList hs pl pu .none (by simp) ?_ (by rw[List.size_toArray]<;>omega);rw[xp,<- hlen]
 refine⟨.ref s.heap.objs.size,_,I.laid (t':=s.toks) (o:=.lst (Dq xs lo hi)) (fun b ob q=>Heap.get?_push_of_some _ q) (Nat.le_refl _) ?_,rfl,q _ (I.hok.fresh (Nat.le_refl _))⟩
 exact⟨Nat.le_trans (Ac xs lo hi) hz,_,0,(r.drop (HT.sIx xs.length 0 lo)).take (HT.sIx xs.length xs.length hi - HT.sIx xs.length 0 lo),Heap.get?_push_size _ rfl⟩
def se:V->Bool
 |.non=>true
 |.bl _=>true
 |.int _=>true
 |.str _=>true
 |_=>false
def eqV:V->V->Bool
 |.non,.non=>true
 |.bl a,.bl b=>a==b
 |.bl a,.int b=>(if a then 1 else 0)==b
 |.int a,.bl b=>a==(if b then 1 else 0)
 |.int a,.int b=>a==b
 |.str a,.str b=>a==b
 |_,_=>false
theorem Ml(ry:RelV y u)(rx:RelV x v)(fy:se y=true)(fx:se x=true):SeqAt.EqAt A s u v (eqV y x):=by
 cases y with
 | non=>
   cases ry
   cases x with
   |non=>cases rx;exact SeqAt.EqAt.same _
   |bl b=>cases rx;exact SeqAt.EqAt.none_bool b
   |int b=>obtain⟨t,rfl⟩:=rx;exact SeqAt.EqAt.none_int b t
   |str b=>obtain⟨t,rfl⟩:=rx;exact SeqAt.EqAt.none_str b t
   |_=>exact absurd (show false=true from fx) Bool.false_ne_true
 | bl a=>
   cases ry
   cases x with
   |non=>cases rx;exact SeqAt.EqAt.bool_none a
   |bl b=>cases rx;exact SeqAt.EqAt.bool_bool a b
   |int b=>obtain⟨t,rfl⟩:=rx;exact SeqAt.EqAt.bool_int a b t
   |str b=>obtain⟨t,rfl⟩:=rx;exact SeqAt.EqAt.bool_str a b t
   |_=>exact absurd (show false=true from fx) Bool.false_ne_true
 | int a=>
   obtain⟨t',rfl⟩:=ry
   cases x with
   |non=>cases rx;exact SeqAt.EqAt.int_none a t'
   |bl b=>cases rx;exact SeqAt.EqAt.int_bool a t' b
   |int b=>obtain⟨t,rfl⟩:=rx;exact SeqAt.EqAt.int_int a t' b t
   |str b=>obtain⟨t,rfl⟩:=rx;exact SeqAt.EqAt.int_str a t' b t
   |_=>exact absurd (show false=true from fx) Bool.false_ne_true
 | str a=>
   obtain⟨t',rfl⟩:=ry
   cases x with
   |non=>cases rx;exact SeqAt.EqAt.str_none a t'
   |bl b=>cases rx;exact SeqAt.EqAt.str_bool a t' b
   |int b=>obtain⟨t,rfl⟩:=rx;exact SeqAt.EqAt.str_int a t' b t
   |str b=>obtain⟨t,rfl⟩:=rx;exact SeqAt.EqAt.str_str a t' b t
   |_=>exact absurd (show false=true from fx) Bool.false_ne_true
 |_=>exact absurd (show false=true from fy) Bool.false_ne_true
def eqU(x:V)(u:Value):Bool:=match u with
 |.none=>eqV .non x
 |.bool b=>eqV (.bl b) x
 |.int i _=>eqV (.int i) x
 |.str z _=>eqV (.str z) x
 |_=>false
theorem Es(r:RelV y u)(f:se y=true):eqU x u=eqV y x:=by
 cases y with
 |non=>cases r;rfl
 |bl b=>cases r;rfl
 |int i=>obtain⟨t,rfl⟩:=r;rfl
 |str z=>obtain⟨t,rfl⟩:=r;rfl
 |_=>exact absurd (show false=true from f) Bool.false_ne_true
theorem tS:∀{xs:List V} {us:List Value},Vals xs us->xs.all se=true->us.any (eqU x)=xs.any fun y=>eqV y x
 |_,_,.nil,_=>rfl
 | y ::xs,u ::us,.cons r t,f=>by
   rw[List.all_cons,Bool.and_eq_true]at f;rw[List.any_cons,List.any_cons,Es r f.1,tS t f.2]
theorem pU(rx:RelV x v)(fx:se x=true):∀{xs:List V} {us:List Value},Vals xs us->xs.all se=true->∀ u∈us,SeqAt.EqAt A s u v (eqU x u)
 |_,_,.nil,_=>fun u hu=>by cases hu
 | y ::xs,u ::us,.cons r t,f=>fun u' hu=>by
   rw[List.all_cons,Bool.and_eq_true]at f
   rcases List.mem_cons.mp hu with rfl|hu
   . rw[Es r f.1];exact Ml r rx f.1 fx
   . exact pU rx fx t f.2 u' hu
def inV(x:V)(xs:List V):Bool:=xs.any fun y=>eqV y x
def rIn(K:PySem.W.Frag)(neg:Bool):R2:=fun x y H Q=>∃ p xs,y=.ref p /\ (SqL K H p xs \/ SqT K H p xs) /\ se x=true /\ xs.all se=true /\ Q (.bl (if neg then !inV x xs else inV x xs)) H
theorem DC:OpR X (compareOp .In) (rIn X.K false):=by
 intro pins s σ H x y v u Q I rx ry h;obtain⟨p,xs,rfl,hq,fx,fs,q⟩:=h;cases ry
 rcases hq with hq|hq
 . obtain⟨its,r,pl,hz⟩:=I.list hq;refine SeqAt.in_listAt (eqU x) pl.isList (fun w hw=>pU rx fx r fs w (by simpa using hw)) ⟨.bl _,H,I,rfl,?_⟩;rw[show its.toArray.any (eqU x)=its.any (eqU x) by simp,tS r fs];exact q
 . obtain⟨its,r,pl,hz⟩:=I.tuple hq;refine SeqAt.in_tupleAt (eqU x) pl (fun w hw=>pU rx fx r fs w (by simpa using hw)) ⟨.bl _,H,I,rfl,?_⟩;rw[show its.toArray.any (eqU x)=its.any (eqU x) by simp,tS r fs];exact q
theorem yV:OpR X (compareOp .NotIn) (rIn X.K true):=by
 intro pins s σ H x y v u Q I rx ry h;obtain⟨p,xs,rfl,hq,fx,fs,q⟩:=h;cases ry
 rcases hq with hq|hq
 . obtain⟨its,r,pl,hz⟩:=I.list hq;refine SeqAt.notIn_listAt (eqU x) pl.isList (fun w hw=>pU rx fx r fs w (by simpa using hw)) ⟨.bl _,H,I,rfl,?_⟩;rw[show its.toArray.any (eqU x)=its.any (eqU x) by simp,tS r fs];exact q
 . obtain⟨its,r,pl,hz⟩:=I.tuple hq;refine SeqAt.notIn_tupleAt (eqU x) pl (fun w hw=>pU rx fx r fs w (by simpa using hw)) ⟨.bl _,H,I,rfl,?_⟩;rw[show its.toArray.any (eqU x)=its.any (eqU x) by simp,tS r fs];exact q
theorem yA:n4 X (.builtin "len") (fun xs H Q=>∃ p ys,xs=[.ref p] /\ (SqL X.K H p ys \/ SqT X.K H p ys) /\ Q (.int ys.length) H):=by
 intro pins s σ H xs us Q I r h;obtain⟨p,ys,rfl,hq,q⟩:=h;obtain⟨u,rfl,rx⟩:=vals1 r;cases rx;have hn:=wW
 rcases hq with hq|hq
 . obtain⟨its,r',pl,hz⟩:=I.list hq;have hlen:=r'.length;exact Calls.call_len_list pl.isList (by simp only[List.size_toArray]<;>omega) ⟨.int ys.length,H,I.tok _,⟨s.toks+1,by rw[List.size_toArray,hlen]⟩,q⟩
 . obtain⟨its,r',pl,hz⟩:=I.tuple hq;have hlen:=r'.length;exact len_tuple pl (by simp only[List.size_toArray]<;>omega) ⟨.int ys.length,H,I.tok _,⟨s.toks+1,by rw[List.size_toArray,hlen]⟩,q⟩
theorem yE:n4 X (.type "list") (fun xs H Q=>∃ p ys,xs=[.ref p] /\ (SqL X.K H p ys \/ SqT X.K H p ys) /\ ∀ l,H l=none->Q (.ref l) (upd H l (.lst ys))):=by
 intro pins s σ H xs us Q I r h;obtain⟨p,ys,rfl,hq,q⟩:=h;obtain⟨u,rfl,rx⟩:=vals1 r;cases rx
 have fin:∀(its:List Value),Vals ys its->ys.length<=sizeLine->∀(h':Heap) (c':Nat),(∀ b o',s.heap.get? b=some o'->h'.get? b=some o') ->
   h'.get? s.heap.objs.size=some { cls:=.type "list",dict:=none,data:=.seq its.toArray c',slots:=#[] }->EP X pins σ Q (.ref s.heap.objs.size) { s with heap:=h' }:=fun its r' hz h' c' kp e=>
  ⟨.ref s.heap.objs.size,_,I.laid (t':=s.toks) kp (Nat.le_refl _) (show gJ X.prog X.w _ h' _ (.lst ys) from⟨hz,its,c',r',e⟩),rfl,q _ (I.hok.fresh (Nat.le_refl _))⟩
 rcases hq with hq|hq
 . obtain⟨its,r',pl,hz⟩:=I.list hq;have hlen:=r'.length;obtain⟨o,ho,hc,n,hd⟩:=pl.isList;exact call_list_seq p (.inl rfl) ho hc hd (fun h' c' kp e=>fin its r' hz h' c' kp e) (by simp only[List.size_toArray]<;>omega)
 . obtain⟨its,r',pl,hz⟩:=I.tuple hq;have hlen:=r'.length;obtain⟨o,ho,hc,n,hd⟩:=pl;exact call_list_seq p (.inr rfl) ho hc hd (fun h' c' kp e=>fin its r' hz h' c' kp e) (by simp only[List.size_toArray]<;>omega)
theorem kr:n4 X (.type "tuple") (fun xs H Q=>∃ p ys,xs=[.ref p] /\ ((SqL X.K H p ys /\ ∀ l,H l=none->Q (.ref l) (upd H l (.tup ys))) \/ (SqT X.K H p ys /\ Q (.ref p) H))):=by
 intro pins s σ H xs us Q I r h;obtain⟨p,ys,rfl,h⟩:=h;obtain⟨u,rfl,rx⟩:=vals1 r;cases rx
 rcases h with⟨hq,q⟩|⟨hq,q⟩
 . obtain⟨its,r',pl,hz⟩:=I.list hq;have hlen:=r'.length;refine call_tuple_list pl.isList (fun h' kp=>?_) (by simp only[List.size_toArray]<;>omega)
   have I1:Inv X pins σ H { s with heap:=h' }:=I.kept (t':=s.toks) kp
   have I2:Inv X pins σ (upd H h'.objs.size (.tup ys)) { s with heap:=h'.push { cls:=.type "tuple",data:=.seq its.toArray } }:=
    I1.laid (t':=s.toks) (fun b o e=>Heap.get?_push_of_some _ e) (Nat.le_refl _) (show gJ X.prog X.w _ _ _ (.tup ys) from⟨hz,its,r',IsTup.new _ _⟩)
   exact⟨.ref h'.objs.size,_,I2,rfl,q _ (I1.hok.fresh (Nat.le_refl _))⟩
 . obtain⟨its,r',pl,hz⟩:=I.tuple hq;exact call_tuple_same pl ⟨.ref p,H,I,rfl,q⟩
def tyV(K:PySem.W.Frag)(T:String)(x:V)(H:Hp):Prop:=match x with
 |.str _=>T = "str"
 |.int _=>T = "int"
 | .ref p=>(T = "list" /\ ∃ xs,SqL K H p xs) \/ (T = "tuple" /\ ∃ o,K.lookup p = some o /\ o.cls = .type "tuple" /\ o.dict = none) \/
    (T = "dict" /\ ((∃ kvs,H p=some (.dK kvs)) \/ ∃ kvs,H p=some (.dT kvs))) \/ (T = "set" /\ ∃ S n,H p=some (.set S n))
 |_=>False
theorem EI{pins:List (Addr×Obj)}{s:Shared}(I:Inv X pins σ H s)(r:RelV x v)(ty:tyV X.K T x H):
  s.TypeIs v T /\ ∀ a,v=.ref a->∃ ob,s.heap.get? a=some ob /\ ob.dict=none:=by
 cases x with
 | str z=>
   obtain⟨t,rfl⟩:=r
   cases(show T = "str" from ty)
   exact⟨typeIs_str s z t,fun _ e=>nomatch e⟩
 | int i=>
   obtain⟨t,rfl⟩:=r
   cases(show T = "int" from ty)
   exact⟨typeIs_int s i t,fun _ e=>nomatch e⟩
 | ref p=>
   cases r
   rcases ty with⟨rfl,xs,hq⟩|⟨rfl,o,hk,hc,hd⟩|⟨rfl,hk⟩|⟨rfl,S,n,hk⟩
   . obtain⟨its,_,pl,_⟩:=I.list hq
     refine⟨pl.isList.typeIs,fun a e=>?_⟩
     cases e;obtain⟨o,n,e,c,hd,_⟩:=pl
     exact⟨o,e,hd⟩
   . refine⟨⟨o,I.kIn p o hk,hc⟩,fun a e=>?_⟩
     cases e
     exact⟨o,I.kIn _ o hk,hd⟩
   . have z:∃ o,s.heap.get? p = some o /\ o.ExactDict:=by
      rcases hk with⟨kvs,hk⟩|⟨kvs,hk⟩
      . obtain⟨_,_,_,_,o,_,_,e,ex,_⟩:=I.hok p _ hk
        exact⟨o,e,ex⟩
      . obtain⟨_,_,_,_,o,_,_,e,ex,_⟩:=I.hok p _ hk
        exact⟨o,e,ex⟩
     obtain⟨o,e,ex⟩:=z
     refine⟨⟨o,e,ex.1⟩,fun a e2=>?_⟩
     cases e2
     exact⟨o,e,ex.2.1⟩
   . obtain⟨o,_,_,_,e,ex,_⟩:=I.hok p _ hk
     refine⟨⟨o,e,ex.1⟩,fun a e2=>?_⟩
     cases e2
     exact⟨o,e,ex.2.1⟩
 |_=>exact False.elim ty
def Mn(K:PySem.W.Frag)(T:String)(r:V->List V->Hp->VK->Prop)(to:TE):TE:=fun σ H Q=>to σ H fun x H1=>tyV K T x H1 /\ r x [] H1 Q
def tBM(K:PySem.W.Frag)(T:String)(r:V->List V->Hp->VK->Prop)(to:TE)(t:TA):TE:=fun σ H Q=>to σ H fun x H1=>tyV K T x H1 /\ t σ H1 fun xs H2=>r x xs H2 Q
variable{o e:Expr}{es:List Expr}{to:TE}{t:TA}{name:Str}{apos cpos:Pos}{T id:String}{r:V->List V->Hp->VK->Prop}
theorem KS(pa:PlainAttrs T)(slot:Slot T name id)(hty:typeOf (.builtin id)=pure (.type "method_descriptor"))(hm:MtR X id r)(ho:PE X o to)
  (hbase:attributeBase o name X.env (eval o X.env)=eval o X.env:=by rfl) (hline:(apos.endLine==cpos.line)=true:=by rfl):PE X (.Call (.Attribute o name apos) [] [] cpos) (Mn X.K T r to):=by
 intro pins s σ H Q I h;refine wpAny_Call_method0_late hbase hline (thn (ho pins s σ H _ I h) fun v s1 ⟨x,H1,I1,r1,ty,q1⟩=>?_);obtain⟨h1,h2⟩:=EI I1 r1 ty
 exact⟨T,id,pa,slot,hty,h1,h2,Calls.callWith_builtin rfl (PySem.evalArgs_none (hm pins s1 σ H1 x [] v [] Q I1 r1 .nil q1))⟩
theorem Nq(pa:PlainAttrs T)(slot:Slot T name id)(hty:typeOf (.builtin id)=pure (.type "method_descriptor"))(hm:MtR X id r)(ho:PE X o to)(ha:PA X (e ::es) t)
  (hbase:attributeBase o name X.env (eval o X.env)=eval o X.env:=by rfl)
  (hfew:((backTo cpos (starEach (e ::es) X.env)).all (fun x=>!x.1)&&(backToKw cpos (keywordEach [] X.env)).all (fun x=>x.1.isSome)
    && decide ((e ::es).length+([]:List Keyword).length+(if([]:List Keyword).isEmpty then 0 else 1)<30))=true:=by rfl)
  (hline:(apos.endLine==cpos.line)=true:=by rfl) (hs:starEach (e ::es) X.env=(false,eval e X.env) ::starEach es X.env:=by rfl) (hplain:(backTo cpos (starEach es X.env)).any (·.1)=false:=by rfl):
  PE X (.Call (.Attribute o name apos) (e ::es) [] cpos) (tBM X.K T r to t):=by
 intro pins s σ H Q I h;refine wpAny_Call_method_late hbase hfew hline rfl (thn (ho pins s σ H _ I h) fun v s1 ⟨x,H1,I1,r1,ty,q1⟩=>?_);obtain⟨h1,h2⟩:=EI I1 r1 ty
 refine⟨T,id,pa,slot,hty,h1,h2,?_⟩
 have hA:=ha cpos pins s1 σ H1 _ I1 q1
 rw[hs]at hA ⊢
 refine Calls.callWith_builtin (by show(false||(backTo cpos (starEach es X.env)).any (·.1))=false;rw[hplain]<;>rfl) (Calls.evalArgs_plain ?_)
 exact thn hA fun us s2 ⟨vs,H2,I2,r2,q2⟩=>hm pins s2 σ H2 x vs v us Q I2 r1 r2 q2
end
def MtM(X:Cx)(id:String)(r:V->List V->Hp->VK->Prop):Prop:=
 ∀(pins:List (Addr×Obj)) (s:Shared) (σ:St) (H:Hp) (x:V) (xs:List V) (v:Value) (us:List Value) (Q:VK),Inv X pins σ H s->RelV x v->Vals xs us->r x xs H Q ->
   wpAny (model X.prog X.w) X.A (call (.builtin id) (v ::us)) (EP X pins σ Q) X.xe s
theorem Vals.one:∀{x:V} {us:List Value},Vals [x] us->∃ u,us=[u] /\ RelV x u
 |_,_,.cons r .nil=>⟨_,rfl,r⟩
theorem Vals.two:∀{x y:V} {us:List Value},Vals [x,y] us->∃ u v,us=[u,v] /\ RelV x u /\ RelV y v
 |_,_,_,.cons r (.cons q .nil)=>⟨_,_,rfl,r,q⟩
theorem Vals.zero:∀{us:List Value},Vals [] us->us=[]
 |_,.nil=>rfl
theorem Vals.dropLast{xs:List V}{us:List Value}(h:Vals xs us):Vals xs.dropLast us.dropLast:=by
 induction h with
 |nil=>exact .nil
 | cons r t ih=>
   cases t with
   |nil=>exact .nil
   |cons q t'=>exact .cons r ih
theorem Vals.eraseIdx:∀{xs:List V} {us:List Value} (i:Nat),Vals xs us->Vals (xs.eraseIdx i) (us.eraseIdx i)
 |_,_,_,.nil=>.nil
 |_,_,0,.cons _ t=>t
 |_,_,i+1,.cons r t=>.cons r (Vals.eraseIdx i t)
theorem B6{α:Type}(l:List α):l.eraseIdx (l.length - 1)=l.dropLast:=by
 induction l with
 |nil=>rfl
 | cons a r ih=>
   cases r with
   |nil=>rfl
   | cons b r=>
     have e:(a ::b ::r).length - 1=((b ::r).length - 1)+1:=by
      have h1:(a ::b ::r).length=r.length+2:=rfl
      have h2:(b ::r).length=r.length+1:=rfl
      omega
     rw[e,List.eraseIdx_cons_succ,ih]
     all_goals rfl
section
variable{X:Cx}{pins:List (Addr×Obj)}{σ:St}{H:Hp}{s:Shared}{l b:Addr}{xs ys zs:List V}
theorem Inv.Ki{its its':List Value}{f:Array Value->Array Value}(I:Inv X pins σ H s)(hH:H l=some (.lst xs))
  (e:s.heap.get? l=some { cls:=.type "list",data:=.seq its.toArray n }) (hf:f its.toArray=its'.toArray) (hv:Vals ys its') (hz:ys.length<=sizeLine):
  Inv X pins σ (upd H l (.lst ys)) { s with heap:=s.heap.update l (Obj.mapSeq f),toks:=t' }:=by
 have q:=PySem.IsL.update e f;rw[hf]at q;refine I.write (x:=l) (e:=l) (by rw[hH];exact trivial) (.inl rfl) (fun b' u hb hu=>(Heap.get?_update_other s.heap (Obj.mapSeq f) (Ne.symm hb)).trans hu) ⟨_,q⟩ ?_
 exact⟨hz,its',_,hv,q⟩
theorem Inv.HN{its:List Value}(I:Inv X pins σ H s)(hv:Vals ys its)(hz:ys.length<=sizeLine):
  Inv X pins σ (upd H s.heap.objs.size (.lst ys)) { s with heap:=s.heap.push { cls:=.type "list",data:=.seq its.toArray },toks:=t' }:=
 I.laid (fun _ _ q=>Heap.get?_push_of_some _ q) (Nat.le_refl _) ⟨hz,its,0,hv,Heap.get?_push_size _ rfl⟩
theorem Inv.fresh(I:Inv X pins σ H s):H s.heap.objs.size=none:=I.hok.fresh (Nat.le_refl _)
theorem Inv.Ka(I:Inv X pins σ H s)(hH:H l=some (.lst xs)):xs.length<=sizeLine /\ ∃(its:List Value) (n:Nat),Vals xs its /\ xs.length=its.length /\ s.heap.get? l=some { cls:=.type "list",data:=.seq its.toArray n }:=by
 obtain⟨z,its,n,r,e⟩:=I.hok l _ hH
 exact⟨z,its,n,r,r.length,e⟩
theorem Fl(h:n<=sizeLine):Builtin.List.listTooLong n=false:=by
 unfold Builtin.List.listTooLong;exact decide_eq_false (by omega)
end
section
variable{X:Cx}
def yU:V->List V->Hp->VK->Prop:=fun x vs H Q=>∃ l xs y,x=.ref l /\ vs=[y] /\ H l=some (.lst xs) /\ xs.length<sizeLine /\ Q .non (upd H l (.lst (xs++[y])))
theorem b7:MtM X "list.append" yU:=by
 intro pins s σ H x vs v us Q I rx rv h;obtain⟨l,xs,y,rfl,rfl,hH,hz,q⟩:=h;cases rx;obtain⟨u,rfl,ru⟩:=rv.one;obtain⟨z,its,n,r,hl,e⟩:=I.Ka hH;refine call_meets F.slot_list_append ⟨_,e,rfl⟩ F.entry_list_append (F.args_list_append_2 _ _) (PySem.list_append l its.toArray n u (by rw[List.size_toArray];omega)) ⟨e,?_⟩
 refine⟨.non,_,I.Ki (its':=its++[u]) hH e (by simp) (r.append (.cons ru .nil)) ?_,rfl,q⟩
 rw[List.length_append,List.length_singleton];omega
def Nc:V->List V->Hp->VK->Prop:=fun x vs H Q=>∃ l xs y,x=.ref l /\ vs=[] /\ H l=some (.lst xs) /\ xs[xs.length - 1]?=some y /\ Q y (upd H l (.lst xs.dropLast))
theorem Bi:MtM X "list.pop" Nc:=by
 intro pins s σ H x vs v us Q I rx rv h;obtain⟨l,xs,y,rfl,rfl,hH,hy,q⟩:=h;cases rx;have hus:=rv.zero;subst hus;obtain⟨z,its,n,r,hl,e⟩:=I.Ka hH;obtain⟨u,hu,ru⟩:=r.get hy
 have hy':its.toArray[its.toArray.size - 1]?=some u:=by
  show its.toArray[its.length - 1]?=some u;rw[<- Array.getElem?_toList,<- hl];exact hu
 refine call_meets F.slot_list_pop ⟨_,e,rfl⟩ F.entry_list_pop (F.args_list_pop_1 _) (MeetsSeq.list_pop_last l its.toArray n u hy' (by rw[List.size_toArray];omega)) ⟨e,?_⟩
 refine⟨y,_,I.Ki (its':=its.dropLast) hH e ?_ r.dropLast ?_,ru,q⟩
 . show its.toArray.eraseIdxIfInBounds (its.toArray.size - 1)=its.dropLast.toArray;rw[List.size_toArray,List.eraseIdxIfInBounds_toArray,B6]
 . rw[List.length_dropLast];omega
end
section
variable{prog:Program}{w:World}{A:Around}{E:Value->Shared->Prop}{s:Shared}
set_option maxRecDepth 100000 in
end
end L2
namespace Att
open PySem PySem.W PySem.Calls PyProof.Rows
theorem vf:∀(ns:List Int) (vs:List Value),WellAll P h vs (ns.map WData.int)->IntsAre vs ns:=by
 intro ns
 induction ns with
 | nil=>
   intro vs w;rw[List.map_nil]at w;cases w;exact .nil
 | cons n ns ih=>
   intro vs w;rw[List.map_cons]at w
   cases w with
   | cons a b=>
     cases a;exact .cons _ _ (ih _ b)
theorem DS{l:OpenLaw}(hn:l.most=some n){h:Heap}
  (hpre:l.row.toRowW.claim.pre args=true) (hwl:WellAll P h vals args):
  ∃ a vs ns,vals=[Value.ref a] /\ args=[WData.list (ns.map WData.int)] /\ h.get? a=some { cls:=.type "list",data:=.seq vs.toArray } /\ IntsAre vs ns /\ ns.length<=n:=by
 have hsh:WShape.hasAll [] args [.list .int]=true:=(pre_splitW hpre).1
 have hc:l.pre.holds [] { args:=args }=true:=(pre_splitW hpre).2
 obtain⟨d,r,rfl,h1,h2⟩:=hasAllW_cons hsh
 obtain rfl:=hasAllW_nil h2
 obtain⟨xs,rfl,h3⟩:=hasW_list h1;obtain⟨ns,rfl⟩:=items_int h3
 have hlen:ns.length<=n:=by
  unfold OpenLaw.pre at hc
  have h4:(WTm.not (.lt (.lit (.int (n:Int))) (.len (.arg 0)))).holds [] { args:=[.list (ns.map .int)] }=true:=by
   have h4:=(holds_andW hc).1;rw[hn]at h4;exact h4
  have h5:=condW_of h4 (w_not (w_lt w_lit (w_len_list (w_arg rfl))));rw[List.length_map]at h5
  refine Nat.le_of_not_lt fun q=>?_
  have q':(n:Int)<((ns.length:Nat):Int):=by omega
  first
   |(rw[decide_eq_true q']at h5;exact absurd h5 (by decide))
   |(simp at h5;omega)
 cases hwl with
 | cons w1 w2=>
   cases w2
   cases w1 with
   |list ho hall=>exact⟨_,_,ns,rfl,rfl,ho,vf ns _ hall,hlen⟩
theorem Dr(l:OpenLaw)(args:List WData):l.row.toRowW.claim.post args (.bool true) args=true:=
 postW_of (r:=l.row.toRowW) (X:=(true==true))
  (show WShape.has [] (.bool true) .bool=true by first|rfl|decide|simp[WShape.has,WShape.arms,WShape.armsAll])
  (show(WTm.eq .res (.lit (.bool true))).value [] { args:=args,res:=some (.bool true),after:=args }=some (.bool (true==true)) from w_eq_bool (w_res rfl) w_lit) rfl
theorem A0{l:OpenLaw}{XP:(Str->Option Value)->Heap->Prop}{YP:World->Heap->Prop}{d:DefRec}
  (hn:l.most=some n) (hdf:d.params.defaults=[])
  (call:∀(w:World) (s₀ s₁:Shared) (mg mb:Str->Option Value) (fa:Addr) (o:Obj) (pm cd doc:Value) (a:Addr) (vs:List Value) (ns:List Int),
    Ground q loose [] XP w s₀ mg mb s₁.heap->YP w s₁.heap ->
    s₁.heap.get? fa=some o->o.data=.func (docDef d.name d.params d.body d.scope pm cd doc)->s₁.heap.CodeRec cd d.name->mg d.name=some (.ref fa) ->
    s₁.heap.get? a=some { cls:=.type "list",data:=.seq vs.toArray }->IntsAre vs ns->ns.length<=n->s₁.gens=#[] ->
    codeAny (model l.prog w) callerA (.call (.ref fa) ⟨[.ref a],[]⟩) (fun r s'=>r=.ok (.ret (.bool true)) /\ OldK s₁.heap s'.heap /\ s'.os=s₁.os /\ AllBare s'.gens) s₁):
  WalkO q loose XP YP l.row.toRowW d [] (fun f vs=>PySem.call f vs):=by
 intro w s₀ s₁ mg mb G Y fa o pm cd doc dV kV ho hd hcd hD hmg hg args vals as hpre hlay hrd hwl hlo
 obtain rfl:dV=.none:=Dflts.none hD hdf
 obtain rfl:kV=.none:=Dflts.noKw hD
 obtain⟨a,vs,ns,rfl,rfl,hobj,hints,hlen⟩:=DS hn hpre hwl;refine enter_call (codeAny_mono (call w s₀ s₁ mg mb fa o pm cd doc a vs ns G Y ho (fd_plain hd) hcd hmg hobj hints hlen hg) fun r s' hq=>?_);obtain⟨rfl,h2,h3,h4⟩:=hq
 exact⟨.inl ⟨.bool true,.bool true,[],rfl,fun _=>rfl,.bool true,Dr l _,fun _=>⟨List.Pairwise.nil,fun _ hm=>(nomatch hm)⟩⟩,h2,h3,h4⟩
end Att
namespace L2
open PySem PySem.Spec PyProof.Rows
theorem xF:∀{vs:List Value} {ns:List Int},IntsAre vs ns->Vals (ns.map V.int) vs
 |_,_,.nil=>.nil
 |_,_,.cons n t h=>.cons ⟨t,rfl⟩ (xF h)
def LA(H:Hp):Prop:=∀ b,H b=none \/ ∃ o xs,H b=some (.frz o (.lst xs))
theorem FU{K:PySem.W.Frag}{mg mb:Str->Option Value}{s₁:Shared}{vs:List Value}{ns:List Int}
  (KX:K.In s₁.heap) (hns:s₁.heap.Ns mainGlobals mg) (hb:s₁.heap.Ns builtinsNs mb) (hbb:∀ x:Str,x ≠ "__name__" -> mb x=bootBuiltins x) (hlim:s₁.heap.NoLimit) (hg:s₁.gens=#[])
  (ha:s₁.heap.get? a=some { cls:=.type "list",data:=.seq vs.toArray }) (hi:IntsAre vs ns) (hl:ns.length<=sizeLine) (hr:iM k callerA)
  (F:∀ base:Heap,K.In base->base.Ns mainGlobals mg->cx P w K mg base CX k fa fd [x] sp) (hbind:∀(s:Shared) (u:Value),BindsTo s fd ⟨[u],[]⟩ [(x,u)])
  (hsp:∀ H:Hp,LA H->SqL K H a (ns.map V.int)->sp [.ref a] H (fun v _=>v=.bl true) fun _ _ _=>False)
  (hCX:∀ H e s',CX [] H s₁ (fun _ _ _=>False) e s'->False):
  codeAny (model P w) callerA (.call (.ref fa) ⟨[.ref a],[]⟩) (fun r s'=>r=.ok (.ret (.bool true)) /\ OldK s₁.heap s'.heap /\ s'.os=s₁.os /\ AllBare s'.gens) s₁:=by
 have rv:=xF hi;have lenV:=hi.length
 have core:∀ H:Hp,LA H->SqL K H a (ns.map V.int)->HOk P w H s₁.heap->(∀ b,H b≠none->b=a)->(H a≠none->K.lookup a=none) ->
   codeAny (model P w) callerA (.call (.ref fa) ⟨[.ref a],[]⟩) (fun r s'=>r=.ok (.ret (.bool true)) /\ OldK s₁.heap s'.heap /\ s'.os=s₁.os /\ AllBare s'.gens) s₁:=by
  intro H hO hS hok hA hK
  have base_of:∀{b:Addr} {o:Obj},s₁.heap.get? b=some o->H b=none->(yB s₁.heap H).get? b=some o:=fun e n=>Gk e n
  have noA:∀{b:Addr} {o:Obj} {es:Array DictEntry} {ep:Nat},s₁.heap.get? b=some o->o.data=.dict es ep->H b=none:=fun {b o es ep} e d=>by
   cases q:H b with
   |none=>rfl
   | some u=>
     have e':b=a:=hA b (by rw[q];simp)
     subst e';rw[ha]at e;cases e
     have d':Data.seq vs.toArray _=Data.dict es ep:=d
     cases d'
  have nsK:∀{b:Addr} {m:Str->Option Value},s₁.heap.Ns b m->(yB s₁.heap H).Ns b m:=fun {b m} ⟨o,es,ep,e,d,r⟩=>⟨o,es,ep,base_of e (noA e d),d,r⟩
  have hKb:K.In (yB s₁.heap H):=fun b o e=>base_of (KX b o e) (by
   cases q:H b with
   |none=>rfl
   | some u=>
     have e':b=a:=hA b (by rw[q];simp)
     subst e'
     rw[hK (by rw[q];simp)]at e;cases e)
  have hM:Mod K mg (yB s₁.heap H):=⟨hKb,nsK hns,⟨mb,nsK hb,hbb⟩,let ⟨mc,h1,h2⟩:=hlim;⟨mc,nsK h1,h2⟩⟩
  have e0:BL P w K mg (yB s₁.heap H) callerA [] s₁ H:=⟨rfl,hM,fun b o e=>He e,Nat.le_of_eq (DZ _ _),trivial,fun b hb=>absurd (show b∈([]:List Addr) from hb) (by simp),hok,.of_eq hg⟩
  refine codeAny_mono ((F _ hKb (nsK hns)).run callerA [] s₁ H ⟨[.ref a],[]⟩ [.ref a] [.ref a] _ _ hr e0 (hbind s₁ (.ref a)) (.cons rfl .nil) (hsp H hO hS)) fun r s' h=>?_
  cases r with
  |error e=>exact(hCX H e s' h).elim
  | ok fl=>
    cases fl with
    |next=>exact False.elim h
    |brk=>exact False.elim h
    |cont=>exact False.elim h
    | ret u=>
      obtain⟨v,H',os,bare,un,hok',r',q⟩:=h
      have q':v=.bl true:=q
      subst q'
      obtain rfl:u=Value.bool true:=r'
      refine⟨rfl,OldK.of_keep fun b o e=>?_,os,bare⟩
      cases q:H b with
      |none=>exact un.keep b o e q (by intro z;exact absurd (show b∈([]:List Addr) from z) (by simp)) (by simp)
      | some u=>
        rcases hO b with z|⟨ob,xs,z⟩
        . rw[q]at z;cases z
        . have z2:=un.frzs b ob _ z;obtain⟨e1,_⟩:=hok b _ z;obtain⟨e2,_⟩:=hok' b _ z2;rw[e]at e1;cases e1;exact e2
 cases hk:K.lookup a with
 | some o=>
   have e:=KX a o hk;rw[ha]at e;cases e
   refine core (fun _=>none) (fun _=>.inl rfl) (.inr ⟨_,vs.toArray,_,hk,rfl,rfl,rfl,by rw[List.size_toArray,lenV];exact hl,by simpa using rv⟩) (fun b u z=>by have z':(none:Option HO)=some u:=z;cases z') (fun b z=>absurd rfl z) fun z=>absurd rfl z
 | none=>
   refine core (fun b=>if b=a then some (.frz { cls:=.type "list",data:=.seq vs.toArray } (.lst (ns.map V.int)))else none) (fun b=>?_) (.inl (.inr ⟨{ cls:=.type "list",data:=.seq vs.toArray },if_pos rfl⟩)) (fun b u z=>?_) (fun b z=>?_) fun _=>hk
   . by_cases hb:b=a
     . exact .inr ⟨_,_,if_pos hb⟩
     . exact .inl (if_neg hb)
   . by_cases hb:b=a
     . have z':=(if_pos hb).symm.trans z
       cases z'
       subst hb
       exact⟨ha,by rw[List.length_map];exact hl,vs,_,rv,ha⟩
     . have z':=(if_neg hb).symm.trans z
       cases z'
   . by_cases hb:b=a
     . exact hb
     . exact absurd (if_neg hb) z
abbrev KOf{K:PySem.W.Frag}{h:Heap}(_:K.In h):PySem.W.Frag:=K
theorem HH{l:PySem.W.OpenLaw}{XP:(Str->Option Value)->Heap->Prop}{YP:World->Heap->Prop}{d:DefRec}{K:Params->PySem.W.Frag}{CX:World->CXT}{sp:World->Sp}
  (hn:l.most=some n) (hn2:n<=sizeLine) (hdf:d.params.defaults=[]) (hr:iM k callerA)
  (hY:∀(w:World) (h:Heap),YP w h->(K w.params).In h)
  (F:∀(w:World) (mg:Str->Option Value) (fa:Addr) (h:Heap),(K w.params).In h->h.Ns mainGlobals mg->mg d.name=some (.ref fa) ->
    ∃ fd:FuncData,(∀(s:Shared) (u:Value),BindsTo s fd ⟨[u],[]⟩ [(x,u)]) /\
      ∀ base:Heap,(K w.params).In base->base.Ns mainGlobals mg->cx l.prog w (K w.params) mg base (CX w) k fa fd [x] (sp w))
  (hsp:∀(w:World) (H:Hp) (a:Addr) (ns:List Int),ns.length<=n->LA H->SqL (K w.params) H a (ns.map V.int)->sp w [.ref a] H (fun v _=>v=.bl true) fun _ _ _=>False)
  (hCX:∀(w:World) (H:Hp) (s:Shared) (e:Value) (s':Shared),CX w [] H s (fun _ _ _=>False) e s'->False):
  PySem.W.WalkO q loose XP YP l.row.toRowW d [] (fun f vs=>PySem.call f vs):=by
 refine Att.A0 hn hdf fun w s₀ s₁ mg mb fa o pm cd doc a vs ns G Y ho hd hcd hmg hobj hints hlen hg=>?_
 have KX:=hY w _ Y;obtain⟨fd,hb,hF⟩:=F w mg fa _ KX G.T.g hmg
 exact FU KX G.T.g G.T.b G.T.builtins G.T.nolimit hg hobj hints (Nat.le_trans hlen hn2) hr hF hb (fun H hO hS=>hsp w H a ns hlen hO hS) fun H e s'=>hCX w H s₁ e s'
def inClass(s:Stmt)(j:Nat):Stmt:=match s with
 |.ClassDef _ _ _ body _ _ _ _ _ _ _=>body.getD j (.Pass ⟨0,0,0,0⟩)
 |_=>.Pass ⟨0,0,0,0⟩
def fb(s:Stmt):Arguments:=match s with
 |.FunctionDef _ a _ _ _ _ _ _ _ _=>a
 |_=>{ posonlyargs:=[],args:=[],vararg:=none,kwonlyargs:=[],kw_defaults:=[],kwarg:=none,defaults:=[] }
def dO(s:Stmt):List Stmt:=match s with
 |.FunctionDef _ _ b _ _ _ _ _ _ _=>b
 |_=>[]
def aA(s:Stmt):Scope:=match s with
 |.FunctionDef _ _ _ _ _ _ sc _ _ _=>sc
 |_=>{ kind:=.function,names:=[],isGenerator:=false,isCoroutine:=false }
structure Fun(K:PySem.W.Frag)(x qual:Str)(st:Stmt)(f:Addr)(fd:FuncData):Prop where
 ex:∃(oc:Value) (od:Option Addr) (kV doc pm:Value) (an:Option Addr) (cdv ct:Value) (osl:Array (Option Value)),
  fd=PySem.W.fnOf x qual (fb st) (dO st) (aA st) .none kV doc pm an cdv ct /\ K.lookup f=some ⟨oc,od,.func fd,osl⟩ /\ PySem.W.codeIn K cdv qual=true
 kp:PySem.W.keepIn K (.ref f)=true
section
variable{P:Program}{w:World}{K:PySem.W.Frag}{mg:Str->Option Value}{base:Heap}
theorem Fun.binds{x qual:Str}{st:Stmt}{f:Addr}{fd:FuncData}{ps:List Str}(F:Fun K x qual st f fd)
  (h:∀(kV doc pm:Value) (an:Option Addr) (cdv ct:Value) (us:List Value),us.length=ps.length->bindArgs (PySem.W.fnOf x qual (fb st) (dO st) (aA st) .none kV doc pm an cdv ct) ⟨us,[]⟩=pure (ps.zip us)):Binds K fd ps []:=by
 obtain⟨oc,od,kV,doc,pm,an,cdv,ct,osl,rfl,lk,hcd⟩:=F.ex;exact .all (h kV doc pm an cdv ct)
theorem mG{x qual:Str}{st:Stmt}{f:Addr}{oc:Value}{od an:Option Addr}{osl:Array (Option Value)}{kV doc pm cdv ct:Value}(l:K.lookup f=some ⟨oc,od,.func (PySem.W.fnOf x qual (fb st) (dO st) (aA st) .none kV doc pm an cdv ct),osl⟩)
  (c:PySem.W.codeIn K cdv qual=true) (k:PySem.W.keepIn K (.ref f)=true):Fun K x qual st f (PySem.W.fnOf x qual (fb st) (dO st) (aA st) .none kV doc pm an cdv ct):=⟨⟨oc,od,kV,doc,pm,an,cdv,ct,osl,rfl,l,c⟩,k⟩
end
theorem Jc{A:Around}(hr:iM k A):A.units+1<cLine:=Nat.lt_of_le_of_lt (Nat.add_le_add_left (by decide:1<=64) _) hr.units
section
variable{X:Cx}
theorem pv(i:Nat)(hN:X.N[i]?=some x:=by rfl)(hv:Vis X.env.scope x:=by first|exact Or.inl rfl|exact Or.inr (Or.inl rfl)|exact Or.inr (Or.inr rfl))(hd:(x==("__debug__":Str))=false:=by decide)
  (hcd:(x==("__classdict__":Str))=false:=by decide):PE X (.Name x pos) (zC i):=KD hN hv hd hcd
end
theorem Ak{A B:Prop}(h:B):if false=true then A else B:=by
 rw[if_neg Bool.false_ne_true];exact h
theorem AZ{A B:Prop}(h:A):if true=true then A else B:=by
 rw[if_pos rfl];exact h
def aK(H H':Hp):Prop:=∀ b o,H b=some o->H' b=some o
theorem aK.refl(H:Hp):aK H H:=fun _ _ h=>h
theorem aK.trans(a:aK H H1)(b:aK H1 H2):aK H H2:=fun c o h=>b c o (a c o h)
theorem aK.free(e:aK H H')(h:H' l=Option.none):H l=Option.none:=by
 cases q:H l with
 |none=>rfl
 | some o=>
   rw[e l o q]at h;cases h
theorem aK.seq{K:PySem.W.Frag}(e:aK H H')(h:SqL K H a xs):SqL K H' a xs:=by
 rcases h with(h|⟨o,h⟩)|h
 . exact .inl (.inl (e _ _ h))
 . exact .inl (.inr ⟨o,e _ _ h⟩)
 . exact .inr h
section
variable{κ:Type}[DecidableEq κ]
def m9(kvs:List (κ×V))(k:κ):Option V:=(kvs.find? fun kv=>decide (kv.1=k)).map (·.2)
def putK(kvs:List (κ×V))(k:κ)(v:V):List (κ×V):=
 if(kvs.any fun kv=>decide (kv.1=k))=true then kvs.map (fun kv=>if kv.1=k then(kv.1,v)else kv)else kvs++[(k,v)]
theorem wj{p:κ×V}{r:List (κ×V)}{k:κ}(e:p.1=k):m9 (p ::r) k=some p.2:=by simp[m9,List.find?_cons,e]
theorem wy{p:κ×V}{r:List (κ×V)}{k:κ}(e:¬ p.1=k):m9 (p ::r) k=m9 r k:=by simp[m9,List.find?_cons,e]
theorem zI(k:κ):∀ kvs:List (κ×V),(kvs.any fun kv=>decide (kv.1=k))=(m9 kvs k).isSome
 |[]=>rfl
 | p ::r=>by
   rw[List.any_cons]
   by_cases e:p.1=k
   . simp only[wj e,decide_eq_true e,Bool.true_or,Option.isSome_some]
   . rw[wy e,decide_eq_false e,Bool.false_or];exact zI k r
theorem zS(kvs:List (κ×V))(k:κ)(v:V):(putK kvs k v).length<=kvs.length+1:=by
 unfold putK;split
 . rw[List.length_map];omega
 . rw[List.length_append,List.length_cons,List.length_nil];omega
theorem Gb{kvs:List (κ×V)}{k:κ}(v:V)(h:m9 kvs k=none):putK kvs k v=kvs++[(k,v)]:=by
 unfold putK;rw[zI,h];exact if_neg (by decide)
theorem bA.xM{o:Option V}{u:Option Value}(r:bA o u):o.isSome=u.isSome:=by
 cases o with
 | none=>cases u with
   |none=>rfl
   |some _=>exact(show False from r).elim
 | some _=>cases u with
   |none=>exact(show False from r).elim
   |some _=>rfl
theorem bA.getD{o:Option V}{u:Option Value}(r:bA o u)(rd:RelV d d'):RelV (o.getD d) (u.getD d'):=by
 cases o with
 | none=>cases u with
   |none=>exact rd
   |some _=>exact(show False from r).elim
 | some _=>cases u with
   |none=>exact(show False from r).elim
   |some _=>exact r
theorem KV.val{kvs:List (κ×V)}{vs:List (κ×Value)}(r:KV kvs vs)(k:κ):bA (m9 kvs k) (valueAt vs k):=by
 unfold KV at r
 induction r with
 |nil=>exact True.intro
 | @cons p q ps qs h t ih=>
   obtain⟨h1,h2⟩:=h
   by_cases e:p.1=k
   . have e':q.1=k:=h1.symm.trans e
     have b:valueAt (q ::qs) k=some q.2:=by simp[valueAt,List.find?_cons,e']
     rw[wj e,b];exact h2
   . have e':¬ q.1=k:=fun z=>e (h1.trans z)
     have b:valueAt (q ::qs) k=valueAt qs k:=by simp[valueAt,List.find?_cons,e']
     rw[wy e,b];exact ih
theorem KV.any{kvs:List (κ×V)}{vs:List (κ×Value)}(r:KV kvs vs)(k:κ):(kvs.any fun kv=>decide (kv.1=k))=vs.any fun kv=>decide (kv.1=k):=by
 unfold KV at r
 induction r with
 |nil=>rfl
 |cons h t ih=>rw[List.any_cons,List.any_cons,ih,h.1]
theorem KV.NZ{kvs:List (κ×V)}{vs:List (κ×Value)}(r:KV kvs vs)(k:κ)(ry:RelV y u):
  KV (kvs.map fun kv=>if kv.1=k then(kv.1,y)else kv) (vs.map fun kv=>if kv.1=k then(kv.1,u)else kv):=by
 unfold KV at r ⊢
 induction r with
 |nil=>exact .nil
 | @cons p q ps qs h t ih=>
   rw[List.map_cons,List.map_cons];refine .cons ?_ ih;obtain⟨h1,h2⟩:=h
   by_cases e:p.1=k
   . rw[if_pos e,if_pos (h1.symm.trans e)];exact⟨h1,ry⟩
   . rw[if_neg e,if_neg (fun z=>e (h1.trans z))];exact⟨h1,h2⟩
theorem KV.put{kvs:List (κ×V)}{vs:List (κ×Value)}(r:KV kvs vs)(k:κ)(ry:RelV y u):KV (putK kvs k y) (stored vs k u):=by
 unfold putK stored;rw[r.any k]
 by_cases e:(vs.any fun kv=>decide (kv.1=k))=true
 . rw[if_pos e,if_pos e];exact r.NZ k ry
 . rw[if_neg e,if_neg e];exact Paired.snoc r ⟨rfl,ry⟩
theorem KV.keys{kvs:List (κ×V)}{vs:List (κ×Value)}(r:KV kvs vs):kvs.map (·.1)=vs.map (·.1):=by
 unfold KV at r
 induction r with
 |nil=>rfl
 |cons h t ih=>rw[List.map_cons,List.map_cons,ih,h.1]
end
theorem CI(r:RelV (kV k) u):(gf P w).is k u=true:=by
 cases k with
 |inl i=>obtain⟨t,e⟩:=(show ∃ t,u=Value.int i t from r);subst e;exact Ae P w i t
 |inr x=>obtain⟨t,e⟩:=(show ∃ t,u=Value.str x t from r);subst e;exact AX P w x t
theorem x8:∀{ks:List Key} {us:List Value},Vals (ks.map kV) us->ItemsAre (gf P w) ks us
 |[],_,r=>by rw[List.map_nil]at r;cases r;exact .nil
 | k ::ks,_,r=>by
   rw[List.map_cons]at r
   cases r with
   |cons h t=>exact .cons (CI h) (x8 t)
abbrev KT(H:Hp):List (List Key×V)->List (List Key×Addr×Value)->Prop:=Paired fun p q=>p.1=q.1 /\ H q.2.1=some (.tup (p.1.map kV)) /\ RelV p.2 q.2.2
theorem KT.val{kvs:List (List Key×V)}{xs:List (List Key×Addr×Value)}(r:KT H kvs xs)(k:List Key):bA (m9 kvs k) ((atKey xs k).map (·.2)):=by
 induction r with
 |nil=>exact True.intro
 | @cons p q ps qs h t ih=>
   obtain⟨h1,_,h2⟩:=h
   by_cases e:p.1=k
   . have e':q.1=k:=h1.symm.trans e
     have b:atKey (q ::qs) k=some q.2:=by simp[atKey,List.find?_cons,e']
     rw[wj e,b];exact h2
   . have e':¬ q.1=k:=fun z=>e (h1.trans z)
     have b:atKey (q ::qs) k=atKey qs k:=by simp[atKey,List.find?_cons,e']
     rw[wy e,b];exact ih
theorem KT.keeps{kvs:List (List Key×V)}{xs:List (List Key×Addr×Value)}(r:KT H kvs xs)(ht:∀ b ys,H b=some (.tup ys)->H' b=some (.tup ys)):KT H' kvs xs:=
 Paired.LZ r fun _ _ z=>⟨z.1,ht _ _ z.2.1,z.2.2⟩
section
variable{P:Program}{w:World}{H:Hp}{h:Heap}{a:Addr}
theorem JK(ok:HOk P w H h)(e:Rd H a u):gJ P w H h a u:=e.ok ok
theorem C5{kvs:List (Key×V)}(ok:HOk P w H h)(e:Rd H a (.dK kvs)):kvs.length<=sizeLine /\ (a==sysModules)=false /\ ∃ vs,KV kvs vs /\ h.DictOf (gf P w) a vs:=
 show gJ P w H h a (.dK kvs) from JK ok e
theorem MQ{kvs:List (Key×V)}(ok:HOk P w H h)(e:H a=some (.dK kvs)):kvs.length<=sizeLine /\ (a==sysModules)=false /\ ∃ vs,KV kvs vs /\ h.DictOf (gf P w) a vs:=C5 ok (.inl e)
theorem Bk{ks:List Key}(ok:HOk P w H h)(e:H a=some (.tup (ks.map kV))):(tupleKind (gf P w)).is h ks a:=by
 obtain⟨_,its,r,o,h1,h2,n,h3⟩:=(show gJ P w H h a (.tup (ks.map kV)) from ok a _ e)
 exact⟨o,its.toArray,n,h1,h2,h3,by simpa using x8 r⟩
theorem Fy{kvs:List (List Key×V)}(ok:HOk P w H h)(e:Rd H a (.dT kvs)):kvs.length<=sizeLine /\ (a==sysModules)=false /\
  ∃ xs,KT H kvs xs /\ h.DictOfH (tupleKind (gf P w)) a xs:=by
 obtain⟨z,y,xs,r,o,es,ep,h1,h2,h3,h4,h5⟩:=(show gJ P w H h a (.dT kvs) from JK ok e)
 refine⟨z,y,xs,r,o,es,ep,h1,h2,h3,h4,fun x hx=>?_,h5⟩
 have all:∀{l:List (List Key×V)} {m:List (List Key×Addr×Value)},KT H l m->∀ x∈m,(tupleKind (gf P w)).is h x.1 x.2.1:=by
  intro l m q
  induction q with
  |nil=>intro x hx;exact nomatch hx
  | @cons p q ps qs hq t ih=>
    intro x hx
    rcases List.mem_cons.mp hx with e|hx
    . subst e;exact Bk ok (by rw[<- hq.1];exact hq.2.1)
    . exact ih x hx
 exact all r x hx
end
def yS(H:Hp)(a:Addr)(y:V)(r:Option V):Prop:=
 (∃ kvs k,Rd H a (.dK kvs) /\ y=kV k /\ r=m9 kvs k) \/ ∃ kvs k b,Rd H a (.dT kvs) /\ y=.ref b /\ H b=some (.tup (k.map kV)) /\ r=m9 kvs k
theorem yS.k{H:Hp}{a:Addr}{kvs:List (Key×V)}{k:Key}(e:H a=some (.dK kvs)):yS H a (kV k) (m9 kvs k):=.inl ⟨kvs,k,.inl e,rfl,rfl⟩
section
variable{X:Cx}{pins:List (Addr×Obj)}{σ:St}{H:Hp}{s:Shared}{a:Addr}{y v:V}{u r:Value}{o:Option V}{A:Around}{E:Value->Shared->Prop}
theorem Inv.big(I:Inv X pins σ H s):sysModules<s.heap.objs.size:=by
 have h:mainGlobals<s.heap.objs.size:=(I.mod.glob.keeps I.bk).lt
 exact Nat.lt_trans (by decide) h
theorem DG{Q:Value->Shared->Prop}(hu:A.units+1<cLine)(I:Inv X pins σ H s)(g:yS H a y (some v))(ry:RelV y u)(h:∀ w' s',Inv X pins σ H s'->RelV v w'->Q w' s'):
  wpAny (model X.prog X.w) A (getItem (.ref a) u) Q E s:=by
 rcases g with⟨kvs,k,e,ey,l⟩|⟨kvs,k,b,e,ey,eb,l⟩
 . subst ey;obtain⟨z,hd,vs,rel,dd⟩:=C5 I.hok e;obtain⟨w',hw,rw'⟩:=bA.some_of (v:=v) (o:=valueAt vs k) (by rw[l];exact rel.val k);exact wpAny_getItem_of (CI ry) dd.mapOf hw (h w' _ (I.tok _) rw')
 . subst ey
   cases(show u=Value.ref b from ry)
   obtain⟨z,hd,xs,rel,dd⟩:=Fy I.hok e;obtain⟨w',hw,rw'⟩:=bA.some_of (v:=v) (o:=(atKey xs k).map (·.2)) (by rw[l];exact rel.val k);obtain⟨p,hp,hp2⟩:=Option.map_eq_some_iff.mp hw;refine wpAny_getItem_heap (tupleKind_room_in1 hu) (Bk I.hok eb) dd hp ?_;rw[hp2];exact h w' _ (I.tok _) rw'
theorem Ox{Q:Value->Shared->Prop}(hu:A.units+1<cLine)(I:Inv X pins σ H s)(g:yS H a y o)(ry:RelV y u)(h:∀ s',Inv X pins σ H s'->Q (.bool o.isSome) s'):
  wpAny (model X.prog X.w) A (compareOp .In u (.ref a)) Q E s:=by
 rcases g with⟨kvs,k,e,ey,l⟩|⟨kvs,k,b,e,ey,eb,l⟩
 . subst ey;obtain⟨z,hd,vs,rel,dd⟩:=C5 I.hok e;refine wpAny_in_of (CI ry) hd dd.mapOf ?_;rw[<- (rel.val k).xM,<- l];exact h _ (I.tok _)
 . subst ey
   cases(show u=Value.ref b from ry)
   obtain⟨z,hd,xs,rel,dd⟩:=Fy I.hok e;refine wpAny_in_heap (tupleKind_room_in1 hu) (Bk I.hok eb) hd dd ?_;have q:=(rel.val k).xM;rw[Option.isSome_map]at q;rw[<- q,<- l];exact h _ (I.tok _)
theorem Ia{h':Heap}(I:Inv X pins σ H s)(mu:Mut (H a))(hs:Heap.SameBut a s.heap h')(he:∃ q,h'.get? a=some q)(new:gJ X.prog X.w (upd H a ob) h' a ob):
  Inv X pins σ (upd H a ob) { s with heap:=h',toks:=t' }:=
 I.write (x:=a) (e:=a) mu (.inl rfl) (fun b q hb z=>(hs.2 b hb).trans z) he new
theorem Ln{h':Heap}{kvs:List (Key×V)}{vs:List (Key×Value)}(z:kvs.length<=sizeLine)(hd:(a==sysModules)=false)(rel:KV kvs vs)(dd:h'.DictOf (gf P w) a vs):
  gJ P w H' h' a (.dK kvs):=⟨z,hd,vs,rel,dd⟩
end
def Lr(i:Expr):Prop:=∀ ov iv,subscripted i false ov iv=operate [ov,iv] (getItem ov iv)
theorem HS{prog:Program}{w:World}{A:Around}{E:Value->Shared->Prop}{s:Shared}{env:Env}{value slice:Expr}{pos:Pos}{T id:String}{Q:Value->Shared->Prop}
  (hl:typeLookup (.type T) "__getitem__" = pure (some (.builtin id))) (hs:Lr slice)
  (h:wpAny (model prog w) A (eval value env) (fun o s₁=>wpAny (model prog w) A (eval slice env) (fun i s₂=>s₂.TypeIs o T /\ wpAny (model prog w) A (getItem o i) Q E s₂) E s₁) E s):
  wpAny (model prog w) A (eval (.Subscript value slice pos) env) Q E s:=by
 refine Subscript_ (wpAny_mono h (fun o s₁ h₁=>wpAny_mono h₁ (fun i s₂ h₂=>?_) fun _ _ x=>x) fun _ _ x=>x);obtain⟨hT,h₂⟩:=h₂;unfold subscriptTail;refine wpAny_bind ?_;rw[getitemInPython_of_ne hT.not_modules];refine wpAny_bind (wpAny_specialOf hT hl ?_)
 have fin:wpAny (model prog w) A (subscripted slice false o i) (fun r s₃=>wpAny (model prog w) A (letTemporaryGo value o r >>= fun _=>pure r) Q E s₃) E s₂:=by
  rw[hs o i];exact wpAny_operating (wpAny_mono h₂ (fun r s₃ h₃=>wpAny_bind (wpAny_letTemporaryGo (wpAny_pure h₃))) fun _ _ x=>x)
 first
  |exact wpAny_pure (wpAny_bind fin)
  |exact wpAny_bind (wpAny_pure (wpAny_bind fin))
  |exact wpAny_bind fin
theorem Aj{pins:List (Addr×Obj)}{s:Shared}(I:Inv X pins σ H s)(g:yS H a y o):s.TypeIs (.ref a) "dict":=by
 rcases g with⟨kvs,k,e,_,_⟩|⟨kvs,k,b,e,_,_,_⟩
 . obtain⟨_,_,vs,_,dd⟩:=C5 I.hok e;exact dd.typeIs
 . obtain⟨_,_,xs,_,dd⟩:=Fy I.hok e;exact dd.typeIs
def Gy(td ty:TE):TE:=fun σ H Q=>td σ H fun x H1=>ty σ H1 fun y H2=>∃ a v,x=.ref a /\ yS H2 a y (some v) /\ Q v H2
def LL(ty td:TE):TE:=fun σ H Q=>ty σ H fun y H1=>td σ H1 fun x H2=>∃ a o,x=.ref a /\ yS H2 a y o /\ Q (.bl o.isSome) H2
section
variable{X:Cx}{o i e value:Expr}{pos pos' tpos:Pos}{td ty tv:TE}
theorem IB(hu:X.A.units+1<cLine)(ho:PE X o td)(hi:PE X i ty)(hs:Lr i):PE X (.Subscript o i pos) (Gy td ty):=by
 intro pins s σ H Q I h;refine HS PySem.F.slot_dict_getitem.lookup hs (thn (ho pins s σ H _ I h) fun u s1 ⟨x,H1,I1,rx,q1⟩=>thn (hi pins s1 σ H1 _ I1 q1) fun iv s2 ⟨y,H2,I2,ry,a,v,ex,g,q2⟩=>?_);subst ex
 obtain rfl:u=Value.ref a:=rx
 exact⟨Aj I2 g,DG hu I2 g ry fun w' s3 I3 rw'=>⟨v,H2,I3,rw',q2⟩⟩
theorem KW(hu:X.A.units+1<cLine)(hi:PE X i ty)(ho:PE X o td):PC X .In i o (LL ty td):=by
 intro pins s σ H Q I h
 refine thn (hi pins s σ H _ I h) fun iv s1 ⟨y,H1,I1,ry,q1⟩=>thn (ho pins s1 σ H1 _ I1 q1) fun u s2 ⟨x,H2,I2,rx,a,ov,ex,g,q2⟩=>?_
 subst ex
 obtain rfl:u=Value.ref a:=rx
 exact Ox hu I2 g ry fun s3 I3=>⟨.bl ov.isSome,H2,I3,rfl,q2⟩
end
theorem Gg(h:Heap)(hb:sysModules<h.objs.size):gJ P w H (h.push { cls:=.type "dict",data:=.dict #[] }) h.objs.size (.dK []):=
 ⟨Nat.zero_le _,beq_eq_false_iff_ne.mpr (Ne.symm (Nat.ne_of_lt hb)),[],.nil,Heap.DictOf.new h⟩
def zg:List (TE×TE)->St->Hp->(List (V×V)->Hp->Prop)->Prop
 |[],_,H,Q=>Q [] H
 |(tk,tv) ::r,σ,H,Q=>tk σ H fun x H1=>tv σ H1 fun y H2=>zg r σ H2 fun ps H3=>Q ((x,y) ::ps) H3
abbrev VV:List (V×V)->List (Value×Value)->Prop:=Paired fun p q=>RelV p.1 q.1 /\ RelV p.2 q.2
def PPs(X:Cx)(pos:Pos)(keys:List (Option Expr))(values:List Expr)(trs:List (TE×TE)):Prop:=
 ∀(pins:List (Addr×Obj)) (s:Shared) (σ:St) (H:Hp) (Q:List (V×V)->Hp->Prop),Inv X pins σ H s->zg trs σ H Q ->
   wpAny (model X.prog X.w) X.A (evalPairs (pairTrees keys values X.env pos)) (fun vs s'=>∃ ps H',Inv X pins σ H' s' /\ VV ps vs /\ Q ps H') X.xe s
theorem Hn:PPs X pos [] [] []:=fun pins s σ H Q I h=>pairTrees_nil_walk ⟨[],H,I,.nil,h⟩
theorem EF{ks:List (Option Expr)}{trs:List (TE×TE)}(hk:PE X k tk)(hv:PE X v tv)(hr:PPs X pos ks vs trs):
  PPs X pos (some k ::ks) (v ::vs) ((tk,tv) ::trs):=fun pins s σ H Q I h=>
 pairTrees_cons_walk (thn (hk pins s σ H _ I h) fun u s1 ⟨x,H1,I1,rx,q1⟩=>thn (hv pins s1 σ H1 _ I1 q1) fun w2 s2 ⟨y,H2,I2,ry,q2⟩=>
  thn (hr pins s2 σ H2 _ I2 q2) fun ws s3 ⟨ps,H3,I3,rel,q3⟩=>⟨(x,y) ::ps,H3,I3,.cons ⟨rx,ry⟩ rel,q3⟩)
def pM(kvs more:List (Key×V)):List (Key×V):=more.foldl (fun acc kv=>putK acc kv.1 kv.2) kvs
theorem KV.merge:∀{more:List (Key×V)} {rs:List (Key×Value)} {kvs:List (Key×V)} {vs:List (Key×Value)},KV more rs->KV kvs vs->KV (pM kvs more) (merged vs rs):=by
 intro more rs kvs vs r;unfold KV at r
 induction r generalizing kvs vs with
 |nil=>intro q;exact q
 | @cons p q ps qs h t ih=>
   intro r0
   have e:KV (putK kvs p.1 p.2) (stored vs q.1 q.2):=by
    have:=r0.put p.1 h.2;rw[<- h.1];exact this
   exact ih e
theorem rP:∀(more kvs:List (Key×V)),(pM kvs more).length<=kvs.length+more.length
 |[],kvs=>by show kvs.length<=kvs.length+0;omega
 | p ::r,kvs=>by
   have h1:=rP r (putK kvs p.1 p.2);have h2:=zS kvs p.1 p.2
   show(pM (putK kvs p.1 p.2) r).length<=_
   rw[List.length_cons];omega
theorem wK:∀{kvs:List (Key×V)} {ws:List (Value×Value)},VV (kvs.map fun kv=>(kV kv.1,kv.2)) ws->∃ rs,Carries (gf P w) ws rs /\ KV kvs rs
 |[],_,r=>by rw[List.map_nil]at r;cases r;exact⟨[],True.intro,.nil⟩
 | p ::kvs,_,r=>by
   rw[List.map_cons]at r
   cases r with
   | @cons a b as bs h t=>
     obtain⟨rs,c,q⟩:=wK (P:=P) (w:=w) t;obtain⟨b1,b2⟩:=b
     exact⟨(p.1,b2) ::rs,⟨CI h.1,rfl,c⟩,.cons ⟨rfl,h.2⟩ q⟩
def FX(trs:List (TE×TE)):TE:=fun σ H Q=>∀ p,H p=none->zg trs σ (upd H p (.dK [])) fun ps H2=>H2 p=some (.dK []) /\ ∃ kvs:List (Key×V),ps=kvs.map (fun kv=>(kV kv.1,kv.2)) /\ kvs.length<=15 /\ Q (.ref p) (upd H2 p (.dK (pM [] kvs)))
theorem IM{keys:List (Option Expr)}{values:List Expr}{trs:List (TE×TE)}(h:PPs X pos keys values trs)(hall:keys.all (·.isSome)=true)(hl:keys.length=values.length)(h0:keys≠[])
  (h15:keys.length<=15):PE X (.Dict keys values pos) (FX trs):=by
 intro pins s σ H Q I q;have hn:=I.hok.fresh (Nat.le_refl s.heap.objs.size);have I1:=I.laid (a:=s.heap.objs.size) (o:=.dK []) (h':=s.heap.push { cls:=.type "dict",data:=.dict #[] }) (t':=s.toks) (fun _ _ q=>Heap.get?_push_of_some _ q) (Nat.le_refl _) (Gg s.heap I.big);refine wpAny_Dict_walk (knd:=gf X.prog X.w) hall hl h0 h15 (thn (h pins _ σ _ _ I1 (q _ hn)) fun ws s2 ⟨ps,H2,I2,rel,e,kvs,ep,lk,q2⟩=>?_);subst ep;obtain⟨rs,c,rk⟩:=wK (P:=X.prog) (w:=X.w) rel;obtain⟨z,hd,vs0,r0,dd⟩:=MQ I2.hok e;cases r0
 refine⟨rs,c,dd,fun h' dd' hs=>⟨.ref s.heap.objs.size,_,?_,rfl,q2⟩⟩
 have hz:(pM [] kvs).length<=sizeLine:=by
  have h1:=rP kvs [];rw[List.length_nil]at h1;rw[sizeLine_eq];omega
 have he:∃ q,h'.get? s.heap.objs.size=some q:=let ⟨q,_,_,hq,_⟩:=dd';⟨q,hq⟩
 exact Ia I2 (by rw[e];exact True.intro) hs he (Ln hz hd (rk.merge .nil) dd')
end L2
set_option maxHeartbeats 4000000
namespace L2.E
open PySem PySem.Spec PyProof.Rows
def Lb(a C:Addr)(dx:Option Addr)(h:Heap):Prop:=∃ o vs,h.get? a=some o /\ o.cls=.ref C /\ o.dict=dx /\ o.data=.fields vs /\ vs.size=6
def TbO(T:Addr)(h:Heap):Prop:=∃ o ts,h.get? T=some o /\ o.data=.fields ts /\ 3<ts.size
abbrev AH(a C:Addr)(dx:Option Addr):HO:=.ext (Lb a C dx)
abbrev oTb(T:Addr):HO:=.ext (TbO T)
theorem Lc{P:Program}{w:World}{H:Hp}{h:Heap}{a C:Addr}{dx:Option Addr}(x:Lb a C dx h):gJ P w H h a (AH a C dx):=by
 refine⟨x,let ⟨o,_,e,_⟩:=x;⟨o,e⟩,fun h1 h2 p k=>?_⟩
 obtain⟨o,vs,e,r⟩:=p
 exact⟨o,vs,k o e,r⟩
theorem JB{P:Program}{w:World}{H:Hp}{h:Heap}{T:Addr}(x:TbO T h):gJ P w H h T (oTb T):=by
 refine⟨x,let ⟨o,_,e,_⟩:=x;⟨o,e⟩,fun h1 h2 p k=>?_⟩
 obtain⟨o,vs,e,r⟩:=p
 exact⟨o,vs,k o e,r⟩
theorem GC{H:Hp}{a:Addr}{o:HO}(h:H a=some o):upd H a o=H:=by
 funext b
 unfold upd;split
 . rename_i e;rw[e,h]
 . rfl
structure Fly(H:Hp)(h:Heap)(a C:Addr)(dx:Option Addr):Prop where
 exc:H a=some (AH a C dx)
 tb:∃ o vs,h.get? a=some o /\ o.data=.fields vs /\ (vs[1]?=some Value.none \/ ∃ T,vs[1]?=some (.ref T) /\ H T=some (oTb T) /\ T≠a)
structure Dx(H:Hp)(h:Heap)(a C:Addr)(dx:Option Addr):Prop where
 exc:H a=some (AH a C dx)
 tb:∃ o vs T,h.get? a=some o /\ o.data=.fields vs /\ vs[1]?=some (.ref T) /\ H T=some (oTb T) /\ T≠a
theorem Dx.fly{H:Hp}{h:Heap}{a C:Addr}{dx:Option Addr}(F:Dx H h a C dx):Fly H h a C dx:=
 let ⟨o,vs,T,e1,e2,e3,e4,e5⟩:=F.tb
 ⟨F.exc,o,vs,e1,e2,.inr ⟨T,e3,e4,e5⟩⟩
section
variable{X:Cx}{pins:List (Addr×Obj)}{σ:St}{H:Hp}{s:Shared}{a C:Addr}{dx:Option Addr}
theorem EU{h₁:Heap}(I:Inv X pins σ H s)(k:Heap.SlotsOnly (frs X.stack) s.heap h₁):Un (frs X.stack) [] H H s.heap h₁ where
 keep:=fun b o e _ hb _=>(k.2.1 b hb).trans e
 slot:=fun b o e _ _ _=>k.2.2 b o e
 free:=fun _ _ _ n _=>n
 there:=fun b o e _=>let ⟨_,q⟩:=k.2.2 b o e;⟨_,q⟩
 tups:=fun _ _ q=>q
 frzs:=fun _ _ _ q=>q
 tbls:=fun _ ps q=>⟨#[],by rw[q];simp⟩
theorem DV{h₁:Heap}(I:Inv X pins σ H s)(k:Heap.SlotsOnly (frs X.stack) s.heap h₁):HOk X.prog X.w H h₁:=fun b o e=>by
 have nf:∀ c u,H c=some u->c∉frs X.stack:=fun c u q z=>by rw[I.zu c z]at q;cases q
 refine(I.hok b o e).vn (fun c v hc q=>(k.2.1 c ?_).trans q) (fun _ q=>q) fun _ _ q=>q
 rcases hc with z|z
 . rw[z];exact nf b o e
 . exact nf c _ z
theorem Iw{i:Nat}{v:Value}(I:Inv X pins σ H s)(e:H a=some (AH a C dx)):
  Inv X pins σ H { s with heap:=s.heap.update a (Obj.mapFields (·.setIfInBounds i v)) }:=by
 obtain⟨⟨o,vs,ho,hc,hd,hf,hz⟩,_,_⟩:=I.hok a _ e;have hs:=Heap.get?_update_self (Obj.mapFields (·.setIfInBounds i v)) ho (Obj.isFreed_of_fields (Obj.data_mapFields hf _))
 have q:=I.write (x:=a) (e:=a) (o:=AH a C dx) (t':=s.toks) (h':=s.heap.update a (Obj.mapFields (·.setIfInBounds i v))) (by rw[e];trivial) (.inl rfl)
  (fun b u hb q=>(Heap.get?_update_other _ _ (Ne.symm hb)).trans q) ⟨_,hs⟩ (Lc ⟨_,_,hs,by rw[Obj.cls_mapFields];exact hc,by obtain⟨c,d,dt,sl⟩:=o;cases dt<;>exact hd,Obj.data_mapFields hf _,by simpa using hz⟩)
 rw[GC e]at q;exact q
theorem Ey{T:Addr}{i:Nat}{v:Value}(I:Inv X pins σ H s)(e:H T=some (oTb T)):
  Inv X pins σ H { s with heap:=s.heap.update T (Obj.mapFields (·.setIfInBounds i v)) }:=by
 obtain⟨⟨o,vs,ho,hf,hz⟩,_,_⟩:=I.hok T _ e;have hs:=Heap.get?_update_self (Obj.mapFields (·.setIfInBounds i v)) ho (Obj.isFreed_of_fields (Obj.data_mapFields hf _))
 have q:=I.write (x:=T) (e:=T) (o:=oTb T) (t':=s.toks) (h':=s.heap.update T (Obj.mapFields (·.setIfInBounds i v))) (by rw[e];trivial) (.inl rfl)
  (fun b u hb q=>(Heap.get?_update_other _ _ (Ne.symm hb)).trans q) ⟨_,hs⟩ (JB ⟨_,_,hs,Obj.data_mapFields hf _,by simpa using hz⟩)
 rw[GC e]at q;exact q
theorem Ab{L:Addr}{head:Value}{had:Bool}{Q:Unit->Shared->Prop}{E:Value->Shared->Prop}(I:Inv X pins σ H s)(hst:X.stack=X.env ::X.outer)(hf:X.env.frame=some L)(e:H a=some (AH a C dx))
  (h:∀ s' H',Inv X pins σ H' s'->aK H H'->Dx H' s'.heap a C dx->Q () s'):
  wpAny (model X.prog X.w) X.A (do let fr <- frameOf X.env;let pl <- entryPlaceOf L had;let b <- EntryCells.newEntry head fr .none (rawInt L) .none pl;setField (.ref a) 1 b) Q E s:=by
 have hfr:X.A.frames=some (X.env ::X.outer):=by rw[<- hst];exact I.ok.frames
 have hl:s.heap.FunFrames X.base (X.env ::X.outer):=by rw[<- hst];exact I.stack
 refine wpAny_bind (wpAny_frameOf_fun hfr hl hf fun h₁ k₁=>?_)
 have k₁':Heap.SlotsOnly (frs X.stack) s.heap h₁:=by rw[hst];exact k₁
 have I₁:=I.call (g':=s.gens) (t':=s.toks) (d':=s.drawn) (ch:=[]) (EU I k₁') (DV I k₁') I.bare (fun b z=>absurd z (by simp));refine wpAny_bind (wpAny_entryPlaceOf fun pl hpl=>?_);unfold EntryCells.newEntry newFields;refine wpAny_bind (wpAny_newObj_type ?_ (hpl.sizeOk5 _ _ _ _ _))
 have big:3<([head,.ref L,.none,rawInt L,.none]++(if pl.isEmpty then List.replicate 6 Value.none else pl)).toArray.size:=by
  rw[List.size_toArray,List.length_append];show 3<5+_;omega
 have new:=Heap.get?_push_size h₁ (o:={ cls:=.type "traceback",dict:=none,data:=.fields ([head,.ref L,.none,rawInt L,.none]++(if pl.isEmpty then List.replicate 6 Value.none else pl)).toArray }) rfl
 have fr:H h₁.objs.size=none:=I₁.hok.fresh (Nat.le_refl _)
 have ne:h₁.objs.size≠a:=fun z=>by rw[z,e]at fr;cases fr
 have I₂:=I₁.laid (a:=h₁.objs.size) (o:=oTb h₁.objs.size) (t':=s.toks) (fun b u q=>Heap.get?_push_of_some _ q) (Nat.le_refl _) (JB ⟨_,_,new,rfl,big⟩)
 have g:aK H (upd H h₁.objs.size (oTb h₁.objs.size)):=fun b u q=>by rw[bQ (eZ q fr)];exact q
 obtain⟨⟨o,vs,ho,hc,hd,hv,hz⟩,_,_⟩:=I₂.hok a _ (g _ _ e);refine wpAny_setField ho hv (by omega) ?_;refine h _ _ (Iw I₂ (g _ _ e)) g ⟨g _ _ e,_,_,h₁.objs.size,Heap.get?_update_self _ ho (Obj.isFreed_of_fields (Obj.data_mapFields hv _)),Obj.data_mapFields hv _,by simp[hz],bC,ne⟩
theorem IJ{Q:Unit->Shared->Prop}{E:Value->Shared->Prop}(I:Inv X pins σ H s)(hst:X.stack=X.env ::X.outer /\ X.env.frame=some X.env.locals)(F:Fly H s.heap a C dx)
  (h:∀ s' H',Inv X pins σ H' s'->aK H H'->Dx H' s'.heap a C dx->Q () s'):wpAny (model X.prog X.w) X.A (noteFrame (.ref a) X.env) Q E s:=by
 obtain⟨o,vs,ho,hv,hw⟩:=F.tb;unfold noteFrame;simp only[hst.2]
 rcases hw with h1|⟨T,h1,hT,ne⟩
 . refine wpAny_bind (wpAny_field ho hv h1 ?_);rw[if_neg (by decide)];exact Ab I hst.1 hst.2 F.exc h
 . obtain⟨⟨oT,ts,hoT,hdT,hz⟩,_,_⟩:=I.hok T _ hT;refine wpAny_bind (wpAny_field ho hv h1 ?_);rw[if_pos (show(Value.ref T != Value.none)=true from by simp)]
   have h3:ts[3]?=some ts[3]:=by simp[hz]
   refine wpAny_bind (wpAny_field hoT hdT h3 ?_)
   by_cases c:(ts[3]==rawInt X.env.locals)=true
   . rw[if_pos c];exact wpAny_pure (h s H I (aK.refl H) ⟨F.exc,o,vs,T,ho,hv,h1,hT,ne⟩)
   . rw[if_neg c];refine wpAny_bind (wpAny_setField hoT hdT hz ?_);exact Ab (Ey I hT) hst.1 hst.2 F.exc h
theorem Dw{x:Option Addr}{Q:Unit->Shared->Prop}{E:Value->Shared->Prop}(I:Inv X pins σ H s)(F:Dx H s.heap a C dx)
  (h:∀ s',Inv X pins σ H s'->Dx H s'.heap a C dx->Q () s'):wpAny (model X.prog X.w) X.A (setFlight (.ref a) x) Q E s:=by
 obtain⟨o,vs,T,ho,hv,h1,hT,ne⟩:=F.tb;unfold setFlight;obtain⟨⟨oT,ts,hoT,hdT,hz⟩,_,_⟩:=I.hok T _ hT;refine wpAny_bind (wpAny_field ho hv h1 ?_);rw[if_pos (show(Value.ref T != Value.none)=true from by simp)];refine wpAny_setField hoT hdT hz ?_;exact h _ (Ey I hT) ⟨F.exc,o,vs,T,(Heap.get?_update_other _ _ ne).trans ho,hv,h1,hT,ne⟩
end
def CXE(P:Program)(w:World):CXT:=fun outer H s E e s'=>∃ a C dx H',e=.ref a /\ s'.os=s.os /\ AllBare s'.gens /\ Un (frs outer) [] H H' s.heap s'.heap /\ HOk P w H' s'.heap /\ Fly H' s'.heap a C dx /\ E (.ref C) (some a) H'
abbrev XW:=Value->Option Addr->St->Hp->Prop
def Thr(X:Cx)(W:XW):Prop:=∀(pins:List (Addr×Obj)) (σ:St) (H:Hp) (s:Shared) (a C:Addr) (dx:Option Addr),Inv X pins σ H s->Fly H s.heap a C dx->W (.ref C) (some a) σ H->X.xe (.ref a) s
section
variable{CX:CXT}{P:Program}{w:World}{K:PySem.W.Frag}{mg:Str->Option Value}{base:Heap}{N:List Str}{qual:Str}{scope:Scope}{f:Addr}{cd:Value}{A:Around}{outer:List Env}{s₀:Shared}{H₀:Hp}{E:XK}
theorem aN:Thr (uk (CXE P w) P w K mg base N qual scope f cd A outer s₀ H₀ E) (fun C a _ H=>∀ H',aK H H'->E C a H'):=by
 intro pins σ H s a C dx I F hw;show wpAny _ _ (leaving _ _) _ _ s;unfold leaving;refine wpAny_bind (IJ I ⟨rfl,rfl⟩ F fun s1 H1 I1 g1 F1=>?_)
 refine Dw I1 F1 fun s2 I2 F2=>?_
 exact⟨a,C,dx,H1,rfl,I2.os,I2.bare,I2.base,I2.hok,F2.fly,hw H1 g1⟩
theorem gn:PassesOwn (model P w) (uk (CXE P w) P w K mg base N qual scope f cd A outer s₀ H₀ E).A (uk (CXE P w) P w K mg base N qual scope f cd A outer s₀ H₀ E).env (uk (CXE P w) P w K mg base N qual scope f cd A outer s₀ H₀ E).xe:=by
 show PassesOwn (model P w) (A.deeper (envOfC qual scope s₀.heap.objs.size f cd)) (envOfC qual scope s₀.heap.objs.size f cd) (fun e s'=>wpAny (model P w) (A.deeper (envOfC qual scope s₀.heap.objs.size f cd)) (leaving (envOfC qual scope s₀.heap.objs.size f cd) e) (fun _ s''=>CXE P w outer H₀ s₀ E e s'') (fun e' s''=>CXE P w outer H₀ s₀ E e' s'') s')
 passes_own
end
section
variable{X:Cx}{k:Nat}{f:Addr}{fd:FuncData}{ps:List Str}{sp:Sp}{dvs:List V}{ds:List Value}{W:XW}{x m:Str}{p pos apos:Pos}{e o:Expr}{es:List Expr}{ta:TE}{t:TA}
def sP(sp:Sp)(dvs:List V)(W:XW)(t:TA):TE:=fun σ H Q=>t σ H fun vs H1=>sp (vs++dvs) H1 Q fun C a H'=>W C a σ H'
theorem vx{pins:List (Addr×Obj)}{σ:St}{H:Hp}{s:Shared}{Q:VK}{us:List Value}{vs:List V}(F:cx X.prog X.w X.K X.mg X.base (CXE X.prog X.w) k f fd ps sp)(hr:iM k X.A)(hb:Binds X.K fd ps ds)(hd:Vals dvs ds)(hx:Thr X W)
  (I:Inv X pins σ H s) (r:Vals vs us) (h:sp (vs++dvs) H Q fun C a H'=>W C a σ H'):wpAny (model X.prog X.w) X.A (call (.ref f) us) (EP X pins σ Q) X.xe s:=by
 have r2:Vals (vs++dvs) (us++ds):=r.append hd
 have hl:(us++ds).length=ps.length:=by rw[<- r2.length];exact F.len _ _ _ _ h
 refine wpAny_call (codeAny_mono (F.run X.A X.stack s H ⟨us,[]⟩ (us++ds) (vs++dvs) Q _ hr I.M3 (hb s us I.kIn hl) r2 h) fun r s' hq=>?_)
 cases r with
 | error e=>
   obtain⟨a,C,dx,H',rfl,ho,bare,un,hok,fl,hw⟩:=hq;exact hx pins σ H' s' a C dx (I.JF ho un hok bare fun b z=>absurd z (by simp)) fl hw
 | ok fl=>
   cases fl with
   |ret u=>exact I.after hq
   |next=>exact False.elim hq
   |brk=>exact False.elim hq
   |cont=>exact False.elim hq
theorem FA(F:cx X.prog X.w X.K X.mg X.base (CXE X.prog X.w) k f fd ps sp)(hr:iM k X.A)(hg:Gl X x)(hm:X.mg x=some (.ref f))(hk:PySem.W.keepIn X.K (.ref f)=true)(hb:Binds X.K fd ps ds)(hd:Vals dvs ds)(hx:Thr X W)
  (ha:PA X (e ::es) t) (hdb:(x==("__debug__":Str))=false:=by decide) (he:starEach (e ::es) X.env=(false,eval e X.env) ::starEach es X.env:=by rfl) (hpl:(backTo pos (starEach es X.env)).any (·.1)=false:=by rfl):
  PE X (.Call (.Name x p) (e ::es) [] pos) (sP sp dvs W t):=by
 intro pins s σ H Q I h;refine wpAny_Call_Name_kw (vw I hg hm ?_ hdb);refine PySem.W.callWith_K (h₀:=X.base) I.ok.mod.kin hk (thn (ha pos pins s σ H _ I h) fun us s1 ⟨vs,H1,I1,r,q⟩=>⟨I1.kIn,?_⟩) he hpl;exact vx F hr hb hd hx I1 r q
theorem D6(F:cx X.prog X.w X.K X.mg X.base (CXE X.prog X.w) k f fd ps sp)(hr:iM k X.A)(hg:Gl X x)(hm:X.mg x=some (.ref f))(hk:PySem.W.keepIn X.K (.ref f)=true)(hb:Binds X.K fd ps ds)(hd:Vals dvs ds)(hx:Thr X W)
  (hdb:(x==("__debug__":Str))=false:=by decide):PE X (.Call (.Name x p) [] [] pos) (sP sp dvs W lZ):=by
 intro pins s σ H Q I h;refine wpAny_Call_Name_kw (vw I hg hm ?_ hdb);exact PySem.W.callWith_K0 I.kIn hk (vx (us:=[]) F hr hb hd hx I .nil h)
end
abbrev blk(X:Cx)(scope:Scope)(cl:List (Str×Addr))(N:List Str)(C:Addr)(s₀:Shared)(H₀:Hp)(ex:List Addr):Cx:=
 { prog:=X.prog,w:=X.w,K:=X.K,mg:=X.mg,base:=X.base,A:=X.A,N:=N,s₀:=s₀,H₀:=H₀,env:=compEnvC scope cl C X.env,outer:=X.stack,stack:=X.stack,ex:=ex,fn:=fun _=>false,calm:=X.calm,pn:=[],xe:=fun _ _=>False }
theorem BJ{X:Cx}:Thr X (fun _ _ _ _=>False):=fun _ _ _ _ _ _ _ _ _ h=>h.elim
structure oy(X:Cx)(scope:Scope)(cl:List (Str×Addr))(M:List Str)(ι:List Nat)(x:Str):Prop where
 clos:closureFor scope X.env=pure cl
 kind:scope.kind=.function
 nocell:(scope.names.all fun p=>p.2 != .cell)=true
 locs:(scope.names.all fun p=>p.2 != .local||scope.names.lookup p.1==some .local)=true
 var:scope.names.lookup x=some .local
 names:M.map some=ι.map fun i=>X.N[i]?
 cells:M.map (fun y=>scope.names.lookup y)=M.map fun _=>some .free
 kinds:M.map X.env.kindOf=M.map fun _=>some .cell
 same:M.map (fun y=>cl.lookup y)=M.map fun y=>X.env.cells.lookup y
 sub:cl.map (fun p=>X.env.cells.lookup p.1)=cl.map fun p=>some p.2
 all:(scope.names.all fun p=>!(p.2 == .free)||(cl.lookup p.1).isSome)=true
 nd:(M++[x]).Nodup
theorem yI{α β:Type}{f g:α->β}{l:List α}(h:l.map f=l.map g){a:α}(ha:a∈l):f a=g a:=by
 induction l with
 |nil=>cases ha
 | cons b r ih=>
   rw[List.map_cons,List.map_cons]at h
   injection h with h1 h2
   rcases List.mem_cons.mp ha with z|z
   . rw[z];exact h1
   . exact ih h2 z
theorem yJ{scope:Scope}{env:Env}{y:Str}(h:scope.names.lookup y=some .free):(relabel scope env).names.lookup y=some .cell \/ (relabel scope env).names.lookup y=some .free:=by
 unfold relabel;dsimp only;generalize scope.names=l at h
 induction l with
 |nil=>cases h
 | cons p r ih=>
   obtain⟨n,k⟩:=p;rw[List.lookup_cons]at h;rw[List.map_cons]
   by_cases e:(y==n)=true
   . rw[e]at h
     have hk:k=.free:=Option.some.inj h
     subst hk;dsimp only;split
     . rw[List.lookup_cons,e];exact .inl rfl
     . rw[List.lookup_cons,e];exact .inr rfl
   . have e':(y==n)=false:=by simpa using e
     rw[e']at h;dsimp only;split
     . rw[List.lookup_cons,e'];exact ih h
     . rw[List.lookup_cons,e'];exact ih h
theorem zo{scope:Scope}{env:Env}{y:Str}(hc:(scope.names.all fun p=>p.2 != .cell)=true)(h:(relabel scope env).names.lookup y=some .cell \/ (relabel scope env).names.lookup y=some .free):∃ p∈scope.names,p.1=y /\ p.2=.free:=by
 unfold relabel at h
 dsimp only at h
 generalize scope.names=l at h hc
 induction l with
 |nil=>rcases h with h|h<;>cases h
 | cons p r ih=>
   obtain⟨n,k⟩:=p;rw[List.all_cons,Bool.and_eq_true]at hc;rw[List.map_cons]at h
   by_cases e:(y==n)=true
   . refine⟨(n,k),List.mem_cons_self,(beq_iff_eq.mp e).symm,?_⟩
     dsimp only at h ⊢
     split at h
     . rename_i c;simp only[Bool.and_eq_true,beq_iff_eq]at c;exact c.1.1
     . rw[List.lookup_cons,e]at h
       have hk:(k != NameKind.cell)=true:=hc.1
       rcases h with h|h
       . have:k=.cell:=Option.some.inj h
         subst this;exact absurd hk (by decide)
       . exact Option.some.inj h
   . have e':(y==n)=false:=by simpa using e
     have h':(List.map (fun x=>match x with|(n,k)=>if(k==NameKind.free&&env.scope.kind==ScopeKind.function&&env.kindOf n==some NameKind.cell)=true then(n,NameKind.cell)else(n,k)) r).lookup y=some .cell \/
       (List.map (fun x=>match x with|(n,k)=>if(k==NameKind.free&&env.scope.kind==ScopeKind.function&&env.kindOf n==some NameKind.cell)=true then(n,NameKind.cell)else(n,k)) r).lookup y=some .free:=by
      dsimp only at h
      split at h
      . rw[List.lookup_cons,e']at h;exact h
      . rw[List.lookup_cons,e']at h;exact h
     obtain⟨q,hq,z⟩:=ih h' hc.2
     exact⟨q,List.mem_cons_of_mem _ hq,z⟩
def pick(ι:List Nat)(σ:St):St:=ι.map fun i=>(σ[i]?).join
def u3(wi:TI)(ι:List Nat)(te:TE):TE:=fun σ H Q=>wi σ H fun J H1=>∀ D,H1 D=none->∃ W:Nat->Nat->List V->Hp->Prop,(∃ m,W 0 m [] (upd H1 D (.lst []))) /\ ∀ i m ys H,W i m ys H ->
 H D=some (.lst ys) /\ ((J.stop i H /\ Q (.ref D) H) \/ (J.go i H /\ ∀ x H',J.yld i H x H'->te (pick ι σ++[some x]) H' fun y H2=>H2 D=some (.lst ys) /\ ys.length<sizeLine /\ ∃ m',m'<m /\ W (i+1) m' (ys++[y]) (upd H2 D (.lst (ys++[y])))))
section
variable{X:Cx}{scope:Scope}{cl:List (Str×Addr)}{M:List Str}{ι:List Nat}{x:Str}
theorem oy.v8(S:oy X scope cl M ι x){y:Str}{c:Addr}(h:cl.lookup y=some c):X.env.cells.lookup y=some c:=yI S.sub (PySem.mem_of_lookup h)
theorem BC{pins:List (Addr×Obj)}{σ:St}{H:Hp}{s:Shared}{h₁:Heap}{t':Nat}{ex:List Addr}(S:oy X scope cl M ι x)(I:Inv X pins σ H s)(hex:∀ b∈ex,p8 X pins H b /\ b<s.heap.objs.size)(hn:h₁.Ns s.heap.objs.size (fun _=>none))
  (hk:∀ b o,s.heap.get? b=some o->h₁.get? b=some o):Inv (blk X scope cl (M++[x]) s.heap.objs.size s H ex) [] (pick ι σ++[none]) H { s with heap:=h₁,toks:=t' }:=by
 have noM:∀ b:Addr,b∈ex->b≠s.heap.objs.size:=fun b hb=>Nat.ne_of_lt (hex b hb).2
 have fsx:∀ b∈ex,b∉frs X.stack:=fun b hb z=>by
  obtain⟨⟨_,f1,f2,_⟩,_⟩:=hex b hb
  rcases List.mem_cons.mp (I.Bu b z)with e|e
  . exact f1 e
  . exact f2 e
 have base0:∀ b o,X.base.get? b=some o->b∉ex:=fun b o e z=>by
  obtain⟨⟨_,_,_,f3,_⟩,_⟩:=hex b z
  rcases f3 with f|f
  . exact I.ok.noex b o e f
  . exact absurd (Nat.lt_of_lt_of_le (Heap.lt_size e) (Nat.le_trans I.ok.bsz f)) (Nat.lt_irrefl _)
 refine⟨⟨I.ok.mod,S.kind,I.ok.glob,I.ok.blt,Nat.le_refl _,fun y z c h1 h2=>I.ok.inj y z c (S.v8 h1) (S.v8 h2),fun y hy=>?_,fun y c z=>absurd z Bool.false_ne_true,I.ok.hd,I.ok.frames,.inl rfl,
  fun b hb=>⟨noM b hb,fun y c h z=>(hex b hb).1.2.2.2.2.1 y c (S.v8 h) z⟩,I.bs,Nat.le_trans I.ok.bsz I.sz,base0,fsx,I.stack,I.zu⟩,
  rfl,I.bare,Un.kept hk,⟨_,hn,fun i y v e1 e2 e3=>?_⟩,fun y c h=>?_,I.fresh,fun y c h=>?_,fun p hp=>absurd (show p∈([]:List (Addr×Obj)) from hp) (by simp),I.hok.kept hk,?_⟩
 . obtain⟨p,hp,rfl,hpf⟩:=zo S.nocell hy;have q:=List.all_eq_true.mp S.all p hp;rw[hpf]at q
   have q':(cl.lookup p.1).isSome=true:=by
    cases e:(cl.lookup p.1).isSome with
    |true=>rfl
    |false=>rw[e]at q;exact absurd q (by decide)
   exact Option.isSome_iff_exists.mp q'
 . have hiM:i < M.length:=by
    by_cases hlt:i<M.length
    . exact hlt
    . exfalso
      have hl:(pick ι σ).length=M.length:=by
       have q:=congrArg List.length S.names;rw[List.length_map,List.length_map]at q;unfold pick;rw[List.length_map,q]
      rw[List.getElem?_append_right (by omega),hl]at e2
      have:i - M.length=0 \/ 1<=i - M.length:=by omega
      rcases this with z|z
      . rw[z]at e2;cases e2
      . rw[List.getElem?_eq_none (by simpa using z)]at e2;cases e2
   have hl:ι.length=M.length:=by
    have q:=congrArg List.length S.names;rw[List.length_map,List.length_map]at q;exact q.symm
   rw[List.getElem?_append_left hiM]at e1
   have hyM:y∈M:=List.mem_of_getElem? e1
   have e2':((σ[ι[i]]?).join)=some v:=by
    rw[List.getElem?_append_left (by unfold pick;rw[List.length_map];omega)]at e2;unfold pick at e2;rw[List.getElem?_map,List.getElem?_eq_getElem (by omega)]at e2;exact Option.some.inj e2
   have e4:σ[ι[i]]?=some (some v):=by
    cases q:σ[ι[i]]? with
    |none=>rw[q]at e2';cases e2'
    |some w=>rw[q]at e2';exact congrArg some e2'
   have e5:X.N[ι[i]]?=some y:=by
    have q:=congrArg (fun l=>l[i]?) S.names;rw[List.getElem?_map,List.getElem?_map,e1,List.getElem?_eq_getElem (by omega)]at q
    exact(Option.some.inj q).symm
   have kc:X.env.kindOf y=some .cell:=yI S.kinds hyM
   obtain⟨m,hm,hl⟩:=I.loc;obtain⟨u,r,q⟩:=hl _ y v e5 e4 (.inr (.inl kc))
   refine⟨u,r,.inr ⟨?_,?_⟩⟩
   . exact yJ (yI S.cells hyM)
   . rcases q with⟨k,_⟩|⟨_,c,e,o,ho,hd⟩
     . rw[kc]at k;cases k
     . exact⟨c,(yI S.same hyM).trans e,o,hk _ _ ho,hd⟩
 . obtain⟨v,o,ho,hd⟩:=I.cell y c (S.v8 h)
   exact⟨v,o,hk _ _ ho,hd⟩
 . exact I.freeC y c (S.v8 h)
 . have q:=congrArg List.length S.names;rw[List.length_map,List.length_map]at q
   show(pick ι σ++[none]).length=(M++[x]).length
   unfold pick;rw[List.length_append,List.length_append,List.length_map,q];rfl
theorem zq{pins:List (Addr×Obj)}{σ σ':St}{H H':Hp}{s s':Shared}{h':Heap}{ex:List Addr}{C:Addr}(I:Inv X pins σ H s)(hC:C=s.heap.objs.size)(hex:∀ b∈ex,p8 X pins H b){N:List Str}(J:Inv (blk X scope cl N C s H ex) [] σ' H' s')
  (hs:Heap.SameBut C s'.heap h'):Inv X pins σ H' { s' with heap:=h' }:=by
 subst hC
 have K:Inv X pins σ H' s':=I.JF (ch:=ex) J.os J.base J.hok J.bare fun b hb=>by
  obtain⟨_,f1,_,f3,f4,f5⟩:=hex b hb
  exact⟨f3,f1,f4,f5⟩
 refine K.turned (t':=s'.toks) (it:=s.heap.objs.size) (fun b o hb e=>(hs.2 b hb).trans e) J.free (Nat.ne_of_gt I.lt) (.inr I.sz) (fun y c e z=>?_) (fun p hp z=>?_)
 . obtain⟨v,q⟩:=I.cell y c e;exact absurd (z ▸ q.lt) (Nat.lt_irrefl _)
 . exact absurd (z ▸ Heap.lt_size (I.pin p hp).1) (Nat.lt_irrefl _)
theorem ya(elt target iter:Expr)(scope:Scope)(pos:Pos)(it acc:Value)(env:Env):
  compTurn (.ListComp elt [⟨target,iter,[],0⟩] scope pos) 0 it acc env=(do
   standAt iter.pos
   match <- pyNext it with
   |none=>pure (.done .next)
   | some v=>do
     letOwnedTupleGo target it v
     assign target env v
     (do let x <- eval elt env;let _ <- call (.builtin "list.append") [acc,x];pure ())
     again (.compLoop (.ListComp elt [⟨target,iter,[],0⟩] scope pos) 0 it acc env)):=by rfl
theorem IY{elt iter:Expr}{px pos:Pos}{wi:TI}{te:TE}(S:oy X scope cl M ι x)(hc:X.calm=true)(hi:PI X (.Name x px) iter wi)(he:∀ C s₀ H₀ ex,PE (blk X scope cl (M++[x]) C s₀ H₀ ex) elt te)
  (hs:∀ v,foldedSetIterable iter X.env v=pure v:=by intro _;rfl):PE X (.ListComp elt [⟨.Name x px,iter,[],0⟩] scope pos) (u3 wi ι te):=by
 intro pins s σ H Q I h;rw[eval_ListComp];refine wpAny_comprehension_free (use:=none) rfl hs S.clos S.kind (fun y hy hl=>?_) (wpAny_mono (hi pins s σ H _ I h) (fun v s1 h1=>wpAny_mono h1 (fun itv s2 h2=>?_) fun _ _ z=>z) fun _ _ z=>z)
 . have q:=List.all_eq_true.mp S.locs y hy;rw[hl]at q
   simpa using q
 obtain⟨it,fp,tn,J,H2,rfl,I2,T,st2,f2,hW⟩:=h2;have I3:=I2.HN (ys:=[]) (its:=[]) (t':=s2.toks) .nil (Nat.zero_le _);obtain⟨W,⟨m0,w0⟩,turn⟩:=hW s2.heap.objs.size I2.fresh
 have fpo:∀ b∈fp,b<s2.heap.objs.size:=fun b hb=>let ⟨_,e,_⟩:=T.obj _ _ st2 b hb;Heap.lt_size e
 have f3:∀ b∈fp,p8 X pins (upd H2 s2.heap.objs.size (.lst [])) b:=fun b hb=>by
  obtain⟨q0,q⟩:=f2 b hb
  exact⟨by rw[bQ (Nat.ne_of_lt (fpo b hb))];exact q0,q⟩
 show wpAny _ _ (newObj (.type "list") _ none) _ _ s2;refine wpAny_newObj_type (wpAny_newFunctionEnv (fun y hy=>?_) (by intro y hy;simp at hy) (fun h₁ hn₁ sb₁=>?_) S.kind)
 . have q:=List.all_eq_true.mp S.nocell y hy
   simpa using q
 have hsz:(s2.heap.push { cls:=.type "list",dict:=none,data:=.seq ([]:List Value).toArray }).objs.size=s2.heap.objs.size+1:=Heap.size_push ..
 have hk₁:∀ b o,(s2.heap.push { cls:=.type "list",dict:=none,data:=.seq ([]:List Value).toArray }).get? b=some o->h₁.get? b=some o:=fun b o e=>
  (sb₁.2 b (Nat.ne_of_lt (Heap.lt_size e))).trans (Heap.get?_push_of_some _ e)
 have J0:=BC (t':=s2.toks+([]:List (Str×Value)).length) S I3 (ex:=fp) (fun b hb=>⟨f3 b hb,Nat.lt_of_lt_of_le (fpo b hb) (by rw[hsz];exact Nat.le_succ _)⟩) hn₁ hk₁
 have old:∀ b∈fp,∀ o,s2.heap.get? b=some o->h₁.get? b=some o:=fun b _ o e=>hk₁ b o (Heap.get?_push_of_some _ e)
 have st₁:tn 0 h₁:=T.keep _ _ _ st2 old
 have loop:codeAny (model X.prog X.w) X.A (.compLoop (.ListComp elt [⟨.Name x px,iter,[],0⟩] scope pos) 0 (.ref it) (.ref s2.heap.objs.size) (compEnvC scope cl (s2.heap.objs.size+1) X.env))
   (compPost (model X.prog X.w) X.A X.xe none (EP X pins σ Q) (.ref s2.heap.objs.size) (s2.heap.objs.size+1)) { s2 with heap:=h₁,toks:=s2.toks+([]:List (Str×Value)).length }:=by
  rw[hsz]at J0
  refine codeAny_loop rfl (fun n s'=>∃ i H' ys v,Inv (blk X scope cl (M++[x]) (s2.heap.objs.size+1) { s2 with heap:=s2.heap.push { cls:=.type "list",data:=.seq ([]:List Value).toArray },toks:=s2.toks } (upd H2 s2.heap.objs.size (.lst [])) fp) [] (pick ι σ++[v]) H' s' /\ tn i s'.heap /\ (∀ b∈fp,H' b=none) /\ W i n ys H')
   (fun n s' hI=>?_) m0 ⟨0,_,[],none,J0,st₁,fun b hb=>(f3 b hb).1,w0⟩
  obtain⟨i,H',ys,v,J',st',fr',w'⟩:=hI;obtain⟨hD,alt⟩:=turn i n ys H' w'
  have fpY:∀{G:Hp},(∀ b∈fp,G b=none)->∀ b∈fp,p8 (blk X scope cl (M++[x]) (s2.heap.objs.size+1) { s2 with heap:=s2.heap.push { cls:=.type "list",data:=.seq ([]:List Value).toArray },toks:=s2.toks } (upd H2 s2.heap.objs.size (.lst [])) fp) [] G b:=fun hG b hb=>
   ⟨hG b hb,(J'.ok.exf b hb).1,J'.ok.exfs b hb,.inl hb,(J'.ok.exf b hb).2,fun p hp=>absurd (show p∈([]:List (Addr×Obj)) from hp) (by simp)⟩
  show wpAny _ _ ((compTurn _ 0 (.ref it) (.ref s2.heap.objs.size) (compEnvC scope cl (s2.heap.objs.size+1) X.env)).onRaise _) _ _ s';refine wpAny_noted (wpAny_noRaise ?_);rw[ya];refine wpAny_bind (wpAny_standAt (wpAny_bind ?_))
  rcases alt with⟨stop,qn⟩|⟨go,step⟩
  . refine thn (T.done (blk X scope cl (M++[x]) (s2.heap.objs.size+1) _ _ fp) rfl rfl rfl hc i [] s' _ H' _ J' (fpY fr') st' stop) fun r s4 ⟨hr,J4⟩=>?_
    subst hr;refine wpAny_pure ?_;obtain⟨m,hm,_⟩:=id J4.loc
    refine⟨m,hm,fun h' sb=>⟨.ref s2.heap.objs.size,H',zq I3 hsz.symm f3 J4 sb,rfl,qn⟩⟩
  . refine thn (T.item (blk X scope cl (M++[x]) (s2.heap.objs.size+1) _ _ fp) rfl rfl rfl hc i [] s' _ H' _ J' (fpY fr') st' go) fun r s4 ⟨u,hr,h4⟩=>?_
    subst hr;refine wpAny_bind (thn h4 fun _ s5 ⟨z,H5,J5,r5,y5,st5,fr5⟩=>?_)
    have J5':=J5.pinned (fpY fr5) (T.obj _ _ st5)
    have hxN:(M++[x])[M.length]?=some x:=by simp
    refine wpAny_bind ?_;refine wpAny_assign_Name ?_;refine mH (X:=blk X scope cl (M++[x]) (s2.heap.objs.size+1) _ _ fp) (i:=M.length) (v:=z) J5' S.nd hxN (.inl (lookup_relabel_local S.var)) r5 (fun s6 J6=>?_) (.inr (lookup_relabel_local S.var))
    have hlp:(pick ι σ).length=M.length:=by
     have q:=congrArg List.length S.names;rw[List.length_map,List.length_map]at q;unfold pick;rw[List.length_map,q]
    have hset:(pick ι σ++[v]).set M.length (some z)=pick ι σ++[some z]:=by
     rw[<- hlp,List.set_append_right _ _ (Nat.le_refl _),Nat.sub_self];rfl
    rw[hset]at J6;refine wpAny_bind (wpAny_bind (thn (he _ _ _ _ _ s6 _ H5 _ J6 (step z H5 y5)) fun yv s7 ⟨y,H7,J7,r7,hD7,hz7,m',hm',w7⟩=>?_));refine wpAny_bind (thn (b7 (X:=blk X scope cl (M++[x]) (s2.heap.objs.size+1) _ _ fp) _ s7 _ H7 (.ref s2.heap.objs.size) [y] (.ref s2.heap.objs.size) [yv] (fun _ G=>G=upd H7 s2.heap.objs.size (.lst (ys++[y]))) J7 rfl (.cons r7 .nil) ⟨_,_,y,rfl,rfl,hD7,hz7,rfl⟩) fun _ s8 ⟨_,H8,J8,_,e8⟩=>?_);subst e8;refine wpAny_pure (wpAny_pure ⟨rfl,m',hm',i+1,_,_,some z,J8.kK,?_,fun b hb=>?_,w7⟩)
    . exact T.keep _ _ _ st5 fun b hb o e=>(J8.pin (b,o) (List.mem_append_right _ (List.mem_append_right _ (eX hb e)))).1
    . obtain⟨o,e,d⟩:=T.obj _ _ st5 b hb
      exact(J8.pin (b,o) (List.mem_append_right _ (List.mem_append_right _ (eX hb e)))).2.1
 rw[hsz]at *;exact codeAny_compStart_list loop (T.self X.A 0 _ _ _ st₁ loop)
end
section
variable{X:Cx}
def IsV(K:PySem.W.Frag)(T:String)(x:V)(H:Hp)(b:Bool):Prop:=match x with
 |.int _=>(T = "int" /\ b=true) \/ (T = "bool" /\ b=false) \/ (T = "list" /\ b=false) \/ (T = "tuple" /\ b=false) \/ (T = "str" /\ b=false)
 |.bl _=>(T = "int" /\ b=true) \/ (T = "bool" /\ b=true) \/ (T = "list" /\ b=false) \/ (T = "tuple" /\ b=false) \/ (T = "str" /\ b=false)
 |.non=>(T = "int" /\ b=false) \/ (T = "bool" /\ b=false) \/ (T = "list" /\ b=false) \/ (T = "tuple" /\ b=false) \/ (T = "str" /\ b=false)
 |.str _=>(T = "int" /\ b=false) \/ (T = "bool" /\ b=false) \/ (T = "list" /\ b=false) \/ (T = "tuple" /\ b=false) \/ (T = "str" /\ b=true)
 | .ref p=>((∃ xs,SqL K H p xs) /\ ((T = "int" /\ b = false) \/ (T = "bool" /\ b = false) \/ (T = "list" /\ b = true) \/ (T = "tuple" /\ b = false) \/ (T = "str" /\ b = false))) \/
    ((∃ xs,SqT K H p xs) /\ ((T = "int" /\ b=false) \/ (T = "bool" /\ b=false) \/ (T = "list" /\ b=false) \/ (T = "tuple" /\ b=true) \/ (T = "str" /\ b=false)))
 |_=>False
theorem nX:n4 X (.builtin "isinstance") (fun xs H Q=>∃ x T b,xs=[x,.ty T] /\ IsV X.K T x H b /\ Q (.bl b) H):=by
 intro pins s σ H vs us Q I rv h;obtain⟨x,T,b,rfl,hv,q⟩:=h;obtain⟨u,v,rfl,ru,rT⟩:=rv.two;cases rT
 cases x with
 | int i=>
   obtain⟨t,rfl⟩:=ru
   rcases hv with⟨rfl,rfl⟩|⟨rfl,rfl⟩|⟨rfl,rfl⟩|⟨rfl,rfl⟩|⟨rfl,rfl⟩
   . exact IsiPair.int_int ⟨.bl _,H,I,rfl,q⟩
   . exact IsiPair.int_bool ⟨.bl _,H,I.tok _,rfl,q⟩
   . exact IsiPair.int_list ⟨.bl _,H,I.tok _,rfl,q⟩
   . exact IsiPair.int_tuple ⟨.bl _,H,I.tok _,rfl,q⟩
   . exact IsiPair.int_str ⟨.bl _,H,I.tok _,rfl,q⟩
 | bl i=>
   cases ru
   rcases hv with⟨rfl,rfl⟩|⟨rfl,rfl⟩|⟨rfl,rfl⟩|⟨rfl,rfl⟩|⟨rfl,rfl⟩
   . exact IsiPair.bool_int ⟨.bl _,H,I,rfl,q⟩
   . exact IsiPair.bool_bool ⟨.bl _,H,I,rfl,q⟩
   . exact IsiPair.bool_list ⟨.bl _,H,I.tok _,rfl,q⟩
   . exact IsiPair.bool_tuple ⟨.bl _,H,I.tok _,rfl,q⟩
   . exact IsiPair.bool_str ⟨.bl _,H,I.tok _,rfl,q⟩
 | non=>
   cases ru
   rcases hv with⟨rfl,rfl⟩|⟨rfl,rfl⟩|⟨rfl,rfl⟩|⟨rfl,rfl⟩|⟨rfl,rfl⟩
   . exact IsiPair.NoneType_int ⟨.bl _,H,I.tok _,rfl,q⟩
   . exact IsiPair.NoneType_bool ⟨.bl _,H,I.tok _,rfl,q⟩
   . exact IsiPair.NoneType_list ⟨.bl _,H,I.tok _,rfl,q⟩
   . exact IsiPair.NoneType_tuple ⟨.bl _,H,I.tok _,rfl,q⟩
   . exact IsiPair.NoneType_str ⟨.bl _,H,I.tok _,rfl,q⟩
 | str i=>
   obtain⟨t,rfl⟩:=ru
   rcases hv with⟨rfl,rfl⟩|⟨rfl,rfl⟩|⟨rfl,rfl⟩|⟨rfl,rfl⟩|⟨rfl,rfl⟩
   . exact IsiPair.str_int ⟨.bl _,H,I.tok _,rfl,q⟩
   . exact IsiPair.str_bool ⟨.bl _,H,I.tok _,rfl,q⟩
   . exact IsiPair.str_list ⟨.bl _,H,I.tok _,rfl,q⟩
   . exact IsiPair.str_tuple ⟨.bl _,H,I.tok _,rfl,q⟩
   . exact IsiPair.str_str ⟨.bl _,H,I,rfl,q⟩
 | ref p=>
   cases ru
   rcases hv with⟨⟨xs,hS⟩,hv⟩|⟨⟨xs,hS⟩,hv⟩
   . obtain⟨its,r,pl,hz⟩:=I.list hS;obtain⟨o,e,c,_⟩:=pl.isList
     rcases hv with⟨rfl,rfl⟩|⟨rfl,rfl⟩|⟨rfl,rfl⟩|⟨rfl,rfl⟩|⟨rfl,rfl⟩
     . exact IsiPair.list_int e c ⟨.bl _,H,I.tok _,rfl,q⟩
     . exact IsiPair.list_bool e c ⟨.bl _,H,I.tok _,rfl,q⟩
     . exact IsiPair.list_list e c ⟨.bl _,H,I,rfl,q⟩
     . exact IsiPair.list_tuple e c ⟨.bl _,H,I.tok _,rfl,q⟩
     . exact IsiPair.list_str e c ⟨.bl _,H,I.tok _,rfl,q⟩
   . obtain⟨its,r,pl,hz⟩:=I.tuple hS;obtain⟨o,e,c,_⟩:=pl
     rcases hv with⟨rfl,rfl⟩|⟨rfl,rfl⟩|⟨rfl,rfl⟩|⟨rfl,rfl⟩|⟨rfl,rfl⟩
     . exact IsiPair.tuple_int e c ⟨.bl _,H,I.tok _,rfl,q⟩
     . exact IsiPair.tuple_bool e c ⟨.bl _,H,I.tok _,rfl,q⟩
     . exact IsiPair.tuple_list e c ⟨.bl _,H,I.tok _,rfl,q⟩
     . exact IsiPair.tuple_tuple e c ⟨.bl _,H,I,rfl,q⟩
     . exact IsiPair.tuple_str e c ⟨.bl _,H,I.tok _,rfl,q⟩
 |_=>exact hv.elim
theorem boot_bool:bootBuiltins "bool" = some (.type "bool"):=by decide +kernel
theorem boot_isinstance:bootBuiltins "isinstance" = some (.builtin "isinstance"):=by decide +kernel
theorem boot_all:bootBuiltins "all" = some (.builtin "all"):=by decide +kernel
theorem boot_tuple:bootBuiltins "tuple" = some (.type "tuple"):=by decide +kernel
theorem boot_list:bootBuiltins "list" = some (.type "list"):=by decide +kernel
theorem boot_int:bootBuiltins "int" = some (.type "int"):=by decide +kernel
theorem boot_str:bootBuiltins "str" = some (.type "str"):=by decide +kernel
theorem boot_len:bootBuiltins "len" = some (.builtin "len"):=by decide +kernel
end
section
variable{P:Program}{w:World}{K:PySem.W.Frag}{mg:Str->Option Value}{base:Heap}
theorem okX{x qual:Str}{st:Stmt}{f:Addr}{fd:FuncData}{N ps:List Str}{k:Nat}{sp:Sp}(F:Fun K x qual st f fd)(S:aU N ps (aA st))(len:∀ vs H Q E,sp vs H Q E->vs.length=ps.length)
  (hbody:∀(cdv:Value) (A:Around) (outer:List Env) (s:Shared) (H:Hp) (vs:List V) (Q:VK) (E:XK),iM k (A.deeper (envOfC qual (aA st) s.heap.objs.size f cdv))->sp vs H Q E ->
    ∃ t,PSs (uk (CXE P w) P w K mg base N qual (aA st) f cdv A outer s H E) (dO st) t /\ t { nx:=fun _ H'=>Q .non H',rt:=Q } (start N vs) H):cx P w K mg base (CXE P w) (k+1) f fd ps sp:=by
 obtain⟨oc,od,kV,doc,pm,an,cdv,ct,osl,rfl,lk,hcd⟩:=F.ex
 exact Nl lk hcd S len fun A outer s H vs Q E hr hsp=>hbody cdv A outer s H vs Q E hr hsp
end
theorem SqL.new{K:PySem.W.Frag}{H:Hp}{p:Addr}{xs:List V}(h:H p=some (.lst xs)):SqL K H p xs:=.inl (.inl h)
theorem SqT.new{K:PySem.W.Frag}{H:Hp}{p:Addr}{xs:List V}(h:H p=some (.tup xs)):SqT K H p xs:=.inl (.inl h)
theorem Hr{H:Hp}{p q:Addr}{o:HO}(h:H q=some o)(n:H p=none):q≠p:=fun z=>by rw[z,n]at h;cases h
theorem _root_.L2.aK.upd{H H':Hp}{p:Addr}{o:HO}(e:aK H H')(n:H p=none):aK H (upd H' p o):=fun b u h=>by
 rw[bQ (Hr h n)];exact e b u h
theorem _root_.L2.aK.new{H:Hp}{p:Addr}{o:HO}(n:H p=none):aK H (L2.upd H p o):=(aK.refl H).upd n
abbrev Goes(H:Hp)(E:XK)(C:Addr)(dx:Option Addr):Prop:=∀ H' a,aK H H'->H' a=some (AH a C dx)->E (.ref C) (some a) H'
section
variable{X:Cx}
def JM(K:PySem.W.Frag):R2:=fun x y H Q=>∃ l b xs zs,x=.ref l /\ y=.ref b /\ SqL K H l xs /\ SqL K H b zs /\ xs.length+zs.length<=sizeLine /\ ∀ p,H p=none->Q (.ref p) (upd H p (.lst (xs++zs)))
theorem gw:OpR X (binaryOp .Add) (JM X.K):=by
 intro pins s σ H x y v u Q I rx ry h;obtain⟨l,b,xs,zs,rfl,rfl,hH,hB,hz,q⟩:=h;cases rx;cases ry;obtain⟨its,r,pl,_⟩:=I.list hH;obtain⟨its2,r2,pl2,_⟩:=I.list hB;obtain⟨⟨cls,dd,data,sl⟩,ho,hc,n,hd⟩:=pl.isList;obtain⟨⟨cls2,dd2,data2,sl2⟩,ho2,hc2,n2,hd2⟩:=pl2.isList;simp only at hc hd hc2 hd2;subst hc hd hc2 hd2
 have hsz:its.toArray.size+its2.toArray.size<=sizeLine:=by rw[List.size_toArray,List.size_toArray,<- r.length,<- r2.length];exact hz
 refine concat_meets ⟨_,ho,rfl⟩ ⟨_,ho2,rfl⟩ noFill_list_add seq_list_add PySem.F.slot_list_add PySem.F.entry_list_add (PySem.F.args_list_add_2 _ _) (list_addW l b its.toArray its2.toArray n n2 dd dd2 sl sl2 hsz) ⟨ho,ho2,?_⟩
 have ea:its.toArray++its2.toArray=(its++its2).toArray:=by simp
 rw[ea]
 exact⟨.ref _,_,I.HN (t':=s.toks) (r.append r2) (by rw[List.length_append];exact hz),rfl,q _ I.fresh⟩
theorem Dk:n4 X (.builtin "all") (fun xs H Q=>∃(p:Addr) (bs:List Bool),xs=[.ref p] /\ SqL X.K H p (bs.map V.bl) /\ X.A.handled=none /\ Q (.bl (bs.all id)) H):=by
 intro pins s σ H vs us Q I rv h;obtain⟨p,bs,rfl,hp,hh,q⟩:=h;obtain⟨u,rfl,ru⟩:=rv.one;cases ru;obtain⟨its,r,pl,_⟩:=I.list hp;have hl:=r.length
 have isl:s.heap.IsList p its.toArray:=pl.isList
 obtain⟨o,e,_⟩:=id isl;refine call_all_walk (wpAny_pyIter_list isl ?_)
 have ne:p≠s.heap.objs.size:=Nat.ne_of_lt (Heap.lt_size e)
 have tv:∀(i:Nat) (v:Value),its.toArray[i]?=some v->∃ b,bs[i]?=some b /\ v=Value.bool b:=fun i v hv=>by
  have hv':its[i]?=some v:=by simpa using hv
  have hi:i<its.length:=(List.getElem?_eq_some_iff.mp hv').1
  rw[<- hl,List.length_map]at hi
  have hx:(bs.map V.bl)[i]?=some (V.bl bs[i]):=by simp[hi]
  obtain⟨u,hu,ru⟩:=r.get hx;rw[hv']at hu;cases hu
  exact⟨bs[i],by simp[hi],ru⟩
 refine⟨s.heap.objs.size,_,_,_,_,_,(fun i=>(bs[i]?).getD false),rfl,Walks.list (A:=X.A.in1) hh s.heap.objs.size p ne its.toArray,⟨⟨_,Heap.get?_push_size _ rfl,rfl,rfl⟩,isl.at fun o e=>Heap.get?_push_of_some _ e⟩,fun i v s' Q' E' hP hQ=>?_,fun h' tk hk=>?_⟩
 . obtain⟨b,hb,rfl⟩:=tv i v hP
   have hQ':Q' ((bs[i]?).getD false) s':=hQ
   rw[hb]at hQ';exact wpAny_truthy_bool hQ'
 . have en:its.toArray.size=bs.length:=by rw[List.size_toArray,<- hl,List.length_map]
   have eb:(List.range its.toArray.size).all (fun i=>(bs[i]?).getD false)=bs.all id:=by
    rw[en];rw[Bool.eq_iff_iff,List.all_eq_true,List.all_eq_true];constructor
    . intro hA b hb;obtain⟨i,hi,rfl⟩:=List.mem_iff_getElem.mp hb;have:=hA i (by simpa using hi)
      simpa [hi]using this
    . intro hA i hi
      have hi':i<bs.length:=by simpa using hi
      have:=hA bs[i] (List.getElem_mem hi')
      simpa [hi']using this
   rw[eb]
   refine⟨.bl _,H,I.kept (h':=h') (t':=tk) fun b o e'=>hk b o ?_ (Heap.get?_push_of_some _ e'),rfl,q⟩
   have lt:=Heap.lt_size e';intro z
   have z':b=s.heap.objs.size:=by simpa using z
   exact absurd (z' ▸ lt) (Nat.lt_irrefl _)
end
def isStar:Expr->Bool
 |.Starred ..=>true
 |_=>false
theorem DE{e:Expr}{es:List Expr}{env:Env}(h:isStar e=false):starEach (e ::es) env=(false,eval e env) ::starEach es env:=by
 cases e<;>first|rfl|cases h
theorem Fq{X:Cx}{e:Expr}{es:List Expr}{te:TE}{t:TA}(ha:PE X e te)(hr:PA X es t)(hs:isStar e=false:=by rfl):PA X (e ::es) (jN te t):=HW ha hr (DE hs)
end L2.E
namespace L2.P
open PySem
def ixP(n:Nat)(i:Int):Option Nat:=if 0<=i then(if i<n then some i.toNat else none)else if -(n:Int)<=i then some (i+n).toNat else none
def atP{α:Type}(xs:List α)(i:Int):Option α:=(ixP xs.length i).bind fun j=>xs[j]?
def BM(n d:Nat):Option Int->Nat
 |none=>d
 |some v=>if v<0 then(v+(n:Int)).toNat else min v.toNat n
inductive PV where
 |non|bl (b:Bool)|int (i:Int)|str (s:Str)|lst (xs:List PV)|tup (xs:List PV)
inductive OV where
 | sh (x:PV)|ol (ts:List OV)|ob (c:String) (ks:List Str) (ts:List OV)
   |di (kvs:List (Int×PV))|dt (kvs:List (List Int×PV))
inductive Sl where
 | sh (x:PV)|ow (xs:List PV)|ex (c:String) (fs:List (Str×PV))
   |tr (io:Bool) (t:OV)|bo (t:OV)
abbrev ag:=List (Option Sl)
inductive RV where
 |sh (x:PV)|fr (xs:List PV)|al (xs:List PV)
def RV.pv:RV->PV
 |.sh x=>x
 |.fr xs=>.lst xs
 |.al xs=>.lst xs
abbrev XF:=List (Str×PV)
inductive OE where
 |ok (r:RV)|exc (c:String) (fs:XF)|bad
inductive OT where
 |ok (b:Bool)|exc (c:String) (fs:XF)|bad
inductive OA where
 |ok (xs:List PV)|exc (c:String) (fs:XF)|bad
inductive OS where
 |nx (ρ:ag)|rt (ρ:ag) (r:RV)|bk (ρ:ag)|ct (ρ:ag)|exc (ρ:ag) (c:String) (fs:XF)|bad
def OE.bind:OE->(RV->OE)->OE
 |.ok r,f=>f r
 |.exc c fs,_=>.exc c fs
 |.bad,_=>.bad
def OE.gD:OE->(RV->OT)->OT
 |.ok r,f=>f r
 |.exc c fs,_=>.exc c fs
 |.bad,_=>.bad
def OE.fX:OE->(RV->OA)->OA
 |.ok r,f=>f r
 |.exc c fs,_=>.exc c fs
 |.bad,_=>.bad
def OE.cy(ρ:ag):OE->(RV->OS)->OS
 |.ok r,f=>f r
 |.exc c fs,_=>.exc ρ c fs
 |.bad,_=>.bad
def OT.bind:OT->(Bool->OE)->OE
 |.ok r,f=>f r
 |.exc c fs,_=>.exc c fs
 |.bad,_=>.bad
def OT.gD:OT->(Bool->OT)->OT
 |.ok r,f=>f r
 |.exc c fs,_=>.exc c fs
 |.bad,_=>.bad
def OT.cy(ρ:ag):OT->(Bool->OS)->OS
 |.ok r,f=>f r
 |.exc c fs,_=>.exc ρ c fs
 |.bad,_=>.bad
def OA.bind:OA->(List PV->OE)->OE
 |.ok r,f=>f r
 |.exc c fs,_=>.exc c fs
 |.bad,_=>.bad
def OA.fX:OA->(List PV->OA)->OA
 |.ok r,f=>f r
 |.exc c fs,_=>.exc c fs
 |.bad,_=>.bad
def OA.cy(ρ:ag):OA->(List PV->OS)->OS
 |.ok r,f=>f r
 |.exc c fs,_=>.exc ρ c fs
 |.bad,_=>.bad
def ao(i:Nat):ag->OE:=fun ρ=>match ρ[i]? with
 |some (some (.sh x))=>.ok (.sh x)
 |some (some (.ow xs))=>.ok (.al xs)
 |_=>.bad
def mC(x:PV):ag->OE:=fun _=>.ok (.sh x)
def oE:Option RV->OE
 |some r=>.ok r
 |none=>.bad
def mOp(g:PV->PV->Option RV)(ma mb:ag->OE):ag->OE:=fun ρ=>(ma ρ).bind fun a=>(mb ρ).bind fun b=>oE (g a.pv b.pv)
def gI(C:Int->Int->Bool)(f:Int->Int->PV):PV->PV->Option RV
 |.int i,.int j=>if C i j then some (.sh (f i j))else none
 |_,_=>none
def dU:=gI (fun _ _=>true) fun i j=>.int (i+j)
def xo:=gI (fun _ _=>true) fun i j=>.int (i - j)
def AF:=gI (fun i j=>(decide (-(2 ^ 64)<i)&&decide (i<2 ^ 64))||(decide (-(2 ^ 64)<j)&&decide (j<2 ^ 64))) fun i j=>.int (i*j)
def dH:=gI (fun _ j=>decide (0<j)&&decide (j<1073741824)) fun i j=>.int (i/j)
def cH:=gI (fun _ j=>decide (0<j)) fun i j=>.int (i%j)
def gLt:=gI (fun _ _=>true) fun i j=>.bl (decide (i<j))
def gLe:=gI (fun _ _=>true) fun i j=>.bl (decide (i<=j))
def gGt:=gI (fun _ _=>true) fun i j=>.bl (decide (j<i))
def gGe:=gI (fun _ _=>true) fun i j=>.bl (decide (j<=i))
def eqS:PV->PV->Option Bool
 |.non,.non=>some true|.non,.int _=>some false|.int _,.non=>some false|.non,.bl _=>some false|.bl _,.non=>some false|.non,.str _=>some false|.str _,.non=>some false
 |.int a,.int b=>some (decide (a=b))|.bl a,.bl b=>some (decide (a=b))|.str a,.str b=>some (decide (a=b))
 |.int _,.str _=>some false|.str _,.int _=>some false|.bl _,.str _=>some false|.str _,.bl _=>some false
 |_,_=>none
def gEq:PV->PV->Option RV:=fun x y=>(eqS x y).map fun b=>.sh (.bl b)
def gNe:PV->PV->Option RV:=fun x y=>(eqS x y).map fun b=>.sh (.bl (!b))
def mM:RV->Option PV
 |.sh x=>some x
 |.fr xs=>some (.lst xs)
 |.al _=>none
def aJ:ag->OA:=fun _=>.ok []
def ak(me:ag->OE)(mr:ag->OA):ag->OA:=fun ρ=>(me ρ).fX fun r=>match mM r with
 |some x=>(mr ρ).fX fun xs=>.ok (x ::xs)
 |none=>.bad
def lim:Nat:=16777216
def b5(ma:ag->OA):ag->OE:=fun ρ=>(ma ρ).bind fun xs=>if xs.length<=lim then .ok (.fr xs)else .bad
def fh(ma:ag->OA):ag->OE:=fun ρ=>(ma ρ).bind fun xs=>if xs.length<=lim then .ok (.sh (.tup xs))else .bad
def bp(f:List PV->OE)(ma:ag->OA):ag->OE:=fun ρ=>(ma ρ).bind f
def mUn(g:PV->Option RV)(ma:ag->OE):ag->OE:=fun ρ=>(ma ρ).bind fun a=>oE (g a.pv)
def gU:PV->Option RV
 |.int i=>some (.sh (.int (-i)))
 |_=>none
def mK:PV->Option RV
 |.lst xs=>some (.sh (.int xs.length))
 |.tup xs=>some (.sh (.int xs.length))
 |_=>none
def Ax:PV->Option RV
 |.int i=>some (.sh (.int i))
 |.bl b=>some (.sh (.int (if b then 1 else 0)))
 |_=>none
def sY:PV->Option RV
 |.lst xs=>some (.fr xs)
 |.tup xs=>some (.fr xs)
 |_=>none
def gN:PV->PV->Option RV
 |.lst xs,.int i=>(atP xs i).map .sh
 |_,_=>none
def eT:PV->PV->Option RV
 |.tup xs,.int i=>(atP xs i).map .sh
 |_,_=>none
def nu:PV->PV->Option RV
 |.lst xs,.lst ys=>if xs.length+ys.length<=lim then some (.fr (xs++ys))else none
 |_,_=>none
def tQ:List PV->Option (List Bool)
 |[]=>some []
 |.bl i ::r=>(tQ r).map (i ::·)
 |_ ::_=>none
def IX:PV->Option RV
 |.lst xs=>(tQ xs).map fun bs=>.sh (.bl (bs.all id))
 |_=>none
def isP(T:String):PV->Option Bool
 |.int _=>if T = "int" then some true else if T = "bool" \/ T = "list" \/ T = "tuple" \/ T = "str" then some false else none
 |.bl _=>if T = "int" \/ T = "bool" then some true else if T = "list" \/ T = "tuple" \/ T = "str" then some false else none
 |.non=>if T = "int" \/ T = "bool" \/ T = "list" \/ T = "tuple" \/ T = "str" then some false else none
 |.str _=>if T = "str" then some true else if T = "int" \/ T = "bool" \/ T = "list" \/ T = "tuple" then some false else none
 |.lst _=>if T = "list" then some true else if T = "int" \/ T = "bool" \/ T = "tuple" \/ T = "str" then some false else none
 |.tup _=>if T = "tuple" then some true else if T = "int" \/ T = "bool" \/ T = "list" \/ T = "str" then some false else none
def mIs(T:String)(ma:ag->OE):ag->OE:=mUn (fun x=>(isP T x).map fun b=>.sh (.bl b)) ma
def vj:PV->Option Bool
 |.non=>some false
 |.bl b=>some b
 |.int i=>some (i != 0)
 |.lst xs=>some (!xs.isEmpty)
 |.tup xs=>some (!xs.isEmpty)
 |.str _=>none
def oT:Option Bool->OT
 |some b=>.ok b
 |none=>.bad
def cU(ma:ag->OE):ag->OT:=fun ρ=>(ma ρ).gD fun r=>oT (vj r.pv)
def aB(ma:ag->OE):ag->OT:=fun ρ=>(ma ρ).gD fun r=>match r.pv with
 |.bl b=>.ok b
 |_=>.bad
def pz(m:ag->OT):ag->OT:=fun ρ=>(m ρ).gD fun b=>.ok (!b)
def fw(m n:ag->OT):ag->OT:=fun ρ=>(m ρ).gD fun b=>if b=true then n ρ else .ok false
def mL(m n:ag->OT):ag->OT:=fun ρ=>(m ρ).gD fun b=>if b=true then .ok true else n ρ
def xR(m n:ag->OE):ag->OE:=fun ρ=>(m ρ).bind fun r=>match r.pv with
 |.bl b=>if b=true then n ρ else .ok (.sh (.bl false))
 |_=>.bad
def Ft(m:ag->OE):ag->OE:=fun ρ=>(m ρ).bind fun r=>match r.pv with
 |.bl b=>.ok (.sh (.bl (!b)))
 |_=>.bad
def gH(c:ag->OT)(m n:ag->OE):ag->OE:=fun ρ=>(c ρ).bind fun b=>if b=true then m ρ else n ρ
def nz(g g':PV->PV->Option RV)(ma mb mc:ag->OE):ag->OE:=fun ρ=>(ma ρ).bind fun a=>(mb ρ).bind fun b=>(oE (g a.pv b.pv)).bind fun r=>match r.pv with
 |.bl k=>if k=true then(mc ρ).bind fun c=>oE (g' b.pv c.pv)else .ok (.sh (.bl false))
 |_=>.bad
def OS.andThen:OS->(ag->OS)->OS
 |.nx ρ,k=>k ρ
 |o,_=>o
def OS.turn:OS->(ag->OS)->OS
 |.nx ρ,k=>k ρ
 |.ct ρ,k=>k ρ
 |.bk ρ,_=>.nx ρ
 |o,_=>o
def aG(a b:ag->OS):ag->OS:=fun ρ=>(a ρ).andThen b
def aS:ag->OS:=fun ρ=>.nx ρ
def Gj:RV->Option Sl
 |.sh x=>some (.sh x)
 |.fr xs=>some (.ow xs)
 |.al _=>none
def bq(i:Nat)(me:ag->OE):ag->OS:=fun ρ=>(me ρ).cy ρ fun r=>match Gj r with
 |some s=>.nx (ρ.set i (some s))
 |none=>.bad
def bc(c:ag->OT)(m n:ag->OS):ag->OS:=fun ρ=>(c ρ).cy ρ fun b=>if b=true then m ρ else n ρ
def bf(me:ag->OE):ag->OS:=fun ρ=>(me ρ).cy ρ fun r=>match r with
 |.al _=>.bad
 |r=>.rt ρ r
def gj(i:Nat):ag->OS:=fun ρ=>match ρ[i]? with
 |some (some (.sh x))=>.rt ρ (.sh x)
 |some (some (.ow xs))=>.rt (ρ.set i none) (.fr xs)
 |_=>.bad
def Ff(me:ag->OE):ag->OS:=fun ρ=>(me ρ).cy ρ fun _=>.nx ρ
def lD(i:Nat)(ρ:ag):ag:=match ρ[i]? with
 |some (some (.ow xs))=>ρ.set i (some (.sh (.lst xs)))
 |_=>ρ
def eE(i:Nat)(me:ag->OE):ag->OS:=fun ρ=>match ρ[i]? with
 | some (some (.ow xs))=>(me ρ).cy ρ fun r=>match mM r with
   |some y=>if xs.length<lim then .nx (ρ.set i (some (.ow (xs++[y]))))else .bad
   |none=>.bad
 |_=>.bad
def jB(i:Nat)(mb:ag->OS):List PV->ag->OS
 |[],ρ=>.nx ρ
 |x ::xs,ρ=>(mb (ρ.set i (some (.sh x)))).turn (jB i mb xs)
def Bs:RV->Option (List PV)
 |.sh (.lst xs)=>some xs
 |.fr xs=>some xs
 |_=>none
def uV(i:Nat)(ml:ag->OE)(mb:ag->OS):ag->OS:=fun ρ=>(ml ρ).cy ρ fun r=>match Bs r with
 |some xs=>jB i mb xs ρ
 |none=>.bad
def cT(n:Nat):List PV:=(List.range n).map fun k:Nat=>PV.int (k:Int)
def tF(i:Nat)(me:ag->OE)(mb:ag->OS):ag->OS:=fun ρ=>(me ρ).cy ρ fun r=>match r.pv with
 |.int j=>if -(2 ^ 62)<=j /\ j<2 ^ 62 then jB i mb (cT j.toNat) ρ else .bad
 |_=>.bad
def bX(mc:ag->OT)(mb:ag->OS):Nat->ag->OS
 |0,_=>.bad
 |n+1,ρ=>(mc ρ).cy ρ fun b=>if b=true then(mb ρ).turn (bX mc mb n)else .nx ρ
def wu:PV->Option Int
 |.int i=>some i
 |_=>none
def CV(m:ag->OE):ag->OE:=fun ρ=>(m ρ).bind fun r=>match r.pv with
 |.int i=>.ok (.sh (.int i))
 |_=>.bad
def EC(xs:List PV)(lo hi:Option Int):List PV:=(xs.drop (BM xs.length 0 lo)).take (BM xs.length xs.length hi - BM xs.length 0 lo)
def L1(x:PV)(lo hi:Option Int):Option RV:=match x with
 |.lst xs=>some (.fr (EC xs lo hi))
 |_=>none
def HB(ma ml mh:ag->OE):ag->OE:=fun ρ=>(ma ρ).bind fun a=>(ml ρ).bind fun l=>(mh ρ).bind fun h=>oE (L1 a.pv (wu l.pv) (wu h.pv))
def dw(ι:List Nat)(ρ:ag):ag:=ι.map fun i=>(ρ[i]?).join
def da(me:ag->OE)(ρ:ag):List PV->OA
 |[]=>.ok []
 | x ::xs=>(me (ρ++[some (.sh x)])).fX fun r=>match mM r with
   |some y=>(da me ρ xs).fX fun ys=>.ok (y ::ys)
   |none=>.bad
def noX:OA->OE
 |.ok xs=>if xs.length<=lim then .ok (.fr xs)else .bad
 |_=>.bad
def ue(ml:ag->OE)(ι:List Nat)(me:ag->OE):ag->OE:=fun ρ=>(ml ρ).bind fun r=>match r.pv with
 |.lst xs=>noX (da me (dw ι ρ) xs)
 |_=>.bad
def wD(mn:ag->OE)(ι:List Nat)(me:ag->OE):ag->OE:=fun ρ=>(mn ρ).bind fun r=>match r.pv with
 |.int j=>if -(2 ^ 62)<=j /\ j<2 ^ 62 then noX (da me (dw ι ρ) (cT j.toNat))else .bad
 |_=>.bad
def fin:OS->OE
 |.nx _=>.ok (.sh .non)
 |.rt _ (.al _)=>.bad
 |.rt _ r=>.ok r
 |.exc _ c fs=>.exc c fs
 |_=>.bad
def mq(n:Nat)(xs:List PV):ag:=xs.map (fun x=>some (.sh x))++List.replicate (n - xs.length) none
def fnP(np n:Nat)(m:ag->OS):List PV->OE:=fun xs=>if xs.length=np then fin (m (mq n xs))else .bad
def fuel:Nat:=100000
def iB(i:Nat)(m:ag->OS):ag->OS:=fun ρ=>m (lD i ρ)
def xq(i:Nat)(g:PV->PV->Option RV)(me:ag->OE):ag->OS:=fun ρ=>match ρ[i]? with
 | some (some (.sh x))=>(me ρ).cy ρ fun r=>match g x r.pv with
   |some (.sh z)=>.nx (ρ.set i (some (.sh z)))
   |_=>.bad
 |_=>.bad
def cF:PV->Bool
 |.non=>true
 |_=>false
def Ai:PV->PV->Option RV
 |x,.non=>some (.sh (.bl (cF x)))
 |_,_=>none
def xA:PV->PV->Option RV
 |x,.non=>some (.sh (.bl (!cF x)))
 |_,_=>none
@[simp] theorem BH(i:Nat)(ρ:ag):ao i ρ=(match ρ[i]? with
  |some (some (.sh x))=>.ok (.sh x)
  |some (some (.ow xs))=>.ok (.al xs)
  |_=>.bad):=rfl
@[simp] theorem Jy(g:PV->PV->Option RV)(ma mb:ag->OE)(ρ:ag):mOp g ma mb ρ=((ma ρ).bind fun a=>(mb ρ).bind fun b=>oE (g a.pv b.pv)):=rfl
@[simp] theorem Nr(me:ag->OE)(mr:ag->OA)(ρ:ag):ak me mr ρ=((me ρ).fX fun r=>match mM r with
  |some x=>(mr ρ).fX fun xs=>.ok (x ::xs)
  |none=>.bad):=rfl
@[simp] theorem Ov(ma:ag->OA)(ρ:ag):b5 ma ρ=((ma ρ).bind fun xs=>if xs.length<=lim then .ok (.fr xs)else .bad):=rfl
@[simp] theorem OG(ma:ag->OA)(ρ:ag):fh ma ρ=((ma ρ).bind fun xs=>if xs.length<=lim then .ok (.sh (.tup xs))else .bad):=rfl
@[simp] theorem NF(f:List PV->OE)(ma:ag->OA)(ρ:ag):bp f ma ρ=((ma ρ).bind f):=rfl
@[simp] theorem E2(g:PV->Option RV)(ma:ag->OE)(ρ:ag):mUn g ma ρ=((ma ρ).bind fun a=>oE (g a.pv)):=rfl
@[simp] theorem FO(ma:ag->OE)(ρ:ag):cU ma ρ=((ma ρ).gD fun r=>oT (vj r.pv)):=rfl
@[simp] theorem G7(ma:ag->OE)(ρ:ag):aB ma ρ=((ma ρ).gD fun r=>match r.pv with
  |.bl b=>.ok b
  |_=>.bad):=rfl
@[simp] theorem NI(m:ag->OT)(ρ:ag):pz m ρ=((m ρ).gD fun b=>.ok (!b)):=rfl
@[simp] theorem G3(m n:ag->OT)(ρ:ag):fw m n ρ=((m ρ).gD fun b=>if b=true then n ρ else .ok false):=rfl
@[simp] theorem Oz(m n:ag->OT)(ρ:ag):mL m n ρ=((m ρ).gD fun b=>if b=true then .ok true else n ρ):=rfl
@[simp] theorem NA(m n:ag->OE)(ρ:ag):xR m n ρ=((m ρ).bind fun r=>match r.pv with
  |.bl b=>if b=true then n ρ else .ok (.sh (.bl false))
  |_=>.bad):=rfl
@[simp] theorem NT(m:ag->OE)(ρ:ag):Ft m ρ=((m ρ).bind fun r=>match r.pv with
  |.bl b=>.ok (.sh (.bl (!b)))
  |_=>.bad):=rfl
@[simp] theorem Ob(c:ag->OT)(m n:ag->OE)(ρ:ag):gH c m n ρ=((c ρ).bind fun b=>if b=true then m ρ else n ρ):=rfl
@[simp] theorem MZ(g g':PV->PV->Option RV)(ma mb mc:ag->OE)(ρ:ag):nz g g' ma mb mc ρ=((ma ρ).bind fun a=>(mb ρ).bind fun b=>(oE (g a.pv b.pv)).bind fun r=>match r.pv with
  |.bl k=>if k=true then(mc ρ).bind fun c=>oE (g' b.pv c.pv)else .ok (.sh (.bl false))
  |_=>.bad):=rfl
@[simp] theorem oY(a b:ag->OS)(ρ:ag):aG a b ρ=((a ρ).andThen b):=rfl
@[simp] theorem Hf(ρ:ag):aS  ρ=(.nx ρ):=rfl
@[simp] theorem BQ(i:Nat)(me:ag->OE)(ρ:ag):bq i me ρ=((me ρ).cy ρ fun r=>match Gj r with
  |some s=>.nx (ρ.set i (some s))
  |none=>.bad):=rfl
@[simp] theorem B0(c:ag->OT)(m n:ag->OS)(ρ:ag):bc c m n ρ=((c ρ).cy ρ fun b=>if b=true then m ρ else n ρ):=rfl
@[simp] theorem FP(me:ag->OE)(ρ:ag):bf me ρ=((me ρ).cy ρ fun r=>match r with
  |.al _=>.bad
  |r=>.rt ρ r):=rfl
@[simp] theorem Mv(i:Nat)(ρ:ag):gj i ρ=(match ρ[i]? with
  |some (some (.sh x))=>.rt ρ (.sh x)
  |some (some (.ow xs))=>.rt (ρ.set i none) (.fr xs)
  |_=>.bad):=rfl
@[simp] theorem Nw(me:ag->OE)(ρ:ag):Ff me ρ=((me ρ).cy ρ fun _=>.nx ρ):=rfl
@[simp] theorem MB(i:Nat)(me:ag->OE)(ρ:ag):eE i me ρ=(match ρ[i]? with
  | some (some (.ow xs))=>(me ρ).cy ρ fun r=>match mM r with
    |some y=>if xs.length<lim then .nx (ρ.set i (some (.ow (xs++[y]))))else .bad
    |none=>.bad
  |_=>.bad):=rfl
@[simp] theorem Nz(i:Nat)(ml:ag->OE)(mb:ag->OS)(ρ:ag):uV i ml mb ρ=((ml ρ).cy ρ fun r=>match Bs r with
  |some xs=>jB i mb xs ρ
  |none=>.bad):=rfl
@[simp] theorem NS(i:Nat)(me:ag->OE)(mb:ag->OS)(ρ:ag):tF i me mb ρ=((me ρ).cy ρ fun r=>match r.pv with
  |.int j=>if -(2 ^ 62)<=j /\ j<2 ^ 62 then jB i mb (cT j.toNat) ρ else .bad
  |_=>.bad):=rfl
@[simp] theorem Nt(m:ag->OE)(ρ:ag):CV m ρ=((m ρ).bind fun r=>match r.pv with
  |.int i=>.ok (.sh (.int i))
  |_=>.bad):=rfl
@[simp] theorem NW(ma ml mh:ag->OE)(ρ:ag):HB ma ml mh ρ=((ma ρ).bind fun a=>(ml ρ).bind fun l=>(mh ρ).bind fun h=>oE (L1 a.pv (wu l.pv) (wu h.pv))):=rfl
@[simp] theorem E9(ml:ag->OE)(ι:List Nat)(me:ag->OE)(ρ:ag):ue ml ι me ρ=((ml ρ).bind fun r=>match r.pv with
  |.lst xs=>noX (da me (dw ι ρ) xs)
  |_=>.bad):=rfl
@[simp] theorem MC(mn:ag->OE)(ι:List Nat)(me:ag->OE)(ρ:ag):wD mn ι me ρ=((mn ρ).bind fun r=>match r.pv with
  |.int j=>if -(2 ^ 62)<=j /\ j<2 ^ 62 then noX (da me (dw ι ρ) (cT j.toNat))else .bad
  |_=>.bad):=rfl
@[simp] theorem Mx(i:Nat)(m:ag->OS)(ρ:ag):iB i m ρ=(m (lD i ρ)):=rfl
@[simp] theorem OC(i:Nat)(g:PV->PV->Option RV)(me:ag->OE)(ρ:ag):xq i g me ρ=(match ρ[i]? with
  | some (some (.sh x))=>(me ρ).cy ρ fun r=>match g x r.pv with
    |some (.sh z)=>.nx (ρ.set i (some (.sh z)))
    |_=>.bad
  |_=>.bad):=rfl
@[simp] theorem N7(x:PV)(ρ:ag):mC x ρ=.ok (.sh x):=rfl
@[simp] theorem Of(ρ:ag):aJ ρ=.ok []:=rfl
@[simp] theorem q9(r:RV)(f:RV->OE):OE.bind (.ok r) f=f r:=rfl
@[simp] theorem L8(c:String)(fs:XF)(f:RV->OE):OE.bind (.exc c fs) f=.exc c fs:=rfl
@[simp] theorem LW{p:Prop}[Decidable p](x y:OE)(f:RV->OE):OE.bind (if p then x else y) f=if p then OE.bind x f else OE.bind y f:=by split<;>rfl
@[simp] theorem Ll(r:RV)(f:RV->OT):OE.gD (.ok r) f=f r:=rfl
@[simp] theorem JN(c:String)(fs:XF)(f:RV->OT):OE.gD (.exc c fs) f=.exc c fs:=rfl
@[simp] theorem Jr{p:Prop}[Decidable p](x y:OE)(f:RV->OT):OE.gD (if p then x else y) f=if p then OE.gD x f else OE.gD y f:=by split<;>rfl
@[simp] theorem Kr(r:RV)(f:RV->OA):OE.fX (.ok r) f=f r:=rfl
@[simp] theorem Ji(c:String)(fs:XF)(f:RV->OA):OE.fX (.exc c fs) f=.exc c fs:=rfl
@[simp] theorem Jv{p:Prop}[Decidable p](x y:OE)(f:RV->OA):OE.fX (if p then x else y) f=if p then OE.fX x f else OE.fX y f:=by split<;>rfl
@[simp] theorem Mt(r:Bool)(f:Bool->OE):OT.bind (.ok r) f=f r:=rfl
@[simp] theorem Lh(c:String)(fs:XF)(f:Bool->OE):OT.bind (.exc c fs) f=.exc c fs:=rfl
@[simp] theorem LR{p:Prop}[Decidable p](x y:OT)(f:Bool->OE):OT.bind (if p then x else y) f=if p then OT.bind x f else OT.bind y f:=by split<;>rfl
@[simp] theorem Kg(r:Bool)(f:Bool->OT):OT.gD (.ok r) f=f r:=rfl
@[simp] theorem Ja(c:String)(fs:XF)(f:Bool->OT):OT.gD (.exc c fs) f=.exc c fs:=rfl
@[simp] theorem Jx{p:Prop}[Decidable p](x y:OT)(f:Bool->OT):OT.gD (if p then x else y) f=if p then OT.gD x f else OT.gD y f:=by split<;>rfl
@[simp] theorem My(r:List PV)(f:List PV->OE):OA.bind (.ok r) f=f r:=rfl
@[simp] theorem Lo(c:String)(fs:XF)(f:List PV->OE):OA.bind (.exc c fs) f=.exc c fs:=rfl
@[simp] theorem JY{p:Prop}[Decidable p](x y:OA)(f:List PV->OE):OA.bind (if p then x else y) f=if p then OA.bind x f else OA.bind y f:=by split<;>rfl
@[simp] theorem Kl(r:List PV)(f:List PV->OA):OA.fX (.ok r) f=f r:=rfl
@[simp] theorem Jg(c:String)(fs:XF)(f:List PV->OA):OA.fX (.exc c fs) f=.exc c fs:=rfl
@[simp] theorem JQ{p:Prop}[Decidable p](x y:OA)(f:List PV->OA):OA.fX (if p then x else y) f=if p then OA.fX x f else OA.fX y f:=by split<;>rfl
@[simp] theorem hU(ρ:ag)(r:RV)(f:RV->OS):OE.cy ρ (.ok r) f=f r:=rfl
@[simp] theorem Jd(ρ:ag)(c:String)(fs:XF)(f:RV->OS):OE.cy ρ (.exc c fs) f=.exc ρ c fs:=rfl
@[simp] theorem Jf{p:Prop}[Decidable p](ρ:ag)(x y:OE)(f:RV->OS):OE.cy ρ (if p then x else y) f=if p then OE.cy ρ x f else OE.cy ρ y f:=by split<;>rfl
@[simp] theorem eK(ρ:ag)(r:Bool)(f:Bool->OS):OT.cy ρ (.ok r) f=f r:=rfl
@[simp] theorem Jm(ρ:ag)(c:String)(fs:XF)(f:Bool->OS):OT.cy ρ (.exc c fs) f=.exc ρ c fs:=rfl
@[simp] theorem Ju{p:Prop}[Decidable p](ρ:ag)(x y:OT)(f:Bool->OS):OT.cy ρ (if p then x else y) f=if p then OT.cy ρ x f else OT.cy ρ y f:=by split<;>rfl
@[simp] theorem KQ(ρ:ag)(r:List PV)(f:List PV->OS):OA.cy ρ (.ok r) f=f r:=rfl
@[simp] theorem Jz(ρ:ag)(c:String)(fs:XF)(f:List PV->OS):OA.cy ρ (.exc c fs) f=.exc ρ c fs:=rfl
@[simp] theorem JJ{p:Prop}[Decidable p](ρ:ag)(x y:OA)(f:List PV->OS):OA.cy ρ (if p then x else y) f=if p then OA.cy ρ x f else OA.cy ρ y f:=by split<;>rfl
@[simp] theorem i5(ρ:ag)(k:ag->OS):(OS.nx ρ).andThen k=k ρ:=rfl
@[simp] theorem iD(ρ:ag)(k:ag->OS):(OS.nx ρ).turn k=k ρ:=rfl
@[simp] theorem Kx(ρ:ag)(k:ag->OS):(OS.bk ρ).andThen k=OS.bk ρ:=rfl
@[simp] theorem Nx(ρ:ag)(k:ag->OS):(OS.bk ρ).turn k=.nx ρ:=rfl
@[simp] theorem Le(ρ:ag)(k:ag->OS):(OS.ct ρ).andThen k=OS.ct ρ:=rfl
@[simp] theorem NC(ρ:ag)(k:ag->OS):(OS.ct ρ).turn k=k ρ:=rfl
@[simp] theorem wH(ρ:ag)(r:RV)(k:ag->OS):(OS.rt ρ r).andThen k=OS.rt ρ r:=rfl
@[simp] theorem C9(ρ:ag)(r:RV)(k:ag->OS):(OS.rt ρ r).turn k=OS.rt ρ r:=rfl
@[simp] theorem JC(ρ:ag)(c:String)(fs:XF)(k:ag->OS):(OS.exc ρ c fs).andThen k=OS.exc ρ c fs:=rfl
@[simp] theorem M0(ρ:ag)(c:String)(fs:XF)(k:ag->OS):(OS.exc ρ c fs).turn k=OS.exc ρ c fs:=rfl
@[simp] theorem Jb{p:Prop}[Decidable p](x y:OS)(k:ag->OS):OS.andThen (if p then x else y) k=if p then x.andThen k else y.andThen k:=by split<;>rfl
@[simp] theorem MV{p:Prop}[Decidable p](x y:OS)(k:ag->OS):OS.turn (if p then x else y) k=if p then x.turn k else y.turn k:=by split<;>rfl
@[simp] theorem Om(ρ:ag):fin (.nx ρ)=.ok (.sh .non):=rfl
@[simp] theorem OF(ρ:ag)(x:PV):fin (.rt ρ (.sh x))=.ok (.sh x):=rfl
@[simp] theorem OU(ρ:ag)(x:List PV):fin (.rt ρ (.fr x))=.ok (.fr x):=rfl
@[simp] theorem NO(ρ:ag)(c:String)(fs:XF):fin (.exc ρ c fs)=.exc c fs:=rfl
@[simp] theorem NK{p:Prop}[Decidable p](x y:OS):fin (if p then x else y)=if p then fin x else fin y:=by split<;>rfl
@[simp] theorem OW(x:PV):RV.pv (.sh x)=x:=rfl
@[simp] theorem GI(x:List PV):RV.pv (.fr x)=.lst x:=rfl
@[simp] theorem Gh(x:List PV):RV.pv (.al x)=.lst x:=rfl
@[simp] theorem yZ(r:RV):oE (some r)=.ok r:=rfl
@[simp] theorem NM(r:Bool):oT (some r)=.ok r:=rfl
@[simp] theorem Mw(i:Nat)(mb:ag->OS)(ρ:ag):jB i mb [] ρ=.nx ρ:=rfl
@[simp] theorem j8(i:Nat)(mb:ag->OS)(x:PV)(xs:List PV)(ρ:ag):jB i mb (x ::xs) ρ=(mb (ρ.set i (some (.sh x)))).turn (jB i mb xs):=rfl
@[simp] theorem Oq(i j:Int):dU (.int i) (.int j)=some (.sh (.int (i+j))):=rfl
@[simp] theorem Od(i j:Int):xo (.int i) (.int j)=some (.sh (.int (i - j))):=rfl
@[simp] theorem N3(i j:Int):AF (.int i) (.int j)=if((decide (-(2 ^ 64)<i)&&decide (i<2 ^ 64))||(decide (-(2 ^ 64)<j)&&decide (j<2 ^ 64)))=true then some (.sh (.int (i*j)))else none:=rfl
@[simp] theorem OO(i j:Int):dH (.int i) (.int j)=if(decide (0<j)&&decide (j<1073741824))=true then some (.sh (.int (i/j)))else none:=rfl
@[simp] theorem Oc(i j:Int):cH (.int i) (.int j)=if decide (0<j)=true then some (.sh (.int (i%j)))else none:=rfl
@[simp] theorem Ph(i j:Int):gLt (.int i) (.int j)=some (.sh (.bl (decide (i<j)))):=rfl
@[simp] theorem O6(i j:Int):gLe (.int i) (.int j)=some (.sh (.bl (decide (i<=j)))):=rfl
@[simp] theorem Pb(i j:Int):gGt (.int i) (.int j)=some (.sh (.bl (decide (j<i)))):=rfl
@[simp] theorem O4(i j:Int):gGe (.int i) (.int j)=some (.sh (.bl (decide (j<=i)))):=rfl
@[simp] theorem O1(i j:Int):gEq (.int i) (.int j)=some (.sh (.bl (decide (i=j)))):=rfl
@[simp] theorem O3(i j:Int):gNe (.int i) (.int j)=some (.sh (.bl (!decide (i=j)))):=rfl
@[simp] theorem O9(i j:Bool):gEq (.bl i) (.bl j)=some (.sh (.bl (decide (i=j)))):=rfl
@[simp] theorem Pj(i j:Bool):gNe (.bl i) (.bl j)=some (.sh (.bl (!decide (i=j)))):=rfl
@[simp] theorem Ma(xs:List PV):mK (.lst xs)=some (.sh (.int xs.length)):=rfl
@[simp] theorem N6(xs:List PV):mK (.tup xs)=some (.sh (.int xs.length)):=rfl
@[simp] theorem OJ(xs:List PV)(i:Int):gN (.lst xs) (.int i)=(atP xs i).map .sh:=rfl
@[simp] theorem N5(xs:List PV)(i:Int):eT (.tup xs) (.int i)=(atP xs i).map .sh:=rfl
@[simp] theorem Mr(xs ys:List PV):nu (.lst xs) (.lst ys)=if xs.length+ys.length<=lim then some (.fr (xs++ys))else none:=rfl
@[simp] theorem Oi{p:Prop}[Decidable p](x y:Option RV):oE (if p then x else y)=if p then oE x else oE y:=by split<;>rfl
@[simp] theorem NX(b:Bool):vj (.bl b)=some b:=rfl
@[simp] theorem Ow(i:Int):vj (.int i)=some (i != 0):=rfl
@[simp] theorem N4(xs:List PV):vj (.lst xs)=some (!xs.isEmpty):=rfl
@[simp] theorem Og(xs:List PV):vj (.tup xs)=some (!xs.isEmpty):=rfl
@[simp] theorem OB:vj .non=some false:=rfl
@[simp] theorem MA(i:Int):isP "int" (.int i)=some true:=rfl
@[simp] theorem Ke(i:Int):isP "bool" (.int i)=some false:=rfl
@[simp] theorem KC(i:Bool):isP "bool" (.bl i)=some true:=rfl
@[simp] theorem Ko(xs:List PV):isP "list" (.lst xs)=some true:=rfl
@[simp] theorem Mu(xs:List PV):sY (.lst xs)=some (.fr xs):=rfl
@[simp] theorem Mz(xs:List PV):sY (.tup xs)=some (.fr xs):=rfl
@[simp] theorem Oe(xs:List PV)(lo hi:Option Int):L1 (.lst xs) lo hi=some (.fr (EC xs lo hi)):=rfl
@[simp] theorem NB:wu .non=none:=rfl
@[simp] theorem NR(i:Int):wu (.int i)=some i:=rfl
@[simp] theorem Ot(i:Int):gU (.int i)=some (.sh (.int (-i))):=rfl
@[simp] theorem NL(i:Int):Ax (.int i)=some (.sh (.int i)):=rfl
@[simp] theorem Nu(i:Bool):Ax (.bl i)=some (.sh (.int (if i then 1 else 0))):=rfl
@[simp] theorem NJ(x:PV):mM (.sh x)=some x:=rfl
@[simp] theorem NH(x:List PV):mM (.fr x)=some (.lst x):=rfl
@[simp] theorem Ih(x:PV):Gj (.sh x)=some (.sh x):=rfl
@[simp] theorem G0(x:List PV):Gj (.fr x)=some (.ow x):=rfl
@[simp] theorem CA(np n:Nat)(m:ag->OS)(xs:List PV):fnP np n m xs=if xs.length=np then fin (m (mq n xs))else .bad:=rfl
@[simp] theorem tV(n:Nat)(xs:List PV):mq n xs=xs.map (fun x=>some (.sh x))++List.replicate (n - xs.length) none:=rfl
@[simp] theorem Kb(xs:List PV):Bs (.sh (.lst xs))=some xs:=rfl
@[simp] theorem NU(xs:List PV):Bs (.fr xs)=some xs:=rfl
@[simp] theorem NY(x:PV):Ai x .non=some (.sh (.bl (cF x))):=rfl
@[simp] theorem NG(x:PV):xA x .non=some (.sh (.bl (!cF x))):=rfl
@[simp] theorem Et(xs:List PV):noX (.ok xs)=if xs.length<=lim then .ok (.fr xs)else .bad:=rfl
@[simp] theorem KR(me:ag->OE)(ρ:ag):da me ρ []=.ok []:=rfl
@[simp] theorem Mi(f:RV->OE):OE.bind .bad f=.bad:=rfl
@[simp] theorem JL(f:RV->OT):OE.gD .bad f=.bad:=rfl
@[simp] theorem I9(f:RV->OA):OE.fX .bad f=.bad:=rfl
@[simp] theorem Kw(f:Bool->OE):OT.bind .bad f=.bad:=rfl
@[simp] theorem Jj(f:Bool->OT):OT.gD .bad f=.bad:=rfl
@[simp] theorem KP(f:List PV->OE):OA.bind .bad f=.bad:=rfl
@[simp] theorem JG(f:List PV->OA):OA.fX .bad f=.bad:=rfl
@[simp] theorem Jh(ρ:ag)(f:RV->OS):OE.cy ρ .bad f=.bad:=rfl
@[simp] theorem JV(ρ:ag)(f:Bool->OS):OT.cy ρ .bad f=.bad:=rfl
@[simp] theorem Jl(ρ:ag)(f:List PV->OS):OA.cy ρ .bad f=.bad:=rfl
@[simp] theorem Jt(k:ag->OS):OS.bad.andThen k=.bad:=rfl
@[simp] theorem M7(k:ag->OS):OS.bad.turn k=.bad:=rfl
@[simp] theorem Nv:fin .bad=.bad:=rfl
@[simp] theorem NP:oE none=.bad:=rfl
@[simp] theorem NQ:oT none=.bad:=rfl
@[simp] theorem Ny(x:List PV):mM (.al x)=none:=rfl
@[simp] theorem NV(x:List PV):Gj (.al x)=none:=rfl
@[simp] theorem Pa:(0<=lim)=True:=by simp[lim]
@[simp] theorem O8:(1<=lim)=True:=by simp[lim]
@[simp] theorem Pf:(2<=lim)=True:=by simp[lim]
@[simp] theorem OZ:(3<=lim)=True:=by simp[lim]
@[simp] theorem Pc:(4<=lim)=True:=by simp[lim]
@[simp] theorem Pg:(5<=lim)=True:=by simp[lim]
@[simp] theorem O2:(6<=lim)=True:=by simp[lim]
@[simp] theorem Pk:(7<=lim)=True:=by simp[lim]
@[simp] theorem Pe:(8<=lim)=True:=by simp[lim]
@[simp] theorem O0:(9<=lim)=True:=by simp[lim]
@[simp] theorem OH:(10<=lim)=True:=by simp[lim]
@[simp] theorem OM:(11<=lim)=True:=by simp[lim]
@[simp] theorem OK:(12<=lim)=True:=by simp[lim]
@[simp] theorem Oh:(13<=lim)=True:=by simp[lim]
@[simp] theorem Oj:(14<=lim)=True:=by simp[lim]
@[simp] theorem OP:(15<=lim)=True:=by simp[lim]
@[simp] theorem Oo:(16<=lim)=True:=by simp[lim]
theorem fi{n:Nat}(h:n<=1000000):n<=lim:=by unfold lim;omega
theorem o3{n:Nat}(h:n<=1000000):n<lim:=by unfold lim;omega
theorem kn{α:Type}(xs:List α)(k:Nat):atP xs (k:Int)=xs[k]?:=by
 unfold atP ixP
 by_cases h:k<xs.length
 . simp[h]
 . simp[h]
@[simp] theorem O5{α:Type}(xs:List α):atP xs 0=xs[0]?:=kn xs 0
@[simp] theorem OY{α:Type}(xs:List α):atP xs 1=xs[1]?:=kn xs 1
@[simp] theorem NN{α:Type}(xs:List α)(n:Nat):atP xs (no_index (OfNat.ofNat n:Int))=xs[n]?:=kn xs n
theorem E3{α:Type}(xs:List α)(i:Int)(h:0<=i):atP xs i=xs[i.toNat]?:=by
 have:=kn xs i.toNat
 rwa [Int.toNat_of_nonneg h]at this
@[simp] theorem O7(T:String)(ma:ag->OE)(ρ:ag):mIs T ma ρ=(ma ρ).bind fun a=>oE ((isP T a.pv).map fun b=>.sh (.bl b)):=rfl
@[simp] theorem zX(ns:List Bool):tQ (ns.map .bl)=some ns:=by
  induction ns with
  |nil=>rfl
  |cons n ns ih=>show(tQ (ns.map .bl)).map (n ::·)=_;rw[ih];rfl
@[simp] theorem Li(n:Nat):(cT n).length=n:=by simp[cT]
theorem jV{me:ag->OE}{ρ:ag}{α:Type}{g:α->PV}{f:α->PV}(l:List α)(h:∀ a∈l,me (ρ++[some (.sh (g a))])=.ok (.sh (f a))):da me ρ (l.map g)=.ok (l.map f):=by
 induction l with
 |nil=>rfl
 | cons a l ih=>
   have h1:=h a (List.mem_cons_self)
   have h2:=ih fun b hb=>h b (List.mem_cons_of_mem _ hb)
   simp[da,h1,h2]
def H0(i:Nat)(mk mv:ag->OE):ag->OS:=fun ρ=>match ρ[i]? with
 | some (some (.ow xs))=>(mv ρ).cy ρ fun r=>match mM r with
   | some y=>(mk ρ).cy ρ fun kk=>match kk.pv with
     | .int k=>match ixP xs.length k with
       |some j=>.nx (ρ.set i (some (.ow (xs.set j y))))
       |none=>.bad
     |_=>.bad
   |none=>.bad
 |_=>.bad
@[simp] theorem ON(i:Nat)(mk mv:ag->OE)(ρ:ag):H0 i mk mv ρ=match ρ[i]? with
  | some (some (.ow xs))=>(mv ρ).cy ρ fun r=>match mM r with
    | some y=>(mk ρ).cy ρ fun kk=>match kk.pv with
      | .int k=>match ixP xs.length k with
        |some j=>.nx (ρ.set i (some (.ow (xs.set j y))))
        |none=>.bad
      |_=>.bad
    |none=>.bad
  |_=>.bad:=rfl
end L2.P
namespace L2.P
open PySem PySem.Spec PyProof.Rows L2 L2.E
mutual
def Rep(K:PySem.W.Frag)(S:Hp):PV->V->Prop
 |.non,v=>v=.non
 |.bl b,v=>v=.bl b
 |.int i,v=>v=.int i
 |.str s,v=>v=.str s
 |.lst xs,v=>∃ p vs,v=.ref p /\ SqL K S p vs /\ bZ K S xs vs
 |.tup xs,v=>∃ p vs,v=.ref p /\ SqT K S p vs /\ bZ K S xs vs
def bZ(K:PySem.W.Frag)(S:Hp):List PV->List V->Prop
 |[],vs=>vs=[]
 |x ::xs,vs=>∃ v r,vs=v ::r /\ Rep K S x v /\ bZ K S xs r
end
theorem _root_.L2.aK.tup{K:PySem.W.Frag}{H H':Hp}{a:Addr}{xs:List V}(e:aK H H')(h:SqT K H a xs):SqT K H' a xs:=by
 rcases h with(h|⟨o,h⟩)|h
 . exact .inl (.inl (e _ _ h))
 . exact .inl (.inr ⟨o,e _ _ h⟩)
 . exact .inr h
section
variable{K:PySem.W.Frag}{S S':Hp}
mutual
theorem Rep.mono(s:aK S S'):∀{x:PV} {v:V},Rep K S x v->Rep K S' x v
 |.non,_,h=>by unfold Rep at h ⊢;exact h
 |.bl _,_,h=>by unfold Rep at h ⊢;exact h
 |.int _,_,h=>by unfold Rep at h ⊢;exact h
 |.str _,_,h=>by unfold Rep at h ⊢;exact h
 | .lst _,_,h=>by
   unfold Rep at h ⊢
   obtain⟨p,vs,e,q,r⟩:=h
   exact⟨p,vs,e,aK.seq s q,bZ.mono s r⟩
 | .tup _,_,h=>by
   unfold Rep at h ⊢
   obtain⟨p,vs,e,q,r⟩:=h
   exact⟨p,vs,e,aK.tup s q,bZ.mono s r⟩
theorem bZ.mono(s:aK S S'):∀{xs:List PV} {vs:List V},bZ K S xs vs->bZ K S' xs vs
 |[],_,h=>by unfold bZ at h ⊢;exact h
 | _ ::_,_,h=>by
   unfold bZ at h ⊢
   obtain⟨v,r,e,q,t⟩:=h
   exact⟨v,r,e,Rep.mono s q,bZ.mono s t⟩
end
theorem bZ.nil:bZ K S [] []:=by unfold bZ;rfl
theorem bZ.cons{x:PV}{xs:List PV}{v:V}{vs:List V}(h:Rep K S x v)(t:bZ K S xs vs):bZ K S (x ::xs) (v ::vs):=by unfold bZ;exact⟨v,vs,rfl,h,t⟩
theorem bZ.nil_inv{vs:List V}(h:bZ K S [] vs):vs=[]:=by unfold bZ at h;exact h
theorem bZ.cons_inv{x:PV}{xs:List PV}{vs:List V}(h:bZ K S (x ::xs) vs):∃ v r,vs=v ::r /\ Rep K S x v /\ bZ K S xs r:=by unfold bZ at h;exact h
theorem bZ.append{xs ys:List PV}{vs us:List V}(h:bZ K S xs vs)(t:bZ K S ys us):bZ K S (xs++ys) (vs++us):=by
 induction xs generalizing vs with
 |nil=>rw[h.nil_inv];exact t
 | cons x xs ih=>
   obtain⟨v,r,rfl,q,h'⟩:=h.cons_inv;exact .cons q (ih h')
theorem bZ.length{xs:List PV}{vs:List V}(h:bZ K S xs vs):vs.length=xs.length:=by
 induction xs generalizing vs with
 |nil=>rw[h.nil_inv];rfl
 | cons x xs ih=>
   obtain⟨v,r,rfl,q,h'⟩:=h.cons_inv;simp[ih h']
theorem bZ.get{xs:List PV}{vs:List V}(h:bZ K S xs vs):∀{i:Nat} {x:PV},xs[i]?=some x->∃ v,vs[i]?=some v /\ Rep K S x v:=by
 induction xs generalizing vs with
 |nil=>intro i x e;simp at e
 | cons y xs ih=>
   obtain⟨v,r,rfl,q,h'⟩:=h.cons_inv;intro i x e
   cases i with
   |zero=>simp at e;subst e;exact⟨v,rfl,q⟩
   |succ i=>simp at e;obtain⟨u,e1,e2⟩:=ih h' e;exact⟨u,by simpa using e1,e2⟩
theorem bZ.M9{xs:List PV}{vs:List V}(h:bZ K S xs vs){i:Nat}{v:V}(e:vs[i]?=some v):∃ x,xs[i]?=some x /\ Rep K S x v:=by
 have hi:i<xs.length:=by rw[<- h.length];exact(List.getElem?_eq_some_iff.mp e).1
 obtain⟨u,e1,e2⟩:=h.get (i:=i) (x:=xs[i]) (by simp[hi]);rw[e]at e1;cases e1
 exact⟨_,by simp[hi],e2⟩
theorem bZ.take{xs:List PV}{vs:List V}(h:bZ K S xs vs):∀ n,bZ K S (xs.take n) (vs.take n):=by
 induction xs generalizing vs with
 |nil=>intro n;rw[h.nil_inv];simpa using bZ.nil
 | cons y xs ih=>
   obtain⟨v,r,rfl,q,h'⟩:=h.cons_inv;intro n
   cases n with
   |zero=>exact .nil
   |succ n=>exact .cons q (ih h' n)
theorem bZ.drop{xs:List PV}{vs:List V}(h:bZ K S xs vs):∀ n,bZ K S (xs.drop n) (vs.drop n):=by
 induction xs generalizing vs with
 |nil=>intro n;rw[h.nil_inv];simpa using bZ.nil
 | cons y xs ih=>
   obtain⟨v,r,rfl,q,h'⟩:=h.cons_inv;intro n
   cases n with
   |zero=>exact .cons q h'
   |succ n=>exact ih h' n
theorem bZ.ints{ns:List Int}:bZ K S (ns.map .int) (ns.map V.int):=by
 induction ns with
 |nil=>exact .nil
 |cons n ns ih=>exact .cons (by unfold Rep;rfl) ih
theorem bZ.set{xs:List PV}{vs:List V}{x:PV}{v:V}(h:bZ K S xs vs)(q:Rep K S x v):∀ i,bZ K S (xs.set i x) (vs.set i v):=by
 induction xs generalizing vs with
 |nil=>intro i;rw[h.nil_inv];exact .nil
 | cons y xs ih=>
   obtain⟨u,r,rfl,qu,h'⟩:=h.cons_inv;intro i
   cases i with
   |zero=>exact .cons q h'
   |succ i=>exact .cons qu (ih h' i)
end
def pL(K:PySem.W.Frag)(cls:String->Option Addr)(S H:Hp)(c:String)(fs:XF)(a C:Addr):Prop:=
 cls c=some C /\ ∃ dx,H a=some (AH a C dx) /\ (fs=[] \/ ∃ d us,dx=some d /\ H d=some (.xd us) /\ fs.map (·.1)=us.map (·.1) /\ bZ K S (fs.map (·.2)) (us.map (·.2)))
def isX:HO->Bool
 |.ext _=>true
 |.xd _=>true
 |_=>false
def yF(K:PySem.W.Frag)(S:Hp)(kvs:List (Int×PV))(us:List (Key×V)):Prop:=Paired (fun (p:Int×PV) (q:Key×V)=>q.1=Sum.inl p.1 /\ Rep K S p.2 q.2) kvs us
def Am(K:PySem.W.Frag)(S:Hp)(kvs:List (List Int×PV))(us:List (List Key×V)):Prop:=Paired (fun (p:List Int×PV) (q:List Key×V)=>q.1=p.1.map Sum.inl /\ Rep K S p.2 q.2) kvs us
theorem yF.mono{K:PySem.W.Frag}{S S':Hp}(s:aK S S'):∀{kvs:List (Int×PV)} {us:List (Key×V)},yF K S kvs us->yF K S' kvs us
 |_,_,.nil=>.nil
 |_,_,.cons h t=>.cons ⟨h.1,Rep.mono s h.2⟩ (yF.mono s t)
theorem Am.mono{K:PySem.W.Frag}{S S':Hp}(s:aK S S'):∀{kvs:List (List Int×PV)} {us:List (List Key×V)},Am K S kvs us->Am K S' kvs us
 |_,_,.nil=>.nil
 |_,_,.cons h t=>.cons ⟨h.1,Rep.mono s h.2⟩ (Am.mono s t)
mutual
def bA(K:PySem.W.Frag)(cls:String->Option Addr)(S H:Hp):OV->V->List Addr->Prop
 |.sh x,v,fp=>fp=[] /\ Rep K S x v
 |.ol ts,v,fp=>∃ p vs f,v=.ref p /\ H p=some (.lst vs) /\ fp=p ::f /\ bD K cls S H ts vs f
 |.ob c ks ts,v,fp=>∃ p C dx us f,v=.ref p /\ cls c=some C /\ H p=some (.ins C dx us) /\ H dx=some (.own p) /\ us.map (·.1)=ks /\ fp=p ::dx ::f /\ bD K cls S H ts (us.map (·.2)) f
 |.di kvs,v,fp=>∃ p us,v=.ref p /\ H p=some (.dK us) /\ fp=[p] /\ yF K S kvs us
 |.dt kvs,v,fp=>∃ p us,v=.ref p /\ H p=some (.dT us) /\ fp=[p] /\ Am K S kvs us
def bD(K:PySem.W.Frag)(cls:String->Option Addr)(S H:Hp):List OV->List V->List Addr->Prop
 |[],vs,fp=>vs=[] /\ fp=[]
 |t ::ts,vs,fp=>∃ v r f1 f2,vs=v ::r /\ fp=f1++f2 /\ bA K cls S H t v f1 /\ bD K cls S H ts r f2
end
def vm(K:PySem.W.Frag)(cls:String->Option Addr)(Av G S H:Hp)(i:Nat):Sl->V->List Addr->Prop
 |.sh x,v,fp=>fp=[] /\ Rep K S x v
 |.ow xs,v,fp=>∃ p vs,v=.ref p /\ fp=[p] /\ G p=none /\ S p=none /\ H p=some (.lst vs) /\ bZ K S xs vs
 |.ex c fs,v,fp=>fp=[] /\ ∃ a C,v=.ref a /\ pL K cls S H c fs a C
 |.tr io t,v,fp=>bA K cls S H t v fp /\ fp.Nodup /\ (∀ a∈fp,G a=none /\ S a=none) /\ (io=true->Av i=some (.lst [v]))
 |.bo t,v,fp=>fp=[] /\ ∃ f,bA K cls S G t v f
def Jq(K:PySem.W.Frag)(cls:String->Option Addr)(G S H:Hp):Sl->V->Prop
 |.sh x,v=>Rep K S x v
 |.ow xs,v=>∃ p vs,v=.ref p /\ G p=none /\ S p=none /\ H p=some (.lst vs) /\ bZ K S xs vs
 |.ex c fs,v=>∃ a C,v=.ref a /\ pL K cls S H c fs a C
 |_,_=>True
def n6(K:PySem.W.Frag)(B S H:Hp):RV->V->Prop
 |.sh x,v=>Rep K S x v
 |.fr xs,v=>∃ p vs,v=.ref p /\ B p=none /\ S p=none /\ H p=some (.lst vs) /\ bZ K S xs vs
 |.al xs,v=>∃ p vs,v=.ref p /\ SqL K H p vs /\ bZ K S xs vs
def RdV(K:PySem.W.Frag)(S H:Hp):PV->V->Prop
 |.lst xs,v=>∃ p vs,v=.ref p /\ SqL K H p vs /\ bZ K S xs vs
 |x,v=>Rep K S x v
structure SRF(K:PySem.W.Frag)(cls:String->Option Addr)(Av G S₀:Hp)(ρ:ag)(σ:St)(S H:Hp)(F:Nat->List Addr):Prop where
 gh:aK G H
 s0:aK S₀ S
 sh:aK S H
 new:∀ b,S b≠none->S₀ b≠none \/ G b=none
 own:∀(i:Nat) (s:Sl),ρ[i]?=some (some s)->∃ v,σ[i]?=some (some v) /\ vm K cls Av G S H i s v (F i)
 apart:∀ i j a,a∈F i->a∈F j->i=j
 live:∀ i a,a∈F i->(∃ o,H a=some o /\ isX o=false) /\ G a=none /\ S a=none
 len:ρ.length=σ.length
def SR(K:PySem.W.Frag)(cls:String->Option Addr)(Av G S₀:Hp)(ρ:ag)(σ:St)(S H:Hp):Prop:=∃ F,SRF K cls Av G S₀ ρ σ S H F
section
variable{K:PySem.W.Frag}{cls:String->Option Addr}{Av G S₀ S S' H H' B:Hp}{ρ:ag}{σ:St}{F:Nat->List Addr}
theorem SR.gh(I:SR K cls Av G S₀ ρ σ S H):aK G H:=let ⟨_,J⟩:=I;J.gh
theorem SR.s0(I:SR K cls Av G S₀ ρ σ S H):aK S₀ S:=let ⟨_,J⟩:=I;J.s0
theorem SR.sh(I:SR K cls Av G S₀ ρ σ S H):aK S H:=let ⟨_,J⟩:=I;J.sh
theorem SR.new(I:SR K cls Av G S₀ ρ σ S H):∀ b,S b≠none->S₀ b≠none \/ G b=none:=let ⟨_,J⟩:=I;J.new
theorem SR.len(I:SR K cls Av G S₀ ρ σ S H):ρ.length=σ.length:=let ⟨_,J⟩:=I;J.len
theorem vm.one{i:Nat}{s:Sl}{v:V}{fp:List Addr}(h:vm K cls Av G S H i s v fp):Jq K cls G S H s v:=by
 cases s with
 |sh x=>exact h.2
 |ow xs=>obtain⟨p,vs,e,_,r⟩:=h;exact⟨p,vs,e,r⟩
 |ex c fs=>exact h.2
 |tr io t=>trivial
 |bo t=>trivial
theorem SR.good(I:SR K cls Av G S₀ ρ σ S H)(i:Nat)(s:Sl)(e:ρ[i]?=some (some s)):∃ v,σ[i]?=some (some v) /\ Jq K cls G S H s v:=by
 obtain⟨F,J⟩:=I;obtain⟨v,e1,r⟩:=J.own i s e
 exact⟨v,e1,r.one⟩
theorem pL.mono{c:String}{fs:XF}{a C:Addr}(h:pL K cls S H c fs a C)(s:aK S S')(g:aK H H'):pL K cls S' H' c fs a C:=by
 obtain⟨h1,dx,h2,h3⟩:=h
 refine⟨h1,dx,g _ _ h2,?_⟩
 rcases h3 with h3|⟨d,us,e1,e2,e3,e4⟩
 . exact .inl h3
 . exact .inr ⟨d,us,e1,g _ _ e2,e3,e4.mono s⟩
theorem pL.Na{c:String}{fs:XF}{a C:Addr}(h:pL K cls S H c fs a C)(s:aK S S')(g:∀ b o,isX o=true->H b=some o->H' b=some o):pL K cls S' H' c fs a C:=by
 obtain⟨h1,dx,h2,h3⟩:=h
 refine⟨h1,dx,g _ _ rfl h2,?_⟩
 rcases h3 with h3|⟨d,us,e1,e2,e3,e4⟩
 . exact .inl h3
 . exact .inr ⟨d,us,e1,g _ _ rfl e2,e3,e4.mono s⟩
mutual
theorem bA.mono(s:aK S S'):∀{t:OV} {v:V} {fp:List Addr},bA K cls S H t v fp->(∀ a∈fp,∀ o,H a=some o->H' a=some o)->bA K cls S' H' t v fp
 |.sh _,_,_,h,_=>by unfold bA at h ⊢;exact⟨h.1,Rep.mono s h.2⟩
 | .ol _,_,_,h,g=>by
   unfold bA at h ⊢
   obtain⟨p,vs,f,e,q,e2,r⟩:=h;subst e2
   exact⟨p,vs,f,e,g p (by simp) _ q,rfl,bD.mono s r fun a ha=>g a (by simp[ha])⟩
 | .ob _ _ _,_,_,h,g=>by
   unfold bA at h ⊢
   obtain⟨p,C,dx,us,f,e,c,q,q2,k,e2,r⟩:=h;subst e2
   exact⟨p,C,dx,us,f,e,c,g p (by simp) _ q,g dx (by simp) _ q2,k,rfl,bD.mono s r fun a ha=>g a (by simp[ha])⟩
 | .di _,_,_,h,g=>by
   unfold bA at h ⊢
   obtain⟨p,us,e,q,e2,r⟩:=h;subst e2
   exact⟨p,us,e,g p (by simp) _ q,rfl,r.mono s⟩
 | .dt _,_,_,h,g=>by
   unfold bA at h ⊢
   obtain⟨p,us,e,q,e2,r⟩:=h;subst e2
   exact⟨p,us,e,g p (by simp) _ q,rfl,r.mono s⟩
theorem bD.mono(s:aK S S'):∀{ts:List OV} {vs:List V} {fp:List Addr},bD K cls S H ts vs fp->(∀ a∈fp,∀ o,H a=some o->H' a=some o)->bD K cls S' H' ts vs fp
 |[],_,_,h,_=>by unfold bD at h ⊢;exact h
 | _ ::_,_,_,h,g=>by
   unfold bD at h ⊢
   obtain⟨v,r,f1,f2,e,e2,q,t⟩:=h;subst e2
   exact⟨v,r,f1,f2,e,rfl,bA.mono s q fun a ha=>g a (List.mem_append_left _ ha),bD.mono s t fun a ha=>g a (List.mem_append_right _ ha)⟩
end
mutual
theorem bA.live:∀{t:OV} {v:V} {fp:List Addr},bA K cls S H t v fp->∀ a∈fp,∃ o,H a=some o /\ isX o=false
 |.sh _,_,_,h,a,ha=>by unfold bA at h;rw[h.1]at ha;cases ha
 | .ol _,_,_,h,a,ha=>by
   unfold bA at h;obtain⟨p,vs,f,e,q,e2,r⟩:=h;subst e2
   rcases List.mem_cons.mp ha with z|z
   . subst z;exact⟨_,q,rfl⟩
   . exact bD.live r a z
 | .ob _ _ _,_,_,h,a,ha=>by
   unfold bA at h;obtain⟨p,C,dx,us,f,e,c,q,q2,k,e2,r⟩:=h;subst e2
   rcases List.mem_cons.mp ha with z|z
   . subst z;exact⟨_,q,rfl⟩
   . rcases List.mem_cons.mp z with z|z
     . subst z;exact⟨_,q2,rfl⟩
     . exact bD.live r a z
 | .di _,_,_,h,a,ha=>by
   unfold bA at h;obtain⟨p,us,e,q,e2,r⟩:=h;subst e2
   have z:a=p:=by simpa using ha
   subst z
   exact⟨_,q,rfl⟩
 | .dt _,_,_,h,a,ha=>by
   unfold bA at h;obtain⟨p,us,e,q,e2,r⟩:=h;subst e2
   have z:a=p:=by simpa using ha
   subst z
   exact⟨_,q,rfl⟩
theorem bD.live:∀{ts:List OV} {vs:List V} {fp:List Addr},bD K cls S H ts vs fp->∀ a∈fp,∃ o,H a=some o /\ isX o=false
 |[],_,_,h,a,ha=>by unfold bD at h;rw[h.2]at ha;cases ha
 | _ ::_,_,_,h,a,ha=>by
   unfold bD at h;obtain⟨v,r,f1,f2,e,e2,q,t⟩:=h;subst e2
   rcases List.mem_append.mp ha with z|z
   . exact bA.live q a z
   . exact bD.live t a z
end
theorem vm.mono{i:Nat}{sl:Sl}{v:V}{fp:List Addr}(h:vm K cls Av G S H i sl v fp)(s:aK S S')(g:∀ a∈fp,∀ o,H a=some o->H' a=some o)(x:∀ b o,isX o=true->H b=some o->H' b=some o)(n:∀ a∈fp,S' a=none):vm K cls Av G S' H' i sl v fp:=by
 cases sl with
 |sh y=>exact⟨h.1,Rep.mono s h.2⟩
 | ow xs=>
   obtain⟨p,vs,e,e2,h1,h2,h3,h4⟩:=h;subst e2
   exact⟨p,vs,e,rfl,h1,n p (by simp),g p (by simp) _ h3,h4.mono s⟩
 |ex c fs=>obtain⟨e,a,C,e2,q⟩:=h;exact⟨e,a,C,e2,q.Na s x⟩
 |tr io t=>exact⟨h.1.mono s g,h.2.1,fun a ha=>⟨(h.2.2.1 a ha).1,n a ha⟩,h.2.2.2⟩
 |bo t=>obtain⟨e,f,r⟩:=h;exact⟨e,f,r.mono s fun _ _ _ z=>z⟩
theorem RdV.mono{x:PV}{v:V}(h:RdV K S H x v)(s:aK S S')(g:aK H H'):RdV K S' H' x v:=by
 cases x with
 |lst xs=>obtain⟨p,vs,e,q,r⟩:=h;exact⟨p,vs,e,aK.seq g q,r.mono s⟩
 |non=>exact Rep.mono s h
 |bl b=>exact Rep.mono s h
 |int i=>exact Rep.mono s h
 |str x=>exact Rep.mono s h
 |tup xs=>exact Rep.mono s h
theorem Rep.rd{x:PV}{v:V}(h:Rep K S x v)(g:aK S H):RdV K S H x v:=by
 cases x with
 |lst xs=>unfold Rep at h;obtain⟨p,vs,e,q,r⟩:=h;exact⟨p,vs,e,aK.seq g q,r⟩
 |non=>exact h
 |bl b=>exact h
 |int i=>exact h
 |str x=>exact h
 |tup xs=>exact h
theorem n6.rd{r:RV}{v:V}(h:n6 K B S H r v)(g:aK S H):RdV K S H r.pv v:=by
 cases r with
 |sh x=>exact Rep.rd h g
 |fr xs=>obtain⟨p,vs,e,_,_,q,r⟩:=h;exact⟨p,vs,e,SqL.new q,r⟩
 |al xs=>exact h
theorem SRF.change(I:SRF K cls Av G S₀ ρ σ S H F)(gh:aK G H')(s:aK S S')(sh:aK S' H')(new:∀ b,S' b≠none->S₀ b≠none \/ G b=none)
  (g:∀ i a,a∈F i->∀ o,H a=some o->H' a=some o) (x:∀ b o,isX o=true->H b=some o->H' b=some o) (n:∀ i a,a∈F i->S' a=none):SRF K cls Av G S₀ ρ σ S' H' F where
 gh:=gh
 s0:=I.s0.trans s
 sh:=sh
 new:=new
 own:=fun i t e=>by
  obtain⟨v,e1,r⟩:=I.own i t e
  exact⟨v,e1,r.mono s (fun a ha=>g i a ha) x fun a ha=>n i a ha⟩
 apart:=I.apart
 live:=fun i a ha=>by
  obtain⟨⟨o,h1,h2⟩,h3,_⟩:=I.live i a ha
  exact⟨⟨o,g i a ha o h1,h2⟩,h3,n i a ha⟩
 len:=I.len
theorem SRF.same(I:SRF K cls Av G S₀ ρ σ S H F)(g:aK H H'):SRF K cls Av G S₀ ρ σ S H' F:=
 I.change (I.gh.trans g) (aK.refl _) (I.sh.trans g) I.new (fun _ _ _ o e=>g _ _ e) (fun _ _ _ e=>g _ _ e) fun i a ha=>(I.live i a ha).2.2
theorem SR.same(I:SR K cls Av G S₀ ρ σ S H)(g:aK H H'):SR K cls Av G S₀ ρ σ S H':=let ⟨F,J⟩:=I;⟨F,J.same g⟩
theorem set_inv{α:Type}{l:List (Option α)}{i j:Nat}{x:Option α}{s:α}(h:(l.set i x)[j]?=some (some s)):(j=i /\ x=some s /\ i<l.length) \/ (j≠i /\ l[j]?=some (some s)):=by
 by_cases e:j=i
 . subst e;rw[List.getElem?_set]at h;simp only[if_true]at h;split at h
   . rename_i hl;exact .inl ⟨rfl,Option.some.inj h,hl⟩
   . cases h
 . rw[List.getElem?_set_ne (Ne.symm e)]at h;exact .inr ⟨e,h⟩
theorem KL{α:Type}{l:List (Option α)}{i:Nat}{x:Option α}(h:i<l.length):(l.set i x)[i]?=some x:=by
 rw[List.getElem?_set];simp[h]
def pJ(F:Nat->List Addr)(i:Nat)(fp:List Addr):Nat->List Addr:=fun j=>if j=i then fp else F j
theorem jD{i:Nat}{fp:List Addr}:pJ F i fp i=fp:=by unfold pJ;rw[if_pos rfl]
theorem fR{i j:Nat}{fp:List Addr}(h:j≠i):pJ F i fp j=F j:=by unfold pJ;rw[if_neg h]
theorem SRF.put{i:Nat}{s:Option Sl}{u:Option V}{fp:List Addr}(I:SRF K cls Av G S₀ ρ σ S H F)(h:∀ t,s=some t->∃ v,u=some v /\ vm K cls Av G S H i t v fp)
  (hl:∀ a∈fp,(∃ o,H a=some o /\ isX o=false) /\ G a=none /\ S a=none) (ap:∀ j a,j≠i->a∈fp->a∉F j):SRF K cls Av G S₀ (ρ.set i s) (σ.set i u) S H (pJ F i fp) where
 gh:=I.gh
 s0:=I.s0
 sh:=I.sh
 new:=I.new
 own:=fun j t e=>by
  rcases set_inv e with⟨rfl,e1,hl⟩|⟨ne,e1⟩
  . obtain⟨v,e2,r⟩:=h t e1
    exact⟨v,by rw[KL (by rw[<- I.len];exact hl),e2],by rw[jD];exact r⟩
  . rw[List.getElem?_set_ne (Ne.symm ne),fR ne];exact I.own j t e1
 apart:=fun j k a h1 h2=>by
  by_cases ej:j=i
  . by_cases ek:k=i
    . rw[ej,ek]
    . subst ej;rw[jD]at h1;rw[fR ek]at h2;exact absurd h2 (ap k a ek h1)
  . by_cases ek:k=i
    . subst ek;rw[jD]at h2;rw[fR ej]at h1;exact absurd h1 (ap j a ej h2)
    . rw[fR ej]at h1;rw[fR ek]at h2;exact I.apart j k a h1 h2
 live:=fun j a ha=>by
  by_cases ej:j=i
  . subst ej;rw[jD]at ha;exact hl a ha
  . rw[fR ej]at ha;exact I.live j a ha
 len:=by simp[I.len]
theorem SR.zZ{i:Nat}{x:PV}{v:V}(I:SR K cls Av G S₀ ρ σ S H)(h:Rep K S x v):SR K cls Av G S₀ (ρ.set i (some (.sh x))) (σ.set i (some v)) S H:=by
 obtain⟨F,J⟩:=I
 exact⟨_,J.put (fp:=[]) (fun t e=>by cases e;exact⟨v,rfl,rfl,h⟩) (fun a ha=>nomatch ha) fun j a _ ha=>nomatch ha⟩
theorem SR.MN{i:Nat}{v:Option V}(I:SR K cls Av G S₀ ρ σ S H):SR K cls Av G S₀ (ρ.set i none) (σ.set i v) S H:=by
 obtain⟨F,J⟩:=I
 exact⟨_,J.put (fp:=[]) (fun t e=>nomatch e) (fun a ha=>nomatch ha) fun j a _ ha=>nomatch ha⟩
theorem lS{α:Type}{l:List α}{i:Nat}{x:α}(h:l[i]?=some x):l.set i x=l:=by
 apply List.ext_getElem?;intro j
 by_cases e:i=j
 . subst e;rw[List.getElem?_set,if_pos rfl,if_pos (List.getElem?_eq_some_iff.mp h).1,h]
 . rw[List.getElem?_set_ne e]
theorem SR.drop{i:Nat}(I:SR K cls Av G S₀ ρ σ S H):SR K cls Av G S₀ (ρ.set i none) σ S H:=by
 cases e:σ[i]? with
 |some v=>have:=I.MN (i:=i) (v:=v);rwa [lS e]at this
 | none=>
   have h1:σ.length<=i:=List.getElem?_eq_none_iff.mp e
   rw[List.set_eq_of_length_le (by rw[I.len];exact h1)];exact I
theorem SR.mut{i:Nat}{xs ys:List PV}{p:Addr}{us:List V}(I:SR K cls Av G S₀ ρ σ S H)(hi:ρ[i]?=some (some (.ow xs)))(hv:σ[i]?=some (some (.ref p)))(hr:bZ K S ys us):SR K cls Av G S₀ (ρ.set i (some (.ow ys))) σ S (upd H p (.lst us)):=by
 obtain⟨F,J⟩:=I;obtain⟨v,e1,q,vs,e2,e3,hG,hS,hH,_⟩:=J.own i _ hi;rw[hv]at e1;cases e1;cases e2
 have J1:SRF K cls Av G S₀ (ρ.set i none) (σ.set i none) S H (pJ F i []):=J.put (fun t e=>nomatch e) (fun a ha=>nomatch ha) fun j a _ ha=>nomatch ha
 have off:∀ j a,a∈pJ F i [] j->a≠p:=fun j a ha z=>by
  by_cases ej:j=i
  . subst ej;rw[jD]at ha;cases ha
  . rw[fR ej]at ha;exact ej (J.apart j i a ha (by rw[e3,z];simp))
 have J2:=J1.change (H':=upd H p (.lst us)) (J.gh.upd hG) (aK.refl _) (J.sh.upd hS) J.new (fun j a ha o h=>by rw[bQ (off j a ha)];exact h)
  (fun b o hx h=>by
    rw[bQ]
    . exact h
    . intro z;rw[z,hH]at h;cases h;cases hx)
  fun j a ha=>(J1.live j a ha).2.2
 have J3:=J2.put (i:=i) (s:=some (.ow ys)) (u:=some (.ref p)) (fp:=[p]) (fun t e=>by cases e;exact⟨_,rfl,p,us,rfl,rfl,hG,hS,bC,hr⟩) (fun a ha=>by
  have z:a=p:=by simpa using ha
  subst z
  exact⟨⟨_,bC,rfl⟩,hG,hS⟩) fun j a hj ha hz=>by
   have z:a=p:=by simpa using ha
   exact off j a hz z
 rw[List.set_set,List.set_set,lS hv]at J3
 exact⟨_,J3⟩
theorem SR.Ng{i:Nat}{xs:List PV}(I:SR K cls Av G S₀ ρ σ S H)(hi:ρ[i]?=some (some (.ow xs))):∃ S',aK S S' /\ SR K cls Av G S₀ (ρ.set i (some (.sh (.lst xs)))) σ S' H:=by
 obtain⟨F,J⟩:=I;obtain⟨v,hv,p,vs,e2,e3,hG,hS,hH,hr⟩:=J.own i _ hi;subst e2
 have J1:SRF K cls Av G S₀ (ρ.set i none) (σ.set i none) S H (pJ F i []):=J.put (fun t e=>nomatch e) (fun a ha=>nomatch ha) fun j a _ ha=>nomatch ha
 have off:∀ j a,a∈pJ F i [] j->a≠p:=fun j a ha z=>by
  by_cases ej:j=i
  . subst ej;rw[jD]at ha;cases ha
  . rw[fR ej]at ha;exact ej (J.apart j i a ha (by rw[e3,z];simp))
 have J2:=J1.change (S':=upd S p (.lst vs)) (H':=H) J.gh (aK.new hS) (fun b u h=>by
   by_cases e:b=p
   . subst e;rw[bC]at h;cases h;exact hH
   . rw[bQ e]at h;exact J.sh b u h) (fun b h=>by
   by_cases e:b=p
   . subst e;exact .inr hG
   . rw[bQ e]at h;exact J.new b h) (fun _ _ _ _ h=>h) (fun _ _ _ h=>h) fun j a ha=>by
     rw[bQ (off j a ha)];exact(J1.live j a ha).2.2
 have J3:=J2.put (i:=i) (s:=some (.sh (.lst xs))) (u:=some (.ref p)) (fp:=[]) (fun t e=>by
  cases e
  refine⟨_,rfl,rfl,?_⟩
  unfold Rep
  exact⟨p,vs,rfl,SqL.new bC,hr.mono (aK.new hS)⟩) (fun a ha=>nomatch ha) fun j a _ ha=>nomatch ha
 rw[List.set_set,List.set_set,lS hv]at J3
 exact⟨_,aK.new hS,_,J3⟩
end
structure bj(S H S' H':Hp):Prop where
 s:aK S S'
 g:aK H H'
 sh:aK S' H'
 new:∀ b,S' b≠none->S b≠none \/ H b=none
theorem bj.refl{S H:Hp}(h:aK S H):bj S H S H:=⟨aK.refl _,aK.refl _,h,fun _ z=>.inl z⟩
theorem bj.trans{S H S1 H1 S2 H2:Hp}(a:bj S H S1 H1)(b:bj S1 H1 S2 H2):bj S H S2 H2:=
 ⟨a.s.trans b.s,a.g.trans b.g,b.sh,fun x h=>by
   rcases b.new x h with z|z
   . exact a.new x z
   . exact .inr (a.g.free z)⟩
theorem SRF.grow{K:PySem.W.Frag}{cls:String->Option Addr}{Av G S₀ S S' H H':Hp}{ρ:ag}{σ:St}{F:Nat->List Addr}(I:SRF K cls Av G S₀ ρ σ S H F)(w:bj S H S' H'):SRF K cls Av G S₀ ρ σ S' H' F:=
 I.change (I.gh.trans w.g) w.s w.sh (fun b h=>by
  rcases w.new b h with z|z
  . exact I.new b z
  . exact .inr (I.gh.free z)) (fun i a _ o h=>w.g _ _ h) (fun b o _ h=>w.g _ _ h) fun i a ha=>by
    obtain⟨⟨o,h1,_⟩,_,h3⟩:=I.live i a ha
    cases q:S' a with
    |none=>rfl
    | some o=>
      rcases w.new a (by rw[q];simp)with z|z
      . exact absurd h3 z
      . rw[h1]at z;cases z
theorem SR.grow{K:PySem.W.Frag}{cls:String->Option Addr}{Av G S₀ S S' H H':Hp}{ρ:ag}{σ:St}(I:SR K cls Av G S₀ ρ σ S H)(w:bj S H S' H'):SR K cls Av G S₀ ρ σ S' H':=let ⟨F,J⟩:=I;⟨F,J.grow w⟩
theorem SR.MY{K:PySem.W.Frag}{cls:String->Option Addr}{Av G S₀ S S' H H':Hp}{ρ:ag}{σ:St}{i:Nat}{xs:List PV}{v:V}(I:SR K cls Av G S₀ ρ σ S H)(w:bj S H S' H')(h:n6 K H S' H' (.fr xs) v):SR K cls Av G S₀ (ρ.set i (some (.ow xs))) (σ.set i (some v)) S' H':=by
 obtain⟨F,J⟩:=I;obtain⟨p,vs,rfl,hB,hS,hH,hr⟩:=h;have hG:=J.gh.free hB
 refine⟨_,(J.grow w).put (fp:=[p]) (fun t e=>by cases e;exact⟨_,rfl,p,vs,rfl,rfl,hG,hS,hH,hr⟩) (fun a ha=>?_) fun j a _ ha hz=>?_⟩
 . have z:a=p:=by simpa using ha
   subst z
   exact⟨⟨_,hH,rfl⟩,hG,hS⟩
 . have z:a=p:=by simpa using ha
   subst z;obtain⟨⟨o,h1,_⟩,_⟩:=J.live j a hz;rw[hB]at h1;cases h1
theorem bj.heap{S H:Hp}{p:Addr}{o:HO}(h:aK S H)(hp:H p=none):bj S H S (upd H p o):=⟨aK.refl _,aK.new hp,h.trans (aK.new hp),fun _ z=>.inl z⟩
theorem bj.both{S H:Hp}{p:Addr}{o:HO}(h:aK S H)(hp:H p=none):bj S H (upd S p o) (upd H p o):=by
 have hS:=h.free hp
 refine⟨aK.new hS,aK.new hp,fun b u z=>?_,fun b z=>?_⟩
 . by_cases e:b=p
   . subst e;rw[bC]at z ⊢;exact z
   . rw[bQ e]at z ⊢;exact h b u z
 . by_cases e:b=p
   . subst e;exact .inr hp
   . rw[bQ e]at z;exact .inl z
section
variable(K:PySem.W.Frag)(cls:String->Option Addr)(W:XW)
def mX(σ:St)(S H:Hp)(Q:VK):OE->Prop
 |.ok r=>∀ v S' H',bj S H S' H'->n6 K H S' H' r v->Q v H'
 |.exc c fs=>∀ a C S' H',bj S H S' H'->pL K cls S' H' c fs a C->W (.ref C) (some a) σ H'
 |.bad=>False
def u9(σ:St)(S H:Hp)(Q:Bool->Hp->Prop):OT->Prop
 |.ok b=>∀ S' H',bj S H S' H'->Q b H'
 |.exc c fs=>∀ a C S' H',bj S H S' H'->pL K cls S' H' c fs a C->W (.ref C) (some a) σ H'
 |.bad=>False
def xD(σ:St)(S H:Hp)(Q:List V->Hp->Prop):OA->Prop
 |.ok xs=>∀ vs S' H',bj S H S' H'->bZ K S' xs vs->Q vs H'
 |.exc c fs=>∀ a C S' H',bj S H S' H'->pL K cls S' H' c fs a C->W (.ref C) (some a) σ H'
 |.bad=>False
def jM(Av G S₀:Hp)(S:Hp)(D:Ends):OS->Prop
 |.nx ρ=>∀ σ' S' H',SR K cls Av G S₀ ρ σ' S' H'->aK S S'->D.nx σ' H'
 |.bk ρ=>∀ σ' S' H',SR K cls Av G S₀ ρ σ' S' H'->aK S S'->D.bk σ' H'
 |.ct ρ=>∀ σ' S' H',SR K cls Av G S₀ ρ σ' S' H'->aK S S'->D.ct σ' H'
 |.rt ρ r=>∀ v σ' S' H',SR K cls Av G S₀ ρ σ' S' H'->aK S S'->n6 K G S' H' r v->D.rt v H'
 |.exc ρ c fs=>∀ a C σ' S' H',SR K cls Av G S₀ ρ σ' S' H'->aK S S'->pL K cls S' H' c fs a C->W (.ref C) (some a) σ' H'
 |.bad=>False
def JE(te:TE)(m:ag->OE):Prop:=∀ Av G S₀ ρ σ S H Q,SR K cls Av G S₀ ρ σ S H->mX K cls W σ S H Q (m ρ)->te σ H Q
def JT(te:TT)(m:ag->OT):Prop:=∀ Av G S₀ ρ σ S H Q,SR K cls Av G S₀ ρ σ S H->u9 K cls W σ S H Q (m ρ)->te σ H Q
def JA(te:TA)(m:ag->OA):Prop:=∀ Av G S₀ ρ σ S H Q,SR K cls Av G S₀ ρ σ S H->xD K cls W σ S H Q (m ρ)->te σ H Q
def JS(ts:TS)(m:ag->OS):Prop:=∀ Av G S₀ ρ σ S H D,SR K cls Av G S₀ ρ σ S H->jM K cls W Av G S₀ S D (m ρ)->ts D σ H
end
section
variable{K:PySem.W.Frag}{cls:String->Option Addr}{W:XW}{Av G S₀ S S' H H' B B':Hp}{ρ:ag}{σ:St}{Q:VK}
theorem n6.back{r:RV}{v:V}(h:n6 K B' S H r v)(g:aK B B'):n6 K B S H r v:=by
 cases r with
 |sh x=>exact h
 |fr xs=>obtain⟨p,vs,e,h1,h2⟩:=h;exact⟨p,vs,e,g.free h1,h2⟩
 |al xs=>exact h
theorem mX.back{o:OE}{S1 H1:Hp}(w:bj S H S1 H1)(h:mX K cls W σ S H Q o):mX K cls W σ S1 H1 Q o:=by
 cases o with
 |ok r=>exact fun v S' H' w' r=>h v S' H' (w.trans w') (r.back w.g)
 |exc c fs=>exact fun a C S' H' w' r=>h a C S' H' (w.trans w') r
 |bad=>exact h
theorem u9.back{o:OT}{Q:Bool->Hp->Prop}{S1 H1:Hp}(w:bj S H S1 H1)(h:u9 K cls W σ S H Q o):u9 K cls W σ S1 H1 Q o:=by
 cases o with
 |ok r=>exact fun S' H' w'=>h S' H' (w.trans w')
 |exc c fs=>exact fun a C S' H' w' r=>h a C S' H' (w.trans w') r
 |bad=>exact h
theorem xD.back{o:OA}{Q:List V->Hp->Prop}{S1 H1:Hp}(w:bj S H S1 H1)(h:xD K cls W σ S H Q o):xD K cls W σ S1 H1 Q o:=by
 cases o with
 |ok r=>exact fun v S' H' w' r=>h v S' H' (w.trans w') r
 |exc c fs=>exact fun a C S' H' w' r=>h a C S' H' (w.trans w') r
 |bad=>exact h
theorem jM.back{o:OS}{D:Ends}{S1:Hp}(s:aK S S1)(h:jM K cls W Av G S₀ S D o):jM K cls W Av G S₀ S1 D o:=by
 cases o with
 |nx ρ=>exact fun σ' S' H' I s'=>h σ' S' H' I (s.trans s')
 |bk ρ=>exact fun σ' S' H' I s'=>h σ' S' H' I (s.trans s')
 |ct ρ=>exact fun σ' S' H' I s'=>h σ' S' H' I (s.trans s')
 |rt ρ r=>exact fun v σ' S' H' I s'=>h v σ' S' H' I (s.trans s')
 |exc ρ c fs=>exact fun a C σ' S' H' I s'=>h a C σ' S' H' I (s.trans s')
 |bad=>exact h
theorem JE.go{te:TE}{m:ag->OE}{f:RV->OE}{Q':VK}(h:JE K cls W te m)(I:SR K cls Av G S₀ ρ σ S H)(p:mX K cls W σ S H Q ((m ρ).bind f))
  (k:∀ r v S1 H1,SR K cls Av G S₀ ρ σ S1 H1->bj S H S1 H1->n6 K H S1 H1 r v->mX K cls W σ S1 H1 Q (f r)->Q' v H1):te σ H Q':=by
 refine h Av G S₀ ρ σ S H Q' I ?_
 cases e:m ρ with
 |ok r=>rw[e]at p;exact fun v S1 H1 w r1=>k r v S1 H1 (I.grow w) w r1 (p.back w)
 |exc c fs=>rw[e]at p;exact p
 |bad=>rw[e]at p;exact p
theorem JE.goT{te:TE}{m:ag->OE}{f:RV->OT}{Q':VK}{Q:Bool->Hp->Prop}(h:JE K cls W te m)(I:SR K cls Av G S₀ ρ σ S H)(p:u9 K cls W σ S H Q ((m ρ).gD f))
  (k:∀ r v S1 H1,SR K cls Av G S₀ ρ σ S1 H1->bj S H S1 H1->n6 K H S1 H1 r v->u9 K cls W σ S1 H1 Q (f r)->Q' v H1):te σ H Q':=by
 refine h Av G S₀ ρ σ S H Q' I ?_
 cases e:m ρ with
 |ok r=>rw[e]at p;exact fun v S1 H1 w r1=>k r v S1 H1 (I.grow w) w r1 (p.back w)
 |exc c fs=>rw[e]at p;exact p
 |bad=>rw[e]at p;exact p
theorem JE.goS{te:TE}{m:ag->OE}{f:RV->OS}{Q':VK}{D:Ends}(h:JE K cls W te m)(I:SR K cls Av G S₀ ρ σ S H)(p:jM K cls W Av G S₀ S D ((m ρ).cy ρ f))
  (k:∀ r v S1 H1,SR K cls Av G S₀ ρ σ S1 H1->bj S H S1 H1->n6 K H S1 H1 r v->jM K cls W Av G S₀ S1 D (f r)->Q' v H1):te σ H Q':=by
 refine h Av G S₀ ρ σ S H Q' I ?_
 cases e:m ρ with
 |ok r=>rw[e]at p;exact fun v S1 H1 w r1=>k r v S1 H1 (I.grow w) w r1 (p.back w.s)
 |exc c fs=>rw[e]at p;exact fun a C S' H' w x=>p a C σ S' H' (I.grow w) w.s x
 |bad=>rw[e]at p;exact p
theorem JT.go{te:TT}{m:ag->OT}{f:Bool->OE}{Q':Bool->Hp->Prop}(h:JT K cls W te m)(I:SR K cls Av G S₀ ρ σ S H)(p:mX K cls W σ S H Q ((m ρ).bind f))
  (k:∀ b S1 H1,SR K cls Av G S₀ ρ σ S1 H1->bj S H S1 H1->mX K cls W σ S1 H1 Q (f b)->Q' b H1):te σ H Q':=by
 refine h Av G S₀ ρ σ S H Q' I ?_
 cases e:m ρ with
 |ok r=>rw[e]at p;exact fun S1 H1 w=>k r S1 H1 (I.grow w) w (p.back w)
 |exc c fs=>rw[e]at p;exact p
 |bad=>rw[e]at p;exact p
theorem JT.goT{te:TT}{m:ag->OT}{f:Bool->OT}{Q Q':Bool->Hp->Prop}(h:JT K cls W te m)(I:SR K cls Av G S₀ ρ σ S H)(p:u9 K cls W σ S H Q ((m ρ).gD f))
  (k:∀ b S1 H1,SR K cls Av G S₀ ρ σ S1 H1->bj S H S1 H1->u9 K cls W σ S1 H1 Q (f b)->Q' b H1):te σ H Q':=by
 refine h Av G S₀ ρ σ S H Q' I ?_
 cases e:m ρ with
 |ok r=>rw[e]at p;exact fun S1 H1 w=>k r S1 H1 (I.grow w) w (p.back w)
 |exc c fs=>rw[e]at p;exact p
 |bad=>rw[e]at p;exact p
theorem JT.goS{te:TT}{m:ag->OT}{f:Bool->OS}{Q':Bool->Hp->Prop}{D:Ends}(h:JT K cls W te m)(I:SR K cls Av G S₀ ρ σ S H)(p:jM K cls W Av G S₀ S D ((m ρ).cy ρ f))
  (k:∀ b S1 H1,SR K cls Av G S₀ ρ σ S1 H1->bj S H S1 H1->jM K cls W Av G S₀ S1 D (f b)->Q' b H1):te σ H Q':=by
 refine h Av G S₀ ρ σ S H Q' I ?_
 cases e:m ρ with
 |ok r=>rw[e]at p;exact fun S1 H1 w=>k r S1 H1 (I.grow w) w (p.back w.s)
 |exc c fs=>rw[e]at p;exact fun a C S' H' w x=>p a C σ S' H' (I.grow w) w.s x
 |bad=>rw[e]at p;exact p
theorem JA.go{te:TA}{m:ag->OA}{f:List PV->OE}{Q':List V->Hp->Prop}(h:JA K cls W te m)(I:SR K cls Av G S₀ ρ σ S H)(p:mX K cls W σ S H Q ((m ρ).bind f))
  (k:∀ xs vs S1 H1,SR K cls Av G S₀ ρ σ S1 H1->bj S H S1 H1->bZ K S1 xs vs->mX K cls W σ S1 H1 Q (f xs)->Q' vs H1):te σ H Q':=by
 refine h Av G S₀ ρ σ S H Q' I ?_
 cases e:m ρ with
 |ok r=>rw[e]at p;exact fun v S1 H1 w r1=>k r v S1 H1 (I.grow w) w r1 (p.back w)
 |exc c fs=>rw[e]at p;exact p
 |bad=>rw[e]at p;exact p
theorem JA.goA{te:TA}{m:ag->OA}{f:List PV->OA}{Q Q':List V->Hp->Prop}(h:JA K cls W te m)(I:SR K cls Av G S₀ ρ σ S H)(p:xD K cls W σ S H Q ((m ρ).fX f))
  (k:∀ xs vs S1 H1,SR K cls Av G S₀ ρ σ S1 H1->bj S H S1 H1->bZ K S1 xs vs->xD K cls W σ S1 H1 Q (f xs)->Q' vs H1):te σ H Q':=by
 refine h Av G S₀ ρ σ S H Q' I ?_
 cases e:m ρ with
 |ok r=>rw[e]at p;exact fun v S1 H1 w r1=>k r v S1 H1 (I.grow w) w r1 (p.back w)
 |exc c fs=>rw[e]at p;exact p
 |bad=>rw[e]at p;exact p
theorem ae{i:Nat}:JE K cls W (zC i) (ao i):=by
 intro Av G S₀ ρ σ S H Q I p;unfold ao at p;split at p
 . rename_i x e;obtain⟨v,e1,r⟩:=I.good i _ e
   exact⟨v,e1,p v S H (bj.refl I.sh) r⟩
 . rename_i xs e;obtain⟨v,e1,a,vs,e2,_,_,h3,h4⟩:=I.good i _ e
   exact⟨v,e1,p v S H (bj.refl I.sh) ⟨a,vs,e2,SqL.new h3,h4⟩⟩
 . exact p.elim
theorem yK{x:PV}{v:V}(h:∀ S,Rep K S x v):JE K cls W (tC v) (mC x):=fun Av G S₀ ρ σ S H Q I p=>p v S H (bj.refl I.sh) (h S)
theorem ah{n:Int}:JE K cls W (tC (.int n)) (mC (.int n)):=yK fun _=>by unfold Rep;rfl
theorem uS{n:Bool}:JE K cls W (tC (.bl n)) (mC (.bl n)):=yK fun _=>by unfold Rep;rfl
theorem dh:JE K cls W (tC .non) (mC .non):=yK fun _=>by unfold Rep;rfl
theorem aM{n:Str}:JE K cls W (tC (.str n)) (mC (.str n)):=yK fun _=>by unfold Rep;rfl
theorem pf{p:Addr}{ns:List Int}(h:∀ S,SqT K S p (ns.map V.int)):JE K cls W (tC (.ref p)) (mC (.tup (ns.map .int))):=yK fun S=>by unfold Rep;exact⟨p,_,rfl,h S,bZ.ints⟩
def JR(K:PySem.W.Frag)(r:R2)(g:PV->PV->Option RV):Prop:=∀ S H x y v u rr Q,aK S H->RdV K S H x v->RdV K S H y u->g x y=some rr ->
 (∀ z S' H',bj S H S' H'->n6 K H S' H' rr z->Q z H')->r v u H Q
theorem aq{r:R2}{g:PV->PV->Option RV}{ta tb:TE}{ma mb:ag->OE}(hr:JR K r g)(ha:JE K cls W ta ma)(hb:JE K cls W tb mb):JE K cls W (tOp r ta tb) (mOp g ma mb):=by
 intro Av G S₀ ρ σ S H Q I p
 refine ha.go I p fun a v S1 H1 I1 w1 r1 p1=>hb.go I1 p1 fun b u S2 H2 I2 w2 r2 p2=>?_
 cases e:g a.pv b.pv with
 |none=>rw[e]at p2;exact p2.elim
 | some rr=>
   rw[e]at p2;exact hr S2 H2 a.pv b.pv v u rr Q I2.sh ((r1.rd I1.sh).mono w2.s w2.g) (r2.rd I2.sh) e p2
def sv:PV->V
 |.non=>.non
 |.bl b=>.bl b
 |.int i=>.int i
 |.str s=>.str s
 |_=>.non
theorem dg{i:Int}{v:V}(h:RdV K S H (.int i) v):v=.int i:=by unfold RdV Rep at h;exact h
theorem pE{i:Bool}{v:V}(h:RdV K S H (.bl i) v):v=.bl i:=by unfold RdV Rep at h;exact h
theorem j3{i:Str}{v:V}(h:RdV K S H (.str i) v):v=.str i:=by unfold RdV Rep at h;exact h
theorem jL{v:V}(h:RdV K S H .non v):v=.non:=by unfold RdV Rep at h;exact h
theorem iJ{xs:List PV}{v:V}(h:RdV K S H (.lst xs) v):∃ p vs,v=.ref p /\ SqL K H p vs /\ bZ K S xs vs:=h
theorem ni{xs:List PV}{v:V}(h:RdV K S H (.tup xs) v):∃ p vs,v=.ref p /\ SqT K S p vs /\ bZ K S xs vs:=by unfold RdV Rep at h;exact h
theorem Gd{C:Int->Int->Prop}{c:Int->Int->Bool}{f:Int->Int->PV}{fv:Int->Int->V}(hc:∀ i j,c i j=true->C i j)(hf:∀ S i j,Rep K S (f i j) (fv i j)):JR K (rI C fv) (gI c f):=by
 intro S H x y v u rr Q I hx hy e k;unfold gI at e;split at e
 . rename_i i j;split at e
   . rename_i hcc;cases e
     exact⟨i,j,dg hx,dg hy,hc i j hcc,k _ S H (bj.refl I) (hf S i j)⟩
   . cases e
 . cases e
theorem uv{f:Int->Int->PV}{fv:Int->Int->V}(hf:∀ S i j,Rep K S (f i j) (fv i j)):JR K (rI0 fv) (gI (fun _ _=>true) f):=by
 intro S H x y v u rr Q I hx hy e k;unfold gI at e;split at e
 . rename_i i j;simp only[if_true]at e;cases e
   exact⟨i,j,dg hx,dg hy,k _ S H (bj.refl I) (hf S i j)⟩
 . cases e
theorem b9:JR K (rI0 fun i j=>.int (i+j)) dU:=uv fun _ _ _=>by unfold Rep;rfl
theorem sE:JR K (rI0 fun i j=>.int (i - j)) xo:=uv fun _ _ _=>by unfold Rep;rfl
theorem ur:JR K (rI EH fun i j=>.int (i*j)) AF:=Gd (fun i j h=>by simpa [EH,Bool.or_eq_true,Bool.and_eq_true,decide_eq_true_eq]using h) fun _ _ _=>by unfold Rep;rfl
theorem bU:JR K (rI Kj fun i j=>.int (i/j)) dH:=Gd (fun i j h=>by simpa [Kj,Bool.and_eq_true,decide_eq_true_eq]using h) fun _ _ _=>by unfold Rep;rfl
theorem bW:JR K (rI (fun _ j=>0<j) fun i j=>.int (i%j)) cH:=Gd (fun i j h=>by simpa using h) fun _ _ _=>by unfold Rep;rfl
theorem ly:JR K (rI0 fun i j=>.bl (decide (i<j))) gLt:=uv fun _ _ _=>by unfold Rep;rfl
theorem nO:JR K (rI0 fun i j=>.bl (decide (i<=j))) gLe:=uv fun _ _ _=>by unfold Rep;rfl
theorem Cw:JR K (rI0 fun i j=>.bl (decide (j<i))) gGt:=uv fun _ _ _=>by unfold Rep;rfl
theorem CM:JR K (rI0 fun i j=>.bl (decide (j<=i))) gGe:=uv fun _ _ _=>by unfold Rep;rfl
theorem E6{x y:PV}{v u:V}{b:Bool}(hx:RdV K S H x v)(hy:RdV K S H y u)(e:eqS x y=some b):L9 v u=true /\ decide (v=u)=b:=by
 unfold eqS at e;split at e
 all_goals first
  |(have h1:=jL hx;subst h1;have h2:=jL hy;subst h2;cases e;exact⟨rfl,by simp⟩)
  |(have h1:=jL hx;subst h1;have h2:=dg hy;subst h2;cases e;exact⟨rfl,by simp⟩)
  |(have h1:=dg hx;subst h1;have h2:=jL hy;subst h2;cases e;exact⟨rfl,by simp⟩)
  |(have h1:=jL hx;subst h1;have h2:=pE hy;subst h2;cases e;exact⟨rfl,by simp⟩)
  |(have h1:=pE hx;subst h1;have h2:=jL hy;subst h2;cases e;exact⟨rfl,by simp⟩)
  |(have h1:=jL hx;subst h1;have h2:=j3 hy;subst h2;cases e;exact⟨rfl,by simp⟩)
  |(have h1:=j3 hx;subst h1;have h2:=jL hy;subst h2;cases e;exact⟨rfl,by simp⟩)
  |(have h1:=dg hx;subst h1;have h2:=dg hy;subst h2;cases e;exact⟨rfl,by simp⟩)
  |(have h1:=pE hx;subst h1;have h2:=pE hy;subst h2;cases e;exact⟨rfl,by simp⟩)
  |(have h1:=j3 hx;subst h1;have h2:=j3 hy;subst h2;cases e;exact⟨rfl,by simp⟩)
  |(have h1:=dg hx;subst h1;have h2:=j3 hy;subst h2;cases e;exact⟨rfl,by simp⟩)
  |(have h1:=j3 hx;subst h1;have h2:=dg hy;subst h2;cases e;exact⟨rfl,by simp⟩)
  |(have h1:=pE hx;subst h1;have h2:=j3 hy;subst h2;cases e;exact⟨rfl,by simp⟩)
  |(have h1:=j3 hx;subst h1;have h2:=pE hy;subst h2;cases e;exact⟨rfl,by simp⟩)
  |cases e
theorem bx:JR K rEq gEq:=by
 intro S H x y v u rr Q I hx hy e k;obtain⟨b,e1,e2⟩:=Option.map_eq_some_iff.mp e;obtain⟨h1,h2⟩:=E6 hx hy e1
 refine⟨h1,k _ S H (bj.refl I) ?_⟩
 subst e2;show Rep K S _ _;unfold Rep;rw[h2]
theorem vY:JR K rNe gNe:=by
 intro S H x y v u rr Q I hx hy e k;obtain⟨b,e1,e2⟩:=Option.map_eq_some_iff.mp e;obtain⟨h1,h2⟩:=E6 hx hy e1
 refine⟨h1,k _ S H (bj.refl I) ?_⟩
 subst e2;show Rep K S _ _;unfold Rep;rw[h2]
end
section
variable{K:PySem.W.Frag}{cls:String->Option Addr}{W:XW}{Av G S₀ S S' H H' B B':Hp}{ρ:ag}{σ:St}{Q:VK}
theorem n6.share{S1 H1:Hp}{r:RV}{v:V}{x:PV}(h:n6 K H S1 H1 r v)(w:bj S H S1 H1)(e:mM r=some x):∃ S2,bj S H S2 H1 /\ aK S1 S2 /\ Rep K S2 x v:=by
 cases r with
 |sh y=>cases e;exact⟨S1,w,aK.refl _,h⟩
 |al xs=>cases e
 | fr xs=>
   cases e;obtain⟨p,vs,rfl,hB,hS,hH,hr⟩:=h
   refine⟨upd S1 p (.lst vs),⟨w.s.trans (aK.new hS),w.g,fun b u z=>?_,fun b z=>?_⟩,aK.new hS,?_⟩
   . by_cases e:b=p
     . subst e;rw[bC]at z;cases z;exact hH
     . rw[bQ e]at z;exact w.sh b u z
   . by_cases e:b=p
     . subst e;exact .inr hB
     . rw[bQ e]at z;exact w.new b z
   . unfold Rep
     exact⟨p,vs,rfl,SqL.new bC,hr.mono (aK.new hS)⟩
theorem ax:JA K cls W lZ aJ:=fun Av G S₀ ρ σ S H Q I p=>p [] S H (bj.refl I.sh) .nil
theorem af{te:TE}{t:TA}{me:ag->OE}{mr:ag->OA}(he:JE K cls W te me)(ht:JA K cls W t mr):JA K cls W (jN te t) (ak me mr):=by
 intro Av G S₀ ρ σ S H Q I p;refine he Av G S₀ ρ σ S H _ I ?_;unfold ak at p
 cases e:me ρ with
 |exc c fs=>rw[e]at p;exact p
 |bad=>rw[e]at p;exact p
 | ok r=>
   rw[e]at p;intro v S1 H1 w1 r1;simp only[OE.fX]at p
   cases es:mM r with
   |none=>rw[es]at p;exact p.elim
   | some x=>
     rw[es]at p;obtain⟨S2,w2,s2,rx⟩:=r1.share w1 es
     refine ht.goA (I.grow w2) (p.back w2) fun xs vs S3 H3 I3 w3 r3 p3=>?_
     exact p3 (v ::vs) S3 H3 (bj.refl I3.sh) (.cons (Rep.mono w3.s rx) r3)
theorem EW:lim=sizeLine:=by decide
theorem aW{t:TA}{ma:ag->OA}(h:JA K cls W t ma):JE K cls W (II t) (b5 ma):=by
 intro Av G S₀ ρ σ S H Q I p
 refine h.go I p fun xs vs S1 H1 I1 w1 r1 p1=>?_
 split at p1
 . rename_i hl
   refine⟨by rw[r1.length];exact hl,fun q hq=>p1 (.ref q) S1 _ (bj.heap I1.sh hq) ⟨q,vs,rfl,hq,I1.sh.free hq,bC,r1⟩⟩
 . exact p1.elim
theorem cf{t:TA}{ma:ag->OA}(h:JA K cls W t ma):JE K cls W (LG t) (fh ma):=by
 intro Av G S₀ ρ σ S H Q I p
 refine h.go I p fun xs vs S1 H1 I1 w1 r1 p1=>?_
 split at p1
 . rename_i hl
   refine⟨by rw[r1.length];exact hl,fun q hq=>p1 (.ref q) _ _ (bj.both I1.sh hq) ?_⟩
   show Rep K _ _ _;unfold Rep
   exact⟨q,vs,rfl,SqT.new bC,r1.mono (bj.both (o:=.tup vs) I1.sh hq).s⟩
 . exact p1.elim
def MK(K:PySem.W.Frag)(cls:String->Option Addr)(S H:Hp)(Q:VK)(E:XK):OE->Prop
 |.ok r=>∀ v S' H',bj S H S' H'->n6 K H S' H' r v->Q v H'
 |.exc c fs=>∀ a C S' H',bj S H S' H'->pL K cls S' H' c fs a C->E (.ref C) (some a) H'
 |.bad=>False
def spP(K:PySem.W.Frag)(cls:String->Option Addr)(f:List PV->OE):Sp:=fun vs H Q E=>∃ S xs,aK S H /\ bZ K S xs vs /\ MK K cls S H Q E (f xs)
theorem aO{t:TA}{ma:ag->OA}{f:List PV->OE}(h:JA K cls W t ma):JE K cls W (sP (spP K cls f) [] W t) (bp f ma):=by
 intro Av G S₀ ρ σ S H Q I p
 refine h.go I p fun xs vs S1 H1 I1 w1 r1 p1=>?_
 show spP K cls f (vs++[]) H1 Q _;rw[List.append_nil]
 refine⟨S1,xs,I1.sh,r1,?_⟩
 cases e:f xs with
 |ok r=>rw[e]at p1;exact p1
 |exc c fs=>rw[e]at p1;exact p1
 |bad=>rw[e]at p1;exact p1
def JU(K:PySem.W.Frag)(r:List V->Hp->VK->Prop)(g:PV->Option RV):Prop:=∀ S H x v rr Q,aK S H->RdV K S H x v->g x=some rr ->
 (∀ z S' H',bj S H S' H'->n6 K H S' H' rr z->Q z H')->r [v] H Q
theorem dM{r:List V->Hp->VK->Prop}{g:PV->Option RV}{ta:TE}{ma:ag->OE}(hr:JU K r g)(ha:JE K cls W ta ma):JE K cls W (tCB r (jN ta lZ)) (mUn g ma):=by
 intro Av G S₀ ρ σ S H Q I p
 refine ha.go I p fun a v S1 H1 I1 w1 r1 p1=>?_
 show r [v] H1 Q
 cases e:g a.pv with
 |none=>rw[e]at p1;exact p1.elim
 |some rr=>rw[e]at p1;exact hr S1 H1 a.pv v rr Q I1.sh (r1.rd I1.sh) e p1
theorem nR{r:V->Hp->VK->Prop}{g:PV->Option RV}{ta:TE}{ma:ag->OE}(hr:JU K (fun vs H Q=>∃ v,vs=[v] /\ r v H Q) g)(ha:JE K cls W ta ma):JE K cls W (tUn r ta) (mUn g ma):=by
 intro Av G S₀ ρ σ S H Q I p
 refine ha.go I p fun a v S1 H1 I1 w1 r1 p1=>?_
 cases e:g a.pv with
 |none=>rw[e]at p1;exact p1.elim
 | some rr=>
   rw[e]at p1;obtain⟨u,e1,h⟩:=hr S1 H1 a.pv v rr Q I1.sh (r1.rd I1.sh) e p1;cases e1;exact h
theorem kf:JU K (fun vs H Q=>∃ v,vs=[v] /\ rU (fun i=>.int (-i)) v H Q) gU:=by
 intro S H x v rr Q I hx e k
 cases x with
 |int i=>cases e;exact⟨v,rfl,i,dg hx,k _ S H (bj.refl I) (by show Rep K S _ _;unfold Rep;rfl)⟩
 |_=>cases e
theorem iI:JU K (fun xs H Q=>∃ p ys,xs=[.ref p] /\ (SqL K H p ys \/ SqT K H p ys) /\ Q (.int ys.length) H) mK:=by
 intro S H x v rr Q I hx e k
 cases x with
 | lst xs=>
   cases e;obtain⟨p,vs,rfl,hq,r⟩:=iJ hx
   exact⟨p,vs,rfl,.inl hq,k _ S H (bj.refl I) (by show Rep K S _ _;unfold Rep;rw[r.length])⟩
 | tup xs=>
   cases e;obtain⟨p,vs,rfl,hq,r⟩:=ni hx
   exact⟨p,vs,rfl,.inr (aK.tup I hq),k _ S H (bj.refl I) (by show Rep K S _ _;unfold Rep;rw[r.length])⟩
 |_=>cases e
theorem CP:JU K (fun xs H Q=>(∃ i,xs=[.int i] /\ Q (.int i) H) \/ ∃ k,xs=[.bl k] /\ Q (.int (if k then 1 else 0)) H) Ax:=by
 intro S H x v rr Q I hx e k
 cases x with
 |int i=>cases e;exact .inl ⟨i,by rw[dg hx],k _ S H (bj.refl I) (by show Rep K S _ _;unfold Rep;rfl)⟩
 |bl b=>cases e;exact .inr ⟨b,by rw[pE hx],k _ S H (bj.refl I) (by show Rep K S _ _;unfold Rep;rfl)⟩
 |_=>cases e
theorem BX:JU K (fun xs H Q=>∃ p ys,xs=[.ref p] /\ (SqL K H p ys \/ SqT K H p ys) /\ ∀ l,H l=none->Q (.ref l) (upd H l (.lst ys))) sY:=by
 intro S H x v rr Q I hx e k
 cases x with
 | lst xs=>
   cases e;obtain⟨p,vs,rfl,hq,r⟩:=iJ hx
   exact⟨p,vs,rfl,.inl hq,fun l hl=>k _ S _ (bj.heap I hl) ⟨l,vs,rfl,hl,I.free hl,bC,r⟩⟩
 | tup xs=>
   cases e;obtain⟨p,vs,rfl,hq,r⟩:=ni hx
   exact⟨p,vs,rfl,.inr (aK.tup I hq),fun l hl=>k _ S _ (bj.heap I hl) ⟨l,vs,rfl,hl,I.free hl,bC,r⟩⟩
 |_=>cases e
theorem L5{α:Type}(xs:List α)(i:Int):atP xs i=L2.atI xs i:=rfl
theorem bZ.atI{xs:List PV}{vs:List V}{i:Int}{x:PV}(h:bZ K S xs vs)(e:atP xs i=some x):∃ v,L2.atI vs i=some v /\ Rep K S x v:=by
 rw[L5]at e
 unfold L2.atI at e ⊢
 rw[h.length]
 cases q:ixN xs.length i with
 |none=>rw[q]at e;cases e
 |some j=>rw[q]at e;exact h.get e
theorem fH:JR K (HQ K) gN:=by
 intro S H x y v u rr Q I hx hy e k;unfold gN at e;split at e
 . rename_i xs i;obtain⟨z,e1,e2⟩:=Option.map_eq_some_iff.mp e;obtain⟨p,vs,rfl,hq,r⟩:=iJ hx;obtain⟨w,e3,rw'⟩:=r.atI e1;subst e2
   exact⟨p,vs,i,w,rfl,dg hy,hq,e3,k _ S H (bj.refl I) rw'⟩
 . cases e
theorem ez:JR K (Nb K) eT:=by
 intro S H x y v u rr Q I hx hy e k;unfold eT at e;split at e
 . rename_i xs i;obtain⟨z,e1,e2⟩:=Option.map_eq_some_iff.mp e;obtain⟨p,vs,rfl,hq,r⟩:=ni hx;obtain⟨w,e3,rw'⟩:=r.atI e1;subst e2
   exact⟨p,vs,i,w,rfl,dg hy,aK.tup I hq,e3,k _ S H (bj.refl I) rw'⟩
 . cases e
end
section
variable{K:PySem.W.Frag}{cls:String->Option Addr}{W:XW}{Av G S₀ S S' H H' B B':Hp}{ρ:ag}{σ:St}{Q:VK}
theorem i6:JR K (JM K) nu:=by
 intro S H x y v u rr Q I hx hy e k;unfold nu at e;split at e
 . rename_i xs ys;split at e
   . rename_i hl;cases e;obtain⟨p,vs,rfl,hq,r⟩:=iJ hx;obtain⟨p2,vs2,rfl,hq2,r2⟩:=iJ hy
     exact⟨p,p2,vs,vs2,rfl,rfl,hq,hq2,by rw[r.length,r2.length];exact hl,fun l hn=>k _ S _ (bj.heap I hn) ⟨l,_,rfl,hn,I.free hn,bC,r.append r2⟩⟩
   . cases e
 . cases e
theorem BB{xs:List PV}{vs:List V}{bs:List Bool}(h:tQ xs=some bs)(r:bZ K S xs vs):vs=bs.map V.bl:=by
 induction xs generalizing bs vs with
 |nil=>cases h;exact r.nil_inv
 | cons x xs ih=>
   cases x with
   | bl i=>
     obtain⟨ms,e1,e2⟩:=Option.map_eq_some_iff.mp h;subst e2;obtain⟨v,t,rfl,h1,h2⟩:=r.cons_inv;unfold Rep at h1;rw[ih e1 h2,h1];rfl
   |_=>cases h
theorem LU{A:Around}(hh:A.handled=none):JU K (fun xs H Q=>∃(p:Addr) (bs:List Bool),xs=[.ref p] /\ SqL K H p (bs.map V.bl) /\ A.handled=none /\ Q (.bl (bs.all id)) H) IX:=by
 intro S H x v rr Q I hx e k
 cases x with
 | lst xs=>
   obtain⟨bs,e1,e2⟩:=Option.map_eq_some_iff.mp e;obtain⟨p,vs,rfl,hq,r⟩:=iJ hx;rw[BB e1 r]at hq;subst e2
   exact⟨p,bs,rfl,hq,hh,k _ S H (bj.refl I) (by show Rep K S _ _;unfold Rep;rfl)⟩
 |_=>cases e
theorem Kh{T:String}{x:PV}{v:V}{b:Bool}(s:aK S H)(hx:RdV K S H x v)(e:isP T x=some b):IsV K T v H b:=by
 cases x with
 | int i=>
   have:=dg hx;subst this;simp only[isP]at e;split at e
   . cases e;exact .inl ⟨by assumption,rfl⟩
   . split at e
     . rename_i h;cases e;rcases h with h|h|h|h
       . exact .inr (.inl ⟨h,rfl⟩)
       . exact .inr (.inr (.inl ⟨h,rfl⟩))
       . exact .inr (.inr (.inr (.inl ⟨h,rfl⟩)))
       . exact .inr (.inr (.inr (.inr ⟨h,rfl⟩)))
     . cases e
 | bl i=>
   have:=pE hx;subst this;simp only[isP]at e;split at e
   . rename_i h;cases e;rcases h with h|h
     . exact .inl ⟨h,rfl⟩
     . exact .inr (.inl ⟨h,rfl⟩)
   . split at e
     . rename_i h;cases e;rcases h with h|h|h
       . exact .inr (.inr (.inl ⟨h,rfl⟩))
       . exact .inr (.inr (.inr (.inl ⟨h,rfl⟩)))
       . exact .inr (.inr (.inr (.inr ⟨h,rfl⟩)))
     . cases e
 | non=>
   have:=jL hx;subst this;simp only[isP]at e;split at e
   . rename_i h;cases e;rcases h with h|h|h|h|h
     . exact .inl ⟨h,rfl⟩
     . exact .inr (.inl ⟨h,rfl⟩)
     . exact .inr (.inr (.inl ⟨h,rfl⟩))
     . exact .inr (.inr (.inr (.inl ⟨h,rfl⟩)))
     . exact .inr (.inr (.inr (.inr ⟨h,rfl⟩)))
   . cases e
 | str i=>
   have:=j3 hx;subst this;simp only[isP]at e;split at e
   . cases e;exact .inr (.inr (.inr (.inr ⟨by assumption,rfl⟩)))
   . split at e
     . rename_i h;cases e;rcases h with h|h|h|h
       . exact .inl ⟨h,rfl⟩
       . exact .inr (.inl ⟨h,rfl⟩)
       . exact .inr (.inr (.inl ⟨h,rfl⟩))
       . exact .inr (.inr (.inr (.inl ⟨h,rfl⟩)))
     . cases e
 | lst xs=>
   obtain⟨p,vs,rfl,hq,r⟩:=iJ hx;refine .inl ⟨⟨vs,hq⟩,?_⟩;simp only[isP]at e;split at e
   . cases e;exact .inr (.inr (.inl ⟨by assumption,rfl⟩))
   . split at e
     . rename_i h;cases e;rcases h with h|h|h|h
       . exact .inl ⟨h,rfl⟩
       . exact .inr (.inl ⟨h,rfl⟩)
       . exact .inr (.inr (.inr (.inl ⟨h,rfl⟩)))
       . exact .inr (.inr (.inr (.inr ⟨h,rfl⟩)))
     . cases e
 | tup xs=>
   obtain⟨p,vs,rfl,hq,r⟩:=ni hx;refine .inr ⟨⟨vs,aK.tup s hq⟩,?_⟩;simp only[isP]at e;split at e
   . cases e;exact .inr (.inr (.inr (.inl ⟨by assumption,rfl⟩)))
   . split at e
     . rename_i h;cases e;rcases h with h|h|h|h
       . exact .inl ⟨h,rfl⟩
       . exact .inr (.inl ⟨h,rfl⟩)
       . exact .inr (.inr (.inl ⟨h,rfl⟩))
       . exact .inr (.inr (.inr (.inr ⟨h,rfl⟩)))
     . cases e
theorem uN{T:String}{ta:TE}{ma:ag->OE}(ha:JE K cls W ta ma):
  JE K cls W (tCB (fun xs H Q=>∃ x T b,xs=[x,.ty T] /\ IsV K T x H b /\ Q (.bl b) H) (jN ta (jN (tC (.ty T)) lZ))) (mIs T ma):=by
 intro Av G S₀ ρ σ S H Q I p
 refine ha.go I p fun a v S1 H1 I1 w1 r1 p1=>?_
 show ∃ x T' b,[v,V.ty T]=[x,V.ty T'] /\ _
 dsimp only at p1
 cases e:isP T a.pv with
 |none=>rw[e]at p1;exact p1.elim
 | some b=>
   rw[e]at p1
   exact⟨v,T,b,rfl,Kh I1.sh (r1.rd I1.sh) e,p1 _ S1 H1 (bj.refl I1.sh) (by show Rep K S1 _ _;unfold Rep;rfl)⟩
end
section
variable{K:PySem.W.Frag}{cls:String->Option Addr}{W:XW}{Av G S₀ S S' H H' B B':Hp}{ρ:ag}{σ:St}{Q:VK}
theorem tE{xs:List PV}{vs:List V}(h:bZ K S xs vs):vs.isEmpty=xs.isEmpty:=by
 cases xs with
 |nil=>rw[h.nil_inv];rfl
 |cons x xs=>obtain⟨v,r,rfl,_⟩:=h.cons_inv;rfl
theorem CF{x:PV}{v:V}{b:Bool}(s:aK S H)(hx:RdV K S H x v)(e:vj x=some b):Ca K v H b:=by
 cases x with
 |non=>have:=jL hx;subst this;cases e;rfl
 |bl c=>have:=pE hx;subst this;cases e;rfl
 |int i=>have:=dg hx;subst this;cases e;rfl
 |str z=>cases e
 | lst xs=>
   obtain⟨p,vs,rfl,hq,r⟩:=iJ hx;cases e;exact .inl ⟨vs,hq,by rw[tE r]⟩
 | tup xs=>
   obtain⟨p,vs,rfl,hq,r⟩:=ni hx;cases e;exact .inr (.inl ⟨vs,aK.tup s hq,by rw[tE r]⟩)
theorem cG{ta:TE}{ma:ag->OE}(ha:JE K cls W ta ma):JT K cls W (fun σ H Q=>ta σ H fun x H'=>∃ k,Ca K x H' k /\ Q k H') (cU ma):=by
 intro Av G S₀ ρ σ S H Q I p
 refine ha.goT I p fun r v S1 H1 I1 w1 r1 p1=>?_
 cases e:vj r.pv with
 |none=>rw[e]at p1;exact p1.elim
 |some b=>rw[e]at p1;exact⟨b,CF I1.sh (r1.rd I1.sh) e,p1 S1 H1 (bj.refl I1.sh)⟩
theorem yp{r:RV}{b:Bool}{v:V}{S1 H1:Hp}(h:r.pv=.bl b)(r1:n6 K H S1 H1 r v)(s:aK S1 H1):v=.bl b:=by
 have:=r1.rd s;rw[h]at this;exact pE this
theorem ay{ta:TE}{ma:ag->OE}(ha:JE K cls W ta ma):JT K cls W (yf ta) (aB ma):=by
 intro Av G S₀ ρ σ S H Q I p
 refine ha.goT I p fun r v S1 H1 I1 w1 r1 p1=>?_
 cases e:r.pv with
 |bl b=>rw[e]at p1;exact⟨b,yp e r1 I1.sh,p1 S1 H1 (bj.refl I1.sh)⟩
 |_=>rw[e]at p1;exact p1.elim
theorem sU{ta:TT}{ma:ag->OT}(ha:JT K cls W ta ma):JT K cls W (IF ta) (pz ma):=by
 intro Av G S₀ ρ σ S H Q I p
 exact ha.goT I p fun b S1 H1 I1 w1 p1=>p1 S1 H1 (bj.refl I1.sh)
theorem jU{ta tb:TT}{ma mb:ag->OT}(ha:JT K cls W ta ma)(hb:JT K cls W tb mb):JT K cls W (Mf ta tb) (fw ma mb):=by
 intro Av G S₀ ρ σ S H Q I p
 refine ha.goT I p fun b S1 H1 I1 w1 p1=>?_
 cases b with
 |true=>exact AZ (hb Av G S₀ ρ σ S1 H1 Q I1 p1)
 |false=>exact Ak (p1 S1 H1 (bj.refl I1.sh))
theorem qp{ta tb:TT}{ma mb:ag->OT}(ha:JT K cls W ta ma)(hb:JT K cls W tb mb):JT K cls W (tOr ta tb) (mL ma mb):=by
 intro Av G S₀ ρ σ S H Q I p
 refine ha.goT I p fun b S1 H1 I1 w1 p1=>?_
 cases b with
 |false=>exact Ak (hb Av G S₀ ρ σ S1 H1 Q I1 p1)
 |true=>exact AZ (p1 S1 H1 (bj.refl I1.sh))
theorem o7{b:Bool}:n6 K B S H (.sh (.bl b)) (.bl b):=by show Rep K S _ _;unfold Rep;rfl
theorem Gm{ta tb:TE}{ma mb:ag->OE}(ha:JE K cls W ta ma)(hb:JE K cls W tb mb):JE K cls W (Gp ta tb) (xR ma mb):=by
 intro Av G S₀ ρ σ S H Q I p
 refine ha.go I p fun r v S1 H1 I1 w1 r1 p1=>?_
 cases e:r.pv with
 | bl b=>
   rw[e]at p1
   refine⟨b,yp e r1 I1.sh,?_⟩
   cases b with
   |true=>exact AZ (hb Av G S₀ ρ σ S1 H1 Q I1 p1)
   |false=>exact Ak (p1 _ S1 H1 (bj.refl I1.sh) o7)
 |_=>rw[e]at p1;exact p1.elim
theorem LK{ta:TE}{ma:ag->OE}(ha:JE K cls W ta ma):JE K cls W (EX ta) (Ft ma):=by
 intro Av G S₀ ρ σ S H Q I p
 refine ha.go I p fun r v S1 H1 I1 w1 r1 p1=>?_
 cases e:r.pv with
 |bl b=>rw[e]at p1;exact⟨b,yp e r1 I1.sh,p1 _ S1 H1 (bj.refl I1.sh) o7⟩
 |_=>rw[e]at p1;exact p1.elim
theorem hE{tc:TT}{ta tb:TE}{mc:ag->OT}{ma mb:ag->OE}(hc:JT K cls W tc mc)(ha:JE K cls W ta ma)(hb:JE K cls W tb mb):JE K cls W (tIf tc ta tb) (gH mc ma mb):=by
 intro Av G S₀ ρ σ S H Q I p
 refine hc.go I p fun b S1 H1 I1 w1 p1=>?_
 cases b with
 |true=>exact AZ (ha Av G S₀ ρ σ S1 H1 Q I1 p1)
 |false=>exact Ak (hb Av G S₀ ρ σ S1 H1 Q I1 p1)
theorem kH{r r':R2}{g g':PV->PV->Option RV}{ta tb tc:TE}{ma mb mc:ag->OE}(hr:JR K r g)(hr':JR K r' g')(ha:JE K cls W ta ma)(hb:JE K cls W tb mb)(hc:JE K cls W tc mc):
  JE K cls W (wL r r' ta tb tc) (nz g g' ma mb mc):=by
 intro Av G S₀ ρ σ S H Q I p
 refine ha.go I p fun a v S1 H1 I1 w1 r1 p1=>hb.go I1 p1 fun b u S2 H2 I2 w2 r2 p2=>?_
 cases e:g a.pv b.pv with
 |none=>rw[e]at p2;exact p2.elim
 | some rr=>
   rw[e]at p2
   refine hr S2 H2 a.pv b.pv v u rr _ I2.sh ((r1.rd I1.sh).mono w2.s w2.g) (r2.rd I2.sh) e fun z S3 H3 w3 r3=>?_
   have I3:=I2.grow w3;simp only[oE,OE.bind]at p2
   cases e3:rr.pv with
   | bl k=>
     rw[e3]at p2;have hz:=yp e3 r3 I3.sh
     refine⟨k,hz,?_⟩
     cases k with
     |false=>exact Ak (p2 _ S3 H3 w3 o7)
     | true=>
       refine AZ (hc.go I3 (p2.back w3) fun c y S4 H4 I4 w4 r4 p4=>?_)
       cases e4:g' b.pv c.pv with
       |none=>rw[e4]at p4;exact p4.elim
       |some r'=>rw[e4]at p4;exact hr' S4 H4 b.pv c.pv u y r' Q I4.sh (((r2.rd I2.sh).mono w3.s w3.g).mono w4.s w4.g) (r4.rd I4.sh) e4 p4
   |_=>rw[e3]at p2;exact p2.elim
theorem aw{ta tb:TS}{ma mb:ag->OS}(ha:JS K cls W ta ma)(hb:JS K cls W tb mb):JS K cls W (K2 ta tb) (aG ma mb):=by
 intro Av G S₀ ρ σ S H D I p;refine ha Av G S₀ ρ σ S H _ I ?_;unfold aG at p
 cases e:ma ρ with
 |nx ρ'=>rw[e]at p;exact fun σ' S' H' I' s'=>hb Av G S₀ ρ' σ' S' H' D I' (p.back s')
 |bk ρ'=>rw[e]at p;exact p
 |ct ρ'=>rw[e]at p;exact p
 |rt ρ' r=>rw[e]at p;exact p
 |exc ρ' c fs=>rw[e]at p;exact p
 |bad=>rw[e]at p;exact p
theorem aE:JS K cls W Ge aS:=fun Av G S₀ ρ σ S H D I p=>p σ S H I (aK.refl _)
theorem aV{i:Nat}{te:TE}{me:ag->OE}(he:JE K cls W te me):JS K cls W (vh te (mx i)) (bq i me):=by
 intro Av G S₀ ρ σ S H D I p
 refine he.goS I p fun r v S1 H1 I1 w1 r1 p1=>?_
 show D.nx (σ.set i (some v)) H1
 cases r with
 |sh x=>exact p1 _ S1 H1 (I1.zZ r1) (aK.refl _)
 |fr xs=>exact p1 _ S1 H1 (I.MY w1 r1) (aK.refl _)
 |al xs=>exact p1.elim
theorem aY{tc:TT}{ta tb:TS}{mc:ag->OT}{ma mb:ag->OS}(hc:JT K cls W tc mc)(ha:JS K cls W ta ma)(hb:JS K cls W tb mb):JS K cls W (IV tc ta tb) (bc mc ma mb):=by
 intro Av G S₀ ρ σ S H D I p
 refine hc.goS I p fun b S1 H1 I1 w1 p1=>?_
 cases b with
 |true=>exact AZ (ha Av G S₀ ρ σ S1 H1 D I1 p1)
 |false=>exact Ak (hb Av G S₀ ρ σ S1 H1 D I1 p1)
theorem aC{te:TE}{me:ag->OE}(he:JE K cls W te me):JS K cls W (Iz te) (bf me):=by
 intro Av G S₀ ρ σ S H D I p
 refine he.goS I p fun r v S1 H1 I1 w1 r1 p1=>?_
 cases r with
 |sh x=>exact p1 v σ S1 H1 I1 (aK.refl _) r1
 |fr xs=>exact p1 v σ S1 H1 I1 (aK.refl _) (r1.back I.gh)
 |al xs=>exact p1.elim
theorem lP{i:Nat}:JS K cls W (Iz (zC i)) (gj i):=by
 intro Av G S₀ ρ σ S H D I p;unfold gj at p;split at p
 . rename_i x e;obtain⟨v,e1,r⟩:=I.good i _ e
   exact⟨v,e1,p v σ S H I (aK.refl _) r⟩
 . rename_i xs e;obtain⟨v,e1,a,vs,e2,h1,h2,h3,h4⟩:=I.good i _ e
   exact⟨v,e1,p v σ S H I.drop (aK.refl _) ⟨a,vs,e2,h1,h2,h3,h4⟩⟩
 . exact p.elim
theorem IK{te:TE}{me:ag->OE}(he:JE K cls W te me):JS K cls W (u0 te) (Ff me):=by
 intro Av G S₀ ρ σ S H D I p
 exact he.goS I p fun r v S1 H1 I1 w1 r1 p1=>p1 σ S1 H1 I1 (aK.refl _)
theorem lQ{i:Nat}{ts:TS}{m:ag->OS}(h:JS K cls W ts m):JS K cls W ts (iB i m):=by
 intro Av G S₀ ρ σ S H D I p;unfold iB lD at p;split at p
 . rename_i xs e;obtain⟨S',s,J⟩:=I.Ng e;exact h Av G S₀ _ σ S' H D J (p.back s)
 . exact h Av G S₀ ρ σ S H D I p
theorem jl{i:Nat}{te:TE}{me:ag->OE}(he:JE K cls W te me):JS K cls W (u0 (tBM K "list" yU (zC i) (jN te lZ))) (eE i me):=by
 intro Av G S₀ ρ σ S H D I p;unfold eE at p;split at p
 . rename_i xs e;obtain⟨v,e1,a,vs,rfl,h1,h2,h3,h4⟩:=I.good i _ e
   refine⟨_,e1,.inl ⟨rfl,_,SqL.new h3⟩,?_⟩
   refine he Av G S₀ ρ σ S H _ I ?_
   cases em:me ρ with
   |exc c fs=>rw[em]at p;exact fun a C S' H' w x=>p a C σ S' H' (I.grow w) w.s x
   |bad=>rw[em]at p;exact p
   | ok r=>
     rw[em]at p;intro u S1 H1 w1 r1;simp only[OE.cy]at p
     cases es:mM r with
     |none=>rw[es]at p;exact p.elim
     | some y=>
       rw[es]at p
       dsimp only at p
       split at p
       . rename_i hl;obtain⟨S2,w2,s2,rx⟩:=r1.share w1 es;have I2:=I.grow w2
         refine⟨a,vs,u,rfl,rfl,w2.g _ _ h3,by rw[h4.length];exact hl,?_⟩
         exact p σ S2 _ (I2.mut e e1 ((h4.mono w2.s).append (.cons rx .nil))) w2.s
       . exact p.elim
 . exact p.elim
theorem xQ{i:Nat}{tb:TS}{mb:ag->OS}{D:Ends}{x:PV}{xs:List PV}{v:V}{N:St->Hp->Prop}(hb:JS K cls W tb mb)(I:SR K cls Av G S₀ ρ σ S H)(hx:Rep K S x v)
  (p:jM K cls W Av G S₀ S D (jB i mb (x ::xs) ρ)) (hN:∀ ρ' σ' S' H',SR K cls Av G S₀ ρ' σ' S' H'->aK S S'->jM K cls W Av G S₀ S' D (jB i mb xs ρ')->N σ' H'):
  mx i v σ H fun σ2 H2=>tb { D with nx:=N,ct:=N,bk:=D.nx } σ2 H2:=by
 refine hb Av G S₀ _ _ S H _ (I.zZ hx) ?_;rw[j8]at p
 cases e:mb (ρ.set i (some (.sh x)))with
 |nx ρ'=>rw[e]at p;exact fun σ' S' H' I' s'=>hN ρ' σ' S' H' I' s' (p.back s')
 |ct ρ'=>rw[e]at p;exact fun σ' S' H' I' s'=>hN ρ' σ' S' H' I' s' (p.back s')
 |bk ρ'=>rw[e]at p;exact p
 |rt ρ' r=>rw[e]at p;exact p
 |exc ρ' c fs=>rw[e]at p;exact p
 |bad=>rw[e]at p;exact p
theorem yw{i:Nat}{tl:TE}{tb:TS}{ml:ag->OE}{mb:ag->OS}(hl:JE K cls W tl ml)(hb:JS K cls W tb mb):JS K cls W (F7 (AL K tl) (mx i) tb) (uV i ml mb):=by
 intro Av G S₀ ρ σ S H D I p;refine hl Av G S₀ ρ σ S H _ I ?_;unfold uV at p
 cases em:ml ρ with
 |exc c fs=>rw[em]at p;exact fun a C S' H' w x=>p a C σ S' H' (I.grow w) w.s x
 |bad=>rw[em]at p;exact p
 | ok r=>
   rw[em]at p;intro v S1 H1 w1 r1;simp only[OE.cy]at p
   cases ei:Bs r with
   |none=>rw[ei]at p;exact p.elim
   | some xs=>
     rw[ei]at p
     have es:mM r=some (.lst xs):=by
      cases r with
      |sh y=>cases y<;>cases ei<;>rfl
      |fr ys=>cases ei;rfl
      |al ys=>cases ei
     obtain⟨S2,w2,s2,rx⟩:=r1.share w1 es;have I2:=I.grow w2;unfold Rep at rx;obtain⟨a,vs,rfl,hq,hr⟩:=rx
     refine⟨a,rfl,⟨vs,aK.seq I2.sh hq⟩,?_⟩
     refine Gw (xs:=vs) (fun k σ' H'=>∃ ρ' S',SR K cls Av G S₀ ρ' σ' S' H' /\ aK S2 S' /\ jM K cls W Av G S₀ S' D (jB i mb (xs.drop k) ρ'))
      ⟨ρ,S2,I2,aK.refl _,p.back w2.s⟩ ?_ ?_ ?_
     . rintro k σ' H' _ ⟨ρ',S',I',s',_⟩
       exact aK.seq (s'.trans I'.sh) hq
     . rintro k x σ' H' hx ⟨ρ',S',I',s',p'⟩
       obtain⟨y,hy,ry⟩:=hr.M9 hx
       have hd:xs.drop k=y ::xs.drop (k+1):=by
        have hk:k<xs.length:=(List.getElem?_eq_some_iff.mp hy).1
        rw[List.drop_eq_getElem_cons hk]
        congr 1
        have:=List.getElem?_eq_getElem hk;rw[hy]at this
        exact(Option.some.inj this).symm
       rw[hd]at p'
       exact xQ hb I' (Rep.mono s' ry) p' fun ρ2 σ2 S3 H3 I3 s3 p3=>⟨ρ2,S3,I3,s'.trans s3,p3⟩
     . rintro σ' H' ⟨ρ',S',I',s',p'⟩
       rw[List.drop_of_length_le (by rw[hr.length];exact Nat.le_refl _)]at p';exact p' σ' S' H' I' (aK.refl _)
theorem zF{n k:Nat}(h:k<n):(cT n).drop k=.int (k:Int) ::(cT n).drop (k+1):=by
 have hk:k<(cT n).length:=by unfold cT;simpa using h
 rw[List.drop_eq_getElem_cons hk]
 congr 1
 simp[cT]
theorem vE{i:Nat}{te:TE}{tb:TS}{me:ag->OE}{mb:ag->OS}(he:JE K cls W te me)(hb:JS K cls W tb mb):JS K cls W (F7 (CU (jN te lZ)) (mx i) tb) (tF i me mb):=by
 intro Av G S₀ ρ σ S H D I p
 refine he.goS I p fun r v S1 H1 I1 w1 r1 p1=>?_
 cases e:r.pv with
 | int j=>
   rw[e]at p1
   have hv:v=.int j:=by have:=r1.rd I1.sh;rw[e]at this;exact dg this
   subst hv
   dsimp only at p1
   split at p1
   . rename_i hj
     refine⟨j,rfl,hj.1,hj.2,?_⟩
     refine Dz (n:=j.toNat) (fun k σ' H'=>∃ ρ' S',SR K cls Av G S₀ ρ' σ' S' H' /\ aK S1 S' /\ jM K cls W Av G S₀ S' D (jB i mb ((cT j.toNat).drop k) ρ'))
      ⟨ρ,S1,I1,aK.refl _,p1⟩ ?_ ?_
     . rintro k σ' H' hk ⟨ρ',S',I',s',p'⟩
       rw[zF hk]at p'
       refine xQ hb I' ?_ p' fun ρ2 σ2 S3 H3 I3 s3 p3=>⟨ρ2,S3,I3,s'.trans s3,p3⟩
       unfold Rep;rw[Int.zero_add]
     . rintro σ' H' ⟨ρ',S',I',s',p'⟩
       rw[List.drop_of_length_le (by unfold cT;simp)]at p';exact p' σ' S' H' I' (aK.refl _)
   . exact p1.elim
 |_=>rw[e]at p1;exact p1.elim
theorem mw{tc:TT}{tb:TS}{mc:ag->OT}{mb:ag->OS}{n:Nat}(hc:JT K cls W tc mc)(hb:JS K cls W tb mb):JS K cls W (By tc tb) (bX mc mb n):=by
 intro Av G S₀ ρ σ S H D I p
 refine⟨fun m σ' H'=>∃ ρ' S',SR K cls Av G S₀ ρ' σ' S' H' /\ aK S S' /\ jM K cls W Av G S₀ S' D (bX mc mb m ρ'),⟨n,ρ,S,I,aK.refl _,p⟩,?_⟩
 rintro m σ1 H1 ⟨ρ1,S1,I1,s1,p1⟩
 cases m with
 |zero=>exact p1.elim
 | succ m=>
   unfold bX at p1
   refine hc.goS I1 p1 fun b S2 H2 I2 w2 p2=>?_
   cases b with
   |false=>exact Ak (p2 σ1 S2 H2 I2 (aK.refl _))
   | true=>
     refine AZ ⟨fun σ' H'=>∃ ρ' S',SR K cls Av G S₀ ρ' σ' S' H' /\ aK S S' /\ jM K cls W Av G S₀ S' D (bX mc mb m ρ'),fun σ' H' h=>⟨m,Nat.lt_succ_self m,h⟩,?_⟩;refine hb Av G S₀ ρ1 σ1 S2 H2 _ I2 ?_;simp only[if_true]at p2
     cases e:mb ρ1 with
     |nx ρ'=>rw[e]at p2;exact fun σ' S' H' I' s'=>⟨ρ',S',I',(s1.trans w2.s).trans s',p2.back s'⟩
     |ct ρ'=>rw[e]at p2;exact fun σ' S' H' I' s'=>⟨ρ',S',I',(s1.trans w2.s).trans s',p2.back s'⟩
     |bk ρ'=>rw[e]at p2;exact p2
     |rt r=>rw[e]at p2;exact p2
     |exc ρ' c fs=>rw[e]at p2;exact p2
     |bad=>rw[e]at p2;exact p2
end
section
variable{K:PySem.W.Frag}{cls:String->Option Addr}{W:XW}{Av G S₀ S S' H H' B B':Hp}{ρ:ag}{σ:St}{Q:VK}
def Fj:V->Option Int
 |.int i=>some i
 |_=>none
def JO(K:PySem.W.Frag)(cls:String->Option Addr)(W:XW)(to:TO)(m:ag->OE):Prop:=∀ Av G S₀ ρ σ S H (Q:Option Int->Hp->Prop),SR K cls Av G S₀ ρ σ S H ->
 mX K cls W σ S H (fun v H'=>Q (Fj v) H') (m ρ)->to σ H Q
theorem HD:JO K cls W zd (mC .non):=fun Av G S₀ ρ σ S H Q I p=>p .non S H (bj.refl I.sh) (by show Rep K S _ _;unfold Rep;rfl)
theorem Hg{te:TE}{m:ag->OE}(h:JE K cls W te m):JO K cls W (GL te) (CV m):=by
 intro Av G S₀ ρ σ S H Q I p
 refine h.go I p fun r v S1 H1 I1 w1 r1 p1=>?_
 cases e:r.pv with
 | int i=>
   rw[e]at p1
   have hv:v=.int i:=by have:=r1.rd I1.sh;rw[e]at this;exact dg this
   exact⟨i,hv,p1 (.int i) S1 H1 (bj.refl I1.sh) (by show Rep K S1 _ _;unfold Rep;rfl)⟩
 |_=>rw[e]at p1;exact p1.elim
theorem JO.go{to:TO}{m:ag->OE}{f:RV->OE}{Q':Option Int->Hp->Prop}(h:JO K cls W to m)(I:SR K cls Av G S₀ ρ σ S H)(p:mX K cls W σ S H Q ((m ρ).bind f))
  (k:∀ r v S1 H1,SR K cls Av G S₀ ρ σ S1 H1->bj S H S1 H1->n6 K H S1 H1 r v->mX K cls W σ S1 H1 Q (f r)->Q' (Fj v) H1):to σ H Q':=by
 refine h Av G S₀ ρ σ S H Q' I ?_
 cases e:m ρ with
 |ok r=>rw[e]at p;exact fun v S1 H1 w r1=>k r v S1 H1 (I.grow w) w r1 (p.back w)
 |exc c fs=>rw[e]at p;exact p
 |bad=>rw[e]at p;exact p
theorem part_of{x:PV}{v:V}(h:RdV K S H x v):Fj v=wu x:=by
 cases x with
 |int i=>rw[dg h];rfl
 |non=>rw[jL h];rfl
 |bl b=>rw[pE h];rfl
 |str b=>rw[j3 h];rfl
 |lst xs=>obtain⟨p,vs,rfl,_⟩:=iJ h;rfl
 |tup xs=>obtain⟨p,vs,rfl,_⟩:=ni h;rfl
theorem bZ.cut{xs:List PV}{vs:List V}(h:bZ K S xs vs)(lo hi:Option Int):bZ K S (EC xs lo hi) (Dq vs lo hi):=by
 have es:∀ n d o,BM n d o=HT.sIx n d o:=fun n d o=>by cases o<;>rfl
 unfold EC Dq;simp only[es];rw[h.length]
 exact(h.drop _).take _
theorem Kf{te:TE}{tl th:TO}{ma ml mh:ag->OE}(ha:JE K cls W te ma)(hl:JO K cls W tl ml)(hh:JO K cls W th mh):JE K cls W (tSl (MW K) te tl th) (HB ma ml mh):=by
 intro Av G S₀ ρ σ S H Q I p
 refine ha.go I p fun a v S1 H1 I1 w1 r1 p1=>hl.go I1 p1 fun l u S2 H2 I2 w2 r2 p2=>hh.go I2 p2 fun h z S3 H3 I3 w3 r3 p3=>?_
 rw[part_of (r2.rd I2.sh),part_of (r3.rd I3.sh)];have ra:=((r1.rd I1.sh).mono w2.s w2.g).mono w3.s w3.g
 cases e:a.pv with
 | lst xs=>
   rw[e]at p3 ra;obtain⟨q,vs,rfl,hq,hr⟩:=iJ ra
   exact⟨q,vs,rfl,hq,fun b hb=>p3 _ S3 _ (bj.heap I3.sh hb) ⟨b,_,rfl,hb,I3.sh.free hb,bC,hr.cut _ _⟩⟩
 |_=>rw[e]at p3;exact p3.elim
theorem join_some{α:Type}{o:Option (Option α)}{s:α}(h:o.join=some s):o=some (some s):=by
 cases o with
 |none=>cases h
 | some x=>cases x with
   |none=>cases h
   |some y=>rw[show y=s from Option.some.inj h]
theorem IC{α:Type}{l:List (Option α)}{ι:List Nat}{j:Nat}{s:α}(h:(ι.map fun i=>(l[i]?).join)[j]?=some (some s)):∃ i,ι[j]?=some i /\ l[i]?=some (some s):=by
 rw[List.getElem?_map]at h
 cases e:ι[j]? with
 |none=>rw[e]at h;cases h
 |some i=>rw[e]at h;exact⟨i,rfl,join_some (Option.some.inj h)⟩
def Js(ι:List Nat)(Av:Hp):Hp:=fun j=>match ι[j]? with
 |some i=>Av i
 |none=>none
def zY(ι:List Nat)(F:Nat->List Addr):Nat->List Addr:=fun j=>match ι[j]? with
 |some i=>F i
 |none=>[]
theorem vm.at{i j:Nat}{Av':Hp}{s:Sl}{v:V}{fp:List Addr}(h:vm K cls Av G S H i s v fp)(e:Av' j=Av i):vm K cls Av' G S H j s v fp:=by
 cases s with
 |sh x=>exact h
 |ow xs=>exact h
 |ex c fs=>exact h
 |tr io t=>exact⟨h.1,h.2.1,h.2.2.1,fun z=>by rw[e];exact h.2.2.2 z⟩
 |bo t=>exact h
theorem SR.pick{ι:List Nat}{x:PV}{v:V}(I:SR K cls Av G S₀ ρ σ S H)(hι:ι.Nodup)(hx:Rep K S x v):SR K cls (Js ι Av) G S₀ (dw ι ρ++[some (.sh x)]) (L2.E.pick ι σ++[some v]) S H:=by
 obtain⟨F,J⟩:=I
 have hl:(dw ι ρ).length=(L2.E.pick ι σ).length:=by unfold dw L2.E.pick;simp
 have hp:(dw ι ρ).length=ι.length:=by unfold dw;simp
 refine⟨zY ι F,J.gh,J.s0,J.sh,J.new,fun j s e=>?_,fun j k a h1 h2=>?_,fun j a h=>?_,by unfold dw L2.E.pick;simp⟩
 . by_cases hj:j<(dw ι ρ).length
   . rw[List.getElem?_append_left hj]at e;obtain⟨i,e1,e2⟩:=IC e;obtain⟨u,e3,r⟩:=J.own i s e2
     refine⟨u,?_,?_⟩
     . rw[List.getElem?_append_left (by rw[<- hl];exact hj)];unfold L2.E.pick;rw[List.getElem?_map,e1];show some (σ[i]?).join=_;rw[e3];rfl
     . unfold zY;rw[e1];exact r.at (by unfold Js;rw[e1])
   . have hj':(dw ι ρ).length<=j:=Nat.le_of_not_lt hj
     rw[List.getElem?_append_right hj']at e
     have h0:j - (dw ι ρ).length=0:=by
      by_cases h:j - (dw ι ρ).length=0
      . exact h
      . rw[List.getElem?_eq_none (by simp;omega)]at e;cases e
     rw[h0]at e;cases e
     refine⟨v,?_,?_,hx⟩
     . rw[List.getElem?_append_right (by rw[<- hl];exact hj'),<- hl,h0];rfl
     . unfold zY;rw[List.getElem?_eq_none (by rw[<- hp];exact hj')]
 . unfold zY at h1 h2
   cases e1:ι[j]? with
   |none=>rw[e1]at h1;cases h1
   | some i=>
     cases e2:ι[k]? with
     |none=>rw[e2]at h2;cases h2
     | some i'=>
       rw[e1]at h1;rw[e2]at h2;have z:=J.apart i i' a h1 h2;subst z;obtain⟨ha,ea⟩:=List.getElem?_eq_some_iff.mp e1;obtain⟨hb,eb⟩:=List.getElem?_eq_some_iff.mp e2
       exact(List.getElem_inj hι).mp (ea.trans eb.symm)
 . unfold zY at h
   cases e1:ι[j]? with
   |none=>rw[e1]at h;cases h
   |some i=>rw[e1]at h;exact J.live i a h
theorem Fo{me:ag->OE}{x:PV}{xs ys:List PV}(h:da me ρ (x ::xs)=.ok ys):∃ r y zs,me (ρ++[some (.sh x)])=.ok r /\ mM r=some y /\ da me ρ xs=.ok zs /\ ys=y ::zs:=by
 unfold da at h
 cases e:me (ρ++[some (.sh x)])with
 | ok r=>
   rw[e]at h;simp only[OE.fX]at h
   cases e2:mM r with
   |none=>rw[e2]at h;cases h
   | some y=>
     rw[e2]at h
     dsimp only at h
     cases e3:da me ρ xs with
     |ok zs=>rw[e3]at h;cases h;exact⟨r,y,zs,rfl,e2,rfl,rfl⟩
     |exc c fs=>rw[e3]at h;cases h
     |bad=>rw[e3]at h;cases h
 |exc c fs=>rw[e]at h;cases h
 |bad=>rw[e]at h;cases h
theorem qR{J:It}{ι:List Nat}{te:TE}{me:ag->OE}{xs ys:List PV}(hι:ι.Nodup)(he:JE K cls (fun _ _ _ _=>False) te me)(I:SR K cls Av G S₀ ρ σ S H)(hy:da me (dw ι ρ) xs=.ok ys)(hl:ys.length<=lim)
  (go:∀ k H' x,aK H H'->xs[k]?=some x->J.go k H' /\ ∀ v H2,J.yld k H' v H2->H2=H' /\ Rep K S x v) (stop:∀ H',aK H H'->J.stop xs.length H')
  (hQ:∀ D S' H',bj S H S' H'->H D=none->S' D=none->(∃ us,H' D=some (.lst us) /\ bZ K S' ys us)->Q (.ref D) H'):
  ∀ D,H D=none->∃ W:Nat->Nat->List V->Hp->Prop,(∃ m,W 0 m [] (upd H D (.lst []))) /\ ∀ i m us H',W i m us H' ->
    H' D=some (.lst us) /\ ((J.stop i H' /\ Q (.ref D) H') \/ (J.go i H' /\ ∀ x H2,J.yld i H' x H2->te (L2.E.pick ι σ++[some x]) H2 fun y H3=>H3 D=some (.lst us) /\ us.length<sizeLine /\ ∃ m',m'<m /\ W (i+1) m' (us++[y]) (upd H3 D (.lst (us++[y]))))):=by
 intro D nD
 refine⟨fun k m us H'=>m+k=xs.length /\ H' D=some (.lst us) /\ ∃ S' zs ws,aK S S' /\ aK H H' /\ aK S' H' /\ (∀ b,S' b≠none->S b≠none \/ (H b=none /\ b≠D)) /\ bZ K S' zs us /\ da me (dw ι ρ) (xs.drop k)=.ok ws /\ ys=zs++ws,
  ⟨xs.length,rfl,bC,S,[],ys,aK.refl _,aK.new nD,I.sh.trans (aK.new nD),fun b z=>.inl z,.nil,hy,rfl⟩,?_⟩
 rintro k m us H' ⟨hm,hD,S',zs,ws,s1,g1,sh1,n1,r1,e1,rfl⟩
 refine⟨hD,?_⟩
 have hSD:S' D=none:=by
  cases q:S' D with
  |none=>rfl
  | some o=>
    rcases n1 D (by rw[q];simp)with z|⟨_,z⟩
    . exact absurd (I.sh.free nD) z
    . exact absurd rfl z
 by_cases hk:k<xs.length
 . refine .inr ?_
   have hx:xs[k]?=some xs[k]:=by simp[hk]
   obtain⟨hgo,hyld⟩:=go k H' xs[k] g1 hx
   refine⟨hgo,fun v H2 hv=>?_⟩
   obtain⟨rfl,rv⟩:=hyld v H2 hv;rw[List.drop_eq_getElem_cons hk]at e1;obtain⟨r,y,zs',em,es,e2,rfl⟩:=Fo e1
   have I1:SR K cls Av G S₀ ρ σ S' H2:=I.grow ⟨s1,g1,sh1,fun b z=>by
    rcases n1 b z with z|⟨z,_⟩
    . exact .inl z
    . exact .inr z⟩
   refine he _ G S₀ _ _ S' H2 _ (I1.pick hι (Rep.mono s1 rv)) ?_;rw[em];intro u S2 H3 w2 r2;obtain⟨S3,w3,s3,ru⟩:=r2.share w2 es
   have hl2:(zs++y ::zs').length<=lim:=hl
   have hSD3:S3 D=none:=by
    cases q:S3 D with
    |none=>rfl
    | some o=>
      rcases w3.new D (by rw[q];simp)with z|z
      . exact absurd hSD z
      . rw[hD]at z;cases z
   refine⟨w3.g _ _ hD,?_,m - 1,by omega,by omega,bC,S3,zs++[y],zs',s1.trans w3.s,(g1.trans w3.g).upd nD,w3.sh.upd hSD3,fun b z=>?_,(r1.mono w3.s).append (.cons ru .nil),e2,by simp⟩
   . rw[r1.length,<- EW];rw[List.length_append,List.length_cons]at hl2;omega
   . rcases w3.new b z with z|z
     . exact n1 b z
     . refine .inr ⟨g1.free z,fun e=>?_⟩;rw[e,hD]at z;cases z
 . have hk':k=xs.length:=by omega
   subst hk';refine .inl ⟨stop H' g1,?_⟩;rw[List.drop_length]at e1;cases e1
   exact hQ D S' H' ⟨s1,g1,sh1,fun b z=>by
    rcases n1 b z with z|⟨z,_⟩
    . exact .inl z
    . exact .inr z⟩ nD hSD ⟨us,hD,by rw[List.append_nil];exact r1⟩
theorem wM{tl te:TE}{ml me:ag->OE}{ι:List Nat}(hι:ι.Nodup)(hl:JE K cls W tl ml)(he:JE K cls (fun _ _ _ _=>False) te me):JE K cls W (u3 (AL K tl) ι te) (ue ml ι me):=by
 intro Av G S₀ ρ σ S H Q I p
 refine hl.go I p fun r v S1 H1 I1 w1 r1 p1=>?_
 have ra:=r1.rd I1.sh
 cases e:r.pv with
 | lst xs=>
   rw[e]at p1 ra;obtain⟨a,vs,rfl,hq,hr⟩:=iJ ra
   refine⟨a,rfl,⟨vs,hq⟩,?_⟩
   dsimp only at p1
   cases em:da me (dw ι ρ) xs with
   |exc c fs=>rw[em]at p1;exact p1.elim
   |bad=>rw[em]at p1;exact p1.elim
   | ok ys=>
     rw[em]at p1;simp only[noX]at p1;split at p1
     . rename_i hlen
       refine qR hι he I1 em hlen (fun k H' x g hx=>?_) (fun H' g=>⟨vs,aK.seq g hq,by rw[hr.length];exact Nat.le_refl _⟩) fun D S' H' w nD sD ⟨us,hD,rr⟩=>p1 (.ref D) S' H' w ⟨D,us,rfl,nD,sD,hD,rr⟩
       obtain⟨u,hu,ru⟩:=hr.get hx
       refine⟨⟨vs,u,aK.seq g hq,hu⟩,?_⟩
       rintro v' H2 ⟨rfl,hv⟩
       have:=hv vs (aK.seq g hq);rw[hu]at this;cases this
       exact⟨rfl,ru⟩
     . exact p1.elim
 |_=>rw[e]at p1;exact p1.elim
theorem wx{tn te:TE}{mn me:ag->OE}{ι:List Nat}(hι:ι.Nodup)(hn:JE K cls W tn mn)(he:JE K cls (fun _ _ _ _=>False) te me):JE K cls W (u3 (CU (jN tn lZ)) ι te) (wD mn ι me):=by
 intro Av G S₀ ρ σ S H Q I p
 refine hn.go I p fun r v S1 H1 I1 w1 r1 p1=>?_
 have ra:=r1.rd I1.sh
 cases e:r.pv with
 | int j=>
   rw[e]at p1 ra;have hv:=dg ra;subst hv
   dsimp only at p1
   split at p1
   . rename_i hj
     refine⟨j,rfl,hj.1,hj.2,?_⟩
     cases em:da me (dw ι ρ) (cT j.toNat)with
     |exc c fs=>rw[em]at p1;exact p1.elim
     |bad=>rw[em]at p1;exact p1.elim
     | ok ys=>
       rw[em]at p1;simp only[noX]at p1;split at p1
       . rename_i hlen
         have hln:(cT j.toNat).length=j.toNat:=by unfold cT;simp
         refine qR hι he I1 em hlen (fun k H' x g hx=>?_) (fun H' g=>by rw[hln];exact Nat.le_refl _) fun D S' H' w nD sD ⟨us,hD,rr⟩=>p1 (.ref D) S' H' w ⟨D,us,rfl,nD,sD,hD,rr⟩
         have hk:k<j.toNat:=by rw[<- hln];exact(List.getElem?_eq_some_iff.mp hx).1
         refine⟨hk,?_⟩
         rintro v' H2 ⟨rfl,rfl⟩
         refine⟨rfl,?_⟩
         have:x=.int (k:Int):=by
          unfold cT at hx;rw[List.getElem?_map,List.getElem?_range hk]at hx
          exact(Option.some.inj hx).symm
         subst this;unfold Rep;rw[Int.zero_add]
       . exact p1.elim
   . exact p1.elim
 |_=>rw[e]at p1;exact p1.elim
theorem bZ.begin{xs:List PV}{vs:List V}(h:bZ K S xs vs)(N:List Str)(i:Nat)(s:Sl)(e:(mq N.length xs)[i]?=some (some s)):∃ x v,s=.sh x /\ (L2.start N vs)[i]?=some (some v) /\ Rep K S x v:=by
 unfold mq at e
 by_cases hi:i<xs.length
 . rw[List.getElem?_append_left (by simpa using hi),List.getElem?_map]at e
   have hx:xs[i]?=some xs[i]:=by simp[hi]
   rw[hx]at e;cases e;obtain⟨v,hv,r⟩:=h.get hx
   refine⟨_,v,rfl,?_,r⟩
   unfold L2.start;rw[List.getElem?_append_left (by rw[List.length_map,h.length];exact hi),List.getElem?_map,hv];rfl
 . rw[List.getElem?_append_right (by simpa using hi)]at e;rw[List.getElem?_replicate]at e
   split at e<;>cases e
theorem N1{P:Program}{w:World}{mg:Str->Option Value}{base:Heap}{x qual:Str}{st:Stmt}{f:Addr}{fd:FuncData}{N ps:List Str}{k:Nat}{m:ag->OS}(F:Fun K x qual st f fd)(Sc:aU N ps (aA st))
  (hbody:∀(cdv:Value) (A:Around) (outer:List Env) (s:Shared) (H:Hp) (E:XK),iM k (A.deeper (envOfC qual (aA st) s.heap.objs.size f cdv)) ->
    ∃ t,PSs (uk (CXE P w) P w K mg base N qual (aA st) f cdv A outer s H E) (dO st) t /\ JS K cls (fun C a _ H=>∀ H',aK H H'->E C a H') t m):cx P w K mg base (CXE P w) (k+1) f fd ps (spP K cls (fnP ps.length N.length m)):=by
 refine okX F Sc (fun vs H Q E h=>?_) fun cdv A outer s H vs Q E hr h=>?_
 . obtain⟨S,xs,_,r,q⟩:=h;unfold fnP at q;split at q
   . rw[r.length];assumption
   . exact q.elim
 . obtain⟨S,xs,sS,r,q⟩:=h;unfold fnP at q;split at q
   . rename_i hl;obtain⟨t,ht,J⟩:=hbody cdv A outer s H E hr
     refine⟨t,ht,?_⟩
     refine J (fun _=>none) H S (mq N.length xs) (start N vs) S H _ ⟨fun _=>[],aK.refl _,aK.refl _,sS,fun _ z=>.inl z,fun i s e=>?_,fun i j a h=>(nomatch h),fun i a h=>(nomatch h),?_⟩ ?_
     . obtain⟨x,v,rfl,e1,rx⟩:=r.begin N i s e
       exact⟨v,e1,rfl,rx⟩
     . unfold mq L2.start;simp[r.length]
     . cases e:m (mq N.length xs)with
       |nx ρ'=>rw[e]at q;exact fun σ' S' H' I' s'=>q .non S' H' ⟨I'.s0,I'.gh,I'.sh,I'.new⟩ (by show Rep K S' _ _;unfold Rep;rfl)
       |bk ρ'=>rw[e]at q;exact q.elim
       |ct ρ'=>rw[e]at q;exact q.elim
       |bad=>rw[e]at q;exact q.elim
       | rt ρ' r=>
         rw[e]at q
         cases r with
         |al ys=>exact q.elim
         |sh y=>exact fun v σ' S' H' b' s' rr=>q v S' H' ⟨b'.s0,b'.gh,b'.sh,b'.new⟩ rr
         |fr ys=>exact fun v σ' S' H' b' s' rr=>q v S' H' ⟨b'.s0,b'.gh,b'.sh,b'.new⟩ rr
       | exc ρ' c fs=>
         rw[e]at q
         exact fun a C σ' S' H' I' s' x H2 g2=>q a C S' H2 ⟨I'.s0,I'.gh.trans g2,I'.sh.trans g2,I'.new⟩ (x.mono (aK.refl _) g2)
   . exact q.elim
def yC(K:PySem.W.Frag):Sp:=fun vs H Q _=>∃(a:Addr) (ns:List Int),vs=[.ref a] /\ SqL K H a (ns.map V.int) /\ ns.length<=63 /\ ∀ H',Q (.bl true) H'
theorem Ho{f:List PV->OE}(h:∀ ns:List Int,ns.length<=63->f [.lst (ns.map .int)]=.ok (.sh (.bl true)))(vs:List V)(H:Hp)(Q:VK)(E:XK)(q:yC K vs H Q E):spP K cls f vs H Q E:=by
 obtain⟨a,ns,rfl,hS,hl,q⟩:=q
 refine⟨H,[.lst (ns.map .int)],aK.refl _,.cons (by unfold Rep;exact⟨a,_,rfl,hS,bZ.ints⟩) .nil,?_⟩
 rw[h ns hl];intro v S' H' w r
 have:v=.bl true:=by have r':Rep K S' (.bl true) v:=r;unfold Rep at r';exact r'
 subst this;exact q H'
end
section
variable{K:PySem.W.Frag}{cls:String->Option Addr}{W:XW}{Av G S₀ S S' H H' B B':Hp}{ρ:ag}{σ:St}{Q:VK}
theorem HK{i:Nat}{te:TE}{me:ag->OE}{f:Int->Int->Int}(he:JE K cls W te me):JS K cls W (Hh i te (ipI f)) (xq i (gI (fun _ _=>true) fun i j=>.int (f i j)) me):=by
 intro Av G S₀ ρ σ S H D I p;unfold xq at p;split at p
 . rename_i x e;obtain⟨v,e1,r⟩:=I.good i _ e
   refine⟨v,e1,he.goS I p fun rr u S1 H1 I1 w1 r1 p1=>?_⟩
   have ra:=r1.rd I1.sh
   cases x with
   | int a=>
     cases eb:rr.pv with
     | int b=>
       rw[eb]at p1 ra
       have r':Rep K S (.int a) v:=r
       unfold Rep at r';subst r'
       exact⟨a,b,rfl,dg ra,p1 _ S1 H1 (I1.zZ (by unfold Rep;rfl)) (aK.refl _)⟩
     |_=>rw[eb]at p1;exact p1.elim
   |_=>cases eb:rr.pv<;>(rw[eb]at p1;exact p1.elim)
 . exact p.elim
theorem kb{i:Nat}{te:TE}{me:ag->OE}(he:JE K cls W te me):JS K cls W (Hh i te (ipI fun i j=>i+j)) (xq i dU me):=HK he
theorem xw{x:PV}{v:V}(h:RdV K S H x v):decide (v=.non)=cF x:=by
 cases x with
 |non=>rw[jL h];rfl
 |bl b=>rw[pE h];rfl
 |int b=>rw[dg h];rfl
 |str b=>rw[j3 h];rfl
 |lst xs=>obtain⟨p,vs,rfl,_⟩:=iJ h;rfl
 |tup xs=>obtain⟨p,vs,rfl,_⟩:=ni h;rfl
theorem vT:JR K (fun x y H Q=>y=.non /\ Q (.bl (decide (x=.non))) H) Ai:=by
 intro S H x y v u rr Q I hx hy e k;unfold Ai at e;split at e
 . cases e
   exact⟨jL hy,k _ S H (bj.refl I) (by rw[xw hx];exact o7)⟩
 . cases e
theorem zA:JR K (fun x y H Q=>y=.non /\ Q (.bl (!decide (x=.non))) H) xA:=by
 intro S H x y v u rr Q I hx hy e k;unfold xA at e;split at e
 . cases e
   exact⟨jL hy,k _ S H (bj.refl I) (by rw[xw hx];exact o7)⟩
 . cases e
end
end L2.P
namespace L2
open PySem PySem.Spec PyProof.Rows
structure QE(X:Cx)(e:Expr)(t:TE):Prop where
 out:PE X e t
structure QA(X:Cx)(es:List Expr)(t:TA):Prop where
 out:PA X es t
structure QS(X:Cx)(st:Stmt)(t:TS):Prop where
 out:PS X st t
structure QSs(X:Cx)(st:List Stmt)(t:TS):Prop where
 out:PSs X st t
structure QT(X:Cx)(e:Expr)(t:TT):Prop where
 out:PT X e t
structure QW(X:Cx)(e:Expr)(t:TT):Prop where
 out:PW X e t
structure QI(X:Cx)(tg e:Expr)(t:TI):Prop where
 out:PI X tg e t
structure QG(X:Cx)(e:Expr)(t:TG):Prop where
 out:PG X e t
structure QO(X:Cx)(e:Option Expr)(t:TO):Prop where
 out:PO X e t
end L2
namespace L2
theorem qau(h:True:=by first|rfl|decide|exact .inl rfl|exact .inr rfl|exact .inr (.inl rfl)|exact .inr (.inr rfl)|assumption|(intro _;rfl)|with_unfolding_all rfl):True:=h
end L2
namespace L2.E
open PySem PySem.Spec PyProof.Rows L2
theorem uT:QE X (Expr.Constant (Const.bool b) j pos) (tC (V.bl b)):=⟨ME ⟩
theorem ai:QE X (Expr.Constant (Const.int i) j pos) (tC (V.int i)):=⟨KZ ⟩
theorem aL:QE X (Expr.Constant (Const.str x) j pos) (tC (V.str x)):=⟨L0 ⟩
theorem dc:QE X (Expr.Constant Const.none j pos) (tC V.non):=⟨K0 ⟩
theorem qv{X:Cx}(h1:Nat)(h4:autoParam (X.N[h1]?=some x) qau._auto_1)(h5:autoParam (Vis X.env.scope x) qau._auto_1)(h6:autoParam ((x==Str.ofString "__debug__")=false) qau._auto_1)(h7:autoParam ((x==Str.ofString "__classdict__")=false) qau._auto_1):QE X (Expr.Name x pos) (zC h1):=⟨pv h1 h4 h5 h6 h7⟩
theorem aQ{X:Cx}(h5:Gl X x)(h6:X.mg x=some u)(h7:RelV v u)(h8:autoParam ((x==Str.ofString "__debug__")=false) qau._auto_1):QE X (Expr.Name x pos) (tC v):=⟨IW h5 h6 h7 h8⟩
theorem q8{X:Cx}(h5:Gl X x)(h6:X.mg x=none)(h7:bootBuiltins x=some u)(h8:RelV v u)(h9:autoParam (x≠Str.ofString "__name__") qau._auto_1)(h10:autoParam ((x==Str.ofString "__debug__")=false) qau._auto_1):QE X (Expr.Name x pos) (tC v):=⟨G4 h5 h6 h7 h8 h9 h10⟩
theorem Kn(h4:QE X a ta):QE X (Expr.UnaryOp UnaryOp.Not a pos) (EX ta):=⟨Mh h4.out⟩
theorem nQ{r:V->Hp->VK->Prop}(h6:UnR X (unaryOp op) r)(h7:QE X a ta):QE X (Expr.UnaryOp op a pos) (tUn r ta):=⟨MG h6 h7.out⟩
theorem aD(h8:OpR X (binaryOp op) r)(h9:QE X a ta)(h10:QE X b tb):QE X (Expr.BinOp a op b pos) (tOp r ta tb):=⟨M4 h8 h9.out h10.out⟩
theorem iZ(h8:OpR X (compareOp op) r)(h9:QE X a ta)(h10:QE X b tb)(h11:behindInMarks op b=false):QE X (Expr.Compare a [op] [b] pos) (tOp r ta tb):=⟨IQ h8 h9.out h10.out h11⟩
theorem ET(h12:OpR X (compareOp op) r)(h13:OpR X (compareOp op') r')(h14:QE X a ta)(h15:QE X b tb)(h16:QE X c tc)(h17:autoParam (lastMarks [op,op'] [b,c]=false) qau._auto_1):QE X (Expr.Compare a [op,op'] [b,c] pos) (wL r r' ta tb tc):=⟨EG h12 h13 h14.out h15.out h16.out h17⟩
theorem E1(h5:QE X a t):QE X (Expr.BoolOp op [a] pos) t:=⟨L4 h5.out⟩
theorem EZ{X:Cx}{a:Expr}{b:Expr}{ta:TE}{tb:TE}{pos:Pos}{rest:List Expr}(h7:QE X a ta)(h8:QE X (Expr.BoolOp BoolOp.And (b ::rest) pos) tb):QE X (Expr.BoolOp BoolOp.And (a ::b ::rest) pos) (Gp ta tb):=⟨Kv h7.out h8.out⟩
theorem cD(h8:QT X c tA)(h9:QE X a ta)(h10:QE X b tb):QE X (Expr.IfExp c a b pos) (tIf tA ta tb):=⟨Gu h8.out h9.out h10.out⟩
theorem aT(h4:QA X es t):QE X (Expr.List es pos) (II t):=⟨Lp h4.out⟩
theorem cu(h5:QA X es t):QE X (Expr.Tuple es x1 pos) (LG t):=⟨Ku h5.out⟩
theorem FK{X:Cx}{e:Expr}{te:TE}{lo:Option Expr}{hi:Option Expr}{tl:TO}{th:TO}{pos:Pos}{p2:Pos}{r:V->Option Int->Option Int->Hp->VK->Prop}(h10:SlR X r)(h11:QE X e te)(h12:QO X lo tl)(h13:QO X hi th):QE X (Expr.Subscript e (Expr.Slice lo hi none p2) pos) (tSl r te tl th):=⟨FH h10 h11.out h12.out h13.out⟩
theorem MH(h7:IxR X r)(h8:QE X a ta)(h9:QE X b tb)(h10:za b):QE X (Expr.Subscript a b pos) (tOp r ta tb):=⟨MT h7 h8.out h9.out h10⟩
theorem mW{X:Cx}{cl:List (Str×Addr)}(h12:oy X scope cl M ι x)(h13:X.calm=true)(h14:QI X (Expr.Name x px) iter wi)(h15:∀(C:Addr) (s₀:Shared) (H₀:Hp) (ex:List Addr),QE (blk X scope cl (M++[x]) C s₀ H₀ ex) elt te)(h16:autoParam (∀(v:Value),foldedSetIterable iter X.env v=pure v) qau._auto_1):QE X (Expr.ListComp elt [Comprehension.mk (Expr.Name x px) iter [] 0] scope pos) (u3 wi ι te):=⟨IY h12 h13 h14.out (fun z0 z1 z2 z3=>(h15 z0 z1 z2 z3).out) h16⟩
theorem ER{X:Cx}{x:Str}(h15:cx X.prog X.w X.K X.mg X.base (CXE X.prog X.w) k f fd ps sp)(h16:iM k X.A)(h17:Gl X x)(h18:X.mg x=some (Value.ref f))(h19:PySem.W.keepIn X.K (Value.ref f)=true)(h20:Binds X.K fd ps ds)(h21:Vals dvs ds)(h22:Thr X W)(h23:QA X (e ::es) t)(h24:autoParam ((x==Str.ofString "__debug__")=false) qau._auto_1)(h25:autoParam (starEach (e ::es) X.env=(false,eval e X.env) ::starEach es X.env) qau._auto_1)(h26:autoParam ((List.any (backTo pos (starEach es X.env)) fun x=>x.fst)=false) qau._auto_1):QE X (Expr.Call (Expr.Name x p) (e ::es) [] pos) (sP sp dvs W t):=⟨FA h15 h16 h17 h18 h19 h20 h21 h22 h23.out h24 h25 h26⟩
theorem jC{X:Cx}{x:Str}{p:Pos}{pos:Pos}{e:Expr}{es:List Expr}{t:TA}{id:String}{r:List V->Hp->VK->Prop}(h9:n4 X (Value.builtin id) r)(h10:Gl X x)(h11:X.mg x=none)(h12:bootBuiltins x=some (Value.builtin id))(h13:QA X (e ::es) t)(h14:autoParam (x≠Str.ofString "__name__") qau._auto_1)(h15:autoParam ((x==Str.ofString "__debug__")=false) qau._auto_1)(h16:autoParam (starEach (e ::es) X.env=(false,eval e X.env) ::starEach es X.env) qau._auto_1)(h17:autoParam ((List.any (backTo pos (starEach es X.env)) fun x=>x.fst)=false) qau._auto_1):QE X (Expr.Call (Expr.Name x p) (e ::es) [] pos) (tCB r t):=⟨Fh h9 h10 h11 h12 h13.out h14 h15 h16 h17⟩
theorem gK{X:Cx}{x:Str}{r:List V->Hp->VK->Prop}(h9:n4 X (Value.type T) r)(h10:Gl X x)(h11:X.mg x=none)(h12:bootBuiltins x=some (Value.type T))(h13:QA X (e ::es) t)(h14:autoParam (x≠Str.ofString "__name__") qau._auto_1)(h15:autoParam ((x==Str.ofString "__debug__")=false) qau._auto_1)(h16:autoParam (starEach (e ::es) X.env=(false,eval e X.env) ::starEach es X.env) qau._auto_1)(h17:autoParam ((List.any (backTo pos (starEach es X.env)) fun x=>x.fst)=false) qau._auto_1):QE X (Expr.Call (Expr.Name x p) (e ::es) [] pos) (tCB r t):=⟨Dm h9 h10 h11 h12 h13.out h14 h15 h16 h17⟩
theorem Jk{X:Cx}{o:Expr}{e:Expr}{es:List Expr}{to:TE}{t:TA}{name:Str}{apos:Pos}{cpos:Pos}{T:String}{id:String}{r:V->List V->Hp->VK->Prop}(h12:PlainAttrs T)(h13:Slot T name id)(h14:typeOf (Value.builtin id)=pure (Value.type "method_descriptor"))(h15:MtR X id r)(h16:QE X o to)(h17:QA X (e ::es) t)(h18:autoParam (attributeBase o name X.env (eval o X.env)=eval o X.env) qau._auto_1)(h19:autoParam ((((List.all (backTo cpos (starEach (e ::es) X.env)) fun x=>!x.fst)&&List.all (backToKw cpos (keywordEach [] X.env)) fun x=>Option.isSome x.fst)&&Decidable.decide ((List.length (e ::es)+List.length ([]:List Keyword)+if List.isEmpty ([]:List Keyword)=true then 0 else 1)<30))=true) qau._auto_1)(h20:autoParam ((apos.endLine==cpos.line)=true) qau._auto_1)(h21:autoParam (starEach (e ::es) X.env=(false,eval e X.env) ::starEach es X.env) qau._auto_1)(h22:autoParam ((List.any (backTo cpos (starEach es X.env)) fun x=>x.fst)=false) qau._auto_1):QE X (Expr.Call (Expr.Attribute o name apos) (e ::es) [] cpos) (tBM X.K T r to t):=⟨Nq h12 h13 h14 h15 h16.out h17.out h18 h19 h20 h21 h22⟩
theorem BW{X:Cx}{o:Expr}{to:TE}{name:Str}{apos:Pos}{cpos:Pos}{T:String}{id:String}{r:V->List V->Hp->VK->Prop}(h9:PlainAttrs T)(h10:Slot T name id)(h11:typeOf (Value.builtin id)=pure (Value.type "method_descriptor"))(h12:MtR X id r)(h13:QE X o to)(h14:autoParam (attributeBase o name X.env (eval o X.env)=eval o X.env) qau._auto_1)(h15:autoParam ((apos.endLine==cpos.line)=true) qau._auto_1):QE X (Expr.Call (Expr.Attribute o name apos) [] [] cpos) (Mn X.K T r to):=⟨KS h9 h10 h11 h12 h13.out h14 h15⟩
theorem Hy:QO X none zd:=⟨Ic ⟩
theorem G2(h3:QE X e te):QO X (some e) (GL te):=⟨Ha h3.out⟩
theorem av:QA X [] lZ:=⟨Ls ⟩
theorem aa(h5:QE X e te)(h6:QA X es t)(h7:autoParam (isStar e=false) qau._auto_1):QA X (e ::es) (jN te t):=⟨Fq h5.out h6.out h7⟩
theorem iC(h8:OpR X (compareOp op) r)(h9:QE X a ta)(h10:QE X b tb)(h11:behindInMarks op b=false):QT X (Expr.Compare a [op] [b] pos) (yf (tOp r ta tb)):=⟨HR h8 h9.out h10.out h11⟩
theorem lV(h12:OpR X (compareOp op) r)(h13:OpR X (compareOp op') r')(h14:QE X a ta)(h15:QE X b tb)(h16:QE X c tc)(h17:autoParam (lastMarks [op,op'] [b,c]=false) qau._auto_1):QT X (Expr.Compare a [op,op'] [b,c] pos) (yf (wL r r' ta tb tc)):=⟨FD h12 h13 h14.out h15.out h16.out h17⟩
theorem qP(h4:QT X a tA):QT X (Expr.UnaryOp UnaryOp.Not a pos) (IF tA):=⟨La h4.out⟩
theorem bz{X:Cx}(h3:QE X a ta)(h4:∀(whole:Sem Value),
 isTrue a X.env whole=do
  let v <- whole
  standAt (Expr.pos a)
  holding [v] (truthy v)):QT X a fun σ H Q=>ta σ H fun x H'=>∃ k,Ca X.K x H' k /\ Q k H':=⟨FI h3.out h4⟩
theorem kM(h3:QW X e t):QT X e t:=⟨PW.pt h3.out⟩
theorem kj(h4:QT X a tA):QW X (Expr.BoolOp BoolOp.And [a] pos) tA:=⟨HL h4.out⟩
theorem si(h4:QT X a tA):QW X (Expr.BoolOp BoolOp.Or [a] pos) tA:=⟨JW h4.out⟩
theorem jW{X:Cx}{a:Expr}{b:Expr}{pos:Pos}{tA:TT}{tB':TT}{rest:List Expr}(h7:QT X a tA)(h8:QW X (Expr.BoolOp BoolOp.And (b ::rest) pos) tB'):QW X (Expr.BoolOp BoolOp.And (a ::b ::rest) pos) (Mf tA tB'):=⟨Lv h7.out h8.out⟩
theorem qB{X:Cx}{a:Expr}{b:Expr}{pos:Pos}{tA:TT}{tB':TT}{rest:List Expr}(h7:QT X a tA)(h8:QW X (Expr.BoolOp BoolOp.Or (b ::rest) pos) tB'):QW X (Expr.BoolOp BoolOp.Or (a ::b ::rest) pos) (tOr tA tB'):=⟨MF h7.out h8.out⟩
theorem j5{X:Cx}(h6:Gl X (Str.ofString "range"))(h7:X.mg (Str.ofString "range")=none)(h8:QA X [a] ta)(h9:autoParam (starEach [a] X.env=[(false,eval a X.env)]) qau._auto_1):QI X tg (Expr.Call (Expr.Name (Str.ofString "range") p) [a] [] pos) (CU ta):=⟨DF h6 h7 h8.out h9⟩
theorem o8{X:Cx}(h4:QE X l tl):QI X tg l (AL X.K tl):=⟨Ir h4.out⟩
theorem Lj{X:Cx}(h4:QE X l tl):QI X tg l (LH X.K tl):=⟨Kk h4.out⟩
theorem K6{X:Cx}{pos:Pos}(h7:List.Nodup X.N)(h8:X.N[i]?=some x)(h9:Loc X.env.scope x)(h10:QE X e te)(h11:autoParam (swapsWith e (some (Expr.Name x pos')) pos.line X.env=pure false) qau._auto_1)(h12:autoParam (X.fn x=true \/ List.lookup x X.env.scope.names=some NameKind.local) qau._auto_1):QS X (Stmt.Assign [Expr.Name x pos'] e pos) (vh te (mx i)):=⟨KN h7 h8 h9 h10.out h11 h12⟩
theorem wA{X:Cx}{pos:Pos}(h6:QE X e te)(h7:QG X tg g)(h8:autoParam (swapsWithSole [tg] e pos.line X.env=pure false) qau._auto_1)(h9:autoParam (swappedStores [tg] e X.env=pure none) qau._auto_1)(h10:autoParam (List.map (fun x=>x.snd) (assignEach [tg] X.env)=[assign tg X.env]) qau._auto_1):QS X (Stmt.Assign [tg] e pos) (vh te g):=⟨LY h6.out h7.out h8 h9 h10⟩
theorem ui{X:Cx}(h9:List.Nodup X.N)(h10:X.N[i]?=some x)(h11:Loc X.env.scope x)(h12:QE X e te)(h13:PIp X op ti)(h14:autoParam (X.fn x=true \/ List.lookup x X.env.scope.names=some NameKind.local) qau._auto_1):QS X (Stmt.AugAssign (Expr.Name x pos') op e pos) (Hh i te ti):=⟨L6 h9 h10 h11 h12.out h13 h14⟩
theorem aX(h8:QT X c tc)(h9:QSs X a t)(h10:QSs X b u):QS X (Stmt.If c a b pos) (IV tc t u):=⟨ML h8.out h9.out h10.out⟩
theorem az(h4:QE X e te):QS X (Stmt.Return (some e) pos) (Iz te):=⟨Ld h4.out⟩
theorem zc{X:Cx}{pos:Pos}(h4:QE X e te)(h5:autoParam (swapsWith e none pos.line X.env=pure false) qau._auto_1):QS X (Stmt.Expr e pos) (u0 te):=⟨Hl h4.out h5⟩
theorem mB{X:Cx}(h6:PassesOwn (model X.prog X.w) X.A X.env X.xe)(h7:QT X c tc)(h8:QSs X body tb):QS X (Stmt.While c body [] pos) (By tc tb):=⟨Fg h6 h7.out h8.out⟩
theorem pT{X:Cx}(h8:PassesOwn (model X.prog X.w) X.A X.env X.xe)(h9:X.calm=true)(h10:QI X tg iter wi)(h11:QG X tg g)(h12:QSs X body tb)(h13:autoParam (∀(x:Value),foldedSetIterable iter X.env x=pure x) qau._auto_1):QS X (Stmt.For tg iter body [] pos) (F7 wi g tb):=⟨K8 h8 h9 h10.out h11.out h12.out h13⟩
theorem lI{X:Cx}(h4:List.Nodup X.N)(h5:X.N[i]?=some x)(h6:Loc X.env.scope x)(h7:autoParam (X.fn x=true \/ List.lookup x X.env.scope.names=some NameKind.local) qau._auto_1):QG X (Expr.Name x pos) (mx i):=⟨Hv h4 h5 h6 h7⟩
theorem aF:QSs X [] Ge:=⟨Il ⟩
theorem au{X:Cx}{st:Stmt}{t:TS}(h3:QS X st t):QSs X [st] t:=⟨Ib h3.out⟩
theorem aj{X:Cx}{st:Stmt}{rest:List Stmt}{t:TS}{u:TS}(h5:QS X st t)(h6:QSs X rest u):QSs X (st ::rest) (K2 t u):=⟨FG h5.out h6.out⟩
end L2.E
namespace L2.P
open PySem PySem.Spec PyProof.Rows L2 L2.E
theorem fj{K:PySem.W.Frag}{cls:String->Option Addr}{P:Program}{w:World}{mg:Str->Option Value}{base:Heap}{x qual:Str}{st:Stmt}{f:Addr}{fd:FuncData}{N ps:List Str}{k:Nat}{m:ag->OS}(F:Fun K x qual st f fd)(Sc:aU N ps (aA st))
  (hbody:∀(cdv:Value) (A:Around) (outer:List Env) (s:Shared) (H:Hp) (E:XK),iM k (A.deeper (envOfC qual (aA st) s.heap.objs.size f cdv)) ->
    ∃ t,QSs (uk (CXE P w) P w K mg base N qual (aA st) f cdv A outer s H E) (dO st) t /\ JS K cls (fun C a _ H=>∀ H',aK H H'->E C a H') t m):cx P w K mg base (CXE P w) (k+1) f fd ps (spP K cls (fnP ps.length N.length m)):=
 N1 F Sc fun cdv A outer s H E hr=>let ⟨t,h1,h2⟩:=hbody cdv A outer s H E hr;⟨t,h1.out,h2⟩
end L2.P
namespace L2.E
open PySem PySem.Spec PyProof.Rows L2
end L2.E
namespace L2.P
open PySem PySem.Spec PyProof.Rows L2 L2.E
end L2.P
namespace L2.E
open PySem PySem.Spec PyProof.Rows L2
section
variable{prog:Program}{w:World}{A:Around}{E:Value->Shared->Prop}{s:Shared}{K:PySem.W.Frag}{x C:Addr}{name:Str}{v:Value}
open PySem.W in
open PySem.W in
end
def Np(a C:Addr)(dx:Option Addr)(h:Heap):Prop:=∃ o t,h.get? a=some o /\ o.cls=.ref C /\ o.dict=dx /\ o.data=.fields #[.ref t,.none,.none,.none,.bool false,.none]
theorem Np.exc{a C:Addr}{dx:Option Addr}{h:Heap}(x:Np a C dx h):Lb a C dx h:=let ⟨o,t,e,c,d,f⟩:=x;⟨o,_,e,c,d,f,rfl⟩
section
variable{prog:Program}{w:World}{A:Around}{E:Value->Shared->Prop}{s:Shared}{K:PySem.W.Frag}{x C:Addr}{name:Str}{v:Value}{tk:Tok}
open PySem.W in
end
section
variable{prog:Program}{w:World}{A:Around}{E:Value->Shared->Prop}{hh:Heap}{g:Array GenState}{d:Drawn}{t:Nat}{os:OsState}{K:PySem.W.Frag}{x C:Addr}{name:Str}{v:Value}{tk:Tok}
open PySem.W in
end
section
variable{prog:Program}{w:World}{A:Around}{E:Value->Shared->Prop}{s:Shared}{K:PySem.W.Frag}{x C:Addr}{name:Str}{v:Value}
open PySem.W in
end
section
variable{prog:Program}{w:World}{A:Around}{E:Value->Shared->Prop}{h:Heap}{g:Array GenState}{d:Drawn}{t:Nat}{os:OsState}{K:PySem.W.Frag}
variable{nm q:Str}{C N:Addr}{bs bm bmB:List Value}{hdct:Bool}{sn:List Str}{sub:List Value}{ab:Bool}{col:Option Bool}{dd:Option Addr}{k0 k1 k2 k3 k5:Option Value}{B newId initId:String}
open PySem.W in
open PySem.W in
end
theorem wo{X:Cx}{o i:Expr}{to ti:TE}{t:LJ}{pos:Pos}(ho:QE X o to)(hi:QE X i ti)(hs:LN X t)
  (ha:∀ v,assign (.Subscript o i pos) X.env v=(do
    let ov <- holding [v] (eval o X.env)
    let iv <- holding [v,ov] (eval i X.env)
    standAt pos
    holding [v,ov,iv] (setItem ov iv v)
    release [v,ov,iv] []):=by intro _;rfl):QG X (.Subscript o i pos) (Im to ti t):=⟨KA ho.out hi.out hs ha⟩
end L2.E
namespace L2.P
open PySem PySem.Spec PyProof.Rows L2 L2.E
section
variable{K:PySem.W.Frag}{cls:String->Option Addr}{W:XW}{S H:Hp}
theorem Lq{i:Nat}{tk tv:TE}{mk mv:ag->OE}(hk:JE K cls W tk mk)(hv:JE K cls W tv mv):JS K cls W (vh tv (Im (zC i) tk EV)) (H0 i mk mv):=by
 intro Av G S₀ ρ σ S H D I p;unfold H0 at p;split at p
 . rename_i xs e;refine hv Av G S₀ ρ σ S H _ I ?_
   cases em:mv ρ with
   |exc c fs=>rw[em]at p;exact fun a C S' H' w x=>p a C σ S' H' (I.grow w) w.s x
   |bad=>rw[em]at p;exact p
   | ok r=>
     rw[em]at p;intro u S1 H1 w1 r1;simp only[OE.cy]at p
     cases es:mM r with
     |none=>rw[es]at p;exact p.elim
     | some y=>
       rw[es]at p;obtain⟨S2,w2,s2,rx⟩:=r1.share w1 es;have I2:=I.grow w2;obtain⟨v,e1,a,vs,rfl,h1,h2,h3,h4⟩:=I2.good i _ e
       refine⟨_,e1,?_⟩
       refine hk.goS I2 (p.back w2.s) fun kk z S3 H3 I3 w3 r3 p3=>?_
       have rk:=r3.rd I3.sh
       cases ek:kk.pv with
       | int k=>
         rw[ek]at p3 rk;have hz:=dg rk;subst hz
         dsimp only at p3
         cases ej:ixP xs.length k with
         |none=>rw[ej]at p3;exact p3.elim
         | some j=>
           rw[ej]at p3
           refine⟨a,vs,k,j,rfl,rfl,w3.g _ _ h3,by rw[h4.length];exact ej,?_⟩
           exact p3 σ S3 _ (I3.mut e e1 ((h4.mono w3.s).set (Rep.mono w3.s rx) j)) (aK.refl _)
       |_=>rw[ek]at p3;exact p3.elim
 . exact p.elim
end
end L2.P
namespace L2.P
open PySem
inductive Stp where
 |ix (k:Nat)|fd (f:Str)
def qO:List Str->List OV->Str->Option OV
 |k ::ks,t ::ts,f=>if k=f then some t else qO ks ts f
 |_,_,_=>none
def xn:List Str->List OV->Str->OV->List OV
 |k ::ks,t ::ts,f,u=>if k=f then u ::ts else t ::xn ks ts f u
 |_,ts,_,_=>ts
def OV.at1:OV->Stp->Option OV
 |.ol ts,.ix k=>ts[k]?
 |.ob _ ks ts,.fd f=>qO ks ts f
 |_,_=>none
def OV.gq:OV->Stp->OV->OV
 |.ol ts,.ix k,u=>.ol (ts.set k u)
 |.ob c ks ts,.fd f,u=>.ob c ks (xn ks ts f u)
 |t,_,_=>t
def OV.get:OV->List Stp->Option OV
 |t,[]=>some t
 |t,s ::π=>(t.at1 s).bind fun u=>u.get π
def OV.put:OV->List Stp->OV->OV
 |_,[],u=>u
 | t,s ::π,u=>match t.at1 s with
   |some t'=>t.gq s (t'.put π u)
   |none=>t
def slT:Sl->Option OV
 |.tr _ t=>some t
 |.bo t=>some t
 |_=>none
def gp(i:Nat)(ρ:ag):Option OV:=match ρ[i]? with
 |some (some s)=>slT s
 |_=>none
abbrev MP:=ag->Option (List Stp)
def aI:MP:=fun _=>some []
def pIx(i:Nat)(mp:MP)(mk:ag->OE):MP:=fun ρ=>match gp i ρ with
 | some t=>(match mp ρ with
   | some π=>(match t.get π with
     | some (.ol ts)=>(match mk ρ with
       | .ok r=>(match r.pv with
         |.int k=>(ixP ts.length k).map fun j=>π++[.ix j]
         |_=>none)
       |_=>none)
     |_=>none)
   |none=>none)
 |none=>none
def subAt(i:Nat)(mp:MP)(ρ:ag):Option OV:=match gp i ρ with
 | some t=>(match mp ρ with
   |some π=>t.get π
   |none=>none)
 |none=>none
def pFd(i:Nat)(mp:MP)(f:Str)(ok:String->Bool):MP:=fun ρ=>match subAt i mp ρ with
 |some (.ob c ks ts)=>if(ok c&&(qO ks ts f).isSome)=true then(mp ρ).map fun π=>π++[.fd f]else none
 |_=>none
def w9:List OV->Option (List PV)
 |[]=>some []
 |.sh x ::r=>(w9 r).map (x ::·)
 |_ ::_=>none
@[simp] theorem yc(xs:List PV):w9 (xs.map .sh)=some xs:=by
  induction xs with
  |nil=>rfl
  |cons x xs ih=>show(w9 (xs.map .sh)).map (x ::·)=_;rw[ih];rfl
def cZ(i:Nat)(mp:MP):ag->OE:=fun ρ=>match subAt i mp ρ with
 |some (.sh x)=>.ok (.sh x)
 | some (.ol ts)=>(match w9 ts with
   |some xs=>.ok (.al xs)
   |none=>.bad)
 |_=>.bad
def dG(i:Nat)(mp:MP):ag->OT:=fun ρ=>match subAt i mp ρ with
 |some (.ol ts)=>.ok (!ts.isEmpty)
 |_=>.bad
def gF(i:Nat)(mp:MP):ag->OE:=fun ρ=>match subAt i mp ρ with
 |some (.ol ts)=>.ok (.sh (.int ts.length))
 |_=>.bad
inductive OD where
 |ok (t:OV)|exc (c:String) (fs:XF)|bad
inductive ODs where
 |ok (ts:List OV)|exc (c:String) (fs:XF)|bad
def mD(me:ag->OE):ag->OD:=fun ρ=>match me ρ with
 |.ok (.sh x)=>.ok (.sh x)
 |.ok (.fr xs)=>.ok (.ol (xs.map .sh))
 |.ok (.al _)=>.bad
 |.exc c fs=>.exc c fs
 |.bad=>.bad
def mDn:ag->ODs:=fun _=>.ok []
def mDc(md:ag->OD)(mr:ag->ODs):ag->ODs:=fun ρ=>match md ρ with
 | .ok t=>(match mr ρ with
   |.ok ts=>.ok (t ::ts)
   |.exc c fs=>.exc c fs
   |.bad=>.bad)
 |.exc c fs=>.exc c fs
 |.bad=>.bad
def mDl(mr:ag->ODs):ag->OD:=fun ρ=>match mr ρ with
 |.ok ts=>if ts.length<=lim then .ok (.ol ts)else .bad
 |.exc c fs=>.exc c fs
 |.bad=>.bad
def lr(i:Nat)(md:ag->OD):ag->OS:=fun ρ=>match md ρ with
 |.ok t=>.nx (ρ.set i (some (.tr false t)))
 |.exc c fs=>.exc ρ c fs
 |.bad=>.bad
def vd(i:Nat)(mp:MP)(ρ:ag)(k:OV->(OV->ag)->OS):OS:=match ρ[i]? with
 | some (some (.tr io t))=>(match mp ρ with
   | some π=>(match t.get π with
     |some u=>k u fun u'=>ρ.set i (some (.tr io (t.put π u')))
     |none=>.bad)
   |none=>.bad)
 |_=>.bad
def bR(i:Nat)(mp:MP)(md:ag->OD):ag->OS:=fun ρ=>vd i mp ρ fun u put=>match u with
 | .ol ts=>(match md ρ with
   |.ok x=>if ts.length<lim then .nx (put (.ol (ts++[x])))else .bad
   |.exc c fs=>.exc ρ c fs
   |.bad=>.bad)
 |_=>.bad
def pX(i:Nat)(mp:MP)(mk:ag->OE)(md:ag->OD):ag->OS:=fun ρ=>match md ρ with
 | .ok x=>vd i mp ρ fun u put=>(match u with
   | .ol ts=>(mk ρ).cy ρ fun r=>(match r.pv with
     | .int k=>(match ixP ts.length k with
       |some j=>.nx (put (.ol (ts.set j x)))
       |none=>.bad)
     |_=>.bad)
   |_=>.bad)
 |.exc c fs=>.exc ρ c fs
 |.bad=>.bad
def FZ(i:Nat)(mp:MP)(f:Str)(okc:String->Bool)(md:ag->OD):ag->OS:=fun ρ=>match md ρ with
 | .ok x=>vd i mp ρ fun u put=>(match u with
   |.ob c ks ts=>if(okc c&&decide (ks.length<1000))=true then(if ks.contains f=true then .nx (put (.ob c ks (xn ks ts f x)))else .nx (put (.ob c (ks++[f]) (ts++[x]))))else .bad
   |_=>.bad)
 |.exc c fs=>.exc ρ c fs
 |.bad=>.bad
inductive OX where
 |ok (ρ:ag) (s:Sl)|exc (ρ:ag) (c:String) (fs:XF)|bad
def slO:OV->Sl
 |.sh x=>.sh x
 |t=>.tr false t
def m6(i:Nat)(mp:MP):ag->OX:=fun ρ=>match ρ[i]? with
 | some (some (.tr io t))=>(match mp ρ with
   | some π=>(match t.get π with
     | some (.ol ts)=>(match ts.getLast? with
       |some x=>.ok (ρ.set i (some (.tr io (t.put π (.ol ts.dropLast))))) (slO x)
       |none=>.bad)
     |_=>.bad)
   |none=>.bad)
 |_=>.bad
def nio:Sl->Bool
 |.tr true _=>false
 |.bo _=>false
 |_=>true
def iE(i:Nat)(m:ag->OX):ag->OS:=fun ρ=>match m ρ with
 |.ok ρ' s=>if nio s then .nx (ρ'.set i (some s))else .bad
 |.exc ρ' c fs=>.exc ρ' c fs
 |.bad=>.bad
def Ht(neg:Bool)(m:ag->OX)(a b:ag->OS):ag->OS:=fun ρ=>match m ρ with
 | .ok ρ' (.sh x)=>(match vj x with
   |some k=>if(k != neg)=true then a ρ' else b ρ'
   |none=>.bad)
 |.ok _ _=>.bad
 |.exc ρ' c fs=>.exc ρ' c fs
 |.bad=>.bad
mutual
def pvO:OV->Option PV
 |.sh x=>some x
 |.ol ts=>(wR ts).map .lst
 |.ob _ _ _=>none
 |.di _=>none
 |.dt _=>none
def wR:List OV->Option (List PV)
 |[]=>some []
 |t ::ts=>(pvO t).bind fun x=>(wR ts).map (x ::·)
end
def qS(i:Nat)(ρ:ag):ag:=match ρ[i]? with
 | some (some (.tr false t))=>(match pvO t with
   |some x=>ρ.set i (some (.sh x))
   |none=>ρ)
 |_=>ρ
def qC(i:Nat)(m:ag->OS):ag->OS:=fun ρ=>m (qS i ρ)
inductive OI where
 |ok (x:PV) (outs:List (Option OV))|exc (c:String) (fs:XF) (outs:List (Option OV))|bad
inductive Arg where
 |e (me:ag->OE)|t (i:Nat) (mp:MP)|b (i:Nat) (mp:MP)
def pN:Option Sl->Option OV
 |some (.tr true t)=>some t
 |_=>none
def uq(np:Nat):OS->OI
 |.nx ρ=>.ok .non ((ρ.take np).map pN)
 |.rt ρ (.sh x)=>.ok x ((ρ.take np).map pN)
 |.exc ρ c fs=>.exc c fs ((ρ.take np).map pN)
 |_=>.bad
def lg(n:Nat)(as:List Sl):ag:=as.map some++List.replicate (n - as.length) none
def fnI(np n:Nat)(m:ag->OS)(as:List Sl):OI:=if as.length=np then uq np (m (lg n as))else .bad
def nv(a:Arg)(ρ:ag):Option Sl:=match a with
 | .e me=>(match me ρ with
   |.ok r=>(mM r).map .sh
   |_=>none)
 | .t i mp=>(match ρ[i]? with
   |some (some (.tr _ t))=>((mp ρ).bind fun π=>t.get π).map (.tr true)
   |_=>none)
 |.b i mp=>(subAt i mp ρ).map .bo
def jT:List Arg->ag->Option (List Sl)
 |[],_=>some []
 |a ::as,ρ=>(nv a ρ).bind fun s=>(jT as ρ).map (s ::·)
def kT(ρ₀:ag):Arg->Option OV->ag->ag
 | .t i mp,some u,ρ=>(match ρ[i]? with
   | some (some (.tr io t))=>(match mp ρ₀ with
     |some π=>ρ.set i (some (.tr io (t.put π u)))
     |none=>ρ.set i none)
   |_=>ρ.set i none)
 |.t i _,none,ρ=>ρ.set i none
 |_,_,ρ=>ρ
def fQ(ρ₀:ag):List Arg->List (Option OV)->ag->ag
 |[],_,ρ=>ρ
 |a ::as,us,ρ=>fQ ρ₀ as us.tail (kT ρ₀ a us.head?.join ρ)
def jw(f:List Sl->OI)(as:List Arg):ag->OX:=fun ρ=>match jT as ρ with
 | some ss=>(match f ss with
   |.ok x outs=>.ok (fQ ρ as outs ρ) (.sh x)
   |.exc c fs outs=>.exc (fQ ρ as outs ρ) c fs
   |.bad=>.bad)
 |none=>.bad
def zf(f:List Sl->OI)(as:List Arg):ag->OE:=fun ρ=>match jT as ρ with
 | some ss=>(match f ss with
   |.ok x _=>.ok (.sh x)
   |.exc c fs _=>.exc c fs
   |.bad=>.bad)
 |none=>.bad
def recv(c:String)(m:Str):Option Sl->Bool
 |some (.tr true (.ob c' ks _))=>c'==c && !ks.contains m
 |some (.bo (.ob c' ks _))=>c'==c && !ks.contains m
 |_=>false
def qo(c:String)(m:Str)(f:List Sl->OI)(as:List Arg):ag->OX:=fun ρ=>match as with
 |a ::_=>if recv c m (nv a ρ)=true then jw f as ρ else .bad
 |[]=>.bad
def oW(c:String)(m:Str)(f:List Sl->OI)(as:List Arg):ag->OE:=fun ρ=>match as with
 |a ::_=>if recv c m (nv a ρ)=true then zf f as ρ else .bad
 |[]=>.bad
def x9(c:String)(f:List Sl->OI):ag->OD:=fun _=>match f [.tr true (.ob c [] [])]with
 |.ok .non (some t ::_)=>.ok t
 |_=>.bad
def oR(i j:Nat)(mb:ag->OS):List PV->ag->OS
 |[],ρ=>.nx ρ
 |.tup [x,y] ::xs,ρ=>(mb ((ρ.set i (some (.sh x))).set j (some (.sh y)))).turn (oR i j mb xs)
 |_ ::_,_=>.bad
def u5(k:Nat):List PV->List PV
 |[]=>[]
 |x ::xs=>.tup [.int k,x] ::u5 (k+1) xs
def Cb(i j:Nat)(ml:ag->OE)(mb:ag->OS):ag->OS:=fun ρ=>(ml ρ).cy ρ fun r=>match Bs r with
 |some xs=>oR i j mb (u5 0 xs) ρ
 |none=>.bad
def wq(ml:ag->OE)(ι:List Nat)(me:ag->OE):ag->OE:=fun ρ=>(ml ρ).bind fun r=>match r.pv with
 |.tup xs=>noX (da me (dw ι ρ) xs)
 |_=>.bad
def iX(mc:ag->OT)(me:ag->OE)(ρ:ag):List PV->OA
 |[]=>.ok []
 | x ::xs=>(match mc (ρ++[some (.sh x)])with
   | .ok true=>(me (ρ++[some (.sh x)])).fX fun r=>(match mM r with
     |some y=>(iX mc me ρ xs).fX fun ys=>.ok (y ::ys)
     |none=>.bad)
   |.ok false=>iX mc me ρ xs
   |_=>.bad)
def xg(ml:ag->OE)(ι:List Nat)(mc:ag->OT)(me:ag->OE):ag->OE:=fun ρ=>(ml ρ).bind fun r=>match r.pv with
 |.lst xs=>noX (iX mc me (dw ι ρ) xs)
 |_=>.bad
def GR(ma ms:ag->OE):ag->OE:=fun ρ=>(ma ρ).bind fun a=>(ms ρ).bind fun k=>match a.pv,k.pv with
 |.lst xs,.int k=>if k=-1 then .ok (.fr xs.reverse)else .bad
 |_,_=>.bad
def nG:PV->Option RV
 |.lst xs=>some (.sh (.tup xs))
 |.tup xs=>some (.sh (.tup xs))
 |_=>none
mutual
def fg:PV->PV->Bool
 |.non,y=>(match y with|.non=>true|_=>false)
 |.bl a,y=>(match y with|.bl b=>a==b|.int j=>(if a then 1 else 0)==j|_=>false)
 |.int i,y=>(match y with|.bl b=>i==(if b then 1 else 0)|.int j=>i==j|_=>false)
 |.str x,y=>(match y with|.str z=>x==z|_=>false)
 |.lst xs,y=>(match y with|.lst ys=>qQ xs ys|_=>false)
 |.tup xs,y=>(match y with|.tup ys=>qQ xs ys|_=>false)
def qQ:List PV->List PV->Bool
 |[],ys=>(match ys with|[]=>true|_ ::_=>false)
 |x ::xs,ys=>(match ys with|y ::ys=>fg x y&&qQ xs ys|[]=>false)
end
mutual
def qH:PV->Nat->Bool
 |.str x,_=>x.cps.all (·<0x110000)
 |.lst xs,n=>(match n with|0=>false|n+1=>tW xs n)
 |.tup xs,n=>(match n with|0=>false|n+1=>tW xs n)
 |_,_=>true
def tW:List PV->Nat->Bool
 |[],_=>true
 |x ::xs,n=>qH x n&&tW xs n
end
def zE:PV->PV->Option RV:=fun x y=>if(qH x 64&&qH y 64)=true then some (.sh (.bl (!fg x y)))else none
theorem BP(ns:List Int):∀ ms:List Int,qQ (ns.map .int) (ms.map .int)=decide (ns=ms):=by
 induction ns with
 |nil=>intro ms;cases ms<;>simp[qQ]
 | cons n ns ih=>
   intro ms
   cases ms with
   |nil=>simp[qQ]
   |cons m ms=>simp[qQ,fg,ih,Bool.beq_eq_decide_eq]
theorem BK(ns:List Int)(n:Nat):tW (ns.map .int) n=true:=by
 induction ns with
 |nil=>simp[tW]
 |cons n ns ih=>simp[tW,qH,ih]
def dP:PV->Bool
 |.lst _=>false
 |.tup _=>false
 |_=>true
def kG:PV->PV->Option Bool
 |x,.tup ys=>if ys.all dP=true then some (ys.any fun y=>fg y x)else none
 |x,.lst ys=>if ys.all dP=true then some (ys.any fun y=>fg y x)else none
 |_,_=>none
def gIn:PV->PV->Option RV:=fun x y=>(kG x y).map fun b=>.sh (.bl b)
def oX:PV->PV->Option RV:=fun x y=>(kG x y).map fun b=>.sh (.bl (!b))
def C1(kvs:List (Int×PV)):PV->Option RV
 |.int n=>(kvs.lookup n).map .sh
 |_=>none
def gY(kvs:List (Int×PV)):PV->Option RV
 |.int n=>some (.sh ((kvs.lookup n).getD .non))
 |_=>none
end L2.P
namespace L2
open PySem PySem.Spec PyProof.Rows
section
variable{X:Cx}{pins:List (Addr×Obj)}{σ:St}{H:Hp}{s:Shared}{h':Heap}
theorem Inv.D3{t':Nat}{its:List Addr}{a:Addr}{o:HO}(I:Inv X pins σ H s)(k:∀ b u,b∉its->s.heap.get? b=some u->h'.get? b=some u)(hf:∀ b∈its,p8 X pins H b)
  (hp:s.heap.objs.size<=a) (new:gJ X.prog X.w (upd H a o) h' a o):Inv X pins σ (upd H a o) { s with heap:=h',toks:=t' }:=by
 have hn:=I.hok.fresh hp
 have nit:∀ b u,H b=some u->b∉its:=fun b u e z=>by rw[(hf b z).1]at e;cases e
 refine I.step (g':=s.gens) (d':=s.drawn) (ch:=its) (fun b hb=>?_) (fun b u _ _ hc e _=>k b u hc e) (fun b u _ _ hc e _=>⟨u.slots,k b u hc e⟩)
  (fun b u _ q n=>by rw[bQ (Nat.ne_of_lt (Nat.lt_of_lt_of_le (Heap.lt_size q) hp))];exact n)
  (fun b u hc e=>⟨u,k b u hc e⟩) (fun b xs q=>by rw[bQ (eZ q hn)];exact q) (fun b u xs q=>by rw[bQ (eZ q hn)];exact q) (fun b ps q=>⟨#[],by rw[bQ (eZ q hn),q];simp⟩) (fun m hm=>?_) (fun b u e=>?_) I.bare
 . obtain⟨_,f1,f2,f3,f4,f5⟩:=hf b hb
   exact⟨f3,f1,f4,f5⟩
 . obtain⟨ob,es,ep,ho,r⟩:=hm
   exact⟨ob,es,ep,k _ ob (fun z=>(hf _ z).2.1 rfl) ho,r⟩
 . by_cases hb:b=a
   . subst hb;rw[bC]at e;cases e;exact new
   . rw[bQ hb]at e
     refine(I.hok b u e).vn (fun c v hc q=>k c v ?_ q) (fun c q=>by rw[bQ (eZ q hn)];exact q) fun c xs q=>by rw[bQ (eZ q hn)];exact q
     rcases hc with z|z
     . rw[z];exact nit b u e
     . exact nit c _ z
end
def Ite(K:PySem.W.Frag)(a:Addr):It:=
 ⟨fun i H=>∃ xs x,SqL K H a xs /\ xs[i]?=some x,fun i H v H'=>∃ t x,(∀ xs,SqL K H a xs->xs[i]?=some x) /\ H t=none /\ v=.ref t /\ H'=upd H t (.tup [.int i,x]),fun i H=>∃ xs,SqL K H a xs /\ xs.length<=i⟩
theorem DU{P:Program}{w:World}{K:PySem.W.Frag}{elts:List Expr}{k:Nat}{pos:Pos}(a e it:Addr)(hei:e≠it):
  Turn P w K (.Tuple elts k pos) (Ite K a) [e,it] e (fun i h=>(∃ old,IsEnum h e it i old) /\ h.IsListIter it a i) where
 mem:=by simp
 obj:=fun i h st b hb=>by
  obtain⟨⟨old,h1⟩,o,h2,c,d⟩:=st
  rcases List.mem_cons.mp hb with z|z
  . subst z;exact⟨_,h1,fun v z=>by cases z⟩
  . have z':b=it:=by simpa using z
    subst z';exact⟨o,h2,fun v z=>by rw[d]at z;cases z⟩
 keep:=fun i h h' st k=>by
  obtain⟨⟨old,h1⟩,h2⟩:=st
  exact⟨⟨old,k e (by simp) _ h1⟩,h2.at fun o x=>k it (by simp) o x⟩
 item:=by
  intro X hP hw hK hc i pins s σ H E I hf st hg;subst hP hw hK;obtain⟨xs,x,hq,hx⟩:=hg;obtain⟨its,rv,p,hz⟩:=I.list hq;obtain⟨u,hu,ru⟩:=rv.get hx;obtain⟨⟨old,he⟩,hit⟩:=st
  refine wpAny_pyNext_enum_item he hit p.isList (x:=u) (by simpa using hu) hei fun h1 ho hit1 hT hsz hk=>⟨_,rfl,?_⟩
  refine wpAny_letOwnedTupleGo_enum ho fun h2 he2 hs2=>?_
  have hT2:h2.get? s.heap.objs.size=some { cls:=.type "tuple",data:=.seq #[.int i s.toks,u] }:=(hs2.2 _ (Nat.ne_of_gt (Heap.lt_size he))).trans hT
  have nH:H s.heap.objs.size=none:=I.hok.fresh (Nat.le_refl _)
  refine⟨.ref s.heap.objs.size,upd H s.heap.objs.size (.tup [.int i,x]),I.D3 (its:=[e,it]) (t':=s.toks+1) (fun b o hb q=>?_) hf (Nat.le_refl _) ?_,rfl,⟨_,x,fun ys hy=>by rw[I.Aq hy hq];exact hx,nH,rfl,rfl⟩,⟨⟨u,by simpa using he2⟩,?_⟩,fun b hb=>?_⟩
  . have nb:b≠e /\ b≠it:=by simpa using hb
    exact(hs2.2 b nb.1).trans (hk b o nb.1 nb.2 q)
  . exact⟨by show 2<=sizeLine;decide,[.int i s.toks,u],.cons ⟨_,rfl⟩ (.cons ru .nil),⟨_,hT2,rfl,_,rfl⟩⟩
  . exact hit1.at fun o y=>(hs2.2 it hei.symm).trans y
  . have:b < s.heap.objs.size:=by
     rcases List.mem_cons.mp hb with z|z
     . subst z;exact Heap.lt_size he
     . have z':b=it:=by simpa using z
       subst z';obtain⟨_,y,_⟩:=hit;exact Heap.lt_size y
    rw[bQ (Nat.ne_of_lt this)]
    exact(hf b hb).1
 done:=by
  intro X hP hw hK hc i pins s σ H E I hf st hg;subst hP hw hK;obtain⟨xs,hq,hx⟩:=hg;obtain⟨its,rv,p,hz⟩:=I.list hq;obtain⟨⟨old,he⟩,hit⟩:=st;obtain⟨f0,f1,f2,f3,f4,f5⟩:=hf it (by simp);have hl:=rv.length
  exact wpAny_pyNext_enum_end (I.ok.hd hc) he hit p.isList (by simp;omega) fun h' eb=>⟨rfl,I.turned (t':=s.toks) (fun b o hb e=>eb b o hb e) f0 f1 f3 f4 f5⟩
 self:=fun _ _ _ _ _ st h=>by
  obtain⟨⟨old,he⟩,_⟩:=st;exact wpAny_pyIter_enum he h
section
variable{X:Cx}
def Fm(K:PySem.W.Frag)(ta:TA):TI:=fun σ H R=>ta σ H fun vs H1=>∃ a,vs=[.ref a] /\ (∃ xs,SqL K H1 a xs) /\ R (Ite K a) H1
theorem G1{elts:List Expr}{k:Nat}{tp:Pos}{a:Expr}{ta:TA}{p pos:Pos}(hg:Gl X "enumerate")(hm:X.mg "enumerate" = none)(ha:PA X [a] ta)(hs:starEach [a] X.env=[(false,eval a X.env)]:=by rfl):
  PI X (.Tuple elts k tp) (.Call (.Name "enumerate" p) [a] [] pos) (Fm X.K ta):=by
 intro pins s σ H R I h;refine Call_ (wY I hg hm (show bootBuiltins "enumerate" = some (.type "enumerate") by rfl) (PyProof.Rows.callWith_type1 (thn (ha pos pins s σ H _ I h) fun us s1 ⟨vs,H1,I1,r1,q1⟩=>?_) hs rfl));obtain⟨l,e,⟨xs,hq⟩,q⟩:=q1;subst e
 cases r1 with
 | cons r rr=>
   cases rr;cases r;obtain⟨its,rv,p,hz⟩:=I1.list hq
   refine call_enumerate_list p.isList fun h' he hit hsz hk=>?_
   refine wpAny_pyIter_enum he ?_
   have I2:Inv X pins σ H1 { s1 with heap:=h' }:=I1.kept (t':=s1.toks) hk
   refine⟨s1.heap.objs.size+1,[s1.heap.objs.size+1,s1.heap.objs.size],_,_,H1,rfl,I2,DU l _ _ (Nat.succ_ne_self _),⟨⟨.none,he⟩,hit⟩,fun b hb=>?_,q⟩
   have:s1.heap.objs.size<=b:=by
    rcases List.mem_cons.mp hb with z|z
    . subst z;exact Nat.le_succ _
    . have z':b=s1.heap.objs.size:=by simpa using z
      subst z';exact Nat.le_refl _
   exact I1.Dj this (I1.hok.fresh this)
end
theorem Gq{K:PySem.W.Frag}{a:Addr}{xs:List V}{g:TG}{tb:TS}{D:Ends}{σ:St}{H:Hp}(Pv:Nat->St->Hp->Prop)(h0:Pv 0 σ H)(hl:∀ i σ H,i<=xs.length->Pv i σ H->SqL K H a xs)
  (hs:∀ i x σ H t,xs[i]?=some x->Pv i σ H->H t=none->g (.ref t) σ (upd H t (.tup [.int i,x])) fun σ2 H2=>tb { D with nx:=Pv (i+1),ct:=Pv (i+1),bk:=D.nx } σ2 H2) (hd:∀ σ H,Pv xs.length σ H->D.nx σ H):
  ∃ W:Nat->Nat->St->Hp->Prop,(∃ m,W 0 m σ H) /\ ∀ i m σ H,W i m σ H ->
    ((Ite K a).stop i H /\ D.nx σ H) \/ ((Ite K a).go i H /\ ∃ N:St->Hp->Prop,(∀ σ' H',N σ' H'->∃ m',m'<m /\ W (i+1) m' σ' H') /\ ∀ x H',(Ite K a).yld i H x H'->g x σ H' fun σ2 H2=>tb { D with nx:=N,ct:=N,bk:=D.nx } σ2 H2):=by
 refine⟨fun i m σ H=>m=xs.length - i /\ i<=xs.length /\ Pv i σ H,⟨xs.length,by simp,Nat.zero_le _,h0⟩,?_⟩
 rintro i m σ H ⟨rfl,hi,p⟩
 have q:=hl i σ H hi p
 by_cases hlt:i<xs.length
 . refine .inr ⟨⟨xs,xs[i],q,by simp[hlt]⟩,Pv (i+1),fun σ' H' p'=>⟨xs.length - (i+1),by omega,rfl,hlt,p'⟩,fun x H' y=>?_⟩;obtain⟨t,z,y1,y3,e1,e2⟩:=y;subst e1 e2;exact hs i z σ _ t (y1 xs q) p y3
 . have e:i=xs.length:=by omega
   subst e;exact .inl ⟨⟨xs,q,Nat.le_refl _⟩,hd σ H p⟩
end L2
namespace L2.P
open PySem PySem.Spec PyProof.Rows L2 L2.E PySem.SeqAt
mutual
def dOf:PV->PyData
 |.non=>.none
 |.bl b=>.bool b
 |.int i=>.int i
 |.str x=>.str x
 |.lst xs=>.list (tj xs)
 |.tup xs=>.tuple (tj xs)
def tj:List PV->List PyData
 |[]=>[]
 |x ::xs=>dOf x ::tj xs
end
mutual
theorem C4:∀ x y:PV,PyData.eqv (dOf x) (dOf y)=fg x y
 |.non,y=>by cases y<;>simp[dOf,PyData.eqv,fg]
 |.bl a,y=>by cases y<;>simp[dOf,PyData.eqv,fg]
 |.int a,y=>by cases y<;>simp[dOf,PyData.eqv,fg]
 |.str a,y=>by cases y<;>simp[dOf,PyData.eqv,fg]
 |.lst xs,y=>by cases y<;>simp[dOf,PyData.eqv,fg,vJ xs]
 |.tup xs,y=>by cases y<;>simp[dOf,PyData.eqv,fg,vJ xs]
theorem vJ:∀ xs ys:List PV,PyData.eqvAll (tj xs) (tj ys)=qQ xs ys
 |[],ys=>by cases ys<;>simp[tj,PyData.eqvAll,qQ]
 |x ::xs,ys=>by cases ys<;>simp[tj,PyData.eqvAll,qQ,C4 x,vJ xs]
end
mutual
theorem GJ:∀(x:PV) (n:Nat),qH x n=true->(dOf x).canLay0=true /\ (dOf x).depth<=n
 |.non,n,h=>by simp[dOf,PyData.canLay0,PyData.depth]
 |.bl a,n,h=>by simp[dOf,PyData.canLay0,PyData.depth]
 |.int a,n,h=>by simp[dOf,PyData.canLay0,PyData.depth]
 |.str a,n,h=>by simp[dOf,PyData.canLay0,PyData.depth];exact h
 | .lst xs,n,h=>by
   cases n with
   |zero=>simp[qH]at h
   | succ n=>
     have:=yW xs n (by simpa [qH]using h);simp[dOf,PyData.canLay0,PyData.depth]
     exact⟨this.1,by omega⟩
 | .tup xs,n,h=>by
   cases n with
   |zero=>simp[qH]at h
   | succ n=>
     have:=yW xs n (by simpa [qH]using h);simp[dOf,PyData.canLay0,PyData.depth]
     exact⟨this.1,by omega⟩
theorem yW:∀(xs:List PV) (n:Nat),tW xs n=true->PyData.canLayAll0 (tj xs)=true /\ PyData.depthAll (tj xs)<=n
 |[],n,h=>by simp[tj,PyData.canLayAll0,PyData.depthAll]
 | x ::xs,n,h=>by
   simp[tW]at h;have h1:=GJ x n h.1;have h2:=yW xs n h.2;simp[tj,PyData.canLayAll0,PyData.depthAll]
   exact⟨⟨h1.1,h2.1⟩,by omega⟩
end
section
variable{X:Cx}{pins:List (Addr×Obj)}{σ:St}{H:Hp}{s:Shared}
mutual
theorem wJ(I:Inv X pins σ H s):∀(x:PV) (v:V) (u:Value),Rep X.K H x v->RelV v u->∃ as,Reads s.heap u (dOf x) as
 |.non,v,u,h,r=>by unfold Rep at h;subst h;cases r;exact⟨_,.none⟩
 |.bl b,v,u,h,r=>by unfold Rep at h;subst h;cases r;exact⟨_,.bool b⟩
 |.int i,v,u,h,r=>by unfold Rep at h;subst h;obtain⟨t,rfl⟩:=r;exact⟨_,.int i t⟩
 |.str x,v,u,h,r=>by unfold Rep at h;subst h;obtain⟨t,rfl⟩:=r;exact⟨_,.str x t⟩
 | .lst xs,v,u,h,r=>by
   unfold Rep at h;obtain⟨p,vs,rfl,hq,hr⟩:=h;cases r;obtain⟨its,rv,pl,hz⟩:=I.list hq;obtain⟨as,ra⟩:=qj I xs vs its hr rv;obtain⟨o,e,c,n,d⟩:=pl.isList
   exact⟨_,.list (xs:=tj xs) e c d (by simpa using ra)⟩
 | .tup xs,v,u,h,r=>by
   unfold Rep at h;obtain⟨p,vs,rfl,hq,hr⟩:=h;cases r;obtain⟨its,rv,pl,hz⟩:=I.tuple hq;obtain⟨as,ra⟩:=qj I xs vs its hr rv;obtain⟨o,e,c,n,d⟩:=pl
   exact⟨_,.tuple (xs:=tj xs) e c d (by simpa using ra)⟩
theorem qj(I:Inv X pins σ H s):∀(xs:List PV) (vs:List V) (us:List Value),bZ X.K H xs vs->Vals vs us->∃ as,ReadsAll s.heap us (tj xs) as
 |[],vs,us,h,r=>by rw[h.nil_inv]at r;cases r;exact⟨_,.nil⟩
 | x ::xs,vs,us,h,r=>by
   obtain⟨v,t,rfl,h1,h2⟩:=h.cons_inv
   cases r with
   | cons r1 r2=>
     obtain⟨as,ra⟩:=wJ I x _ _ h1 r1;obtain⟨bs,rb⟩:=qj I xs _ _ h2 r2
     exact⟨_,.cons ra rb⟩
end
def MO(K:PySem.W.Frag)(A:Around)(neg:Bool):R2:=fun v u H Q=>∃ x y,Rep K H x v /\ Rep K H y u /\ (qH x 64&&qH y 64)=true /\ A.units+64<cLine /\ Q (.bl (if neg then !fg x y else fg x y)) H
theorem xv{x:PV}(h:qH x 64=true):shaped (dOf x)=true:=by
 have:=GJ x 64 h;unfold shaped;simp[this]
theorem Ep:OpR X (compareOp .NotEq) (MO X.K X.A true):=by
 intro pins s σ H v u a b Q I rx ry h;obtain⟨x,y,h1,h2,ok,hu,q⟩:=h;rw[Bool.and_eq_true]at ok;obtain⟨as,ra⟩:=wJ I x v a h1 rx;obtain⟨bs,rb⟩:=wJ I y u b h2 ry;refine ne_dataH ra rb (xv ok.1) (xv ok.2) hu ⟨.bl _,H,I,rfl,?_⟩;rw[C4];exact q
end
section
variable{K:PySem.W.Frag}{S H:Hp}
theorem RdV.rep{x:PV}{v:V}(h:RdV K S H x v)(s:aK S H):Rep K H x v:=by
 cases x with
 |lst xs=>obtain⟨p,vs,e,q,r⟩:=h;unfold Rep;exact⟨p,vs,e,q,r.mono s⟩
 |non=>exact Rep.mono s h
 |bl b=>exact Rep.mono s h
 |int i=>exact Rep.mono s h
 |str x=>exact Rep.mono s h
 |tup xs=>exact Rep.mono s h
theorem Fx{A:Around}(hu:A.units+64<cLine):JR K (MO K A true) zE:=by
 intro S H x y v u rr Q I hx hy e k;unfold zE at e;split at e
 . rename_i ok;cases e
   exact⟨x,y,hx.rep I,hy.rep I,ok,hu,k _ S H (bj.refl I) o7⟩
 . cases e
end
section
variable{X:Cx}{K:PySem.W.Frag}{S H:Hp}
theorem we{x:PV}{v:V}(h:Rep K H x v)(f:dP x=true):se v=true:=by
 cases x with
 |lst xs=>cases f
 |tup xs=>cases f
 |non=>unfold Rep at h;subst h;rfl
 |bl b=>unfold Rep at h;subst h;rfl
 |int b=>unfold Rep at h;subst h;rfl
 |str b=>unfold Rep at h;subst h;rfl
theorem HY{x y:PV}{v u:V}(h:Rep K H x v)(k:Rep K H y u)(f:dP x=true)(g:dP y=true):eqV u v=fg y x:=by
 cases x<;>first|(cases f;done)|skip
 all_goals(unfold Rep at h;subst h;cases y<;>first|(cases g;done)|(unfold Rep at k;subst k;simp[eqV,fg]))
theorem xx{xs:List PV}{vs:List V}(h:bZ K H xs vs)(f:xs.all dP=true):vs.all se=true:=by
 induction xs generalizing vs with
 |nil=>rw[h.nil_inv];rfl
 | cons x xs ih=>
   obtain⟨v,r,rfl,h1,h2⟩:=h.cons_inv
   rw[List.all_cons,Bool.and_eq_true]at f ⊢
   exact⟨we h1 f.1,ih h2 f.2⟩
theorem Ar{x:PV}{v:V}{xs:List PV}{vs:List V}(hx:Rep K H x v)(g:dP x=true)(h:bZ K H xs vs)(f:xs.all dP=true):inV v vs=xs.any fun y=>fg y x:=by
 induction xs generalizing vs with
 |nil=>rw[h.nil_inv];rfl
 | cons y xs ih=>
   obtain⟨u,r,rfl,h1,h2⟩:=h.cons_inv;rw[List.all_cons,Bool.and_eq_true]at f;have:=ih h2 f.2
   unfold inV at this ⊢
   rw[List.any_cons,List.any_cons,this,HY hx h1 g f.1]
theorem AD{x:PV}{xs:List PV}(g:dP x=false)(f:xs.all dP=true):(xs.any fun y=>fg y x)=false:=by
 induction xs with
 |nil=>rfl
 | cons y xs ih=>
   rw[List.all_cons,Bool.and_eq_true]at f;rw[List.any_cons,ih f.2,Bool.or_false];have f1:=f.1
   cases y<;>first|(cases f1;done)|(cases x<;>first|(cases g;done)|simp[fg])
theorem yq{α:Type}(l:List α):(l.any fun _=>false)=false:=by induction l<;>simp_all
theorem tT{A:Around}{s:Shared}{pins:List (Addr×Obj)}{σ:St}(I:Inv X pins σ H s)(hu:A.units<cLine){x:PV}{v:V}{a:Value}(hx:Rep X.K H x v)(ra:RelV v a)(g:dP x=false):
  ∀{xs:List PV} {vs:List V} {us:List Value},bZ X.K H xs vs->Vals vs us->xs.all dP=true->∀ u∈us,EqAt A s u a false:=by
 intro xs
 induction xs with
 |nil=>intro vs us h r _ u hu;rw[h.nil_inv]at r;cases r;cases hu
 | cons y xs ih=>
   intro vs us h r f u hm;obtain⟨w,t,rfl,h1,h2⟩:=h.cons_inv;rw[List.all_cons,Bool.and_eq_true]at f
   cases r with
   | cons r1 r2=>
     rcases List.mem_cons.mp hm with rfl|hm
     . cases x with
       |non=>cases g
       |bl b=>cases g
       |int b=>cases g
       |str b=>cases g
       | lst zs=>
         unfold Rep at hx;obtain⟨p,us',rfl,hq,_⟩:=hx;cases ra;obtain⟨its,_,pl,_⟩:=I.list hq
         cases y with
         |non=>unfold Rep at h1;subst h1;cases r1;exact EqAt.none_list pl.isList hu
         |bl b=>unfold Rep at h1;subst h1;cases r1;exact EqAt.bool_list b pl.isList hu
         |int b=>unfold Rep at h1;subst h1;obtain⟨t',rfl⟩:=r1;exact EqAt.int_list b t' pl.isList hu
         |str b=>unfold Rep at h1;subst h1;obtain⟨t',rfl⟩:=r1;exact EqAt.str_list b t' pl.isList hu
         |lst _=>cases f.1
         |tup _=>cases f.1
       | tup zs=>
         unfold Rep at hx;obtain⟨p,us',rfl,hq,_⟩:=hx;cases ra;obtain⟨its,_,pl,_⟩:=I.tuple hq
         cases y with
         |non=>unfold Rep at h1;subst h1;cases r1;exact EqAt.none_tuple pl hu
         |bl b=>unfold Rep at h1;subst h1;cases r1;exact EqAt.bool_tuple b pl hu
         |int b=>unfold Rep at h1;subst h1;obtain⟨t',rfl⟩:=r1;exact EqAt.int_tuple b t' pl hu
         |str b=>unfold Rep at h1;subst h1;obtain⟨t',rfl⟩:=r1;exact EqAt.str_tuple b t' pl hu
         |lst _=>cases f.1
         |tup _=>cases f.1
     . exact ih h2 r2 f.2 u hm
def Fe(K:PySem.W.Frag)(A:Around)(neg:Bool):R2:=fun v u H Q=>∃ x ys p vs,Rep K H x v /\ u=.ref p /\ (SqL K H p vs \/ SqT K H p vs) /\ bZ K H ys vs /\ ys.all dP=true /\ A.units+64<cLine /\ Q (.bl (if neg then !(ys.any fun y=>fg y x)else ys.any fun y=>fg y x)) H
theorem lj:OpR X (compareOp .In) (Fe X.K X.A false):=by
 intro pins s σ H v u a b Q I rx ry h;obtain⟨x,ys,p,vs,hx,rfl,hq,hr,hf,hu,q⟩:=h
 cases g:dP x with
 |true=>exact DC pins s σ H v _ a b Q I rx ry ⟨p,vs,rfl,hq,we hx g,xx hr hf,by rw[Ar hx g hr hf];exact q⟩
 | false=>
   rw[AD g hf]at q;cases ry
   rcases hq with hq|hq
   . obtain⟨its,r,pl,hz⟩:=I.list hq;refine SeqAt.in_listAt (fun _=>false) pl.isList (fun w hw=>tT I (by show X.A.units+1<cLine;omega) hx rx g hr r hf w (by simpa using hw)) ⟨.bl _,H,I,rfl,?_⟩;rw[show(its.toArray.any fun _=>false)=false by simp[yq]];exact q
   . obtain⟨its,r,pl,hz⟩:=I.tuple hq;refine SeqAt.in_tupleAt (fun _=>false) pl (fun w hw=>tT I (by show X.A.units+1<cLine;omega) hx rx g hr r hf w (by simpa using hw)) ⟨.bl _,H,I,rfl,?_⟩;rw[show(its.toArray.any fun _=>false)=false by simp[yq]];exact q
theorem xC:OpR X (compareOp .NotIn) (Fe X.K X.A true):=by
 intro pins s σ H v u a b Q I rx ry h;obtain⟨x,ys,p,vs,hx,rfl,hq,hr,hf,hu,q⟩:=h
 cases g:dP x with
 |true=>exact yV pins s σ H v _ a b Q I rx ry ⟨p,vs,rfl,hq,we hx g,xx hr hf,by rw[Ar hx g hr hf];exact q⟩
 | false=>
   rw[AD g hf]at q;cases ry
   rcases hq with hq|hq
   . obtain⟨its,r,pl,hz⟩:=I.list hq;refine SeqAt.notIn_listAt (fun _=>false) pl.isList (fun w hw=>tT I (by show X.A.units+1<cLine;omega) hx rx g hr r hf w (by simpa using hw)) ⟨.bl _,H,I,rfl,?_⟩;rw[show(its.toArray.any fun _=>false)=false by simp[yq]];exact q
   . obtain⟨its,r,pl,hz⟩:=I.tuple hq;refine SeqAt.notIn_tupleAt (fun _=>false) pl (fun w hw=>tT I (by show X.A.units+1<cLine;omega) hx rx g hr r hf w (by simpa using hw)) ⟨.bl _,H,I,rfl,?_⟩;rw[show(its.toArray.any fun _=>false)=false by simp[yq]];exact q
theorem Ck{A:Around}{neg:Bool}{x y:PV}{v u:V}{b:Bool}{Q:VK}(hu:A.units+64<cLine)(I:aK S H)(hx:RdV K S H x v)(hy:RdV K S H y u)(e:kG x y=some b)(k:∀ z S' H',bj S H S' H'->n6 K H S' H' (.sh (.bl (if neg then !b else b))) z->Q z H'):Fe K A neg v u H Q:=by
 cases y with
 | tup ys=>
   simp only[kG]at e
   by_cases hf:ys.all dP=true
   . rw[if_pos hf]at e;cases e;obtain⟨p,vs,rfl,hq,hr⟩:=ni hy
     exact⟨x,ys,p,vs,hx.rep I,rfl,.inr (aK.tup I hq),hr.mono I,hf,hu,k _ S H (bj.refl I) o7⟩
   . rw[if_neg hf]at e;cases e
 | lst ys=>
   simp only[kG]at e
   by_cases hf:ys.all dP=true
   . rw[if_pos hf]at e;cases e;obtain⟨p,vs,rfl,hq,hr⟩:=iJ hy
     exact⟨x,ys,p,vs,hx.rep I,rfl,.inl hq,hr.mono I,hf,hu,k _ S H (bj.refl I) o7⟩
   . rw[if_neg hf]at e;cases e
 |_=>simp only[kG]at e;cases e
theorem pw{A:Around}(hu:A.units+64<cLine):JR K (Fe K A false) gIn:=by
 intro S H x y v u rr Q I hx hy e k;obtain⟨b,e1,e2⟩:=Option.map_eq_some_iff.mp e;subst e2;exact Ck hu I hx hy e1 k
theorem A1{A:Around}(hu:A.units+64<cLine):JR K (Fe K A true) oX:=by
 intro S H x y v u rr Q I hx hy e k;obtain⟨b,e1,e2⟩:=Option.map_eq_some_iff.mp e;subst e2;exact Ck hu I hx hy e1 k
end
end L2.P
namespace L2.P
open PySem PySem.Spec PyProof.Rows L2 L2.E
section
variable{K:PySem.W.Frag}{cls:String->Option Addr}{W:XW}{Av G S₀ S S' H H' B B':Hp}{ρ:ag}{σ:St}{Q:VK}
abbrev g2(K:PySem.W.Frag)(i j:Nat):TG:=LI K 2 (Cg (mx i) (Cg (mx j) Kc))
theorem B8{i j:Nat}{tb:TS}{mb:ag->OS}{D:Ends}{x y:PV}{xs:List PV}{v u:V}{t:Addr}{N:St->Hp->Prop}(hb:JS K cls W tb mb)(I:SR K cls Av G S₀ ρ σ S H)(hx:Rep K S x v)(hy:Rep K S y u)(ht:SqT K H t [v,u])
  (p:jM K cls W Av G S₀ S D (oR i j mb (.tup [x,y] ::xs) ρ)) (hN:∀ ρ' σ' S' H',SR K cls Av G S₀ ρ' σ' S' H'->aK S S'->jM K cls W Av G S₀ S' D (oR i j mb xs ρ')->N σ' H'):
  g2 K i j (.ref t) σ H fun σ2 H2=>tb { D with nx:=N,ct:=N,bk:=D.nx } σ2 H2:=by
 refine⟨t,_,rfl,ht,rfl,_,_,rfl,_,_,rfl,rfl,?_⟩
 refine hb Av G S₀ _ _ S H _ ((I.zZ hx).zZ hy) ?_;unfold oR at p
 cases e:mb ((ρ.set i (some (.sh x))).set j (some (.sh y)))with
 |nx ρ'=>rw[e]at p;exact fun σ' S' H' I' s'=>hN ρ' σ' S' H' I' s' (p.back s')
 |ct ρ'=>rw[e]at p;exact fun σ' S' H' I' s'=>hN ρ' σ' S' H' I' s' (p.back s')
 |bk ρ'=>rw[e]at p;exact p
 |rt ρ' r=>rw[e]at p;exact p
 |exc ρ' c fs=>rw[e]at p;exact p
 |bad=>rw[e]at p;exact p
theorem B7(xs:List PV):∀(k n:Nat) (y:PV),xs[k]?=some y->u5 (n+k) (xs.drop k)=.tup [.int ((n+k:Nat):Int),y] ::u5 (n+(k+1)) (xs.drop (k+1)):=by
 intro k n y hy
 have hk:k<xs.length:=(List.getElem?_eq_some_iff.mp hy).1
 rw[List.drop_eq_getElem_cons hk]
 have:xs[k]=y:=(List.getElem?_eq_some_iff.mp hy).2
 rw[this];rfl
theorem Ie{i j:Nat}{tl:TE}{tb:TS}{ml:ag->OE}{mb:ag->OS}(hl:JE K cls W tl ml)(hb:JS K cls W tb mb):JS K cls W (F7 (Fm K (jN tl lZ)) (g2 K i j) tb) (Cb i j ml mb):=by
 intro Av G S₀ ρ σ S H D I p;refine hl Av G S₀ ρ σ S H _ I ?_;unfold Cb at p
 cases em:ml ρ with
 |exc c fs=>rw[em]at p;exact fun a C S' H' w x=>p a C σ S' H' (I.grow w) w.s x
 |bad=>rw[em]at p;exact p
 | ok r=>
   rw[em]at p;intro v S1 H1 w1 r1;simp only[OE.cy]at p
   cases ei:Bs r with
   |none=>rw[ei]at p;exact p.elim
   | some xs=>
     rw[ei]at p
     have es:mM r=some (.lst xs):=by
      cases r with
      |sh y=>cases y<;>cases ei<;>rfl
      |fr ys=>cases ei;rfl
      |al ys=>cases ei
     obtain⟨S2,w2,s2,rx⟩:=r1.share w1 es;have I2:=I.grow w2;unfold Rep at rx;obtain⟨a,vs,rfl,hq,hr⟩:=rx
     show ∃ a',[V.ref a]=[V.ref a'] /\ _
     refine⟨a,rfl,⟨vs,aK.seq I2.sh hq⟩,?_⟩
     refine Gq (xs:=vs) (fun k σ' H'=>∃ ρ' S',SR K cls Av G S₀ ρ' σ' S' H' /\ aK S2 S' /\ jM K cls W Av G S₀ S' D (oR i j mb (u5 (0+k) (xs.drop k)) ρ'))
      ⟨ρ,S2,I2,aK.refl _,p.back w2.s⟩ ?_ ?_ ?_
     . rintro k σ' H' _ ⟨ρ',S',I',s',_⟩
       exact aK.seq (s'.trans I'.sh) hq
     . rintro k x σ' H' t hx ⟨ρ',S',I',s',p'⟩ ht
       obtain⟨y,hy,ry⟩:=hr.M9 hx;rw[B7 xs k 0 y hy]at p'
       have w3:bj S' H' S' (upd H' t (.tup [.int k,x])):=bj.heap I'.sh ht
       refine B8 hb (I'.grow w3) (x:=.int ((0+k:Nat):Int)) (v:=.int k) (by unfold Rep;rw[Nat.zero_add]) (Rep.mono s' ry) (SqT.new bC) p' fun ρ2 σ2 S3 H3 I3 s3 p3=>⟨ρ2,S3,I3,s'.trans s3,p3⟩
     . rintro σ' H' ⟨ρ',S',I',s',p'⟩
       rw[List.drop_of_length_le (by rw[hr.length];exact Nat.le_refl _)]at p';exact p' σ' S' H' I' (aK.refl _)
end
end L2.P
namespace L2.E
open PySem PySem.Spec PyProof.Rows L2
theorem Ij{X:Cx}{elts:List Expr}{k:Nat}{tp:Pos}{a:Expr}{ta:TA}{p pos:Pos}(hg:Gl X "enumerate")(hm:X.mg "enumerate" = none)(ha:QA X [a] ta)(hs:starEach [a] X.env=[(false,eval a X.env)]:=by rfl):
  QI X (.Tuple elts k tp) (.Call (.Name "enumerate" p) [a] [] pos) (Fm X.K ta):=⟨G1 hg hm ha.out hs⟩
structure QGs(X:Cx)(es:List Expr)(t:TGs):Prop where
 out:PGs X es t
theorem IH{X:Cx}:QGs X [] Kc:=⟨Ig⟩
theorem zL{X:Cx}{e:Expr}{es:List Expr}{t:TG}{u:TGs}(h1:QG X e t)(h2:QGs X es u)
  (hs:(assignEach (e ::es) X.env).map (·.2)=assign e X.env ::(assignEach es X.env).map (·.2):=by rfl):QGs X (e ::es) (Cg t u):=⟨Gv h1.out h2.out hs⟩
theorem Lm{X:Cx}{es:List Expr}{k:Nat}{t:TGs}{n:Nat}{pos:Pos}(hc:X.calm=true)(h:QGs X es t)
  (hn:(assignEach es X.env).length=n:=by rfl) (hst:(assignEach es X.env).findIdx? (·.1)=none:=by rfl):QG X (.Tuple es k pos) (LI X.K n t):=⟨K4 hc h.out hn hst⟩
end L2.E
namespace L2.P
open PySem PySem.Spec PyProof.Rows L2 L2.E
section
variable{K:PySem.W.Frag}{cls:String->Option Addr}{W:XW}{Av G S₀ S S' H H' B B':Hp}{ρ:ag}{σ:St}{Q:VK}{F:Nat->List Addr}
theorem bD.length{ts:List OV}{vs:List V}{f:List Addr}(h:bD K cls S H ts vs f):vs.length=ts.length:=by
 induction ts generalizing vs f with
 |nil=>unfold bD at h;rw[h.1];rfl
 | cons t ts ih=>
   unfold bD at h;obtain⟨v,r,f1,f2,rfl,_,_,h2⟩:=h;simp[ih h2]
theorem bD.cons_inv{t:OV}{ts:List OV}{vs:List V}{fp:List Addr}(h:bD K cls S H (t ::ts) vs fp):∃ v r f1 f2,vs=v ::r /\ fp=f1++f2 /\ bA K cls S H t v f1 /\ bD K cls S H ts r f2:=by unfold bD at h;exact h
theorem bD.cons{t:OV}{ts:List OV}{v:V}{vs:List V}{f1 f2:List Addr}(h:bA K cls S H t v f1)(r:bD K cls S H ts vs f2):bD K cls S H (t ::ts) (v ::vs) (f1++f2):=by unfold bD;exact⟨v,vs,f1,f2,rfl,rfl,h,r⟩
theorem bD.nil:bD K cls S H [] [] []:=by unfold bD;exact⟨rfl,rfl⟩
theorem bD.append{ts us:List OV}{vs ws:List V}{f g:List Addr}(h:bD K cls S H ts vs f)(k:bD K cls S H us ws g):bD K cls S H (ts++us) (vs++ws) (f++g):=by
 induction ts generalizing vs f with
 |nil=>unfold bD at h;rw[h.1,h.2];exact k
 | cons t ts ih=>
   obtain⟨v,r,f1,f2,rfl,rfl,h1,h2⟩:=h.cons_inv;have:=bD.cons h1 (ih h2);rw[List.append_assoc];exact this
theorem bD.shs{xs:List PV}{vs:List V}(h:bZ K S xs vs):bD K cls S H (xs.map .sh) vs []:=by
 induction xs generalizing vs with
 |nil=>rw[h.nil_inv];exact .nil
 | cons x xs ih=>
   obtain⟨v,r,rfl,h1,h2⟩:=h.cons_inv;exact bD.cons (f1:=[]) (by unfold bA;exact⟨rfl,h1⟩) (ih h2)
theorem bD.flat{ts:List OV}{xs:List PV}{vs:List V}{f:List Addr}(e:w9 ts=some xs)(h:bD K cls S H ts vs f):bZ K S xs vs /\ f=[]:=by
 induction ts generalizing xs vs f with
 |nil=>cases e;unfold bD at h;rw[h.1,h.2];exact⟨.nil,rfl⟩
 | cons t ts ih=>
   cases t with
   | sh x=>
     obtain⟨ys,e1,e2⟩:=Option.map_eq_some_iff.mp e;subst e2;obtain⟨v,r,f1,f2,rfl,rfl,h1,h2⟩:=h.cons_inv;unfold bA at h1;obtain⟨h3,h4⟩:=ih e1 h2
     exact⟨.cons h1.2 h3,by rw[h1.1,h4];rfl⟩
   |ol _=>cases e
   |ob _ _ _=>cases e
   |di _=>cases e
   |dt _=>cases e
theorem bD.at{ts:List OV}{vs:List V}{f:List Addr}{k:Nat}{u:OV}(h:bD K cls S H ts vs f)(e:ts[k]?=some u):
  ∃ w f1 rest,vs[k]?=some w /\ bA K cls S H u w f1 /\ f.Perm (f1++rest) /\
    ∀ S' H' u' w' f',aK S S'->bA K cls S' H' u' w' f'->(∀ a∈rest,∀ o,H a=some o->H' a=some o)->∃ g,bD K cls S' H' (ts.set k u') (vs.set k w') g /\ g.Perm (f'++rest):=by
 induction ts generalizing vs f k with
 |nil=>simp at e
 | cons t ts ih=>
   obtain⟨v,r,f1,f2,rfl,rfl,h1,h2⟩:=h.cons_inv
   cases k with
   | zero=>
     simp at e;subst e
     refine⟨v,f1,f2,rfl,h1,List.Perm.refl _,fun S' H' u' w' f' s r' g=>?_⟩
     exact⟨f'++f2,bD.cons r' (h2.mono s g),List.Perm.refl _⟩
   | succ k=>
     simp at e;obtain⟨w,g1,rest,e1,r1,p1,c1⟩:=ih h2 e
     refine⟨w,g1,f1++rest,by simpa using e1,r1,?_,fun S' H' u' w' f' s r' g=>?_⟩
     . have:(f1++f2).Perm (f1++(g1++rest)):=List.Perm.append_left f1 p1
       refine this.trans ?_;rw[<- List.append_assoc,<- List.append_assoc];exact List.Perm.append_right rest List.perm_append_comm
     . obtain⟨g2,r2,p2⟩:=c1 S' H' u' w' f' s r' fun a ha=>g a (List.mem_append_right _ ha)
       refine⟨f1++g2,bD.cons (h1.mono s fun a ha=>g a (List.mem_append_left _ ha)) r2,?_⟩
       refine(List.Perm.append_left f1 p2).trans ?_
       rw[<- List.append_assoc,<- List.append_assoc];exact List.Perm.append_right rest List.perm_append_comm
theorem Cq{ks:List Str}{ts:List OV}{f:Str}{u:OV}(h:qO ks ts f=some u):∃ k,ts[k]?=some u /\ ks[k]?=some f /\ (∀ u',xn ks ts f u'=ts.set k u') /\ ∀{α:Type} (us:List (Str×α)),us.map (·.1)=ks->us.lookup f=(us.map (·.2))[k]?:=by
 induction ks generalizing ts with
 |nil=>simp[qO]at h
 | cons g ks ih=>
   cases ts with
   |nil=>simp[qO]at h
   | cons t ts=>
     unfold qO at h;split at h
     . rename_i e;subst e;cases h
       refine⟨0,rfl,rfl,fun u'=>by simp[xn],fun us eu=>?_⟩
       cases us with
       |nil=>cases eu
       | cons q us=>
         simp at eu;obtain⟨a,b⟩:=q;simp at eu;rw[<- eu.1];simp[List.lookup]
     . rename_i ne;obtain⟨k,e1,e2,e3,e4⟩:=ih h
       refine⟨k+1,by simpa using e1,by simpa using e2,fun u'=>by simp[xn,ne,e3],fun us eu=>?_⟩
       cases us with
       |nil=>cases eu
       | cons q us=>
         obtain⟨a,b⟩:=q;simp at eu
         have:(f==a)=false:=by rw[eu.1];simpa using Ne.symm ne
         simp[List.lookup,this,e4 us eu.2]
def xH(H:Hp):Stp->V->V->Prop
 |.ix k,v,w=>∃ p vs,v=.ref p /\ H p=some (.lst vs) /\ vs[k]?=some w
 |.fd f,v,w=>∃ p C dx us,v=.ref p /\ H p=some (.ins C dx us) /\ us.lookup f=some w
def kD(H:Hp):V->List Stp->V->Prop
 |v,[],w=>w=v
 |v,s ::π,w=>∃ u,xH H s v u /\ kD H u π w
theorem xH.inj{s:Stp}{v w w':V}(h:xH H s v w)(k:xH H s v w'):w=w':=by
 cases s with
 | ix n=>
   obtain⟨p,vs,rfl,e1,e2⟩:=h;obtain⟨p',vs',e3,e4,e5⟩:=k;cases e3;rw[e1]at e4;cases e4;rw[e2]at e5;cases e5;rfl
 | fd f=>
   obtain⟨p,C,dx,us,rfl,e1,e2⟩:=h;obtain⟨p',C',dx',us',e3,e4,e5⟩:=k;cases e3;rw[e1]at e4;cases e4;rw[e2]at e5;cases e5;rfl
theorem kD.inj{π:List Stp}:∀{v w w':V},kD H v π w->kD H v π w'->w=w':=by
 induction π with
 |nil=>intro v w w' h k;rw[h,k]
 | cons s π ih=>
   rintro v w w' ⟨u,h1,h2⟩ ⟨u',k1,k2⟩
   have:=h1.inj k1;subst this;exact ih h2 k2
theorem kD.snoc{π:List Stp}{s:Stp}:∀{v w u:V},kD H v π w->xH H s w u->kD H v (π++[s]) u:=by
 induction π with
 |nil=>intro v w u h k;rw[h]at k;exact⟨u,k,rfl⟩
 | cons t π ih=>
   rintro v w u ⟨x,h1,h2⟩ k
   exact⟨x,h1,ih h2 k⟩
theorem kD.mono{π:List Stp}(g:aK H H'):∀{v w:V},kD H v π w->kD H' v π w:=by
 induction π with
 |nil=>intro v w h;exact h
 | cons t π ih=>
   rintro v w ⟨x,h1,h2⟩
   refine⟨x,?_,ih h2⟩
   cases t with
   |ix k=>obtain⟨p,vs,e,e1,e2⟩:=h1;exact⟨p,vs,e,g _ _ e1,e2⟩
   |fd f=>obtain⟨p,C,dx,us,e,e1,e2⟩:=h1;exact⟨p,C,dx,us,e,g _ _ e1,e2⟩
theorem bA.step{t u:OV}{v:V}{fp:List Addr}{s:Stp}(h:bA K cls S H t v fp)(e:t.at1 s=some u):
  ∃ w f1 rest,xH H s v w /\ bA K cls S H u w f1 /\ fp.Perm (f1++rest) /\
    ∀ S' H' u' f',aK S S'->bA K cls S' H' u' w f'->(∀ a∈rest,∀ o,H a=some o->H' a=some o)->∃ g,bA K cls S' H' (t.gq s u') v g /\ g.Perm (f'++rest):=by
 cases t with
 |sh x=>cases s<;>cases e
 |di x=>cases s<;>cases e
 |dt x=>cases s<;>cases e
 | ol ts=>
   cases s with
   |fd f=>cases e
   | ix k=>
     unfold bA at h;obtain⟨p,vs,f,rfl,hp,rfl,r⟩:=h;obtain⟨w,f1,rest,e1,r1,p1,c1⟩:=r.at e
     refine⟨w,f1,p ::rest,⟨p,vs,rfl,hp,e1⟩,r1,?_,fun S' H' u' f' s r' g=>?_⟩
     . exact(List.Perm.cons p p1).trans (List.perm_middle.symm)
     . obtain⟨g2,r2,p2⟩:=c1 S' H' u' w f' s r' fun a ha=>g a (by simp[ha])
       refine⟨p ::g2,?_,(List.Perm.cons p p2).trans List.perm_middle.symm⟩
       rw[lS e1]at r2;unfold OV.gq bA
       exact⟨p,vs,g2,rfl,g p (by simp) _ hp,rfl,r2⟩
 | ob c ks ts=>
   cases s with
   |ix k=>cases e
   | fd f=>
     unfold bA at h;obtain⟨p,C,dx,us,ff,rfl,hc,hp,hd,hk,rfl,r⟩:=h;obtain⟨k,e1,e2,e3,e4⟩:=Cq e;obtain⟨w,f1,rest,q1,r1,p1,c1⟩:=r.at e1
     refine⟨w,f1,p ::dx ::rest,⟨p,C,dx,us,rfl,hp,by rw[e4 us hk];exact q1⟩,r1,?_,fun S' H' u' f' s r' g=>?_⟩
     . exact((List.Perm.cons p ((List.Perm.cons dx p1).trans List.perm_middle.symm))).trans List.perm_middle.symm
     . obtain⟨g2,r2,p2⟩:=c1 S' H' u' w f' s r' fun a ha=>g a (by simp[ha])
       refine⟨p ::dx ::g2,?_,(List.Perm.cons p ((List.Perm.cons dx p2).trans List.perm_middle.symm)).trans List.perm_middle.symm⟩
       rw[lS q1]at r2;unfold OV.gq bA
       exact⟨p,C,dx,us,g2,rfl,hc,g p (by simp) _ hp,g dx (by simp) _ hd,hk,rfl,by rw[e3];exact r2⟩
theorem bA.focus{π:List Stp}:∀{t u:OV} {v:V} {fp:List Addr},bA K cls S H t v fp->t.get π=some u ->
  ∃ w f1 rest,kD H v π w /\ bA K cls S H u w f1 /\ fp.Perm (f1++rest) /\
    ∀ S' H' u' f',aK S S'->bA K cls S' H' u' w f'->(∀ a∈rest,∀ o,H a=some o->H' a=some o)->∃ g,bA K cls S' H' (t.put π u') v g /\ g.Perm (f'++rest):=by
 induction π with
 | nil=>
   intro t u v fp h e;cases e
   exact⟨v,fp,[],rfl,h,by simp,fun S' H' u' f' _ r' _=>⟨f',by unfold OV.put;exact r',by simp⟩⟩
 | cons s π ih=>
   intro t u v fp h e;unfold OV.get at e;obtain⟨t1,e1,e2⟩:=Option.bind_eq_some_iff.mp e;obtain⟨w1,f1,rest1,st,r1,p1,c1⟩:=h.step e1;obtain⟨w,f2,rest2,wk,r2,p2,c2⟩:=ih r1 e2
   refine⟨w,f2,rest2++rest1,⟨w1,st,wk⟩,r2,?_,fun S' H' u' f' s' r' g=>?_⟩
   . rw[<- List.append_assoc];exact p1.trans (List.Perm.append_right rest1 p2)
   . obtain⟨g1,q1,k1⟩:=c2 S' H' u' f' s' r' fun a ha=>g a (List.mem_append_left _ ha)
     obtain⟨g2,q2,k2⟩:=c1 S' H' _ g1 s' q1 fun a ha=>g a (List.mem_append_right _ ha)
     refine⟨g2,?_,?_⟩
     . unfold OV.put;rw[e1];exact q2
     . rw[<- List.append_assoc];exact k2.trans (List.Perm.append_right rest1 k1)
theorem SR.tree{i:Nat}{t:OV}(I:SR K cls Av G S₀ ρ σ S H)(e:gp i ρ=some t):∃ v fp,σ[i]?=some (some v) /\ bA K cls S H t v fp:=by
 obtain⟨F,J⟩:=I;unfold gp at e
 cases q:ρ[i]? with
 |none=>rw[q]at e;cases e
 | some o=>
   cases o with
   |none=>rw[q]at e;cases e
   | some s=>
     rw[q]at e;obtain⟨v,e1,r⟩:=J.own i s q
     cases s with
     |tr io t'=>cases e;exact⟨v,_,e1,r.1⟩
     | bo t'=>
       cases e;obtain⟨_,f,r⟩:=r
       exact⟨v,f,e1,r.mono (aK.refl _) fun _ _ _ h=>J.gh _ _ h⟩
     |sh x=>cases e
     |ow xs=>cases e
     |ex c fs=>cases e
def JP(K:PySem.W.Frag)(cls:String->Option Addr)(te:TE)(i:Nat)(mp:MP):Prop:=∀ Av G S₀ ρ σ S H Q v0 t π,SR K cls Av G S₀ ρ σ S H->gp i ρ=some t->σ[i]?=some (some v0)->mp ρ=some π->(t.get π).isSome=true ->
 (∀ w S' H',bj S H S' H'->kD H' v0 π w->Q w H')->te σ H Q
theorem aR{i:Nat}:JP K cls (zC i) i aI:=by
 intro Av G S₀ ρ σ S H Q v0 t π I e ev ep _ k;cases ep
 exact⟨v0,ev,k v0 S H (bj.refl I.sh) rfl⟩
theorem M6{i:Nat}{te tk:TE}{mp:MP}{mk:ag->OE}(hp:JP K cls te i mp)(hk:JE K cls W tk mk):JP K cls (tOp (HQ K) te tk) i (pIx i mp mk):=by
 intro Av G S₀ ρ σ S H Q v0 t π I e ev ep hs k;unfold pIx at ep;rw[e]at ep
 dsimp only at ep
 split at ep
 . rename_i π0 e0;split at ep
   . rename_i ts e1;split at ep
     . rename_i r er;split at ep
       . rename_i n en;obtain⟨j,ej,e2⟩:=Option.map_eq_some_iff.mp ep;subst e2
         refine hp Av G S₀ ρ σ S H _ v0 t π0 I e ev e0 (by rw[e1];rfl) fun w S1 H1 w1 wk=>?_
         refine hk Av G S₀ ρ σ S1 H1 _ (I.grow w1) ?_;rw[er];intro u S2 H2 w2 ru;have I2:=(I.grow w1).grow w2
         have hu:u=.int n:=by have:=ru.rd I2.sh;rw[en]at this;exact dg this
         subst hu;obtain⟨v,fp,ev',ro⟩:=I2.tree e;rw[ev]at ev';cases ev';obtain⟨w',f1,rest,wk',r',_,_⟩:=ro.focus e1;have:=(wk.mono w2.g).inj wk';subst this;unfold bA at r';obtain⟨p,vs,f,rfl,hl,rfl,rs⟩:=r'
         have hj:j<ts.length:=by
          have h1:L2.atI ts n=ts[j]?:=by unfold L2.atI;show(ixP ts.length n).bind _=_;rw[ej];rfl
          unfold ixP at ej;split at ej
          . split at ej
            . cases ej;omega
            . cases ej
          . split at ej
            . cases ej;omega
            . cases ej
         have hjv:j<vs.length:=by rw[rs.length];exact hj
         have hx:vs[j]?=some vs[j]:=by simp[hjv]
         refine⟨p,vs,n,vs[j],rfl,rfl,SqL.new hl,?_,k _ S2 H2 (w1.trans w2) (wk'.snoc ⟨p,vs,rfl,hl,hx⟩)⟩
         unfold L2.atI
         show(ixP vs.length n).bind _=_
         rw[rs.length,ej];exact hx
       . cases ep
     . cases ep
   . cases ep
 . cases ep
theorem JP.sub{i:Nat}{te:TE}{mp:MP}{u:OV}{Q:VK}(hp:JP K cls te i mp)(I:SR K cls Av G S₀ ρ σ S H)(e:subAt i mp ρ=some u)
  (k:∀ w S' H' f,bj S H S' H'->SR K cls Av G S₀ ρ σ S' H'->bA K cls S' H' u w f->Q w H'):te σ H Q:=by
 unfold subAt at e;split at e
 . rename_i t et;split at e
   . rename_i π eπ;obtain⟨v0,fp0,ev,_⟩:=I.tree et
     refine hp Av G S₀ ρ σ S H _ v0 t π I et ev eπ (by rw[e];rfl) fun w S1 H1 w1 wk=>?_
     obtain⟨v,fp,ev',ro⟩:=(I.grow w1).tree et;rw[ev]at ev';cases ev';obtain⟨w',f1,rest,wk',r',_,_⟩:=ro.focus e;have:=wk.inj wk';subst this;exact k w S1 H1 f1 w1 (I.grow w1) r'
   . cases e
 . cases e
theorem A8{i:Nat}{te:TE}{mp:MP}{f:Str}{ok:String->Bool}(hp:JP K cls te i mp)(ha:∀ c C,cls c=some C->ok c=true->Cls K C /\ nr K C f):JP K cls (KH K te f) i (pFd i mp f ok):=by
 intro Av G S₀ ρ σ S H Q v0 t π I e ev ep hs k;unfold pFd at ep;split at ep
 . rename_i c ks ts es;split at ep
   . rename_i hok;rw[Bool.and_eq_true]at hok;obtain⟨π0,e0,rfl⟩:=Option.map_eq_some_iff.mp ep
     have e1:t.get π0=some (.ob c ks ts):=by
      unfold subAt at es;rw[e]at es
      dsimp only at es
      rw[e0]at es;exact es
     refine hp Av G S₀ ρ σ S H _ v0 t π0 I e ev e0 (by rw[e1];rfl) fun w S1 H1 w1 wk=>?_
     have I1:=I.grow w1;obtain⟨v,fp,ev',ro⟩:=I1.tree e;rw[ev]at ev';cases ev';obtain⟨w',f1,rest,wk',r',_,_⟩:=ro.focus e1;have:=wk.inj wk';subst this;unfold bA at r';obtain⟨p,C,dx,us,ff,rfl,hcl,hp',hd,hk,rfl,r⟩:=r';obtain⟨a1,a2⟩:=ha c C hcl hok.1
     cases q:qO ks ts f with
     |none=>rw[q]at hok;cases hok.2
     | some u=>
       obtain⟨n,h1,h2,h3,h4⟩:=Cq q
       have hn:n<(us.map (·.2)).length:=by rw[r.length];exact(List.getElem?_eq_some_iff.mp h1).1
       have hx:us.lookup f=some (us.map (·.2))[n]:=by rw[h4 us hk];exact List.getElem?_eq_getElem hn
       exact⟨p,C,dx,us,_,rfl,hp',a1,a2,hx,k _ S1 H1 w1 (wk'.snoc ⟨p,C,dx,us,rfl,hp',hx⟩)⟩
   . cases ep
 . cases ep
theorem gR{i:Nat}{te:TE}{mp:MP}(hp:JP K cls te i mp):JE K cls W te (cZ i mp):=by
 intro Av G S₀ ρ σ S H Q I p;unfold cZ at p;split at p
 . rename_i x e
   refine hp.sub I e fun w S1 H1 f w1 _ r=>?_
   unfold bA at r;exact p w S1 H1 w1 r.2
 . rename_i ts e;split at p
   . rename_i xs ex
     refine hp.sub I e fun w S1 H1 f w1 _ r=>?_
     unfold bA at r;obtain⟨q,vs,ff,rfl,hq,_,rs⟩:=r;exact p _ S1 H1 w1 ⟨q,vs,rfl,SqL.new hq,(rs.flat ex).1⟩
   . exact p.elim
 . exact p.elim
theorem iA{i:Nat}{te:TE}{mp:MP}(hp:JP K cls te i mp):JT K cls W (fun σ H Q=>te σ H fun x H'=>∃ k,Ca K x H' k /\ Q k H') (dG i mp):=by
 intro Av G S₀ ρ σ S H Q I p;unfold dG at p;split at p
 . rename_i ts e
   refine hp.sub I e fun w S1 H1 f w1 _ r=>?_
   unfold bA at r;obtain⟨q,vs,ff,rfl,hq,_,rs⟩:=r
   refine⟨_,.inl ⟨vs,SqL.new hq,rfl⟩,?_⟩
   have:vs.isEmpty=ts.isEmpty:=by
    have:=rs.length
    cases vs<;>cases ts<;>simp_all
   rw[this];exact p S1 H1 w1
 . exact p.elim
theorem ki{i:Nat}{te:TE}{mp:MP}(hp:JP K cls te i mp):JE K cls W (tCB (fun xs H Q=>∃ p ys,xs=[.ref p] /\ (SqL K H p ys \/ SqT K H p ys) /\ Q (.int ys.length) H) (jN te lZ)) (gF i mp):=by
 intro Av G S₀ ρ σ S H Q I p;unfold gF at p;split at p
 . rename_i ts e
   refine hp.sub I e fun w S1 H1 f w1 _ r=>?_
   unfold bA at r;obtain⟨q,vs,ff,rfl,hq,_,rs⟩:=r
   exact⟨q,vs,rfl,.inl (SqL.new hq),p _ S1 H1 w1 (by show Rep K S1 _ _;unfold Rep;rw[rs.length])⟩
 . exact p.elim
end
section
variable{K:PySem.W.Frag}{cls:String->Option Addr}{W:XW}{Av G S₀ S S' H H' B B':Hp}{ρ:ag}{σ:St}{Q:VK}{F:Nat->List Addr}
theorem SRF.part{i:Nat}{io:Bool}{t u:OV}{v0:V}{π:List Stp}(J:SRF K cls Av G S₀ ρ σ S H F)(hi:ρ[i]?=some (some (.tr io t)))(hv:σ[i]?=some (some v0))(e:t.get π=some u):
  ∃ w f1 rest,kD H v0 π w /\ bA K cls S H u w f1 /\ (F i).Perm (f1++rest) /\ (f1++rest).Nodup /\ (∀ a∈f1,G a=none /\ S a=none) /\
    ∀ S' H' u' f',aK S S'->aK S' H'->aK G H'->(∀ b,S' b≠none->S₀ b≠none \/ G b=none)->bA K cls S' H' u' w f'->f'.Nodup->(∀ a∈f',a∈f1 \/ H a=none)->(∀ a∈f',S' a=none) ->
      (∀ a o,a∉f1->H a=some o->H' a=some o)->(∀ a,S' a≠none->S a≠none \/ H a=none \/ a∈f1) ->
      ∃ g,SRF K cls Av G S₀ (ρ.set i (some (.tr io (t.put π u')))) σ S' H' (pJ F i g) /\ g.Perm (f'++rest):=by
 obtain⟨v,ev,ro,nd,gs,hio⟩:=J.own i _ hi;rw[hv]at ev;cases ev;obtain⟨w,f1,rest,wk,r1,p1,c1⟩:=ro.focus e
 have nd1:(f1++rest).Nodup:=p1.nodup_iff.mp nd
 have in1:∀ a,a∈f1->a∈F i:=fun a ha=>p1.mem_iff.mpr (List.mem_append_left _ ha)
 have inr:∀ a,a∈rest->a∈F i:=fun a ha=>p1.mem_iff.mpr (List.mem_append_right _ ha)
 have off1:∀ a,a∈rest->a∉f1:=fun a ha hb=>(List.nodup_append.mp nd1).2.2 a hb a ha rfl
 refine⟨w,f1,rest,wk,r1,p1,nd1,fun a ha=>gs a (in1 a ha),fun S' H' u' f' s sh gh new r' nd' fr nS keep nw=>?_⟩
 obtain⟨g,rg,pg⟩:=c1 S' H' u' f' s r' fun a ha o h=>keep a o (off1 a ha) h
 have noS:∀ j a,a∈F j->a∉f1->S' a=none:=fun j a ha hb=>by
  cases q:S' a with
  |none=>rfl
  | some o=>
    obtain⟨⟨o',h1,_⟩,_,h3⟩:=J.live j a ha
    rcases nw a (by rw[q];simp)with z|z|z
    . exact absurd h3 z
    . rw[h1]at z;cases z
    . exact absurd z hb
 have J1:SRF K cls Av G S₀ (ρ.set i none) (σ.set i none) S H (pJ F i []):=J.put (fun t e=>nomatch e) (fun a ha=>nomatch ha) fun j a _ ha=>nomatch ha
 have off:∀ j a,a∈pJ F i [] j->a∉f1 /\ j≠i:=fun j a ha=>by
  by_cases ej:j=i
  . subst ej;rw[jD]at ha;cases ha
  . rw[fR ej]at ha
    exact⟨fun hb=>ej (J.apart j i a ha (in1 a hb)),ej⟩
 have J2:=J1.change (S':=S') (H':=H') gh s sh new (fun j a ha o h=>keep a o (off j a ha).1 h)
  (fun b o hx h=>keep b o (fun hb=>by
    obtain⟨⟨o',h1,h2⟩,_⟩:=J.live i b (in1 b hb)
    rw[h]at h1;cases h1;rw[hx]at h2;cases h2) h)
  fun j a ha=>by
   have hj:=off j a ha;rw[fR hj.2]at ha;exact noS j a ha hj.1
 have mem:∀ a,a∈g->a∈f' \/ a∈rest:=fun a ha=>List.mem_append.mp (pg.mem_iff.mp ha)
 have hlive:∀ a∈g,(∃ o,H' a=some o /\ isX o=false) /\ G a=none /\ S' a=none:=fun a ha=>by
  refine⟨rg.live a ha,?_,?_⟩
  . rcases mem a ha with z|z
    . rcases fr a z with y|y
      . exact(gs a (in1 a y)).1
      . exact J.gh.free y
    . exact(gs a (inr a z)).1
  . rcases mem a ha with z|z
    . exact nS a z
    . exact noS i a (inr a z) (off1 a z)
 have ndg:g.Nodup:=pg.nodup_iff.mpr (List.nodup_append.mpr ⟨nd',(List.nodup_append.mp nd1).2.1,fun a ha b hb z=>by
  subst z
  rcases fr a ha with y|y
  . exact off1 a hb y
  . obtain⟨⟨o',h1,_⟩,_⟩:=J.live i a (inr a hb)
    rw[y]at h1;cases h1⟩)
 have J3:=J2.put (i:=i) (s:=some (.tr io (t.put π u'))) (u:=some v0) (fp:=g) (fun t' e=>by
  cases e
  exact⟨v0,rfl,rg,ndg,fun a ha=>⟨(hlive a ha).2.1,(hlive a ha).2.2⟩,hio⟩) hlive fun j a hj ha hz=>by
   rw[fR hj]at hz
   rcases mem a ha with z|z
   . rcases fr a z with y|y
     . exact hj (J.apart j i a hz (in1 a y))
     . obtain⟨⟨o',h1,_⟩,_⟩:=J.live j a hz;rw[y]at h1;cases h1
   . exact hj (J.apart j i a hz (inr a z))
 rw[List.set_set,List.set_set,lS hv]at J3
 have eF:pJ (pJ F i []) i g=pJ F i g:=by
  funext j
  by_cases ej:j=i
  . subst ej;rw[jD,jD]
  . rw[fR ej,fR ej,fR ej]
 rw[eF]at J3
 exact⟨g,J3,pg⟩
theorem SRF.more{s:Option Sl}{u:Option V}{fp:List Addr}(I:SRF K cls Av G S₀ ρ σ S H F)(h:∀ t,s=some t->∃ v,u=some v /\ vm K cls Av G S H ρ.length t v fp)
  (hl:∀ a∈fp,(∃ o,H a=some o /\ isX o=false) /\ G a=none /\ S a=none) (ap:∀ j a,j<ρ.length->a∈fp->a∉F j):∃ F',SRF K cls Av G S₀ (ρ++[s]) (σ++[u]) S H F':=by
 refine⟨fun j=>if j<ρ.length then F j else if j=ρ.length then fp else[],I.gh,I.s0,I.sh,I.new,fun j t e=>?_,fun j k a h1 h2=>?_,fun j a ha=>?_,by simp[I.len]⟩
 . by_cases hj:j<ρ.length
   . rw[List.getElem?_append_left hj]at e;rw[List.getElem?_append_left (by rw[<- I.len];exact hj)];simp only[hj,if_true];exact I.own j t e
   . rw[List.getElem?_append_right (Nat.le_of_not_lt hj)]at e
     have h0:j - ρ.length=0:=by
      by_cases h:j - ρ.length=0
      . exact h
      . rw[List.getElem?_eq_none (by simp;omega)]at e;cases e
     rw[h0]at e
     have ej:j=ρ.length:=by omega
     obtain⟨v,e2,r⟩:=h t (Option.some.inj e)
     refine⟨v,?_,?_⟩
     . rw[List.getElem?_append_right (by rw[<- I.len];omega),<- I.len,h0,e2];rfl
     . subst ej;simp only[Nat.lt_irrefl,if_false,if_true];exact r
 . by_cases hj:j<ρ.length
   . simp only[hj,if_true]at h1
     by_cases hk:k<ρ.length
     . simp only[hk,if_true]at h2;exact I.apart j k a h1 h2
     . simp only[hk,if_false]at h2;split at h2
       . exact absurd h1 (ap j a hj h2)
       . cases h2
   . simp only[hj,if_false]at h1;split at h1
     . rename_i ej
       by_cases hk:k<ρ.length
       . simp only[hk,if_true]at h2;exact absurd h2 (ap k a hk h1)
       . simp only[hk,if_false]at h2;split at h2
         . rename_i ek;rw[ej,ek]
         . cases h2
     . cases h1
 . by_cases hj:j<ρ.length
   . simp only[hj,if_true]at ha;exact I.live j a ha
   . simp only[hj,if_false]at ha;split at ha
     . exact hl a ha
     . cases ha
theorem SR.fold{i:Nat}{s:Sl}{v:V}(I:SR K cls Av G S₀ (ρ++[some s]) (σ++[some v]) S H)(hs:nio s=true):SR K cls Av G S₀ (ρ.set i (some s)) (σ.set i (some v)) S H:=by
 obtain⟨F,J⟩:=I
 have hlen:ρ.length=σ.length:=by have:=J.len;simpa using this
 obtain⟨v',ev,r⟩:=J.own ρ.length s (by simp)
 have ev':v'=v:=by
  rw[List.getElem?_append_right (by rw[hlen];exact Nat.le_refl _),hlen,Nat.sub_self]at ev
  cases ev;rfl
 subst ev'
 have J1:SRF K cls Av G S₀ ρ σ S H (fun j=>if j<ρ.length then F j else[]):=by
  refine⟨J.gh,J.s0,J.sh,J.new,fun j t e=>?_,fun j k a h1 h2=>?_,fun j a ha=>?_,hlen⟩
  . have hj:j<ρ.length:=(List.getElem?_eq_some_iff.mp e).1
    obtain⟨v2,e2,r2⟩:=J.own j t (by rw[List.getElem?_append_left hj];exact e);rw[List.getElem?_append_left (by rw[<- hlen];exact hj)]at e2;simp only[hj,if_true]
    exact⟨v2,e2,r2⟩
  . split at h1
    . split at h2
      . exact J.apart j k a h1 h2
      . cases h2
    . cases h1
  . split at ha
    . exact J.live j a ha
    . cases ha
 refine⟨_,J1.put (i:=i) (s:=some s) (u:=some v') (fp:=F ρ.length) (fun t e=>?_) (fun a ha=>J.live _ a ha) fun j a hj ha hz=>?_⟩
 . cases e
   refine⟨v',rfl,?_⟩
   cases s with
   |sh x=>exact r
   |ow xs=>exact r
   |ex c fs=>exact r
   | tr io t=>
     cases io with
     |true=>cases hs
     |false=>exact⟨r.1,r.2.1,r.2.2.1,fun z=>nomatch z⟩
   |bo t=>cases hs
 . split at hz
   . rename_i hj';have:=J.apart j ρ.length a hz ha;omega
   . cases hz
theorem SR.Cs{s:Option Sl}{u:Option V}(I:SR K cls Av G S₀ (ρ++[s]) (σ++[u]) S H):SR K cls Av G S₀ ρ σ S H:=by
 obtain⟨F,J⟩:=I
 have hlen:ρ.length=σ.length:=by have:=J.len;simpa using this
 refine⟨F,J.gh,J.s0,J.sh,J.new,fun j t e=>?_,J.apart,J.live,hlen⟩
 have hj:j<ρ.length:=(List.getElem?_eq_some_iff.mp e).1
 obtain⟨v2,e2,r2⟩:=J.own j t (by rw[List.getElem?_append_left hj];exact e);rw[List.getElem?_append_left (by rw[<- hlen];exact hj)]at e2
 exact⟨v2,e2,r2⟩
def FR(K:PySem.W.Frag)(cls:String->Option Addr)(B S H:Hp)(t:OV)(v:V):Prop:=∃ fp,bA K cls S H t v fp /\ fp.Nodup /\ ∀ a∈fp,B a=none /\ S a=none
def MJ(K:PySem.W.Frag)(cls:String->Option Addr)(B S H:Hp)(ts:List OV)(vs:List V):Prop:=∃ fp,bD K cls S H ts vs fp /\ fp.Nodup /\ ∀ a∈fp,B a=none /\ S a=none
def MR(K:PySem.W.Frag)(cls:String->Option Addr)(W:XW)(σ:St)(S H:Hp)(Q:VK):OD->Prop
 |.ok t=>∀ v S' H',bj S H S' H'->FR K cls H S' H' t v->Q v H'
 |.exc c fs=>∀ a C S' H',bj S H S' H'->pL K cls S' H' c fs a C->W (.ref C) (some a) σ H'
 |.bad=>False
def K9(K:PySem.W.Frag)(cls:String->Option Addr)(W:XW)(σ:St)(S H:Hp)(Q:List V->Hp->Prop):ODs->Prop
 |.ok ts=>∀ vs S' H',bj S H S' H'->MJ K cls H S' H' ts vs->Q vs H'
 |.exc c fs=>∀ a C S' H',bj S H S' H'->pL K cls S' H' c fs a C->W (.ref C) (some a) σ H'
 |.bad=>False
def JD(K:PySem.W.Frag)(cls:String->Option Addr)(W:XW)(te:TE)(m:ag->OD):Prop:=∀ Av G S₀ ρ σ S H Q,SR K cls Av G S₀ ρ σ S H->MR K cls W σ S H Q (m ρ)->te σ H Q
def JDs(K:PySem.W.Frag)(cls:String->Option Addr)(W:XW)(te:TA)(m:ag->ODs):Prop:=∀ Av G S₀ ρ σ S H Q,SR K cls Av G S₀ ρ σ S H->K9 K cls W σ S H Q (m ρ)->te σ H Q
theorem FR.grow{S1 H1:Hp}{t:OV}{v:V}(h:FR K cls B S H t v)(w:bj S H S1 H1):FR K cls B S1 H1 t v:=by
 obtain⟨fp,r,nd,g⟩:=h
 refine⟨fp,r.mono w.s fun a _ o z=>w.g _ _ z,nd,fun a ha=>⟨(g a ha).1,?_⟩⟩
 obtain⟨o,h1,_⟩:=r.live a ha
 cases q:S1 a with
 |none=>rfl
 | some o'=>
   rcases w.new a (by rw[q];simp)with z|z
   . exact absurd (g a ha).2 z
   . rw[h1]at z;cases z
theorem lC{te:TE}{me:ag->OE}(h:JE K cls W te me):JD K cls W te (mD me):=by
 intro Av G S₀ ρ σ S H Q I p;refine h Av G S₀ ρ σ S H Q I ?_;unfold mD at p
 cases e:me ρ with
 |exc c fs=>rw[e]at p;exact p
 |bad=>rw[e]at p;exact p
 | ok r=>
   rw[e]at p
   cases r with
   |sh x=>exact fun v S' H' w r=>p v S' H' w ⟨[],by unfold bA;exact⟨rfl,r⟩,List.nodup_nil,fun a ha=>nomatch ha⟩
   |al xs=>exact p.elim
   | fr xs=>
     intro v S' H' w r;obtain⟨q,vs,rfl,hB,hS,hH,hr⟩:=r;refine p _ S' H' w ⟨[q],by unfold bA;exact⟨q,vs,[],rfl,hH,rfl,.shs hr⟩,by simp,fun a ha=>?_⟩
     have z:a=q:=by simpa using ha
     subst z;exact⟨hB,hS⟩
theorem GO:JDs K cls W lZ mDn:=fun Av G S₀ ρ σ S H Q I p=>p [] S H (bj.refl I.sh) ⟨[],.nil,List.nodup_nil,fun a ha=>nomatch ha⟩
theorem tI{te:TE}{t:TA}{md:ag->OD}{mr:ag->ODs}(hd:JD K cls W te md)(ht:JDs K cls W t mr):JDs K cls W (jN te t) (mDc md mr):=by
 intro Av G S₀ ρ σ S H Q I p;refine hd Av G S₀ ρ σ S H _ I ?_;unfold mDc at p
 cases e:md ρ with
 |exc c fs=>rw[e]at p;exact p
 |bad=>rw[e]at p;exact p
 | ok x=>
   rw[e]at p;intro v S1 H1 w1 r1;refine ht Av G S₀ ρ σ S1 H1 _ (I.grow w1) ?_
   dsimp only at p
   cases e2:mr ρ with
   |exc c fs=>rw[e2]at p;exact fun a C S' H' w x=>p a C S' H' (w1.trans w) x
   |bad=>rw[e2]at p;exact p
   | ok ts=>
     rw[e2]at p;intro vs S2 H2 w2 r2;obtain⟨f2,q2,n2,g2⟩:=r2;have r3:=r1.grow w2;obtain⟨f0,q0,n0,g0⟩:=r1;refine p (v ::vs) S2 H2 (w1.trans w2) ⟨f0++f2,.cons (q0.mono w2.s fun a _ o z=>w2.g _ _ z) q2,List.nodup_append.mpr ⟨n0,n2,fun a ha b hb z=>?_⟩,fun a ha=>?_⟩
     . subst z;obtain⟨o,h1,_⟩:=q0.live a ha;rw[(g2 a hb).1]at h1;cases h1
     . rcases List.mem_append.mp ha with z|z
       . refine⟨(g0 a z).1,?_⟩
         obtain⟨o,h1,_⟩:=q0.live a z
         cases q:S2 a with
         |none=>rfl
         | some o'=>
           rcases w2.new a (by rw[q];simp)with y|y
           . exact absurd (g0 a z).2 y
           . rw[h1]at y;cases y
       . exact⟨w1.g.free (g2 a z).1,(g2 a z).2⟩
theorem Kz{t:TA}{mr:ag->ODs}(h:JDs K cls W t mr):JD K cls W (II t) (mDl mr):=by
 intro Av G S₀ ρ σ S H Q I p;refine h Av G S₀ ρ σ S H _ I ?_;unfold mDl at p
 cases e:mr ρ with
 |exc c fs=>rw[e]at p;exact p
 |bad=>rw[e]at p;exact p
 | ok ts=>
   rw[e]at p
   dsimp only at p
   split at p
   . rename_i hl;intro vs S1 H1 w1 r1;obtain⟨fp,r,nd,g⟩:=r1
     refine⟨by rw[r.length];exact hl,fun q hq=>?_⟩
     have w2:bj S1 H1 S1 (upd H1 q (.lst vs)):=bj.heap w1.sh hq
     refine p (.ref q) S1 _ (w1.trans w2) ⟨q ::fp,by unfold bA;exact⟨q,vs,fp,rfl,bC,rfl,r.mono (aK.refl _) fun a _ o z=>w2.g _ _ z⟩,List.nodup_cons.mpr ⟨fun z=>?_,nd⟩,fun a ha=>?_⟩
     . obtain⟨o,h1,_⟩:=r.live q z;rw[hq]at h1;cases h1
     . rcases List.mem_cons.mp ha with z|z
       . subst z;exact⟨w1.g.free hq,w1.sh.free hq⟩
       . exact g a z
   . exact p.elim
theorem SR.MD{i:Nat}{t:OV}{v:V}(I:SR K cls Av G S₀ ρ σ S H)(w:bj S H S' H')(h:FR K cls H S' H' t v):SR K cls Av G S₀ (ρ.set i (some (.tr false t))) (σ.set i (some v)) S' H':=by
 obtain⟨F,J⟩:=I;obtain⟨fp,r,nd,g⟩:=h
 refine⟨_,(J.grow w).put (fp:=fp) (fun t' e=>by cases e;exact⟨v,rfl,r,nd,fun a ha=>⟨J.gh.free (g a ha).1,(g a ha).2⟩,fun z=>nomatch z⟩) (fun a ha=>⟨r.live a ha,J.gh.free (g a ha).1,(g a ha).2⟩) fun j a _ ha hz=>?_⟩
 obtain⟨⟨o,h1,_⟩,_⟩:=J.live j a hz;rw[(g a ha).1]at h1;cases h1
theorem qW{i:Nat}{te:TE}{md:ag->OD}(h:JD K cls W te md):JS K cls W (vh te (mx i)) (lr i md):=by
 intro Av G S₀ ρ σ S H D I p;refine h Av G S₀ ρ σ S H _ I ?_;unfold lr at p
 cases e:md ρ with
 |exc c fs=>rw[e]at p;exact fun a C S' H' w x=>p a C σ S' H' (I.grow w) w.s x
 |bad=>rw[e]at p;exact p
 |ok t=>rw[e]at p;exact fun v S1 H1 w1 r1=>p _ S1 H1 (I.MD w1 r1) w1.s
end
section
variable{K:PySem.W.Frag}{cls:String->Option Addr}{W:XW}{Av G S₀ S S' H H' B B':Hp}{ρ:ag}{σ:St}{Q:VK}{F:Nat->List Addr}
theorem bA.EL{ts:List OV}{v:V}{fp:List Addr}(h:bA K cls S H (.ol ts) v fp):∃ p vs f,v=.ref p /\ H p=some (.lst vs) /\ fp=p ::f /\ bD K cls S H ts vs f:=by unfold bA at h;exact h
theorem SRF.vy{i:Nat}{io:Bool}{t:OV}{ts:List OV}{v0:V}{π:List Stp}(J:SRF K cls Av G S₀ ρ σ S H F)(hi:ρ[i]?=some (some (.tr io t)))(hv:σ[i]?=some (some v0))(e:t.get π=some (.ol ts)):
  ∃ q vs ff rest,kD H v0 π (.ref q) /\ H q=some (.lst vs) /\ vs.length=ts.length /\ bD K cls S H ts vs ff /\ (F i).Perm ((q ::ff)++rest) /\ ((q ::ff)++rest).Nodup /\
    ∀ S' H' ts' vs' f',bj S H S' H'->bD K cls S' H' ts' vs' f'->f'.Nodup->(∀ a∈f',a∈ff \/ (H a=none /\ S' a=none)) ->
      ∃ g,SRF K cls Av G S₀ (ρ.set i (some (.tr io (t.put π (.ol ts'))))) σ S' (upd H' q (.lst vs')) (pJ F i g) /\ g.Perm ((q ::f')++rest):=by
 obtain⟨w,f1,rest,wk,r1,p1,nd1,gs,c⟩:=J.part hi hv e;obtain⟨q,vs,ff,rfl,hq,rfl,rs⟩:=r1.EL
 refine⟨q,vs,ff,rest,wk,hq,rs.length,rs,p1,nd1,fun S' H' ts' vs' f' wg r' nd' fr=>?_⟩
 have hGq:=(gs q (by simp)).1;have hSq:=(gs q (by simp)).2
 have hS'q:S' q=none:=by
  cases z:S' q with
  |none=>rfl
  | some o=>
    rcases wg.new q (by rw[z];simp)with y|y
    . exact absurd hSq y
    . rw[hq]at y;cases y
 have nq:q∉f':=fun z=>by
  rcases fr q z with y|y
  . exact(List.nodup_cons.mp (List.nodup_append.mp nd1).1).1 y
  . rw[y.1]at hq;cases hq
 have nS:∀ a∈f',S' a=none:=fun a ha=>by
  rcases fr a ha with y|y
  . cases z:S' a with
    |none=>rfl
    | some o=>
      obtain⟨o',h1,_⟩:=rs.live a y
      rcases wg.new a (by rw[z];simp)with k|k
      . exact absurd (gs a (by simp[y])).2 k
      . rw[h1]at k;cases k
  . exact y.2
 refine c S' (upd H' q (.lst vs')) (.ol ts') (q ::f') wg.s (wg.sh.upd hS'q) ((J.gh.trans wg.g).upd hGq) (fun b h=>?_) ?_ (List.nodup_cons.mpr ⟨nq,nd'⟩) (fun a ha=>?_) (fun a ha=>?_) (fun a o hn h=>?_) fun a h=>?_
 . rcases wg.new b h with z|z
   . exact J.new b z
   . exact .inr (J.gh.free z)
 . unfold bA
   exact⟨q,vs',f',rfl,bC,rfl,r'.mono (aK.refl _) fun a ha o h=>by rw[bQ (fun z=>nq (by rw[<- z];exact ha))];exact h⟩
 . rcases List.mem_cons.mp ha with z|z
   . subst z;exact .inl (by simp)
   . rcases fr a z with y|y
     . exact .inl (by simp[y])
     . exact .inr y.1
 . rcases List.mem_cons.mp ha with z|z
   . subst z;exact hS'q
   . exact nS a z
 . rw[bQ (fun z=>hn (by rw[z];simp))];exact wg.g _ _ h
 . rcases wg.new a h with z|z
   . exact .inl z
   . exact .inr (.inl z)
theorem JP.at{i:Nat}{te:TE}{mp:MP}{io:Bool}{t u:OV}{v0:V}{π:List Stp}{Q:VK}(hp:JP K cls te i mp)(I:SR K cls Av G S₀ ρ σ S H)(hi:ρ[i]?=some (some (.tr io t)))(hv:σ[i]?=some (some v0))(e0:mp ρ=some π)(e1:t.get π=some u)
  (k:∀ w S' H',bj S H S' H'->SR K cls Av G S₀ ρ σ S' H'->kD H' v0 π w->Q w H'):te σ H Q:=
 hp Av G S₀ ρ σ S H Q v0 t π I (by unfold gp;rw[hi];rfl) hv e0 (by rw[e1];rfl) fun w S1 H1 w1 wk=>k w S1 H1 w1 (I.grow w1) wk
theorem tM{i:Nat}{mp:MP}{k:OV->(OV->ag)->OS}{D:Ends}(p:jM K cls W Av G S₀ S D (vd i mp ρ k)):∃ io t π u,ρ[i]?=some (some (.tr io t)) /\ mp ρ=some π /\ t.get π=some u /\ jM K cls W Av G S₀ S D (k u fun u'=>ρ.set i (some (.tr io (t.put π u')))):=by
 unfold vd at p;split at p
 . rename_i io t hi;split at p
   . rename_i π e0;split at p
     . rename_i u e1
       exact⟨io,t,π,u,hi,e0,e1,p⟩
     . exact p.elim
   . exact p.elim
 . exact p.elim
theorem SR.val{i:Nat}{s:Sl}(I:SR K cls Av G S₀ ρ σ S H)(e:ρ[i]?=some (some s)):∃ v,σ[i]?=some (some v):=let ⟨v,h,_⟩:=I.good i s e;⟨v,h⟩
theorem eI{i:Nat}{te tx:TE}{mp:MP}{md:ag->OD}(hp:JP K cls te i mp)(hx:JD K cls W tx md):JS K cls W (u0 (tBM K "list" yU te (jN tx lZ))) (bR i mp md):=by
 intro Av G S₀ ρ σ S H D I p;obtain⟨io,t,π,u,hi,e0,e1,p⟩:=tM p;obtain⟨v0,hv⟩:=I.val hi
 cases u with
 |sh x=>exact p.elim
 |ob c ks us=>exact p.elim
 |di x=>exact p.elim
 |dt x=>exact p.elim
 | ol ts=>
   dsimp only at p
   refine hp.at I hi hv e0 e1 fun w S1 H1 w1 I1 wk=>?_
   obtain⟨F,J1⟩:=I1;obtain⟨q,vs,ff,rest,wk',hq,hl,rs,_,nd,c⟩:=J1.vy hi hv e1;have:=wk.inj wk';subst this
   refine⟨.inl ⟨rfl,_,SqL.new hq⟩,?_⟩
   refine hx Av G S₀ ρ σ S1 H1 _ ⟨F,J1⟩ ?_
   cases ed:md ρ with
   |exc c fs=>rw[ed]at p;exact fun a C S' H' w x=>p a C σ S' H' (SR.grow ⟨F,J1⟩ w) (w1.s.trans w.s) x
   |bad=>rw[ed]at p;exact p
   | ok x=>
     rw[ed]at p
     dsimp only at p
     split at p
     . rename_i hlt;intro v S2 H2 w2 r2;obtain⟨fx,rx,ndx,gx⟩:=r2
       refine⟨q,vs,v,rfl,rfl,w2.g _ _ hq,by rw[hl];exact hlt,?_⟩
       have ndf:ff.Nodup:=(List.nodup_cons.mp (List.nodup_append.mp nd).1).2
       have apx:∀ a∈ff,a∉fx:=fun a ha hb=>by
        obtain⟨o,h1,_⟩:=rs.live a ha;rw[(gx a hb).1]at h1;cases h1
       obtain⟨g,J3,_⟩:=c S2 H2 (ts++[x]) (vs++[v]) (ff++(fx++[])) w2 ((rs.mono w2.s fun a _ o h=>w2.g _ _ h).append (.cons rx .nil)) (by
         rw[List.append_nil]
         exact List.nodup_append.mpr ⟨ndf,ndx,fun a ha b hb z=>by subst z;exact apx a ha hb⟩) (fun a ha=>by
         rw[List.append_nil]at ha
         rcases List.mem_append.mp ha with z|z
         . exact .inl z
         . exact .inr (gx a z))
       exact p σ S2 _ ⟨_,J3⟩ (w1.s.trans w2.s)
     . exact p.elim
end
section
variable{K:PySem.W.Frag}{cls:String->Option Addr}{W:XW}{Av G S₀ S S' H H' B B':Hp}{ρ:ag}{σ:St}{Q:VK}{F:Nat->List Addr}
theorem vD{i:Nat}{te tk tx:TE}{mp:MP}{mk:ag->OE}{md:ag->OD}(hp:JP K cls te i mp)(hk:JE K cls W tk mk)(hx:JD K cls W tx md):JS K cls W (vh tx (Im te tk EV)) (pX i mp mk md):=by
 intro Av G S₀ ρ σ S H D I p;refine hx Av G S₀ ρ σ S H _ I ?_;unfold pX at p
 cases ed:md ρ with
 |exc c fs=>rw[ed]at p;exact fun a C S' H' w x=>p a C σ S' H' (I.grow w) w.s x
 |bad=>rw[ed]at p;exact p
 | ok x=>
   rw[ed]at p
   dsimp only at p
   obtain⟨io,t,π,u,hi,e0,e1,p⟩:=tM p;obtain⟨v0,hv⟩:=I.val hi
   cases u with
   |sh x=>exact p.elim
   |ob c ks us=>exact p.elim
   |di x=>exact p.elim
   |dt x=>exact p.elim
   | ol ts=>
     dsimp only at p
     intro v S1 H1 w1 r1
     refine hp.at (I.grow w1) hi hv e0 e1 fun w S2 H2 w2 I2 wk=>?_
     have p2:=p.back (w1.s.trans w2.s)
     refine hk.goS I2 p2 fun r z S3 H3 I3 w3 r3 p3=>?_
     cases en:r.pv with
     | int n=>
       rw[en]at p3
       dsimp only at p3
       cases ej:ixP ts.length n with
       |none=>rw[ej]at p3;exact p3.elim
       | some j=>
         rw[ej]at p3;obtain⟨F,J⟩:=id I;obtain⟨q,vs,ff,rest,wk',hq,hl,rs,_,nd,c⟩:=J.vy hi hv e1;have:=wk.inj (wk'.mono (w1.g.trans w2.g));subst this
         have hz:z=.int n:=by have:=r3.rd I3.sh;rw[en]at this;exact dg this
         subst hz
         have wg:bj S H S3 H3:=(w1.trans w2).trans w3
         have hj:j<ts.length:=by
          unfold ixP at ej;split at ej
          . split at ej
            . cases ej;omega
            . cases ej
          . split at ej
            . cases ej;omega
            . cases ej
         have ndf:ff.Nodup:=(List.nodup_cons.mp (List.nodup_append.mp nd).1).2
         obtain⟨fx,rx,ndx,gx⟩:=(r1.grow w2).grow w3;obtain⟨w0,f1,rs',e1',r1',p1',c1⟩:=rs.at (k:=j) (u:=ts[j]) (by simp[hj])
         obtain⟨g,rg,pg⟩:=c1 S3 H3 x v fx wg.s rx fun a _ o h=>wg.g _ _ h
         have inff:∀ a∈rs',a∈ff:=fun a ha=>p1'.mem_iff.mpr (List.mem_append_right _ ha)
         have ndr:rs'.Nodup:=(List.nodup_append.mp (p1'.nodup_iff.mp ndf)).2.1
         have ndg:g.Nodup:=pg.nodup_iff.mpr (List.nodup_append.mpr ⟨ndx,ndr,fun a ha b hb z=>by
          subst z;obtain⟨o,h1,_⟩:=rs.live a (inff a hb)
          rw[(gx a ha).1]at h1;cases h1⟩)
         obtain⟨g2,J3,_⟩:=c S3 H3 (ts.set j x) (vs.set j v) g wg rg ndg fun a ha=>by
          rcases List.mem_append.mp (pg.mem_iff.mp ha)with z|z
          . exact .inr (gx a z)
          . exact .inl (inff a z)
         exact⟨q,vs,n,j,rfl,rfl,wg.g _ _ hq,by rw[hl];exact ej,p3 σ S3 _ ⟨_,J3⟩ (aK.refl _)⟩
     |_=>rw[en]at p3;exact p3.elim
def Jp(K:PySem.W.Frag)(cls:String->Option Addr)(W:XW)(Av G S₀:Hp)(σ:St)(S:Hp)(Q:VK):OX->Prop
 |.ok ρ' s=>∀ v S' H',SR K cls Av G S₀ (ρ'++[some s]) (σ++[some v]) S' H'->aK S S'->Q v H'
 |.exc ρ' c fs=>∀ a C S' H',SR K cls Av G S₀ ρ' σ S' H'->aK S S'->pL K cls S' H' c fs a C->W (.ref C) (some a) σ H'
 |.bad=>False
def JX(K:PySem.W.Frag)(cls:String->Option Addr)(W:XW)(te:TE)(m:ag->OX):Prop:=∀ Av G S₀ ρ σ S H Q,SR K cls Av G S₀ ρ σ S H->Jp K cls W Av G S₀ σ S Q (m ρ)->te σ H Q
theorem oK{i:Nat}{te:TE}{m:ag->OX}(h:JX K cls W te m):JS K cls W (vh te (mx i)) (iE i m):=by
 intro Av G S₀ ρ σ S H D I p;refine h Av G S₀ ρ σ S H _ I ?_;unfold iE at p
 cases e:m ρ with
 |exc ρ' c fs=>rw[e]at p;exact fun a C S' H' I' s' x=>p a C σ S' H' I' s' x
 |bad=>rw[e]at p;exact p
 | ok ρ' s=>
   rw[e]at p
   dsimp only at p
   split at p
   . rename_i hs
     exact fun v S' H' I' s'=>p _ S' H' (I'.fold hs) s'
   . exact p.elim
theorem SR.KG{x:PV}{v:V}(I:SR K cls Av G S₀ (ρ++[some (.sh x)]) (σ++[some v]) S H):Rep K S x v:=by
 obtain⟨F,J⟩:=I
 have hlen:ρ.length=σ.length:=by have:=J.len;simpa using this
 obtain⟨v',ev,r⟩:=J.own ρ.length (.sh x) (by simp);rw[List.getElem?_append_right (by rw[hlen];exact Nat.le_refl _),hlen,Nat.sub_self]at ev;cases ev;exact r.2
theorem HC{te:TE}{m:ag->OX}{ta tb:TS}{ma mb:ag->OS}(h:JX K cls W te m)(ha:JS K cls W ta ma)(hb:JS K cls W tb mb):
  JS K cls W (IV (IF (fun σ H Q=>te σ H fun x H'=>∃ k,Ca K x H' k /\ Q k H')) ta tb) (Ht true m ma mb):=by
 intro Av G S₀ ρ σ S H D I p;refine h Av G S₀ ρ σ S H _ I ?_;unfold Ht at p
 cases e:m ρ with
 |exc ρ' c fs=>rw[e]at p;exact fun a C S' H' I' s' x=>p a C σ S' H' I' s' x
 |bad=>rw[e]at p;exact p
 | ok ρ' s=>
   rw[e]at p
   cases s with
   | sh x=>
     dsimp only at p
     intro v S' H' I' s'
     cases et:vj x with
     |none=>rw[et]at p;exact p.elim
     | some k=>
       rw[et]at p
       refine⟨k,CF I'.sh (I'.KG.rd I'.sh) et,?_⟩
       cases k with
       |false=>exact AZ (ha Av G S₀ ρ' σ S' H' D I'.Cs (p.back s'))
       |true=>exact Ak (hb Av G S₀ ρ' σ S' H' D I'.Cs (p.back s'))
   |ow xs=>exact p.elim
   |ex c fs=>exact p.elim
   |tr io t=>exact p.elim
   |bo t=>exact p.elim
theorem bD.last{ts:List OV}{vs:List V}{f:List Addr}{x:OV}(h:bD K cls S H ts vs f)(e:ts.getLast?=some x):∃ y f1 f2,vs[vs.length - 1]?=some y /\ bD K cls S H ts.dropLast vs.dropLast f1 /\ bA K cls S H x y f2 /\ f=f1++f2:=by
 induction ts generalizing vs f with
 |nil=>cases e
 | cons t ts ih=>
   obtain⟨v,r,f1,f2,rfl,rfl,h1,h2⟩:=h.cons_inv
   cases ts with
   | nil=>
     unfold bD at h2;obtain⟨rfl,rfl⟩:=h2;simp at e;subst e
     exact⟨v,[],f1,rfl,.nil,h1,by simp⟩
   | cons t2 ts2=>
     rw[List.getLast?_cons_cons]at e;obtain⟨y,g1,g2,e1,r1,r2,rfl⟩:=ih h2 e
     have hr:r≠[]:=by intro z;subst z;have:=h2.length;simp at this
     refine⟨y,f1++g1,g2,?_,?_,r2,by simp⟩
     . cases r with
       |nil=>exact absurd rfl hr
       |cons a r'=>simpa using e1
     . cases r with
       |nil=>exact absurd rfl hr
       |cons a r'=>exact bD.cons h1 r1
theorem Hc{x:OV}{v:V}{fp:List Addr}{i:Nat}(h:bA K cls S H x v fp)(nd:fp.Nodup)(g:∀ a∈fp,G a=none /\ S a=none):vm K cls Av G S H i (slO x) v fp:=by
 cases x with
 |sh y=>unfold bA at h;exact h
 |ol ts=>exact⟨h,nd,g,fun z=>nomatch z⟩
 |ob c ks ts=>exact⟨h,nd,g,fun z=>nomatch z⟩
 |di x=>exact⟨h,nd,g,fun z=>nomatch z⟩
 |dt x=>exact⟨h,nd,g,fun z=>nomatch z⟩
theorem yu{i:Nat}{te:TE}{mp:MP}(hp:JP K cls te i mp):JX K cls W (Mn K "list" Nc te) (m6 i mp):=by
 intro Av G S₀ ρ σ S H Q I p;unfold m6 at p;split at p
 . rename_i io t hi;split at p
   . rename_i π e0;split at p
     . rename_i ts e1;split at p
       . rename_i x ex;obtain⟨v0,hv⟩:=I.val hi
         refine hp.at I hi hv e0 e1 fun w S1 H1 w1 I1 wk=>?_
         obtain⟨F,J1⟩:=id I1;obtain⟨q,vs,ff,rest,wk',hq,hl,rs,pF,nd,c⟩:=J1.vy hi hv e1;have:=wk.inj wk';subst this;obtain⟨y,f1,f2,ey,ri,rx,rfl⟩:=rs.last ex
         have ndf:(f1++f2).Nodup:=(List.nodup_cons.mp (List.nodup_append.mp nd).1).2
         have nq:q∉f1++f2:=(List.nodup_cons.mp (List.nodup_append.mp nd).1).1
         refine⟨.inl ⟨rfl,_,SqL.new hq⟩,q,vs,y,rfl,rfl,hq,ey,?_⟩
         obtain⟨g,J3,pg⟩:=c S1 H1 ts.dropLast vs.dropLast f1 (bj.refl J1.sh) ri (List.nodup_append.mp ndf).1 fun a ha=>.inl (List.mem_append_left _ ha)
         have in2:∀ a∈f2,a∈F i:=fun a ha=>pF.mem_iff.mpr (by simp[ha])
         have rx':bA K cls S1 (upd H1 q (.lst vs.dropLast)) x y f2:=rx.mono (aK.refl _) fun a ha o h=>by rw[bQ (fun z=>nq (by rw[<- z];simp[ha]))];exact h
         have gs2:∀ a∈f2,G a=none /\ S1 a=none:=fun a ha=>(J1.live i a (in2 a ha)).2
         obtain⟨F',J4⟩:=J3.more (s:=some (slO x)) (u:=some y) (fp:=f2) (fun t' e=>by cases e;exact⟨y,rfl,Hc rx' (List.nodup_append.mp ndf).2.1 gs2⟩) (fun a ha=>⟨rx'.live a ha,gs2 a ha⟩) fun j a hj ha hz=>by
          by_cases ej:j=i
          . subst ej;rw[jD]at hz;have hm:=pg.mem_iff.mp hz;have hd:=List.nodup_append.mp nd
            rcases List.mem_append.mp hm with z|z
            . rcases List.mem_cons.mp z with z|z
              . subst z;exact nq (by simp[ha])
              . exact(List.nodup_append.mp ndf).2.2 a z a ha rfl
            . exact hd.2.2 a (by simp[ha]) a z rfl
          . rw[fR ej]at hz;exact ej (J1.apart j i a hz (in2 a ha))
         exact p y S1 _ ⟨F',J4⟩ w1.s
       . exact p.elim
     . exact p.elim
   . exact p.elim
 . exact p.elim
end
section
variable{K:PySem.W.Frag}{cls:String->Option Addr}{W:XW}{Av G S₀ S S' H H' B B':Hp}{ρ:ag}{σ:St}{Q:VK}{F:Nat->List Addr}
mutual
theorem bA.frozen(s:aK S S'):∀{t:OV} {v:V} {fp:List Addr} {x:PV},bA K cls S H t v fp->pvO t=some x->(∀ a∈fp,S' a=H a)->Rep K S' x v
 | .sh y,v,fp,x,h,e,g=>by
   unfold pvO at e;cases e;unfold bA at h;exact Rep.mono s h.2
 | .ol ts,v,fp,x,h,e,g=>by
   unfold pvO at e;obtain⟨xs,e1,rfl⟩:=Option.map_eq_some_iff.mp e;obtain⟨p,vs,f,rfl,hp,rfl,rs⟩:=h.EL;unfold Rep
   exact⟨p,vs,rfl,SqL.new (by rw[g p (by simp)];exact hp),bD.frozen s rs e1 fun a ha=>g a (by simp[ha])⟩
 |.ob c ks ts,v,fp,x,h,e,g=>by unfold pvO at e;cases e
 |.di c,v,fp,x,h,e,g=>by unfold pvO at e;cases e
 |.dt c,v,fp,x,h,e,g=>by unfold pvO at e;cases e
theorem bD.frozen(s:aK S S'):∀{ts:List OV} {vs:List V} {fp:List Addr} {xs:List PV},bD K cls S H ts vs fp->wR ts=some xs->(∀ a∈fp,S' a=H a)->bZ K S' xs vs
 | [],vs,fp,xs,h,e,g=>by
   unfold wR at e;cases e;unfold bD at h;rw[h.1];exact .nil
 | t ::ts,vs,fp,xs,h,e,g=>by
   unfold wR at e;obtain⟨x,e1,e2⟩:=Option.bind_eq_some_iff.mp e;obtain⟨ys,e3,rfl⟩:=Option.map_eq_some_iff.mp e2;obtain⟨v,r,f1,f2,rfl,rfl,h1,h2⟩:=h.cons_inv;exact .cons (bA.frozen s h1 e1 fun a ha=>g a (by simp[ha])) (bD.frozen s h2 e3 fun a ha=>g a (by simp[ha]))
end
theorem SR.K3{i:Nat}{t:OV}{x:PV}(I:SR K cls Av G S₀ ρ σ S H)(hi:ρ[i]?=some (some (.tr false t)))(ex:pvO t=some x):∃ S',aK S S' /\ SR K cls Av G S₀ (ρ.set i (some (.sh x))) σ S' H:=by
 obtain⟨F,J⟩:=I;obtain⟨v,hv,ro,nd,gs,_⟩:=J.own i _ hi
 have J1:SRF K cls Av G S₀ (ρ.set i none) (σ.set i none) S H (pJ F i []):=J.put (fun t e=>nomatch e) (fun a ha=>nomatch ha) fun j a _ ha=>nomatch ha
 let S':Hp:=fun a=>if a∈F i then H a else S a
 have sS:aK S S':=fun b u h=>by
  show(if b∈F i then H b else S b)=some u
  rw[if_neg (fun z=>by rw[(gs b z).2]at h;cases h)];exact h
 have sH:aK S' H:=fun b u h=>by
  have h':(if b∈F i then H b else S b)=some u:=h
  split at h'
  . exact h'
  . exact J.sh b u h'
 have off:∀ j a,a∈pJ F i [] j->a∉F i:=fun j a ha z=>by
  by_cases ej:j=i
  . subst ej;rw[jD]at ha;cases ha
  . rw[fR ej]at ha;exact ej (J.apart j i a ha z)
 have J2:=J1.change (S':=S') (H':=H) J.gh sS sH (fun b h=>by
   have h':(if b∈F i then H b else S b)≠none:=h
   split at h'
   . rename_i hb;exact .inr (gs b hb).1
   . exact J.new b h') (fun _ _ _ _ h=>h) (fun _ _ _ h=>h) fun j a ha=>by
     show(if a∈F i then H a else S a)=none
     rw[if_neg (off j a ha)];exact(J1.live j a ha).2.2
 have J3:=J2.put (i:=i) (s:=some (.sh x)) (u:=some v) (fp:=[]) (fun t' e=>by
  cases e
  exact⟨_,rfl,rfl,ro.frozen sS ex fun a ha=>by show(if a∈F i then H a else S a)=H a;rw[if_pos ha]⟩) (fun a ha=>nomatch ha) fun j a _ ha=>nomatch ha
 rw[List.set_set,List.set_set,lS hv]at J3
 exact⟨S',sS,_,J3⟩
theorem wB{i:Nat}{ts:TS}{m:ag->OS}(h:JS K cls W ts m):JS K cls W ts (qC i m):=by
 intro Av G S₀ ρ σ S H D I p;unfold qC qS at p;split at p
 . rename_i t e;split at p
   . rename_i x ex;obtain⟨S',s,J⟩:=I.K3 e ex;exact h Av G S₀ _ σ S' H D J (p.back s)
   . exact h Av G S₀ ρ σ S H D I p
 . exact h Av G S₀ ρ σ S H D I p
theorem I0{ks:List Str}{us:List (Str×V)}{f:Str}{y:V}(hk:us.map (·.1)=ks){k:Nat}(hf:∀ j,ks[j]?=some f->k<=j)(he:ks[k]?=some f):(kR f y us).map (·.1)=ks /\ (kR f y us).map (·.2)=(us.map (·.2)).set k y:=by
 induction us generalizing ks k with
 |nil=>subst hk;cases he
 | cons q us ih=>
   obtain⟨g,x⟩:=q;subst hk;unfold kR
   by_cases e:g=f
   . rw[if_pos e]
     have k0:k=0:=by have:=hf 0 (by simp[e]);omega
     subst k0
     exact⟨rfl,rfl⟩
   . rw[if_neg e]
     cases k with
     |zero=>simp at he;exact absurd he e
     | succ k=>
       obtain⟨h1,h2⟩:=ih (ks:=us.map (·.1)) (k:=k) rfl (fun j hj=>by have:=hf (j+1) (by simpa using hj);omega) (by simpa using he);simp[h1,h2]
theorem FT{us:List (Str×V)}{f:Str}{y:V}(h:f∉us.map (·.1)):kR f y us=us++[(f,y)]:=by
 induction us with
 |nil=>rfl
 | cons q us ih=>
   obtain⟨g,x⟩:=q;simp at h;unfold kR;rw[if_neg (fun z=>h.1 z.symm),ih (by simpa using h.2)];rfl
theorem BD{ks:List Str}{ts:List OV}{f:Str}(hl:ts.length=ks.length)(h:f∈ks):∃ k,ks[k]?=some f /\ (∀ j,ks[j]?=some f->k<=j) /\ k<ts.length /\ ∀ u,xn ks ts f u=ts.set k u:=by
 induction ks generalizing ts with
 |nil=>cases h
 | cons g ks ih=>
   cases ts with
   |nil=>cases hl
   | cons t ts=>
     by_cases e:g=f
     . subst e
       exact⟨0,rfl,fun j _=>Nat.zero_le _,by simp,fun u=>by simp[xn]⟩
     . obtain ⟨k,h1,h2,h3,h4⟩:=ih (ts:=ts) (by simpa using hl) (by
        rcases List.mem_cons.mp h with z|z
        . exact absurd z.symm e
        . exact z)
       refine⟨k+1,by simpa using h1,fun j hj=>?_,by simpa using h3,fun u=>by simp[xn,e,h4]⟩
       cases j with
       |zero=>simp at hj;exact absurd hj e
       |succ j=>have:=h2 j (by simpa using hj);omega
theorem Iv{i:Nat}{te tx:TE}{mp:MP}{f:Str}{okc:String->Bool}{md:ag->OD}(hp:JP K cls te i mp)(hx:JD K cls W tx md)(ha:∀ c C,cls c=some C->okc c=true->Cls K C /\ nr K C f):JS K cls W (LQ K te tx f) (FZ i mp f okc md):=by
 intro Av G S₀ ρ σ S H D I p;refine hx Av G S₀ ρ σ S H _ I ?_;unfold FZ at p
 cases ed:md ρ with
 |exc c fs=>rw[ed]at p;exact fun a C S' H' w x=>p a C σ S' H' (I.grow w) w.s x
 |bad=>rw[ed]at p;exact p
 | ok x=>
   rw[ed]at p
   dsimp only at p
   obtain⟨io,t,π,u,hi,e0,e1,p⟩:=tM p;obtain⟨v0,hv⟩:=I.val hi
   cases u with
   |sh x=>exact p.elim
   |ol ts=>exact p.elim
   |di x=>exact p.elim
   |dt x=>exact p.elim
   | ob c ks ts=>
     dsimp only at p
     split at p
     . rename_i hok;rw[Bool.and_eq_true,decide_eq_true_eq]at hok;intro v S1 H1 w1 r1
       refine hp.at (I.grow w1) hi hv e0 e1 fun w S2 H2 w2 I2 wk=>?_
       obtain⟨F,J⟩:=id I;obtain⟨w0,f1,rest,wk',ro,pF,nd,gs,cc⟩:=J.part hi hv e1
       have wg:bj S H S2 H2:=w1.trans w2
       have:=wk.inj (wk'.mono wg.g);subst this;unfold bA at ro;obtain⟨q,C,dx,us,ff,rfl,hcl,hq,hd,hk,rfl,rs⟩:=ro;obtain⟨a1,a2⟩:=ha c C hcl hok.1;have nd1:=(List.nodup_append.mp nd).1
       have nq:q∉dx ::ff:=(List.nodup_cons.mp nd1).1
       have ndx':dx∉ff:=(List.nodup_cons.mp (List.nodup_cons.mp nd1).2).1
       have ndf:ff.Nodup:=(List.nodup_cons.mp (List.nodup_cons.mp nd1).2).2
       have hlen:us.length<1000:=by have:=congrArg List.length hk;simp at this;omega
       obtain⟨fx,rx,nx,gx⟩:=r1.grow w2
       refine⟨q,C,dx,us,rfl,wg.g _ _ hq,a1,a2,hlen,?_⟩
       have noS:∀ a∈q ::dx ::ff,S2 a=none:=fun a ha=>by
        cases z:S2 a with
        |none=>rfl
        | some o=>
          obtain⟨⟨o',h1,_⟩,_,h3⟩:=J.live i a (pF.mem_iff.mpr (List.mem_append_left _ ha))
          rcases wg.new a (by rw[z];simp)with y|y
          . exact absurd h3 y
          . rw[h1]at y;cases y
       have fin:∀ ks' ts' f',(kR f v us).map (·.1)=ks'->bD K cls S2 H2 ts' ((kR f v us).map (·.2)) f'->f'.Nodup->(∀ a∈f',a∈ff \/ (H a=none /\ S2 a=none)) ->
         SR K cls Av G S₀ (ρ.set i (some (.tr io (t.put π (.ob c ks' ts'))))) σ S2 (upd H2 q (.ins C dx (kR f v us))):=by
        intro ks' ts' f' hk' rs' nd' fr
        have nqf:q∉f':=fun z=>by
         rcases fr q z with y|y
         . exact nq (by simp[y])
         . rw[y.1]at hq;cases hq
        have ndf':dx∉f':=fun z=>by
         rcases fr dx z with y|y
         . exact ndx' y
         . rw[y.1]at hd;cases hd
        have ndq:dx≠q:=fun z=>nq (by simp[z])
        obtain⟨g,J3,_⟩:=cc S2 (upd H2 q (.ins C dx (kR f v us))) (.ob c ks' ts') (q ::dx ::f') wg.s (wg.sh.upd (noS q (by simp))) ((J.gh.trans wg.g).upd (gs q (by simp)).1) (fun b h=>by
          rcases wg.new b h with z|z
          . exact J.new b z
          . exact .inr (J.gh.free z)) (by
          unfold bA
          exact⟨q,C,dx,_,f',rfl,hcl,bC,by rw[bQ ndq];exact wg.g _ _ hd,hk',rfl,rs'.mono (aK.refl _) fun a ha o h=>by rw[bQ (fun z=>nqf (by rw[<- z];exact ha))];exact h⟩)
         (List.nodup_cons.mpr ⟨fun z=>by
           rcases List.mem_cons.mp z with z|z
           . exact ndq z.symm
           . exact nqf z,List.nodup_cons.mpr ⟨ndf',nd'⟩⟩) (fun a ha=>by
           rcases List.mem_cons.mp ha with z|z
           . subst z;exact .inl (by simp)
           . rcases List.mem_cons.mp z with z|z
             . subst z;exact .inl (by simp)
             . rcases fr a z with y|y
               . exact .inl (by simp[y])
               . exact .inr y.1) (fun a ha=>by
           rcases List.mem_cons.mp ha with z|z
           . subst z;exact noS _ (by simp)
           . rcases List.mem_cons.mp z with z|z
             . subst z;exact noS _ (by simp)
             . rcases fr a z with y|y
               . exact noS a (by simp[y])
               . exact y.2) (fun a o hn h=>by rw[bQ (fun z=>hn (by rw[z];simp))];exact wg.g _ _ h) fun a h=>by
           rcases wg.new a h with z|z
           . exact .inl z
           . exact .inr (.inl z)
        exact⟨_,J3⟩
       have hlts:ts.length=ks.length:=by rw[<- rs.length,<- hk];simp
       split at p
       . rename_i hc;obtain⟨k,h1,h2,h3,h4⟩:=BD hlts (by simpa using hc);obtain⟨k1,k2⟩:=I0 (y:=v) hk h2 h1;obtain⟨w3,g1,rest3,e3,r3,p3,c3⟩:=rs.at (k:=k) (u:=ts[k]) (by simp[h3])
         obtain⟨g,rg,pg⟩:=c3 S2 H2 x v fx wg.s rx fun a _ o h=>wg.g _ _ h
         have inff:∀ a∈rest3,a∈ff:=fun a ha=>p3.mem_iff.mpr (List.mem_append_right _ ha)
         have ndr:rest3.Nodup:=(List.nodup_append.mp (p3.nodup_iff.mp ndf)).2.1
         have ndg:g.Nodup:=pg.nodup_iff.mpr (List.nodup_append.mpr ⟨nx,ndr,fun a ha b hb z=>by
          subst z;obtain⟨o,h1,_⟩:=rs.live a (inff a hb)
          rw[(gx a ha).1]at h1;cases h1⟩)
         have q1:=fin ks (ts.set k x) g k1 (by rw[k2];exact rg) ndg fun a ha=>by
          rcases List.mem_append.mp (pg.mem_iff.mp ha)with z|z
          . exact .inr (gx a z)
          . exact .inl (inff a z)
         rw[h4]at p;exact p σ S2 _ q1 wg.s
       . rename_i hc
         have hn:f∉us.map (·.1):=by rw[hk];simpa using hc
         have e2:=FT (y:=v) hn
         have ndg:(ff++(fx++[])).Nodup:=by
          rw[List.append_nil]
          exact List.nodup_append.mpr ⟨ndf,nx,fun a ha b hb z=>by
           subst z;obtain⟨o,h1,_⟩:=rs.live a ha
           rw[(gx a hb).1]at h1;cases h1⟩
         have q1:=fin (ks++[f]) (ts++[x]) (ff++(fx++[])) (by rw[e2];simp[hk]) (by rw[e2,List.map_append];exact(rs.mono wg.s fun a _ o h=>wg.g _ _ h).append (.cons rx .nil)) ndg fun a ha=>by
          rw[List.append_nil]at ha
          rcases List.mem_append.mp ha with z|z
          . exact .inl z
          . exact .inr (gx a z)
         exact p σ S2 _ q1 wg.s
     . exact p.elim
end
open Classical in
noncomputable def minus(H:Hp)(Fc:Nat->List Addr):Hp:=fun a=>if ∃ k,a∈Fc k then none else H a
section
variable{K:PySem.W.Frag}{cls:String->Option Addr}{W:XW}{Av G S₀ S S' H H' B B':Hp}{ρ:ag}{σ:St}{Q:VK}{F Fc Fc':Nat->List Addr}
theorem AY{a:Addr}{k:Nat}(h:a∈Fc k):minus H Fc a=none:=by unfold minus;rw[if_pos ⟨k,h⟩]
theorem j1{a:Addr}(h:∀ k,a∉Fc k):minus H Fc a=H a:=by unfold minus;rw[if_neg (fun ⟨k,z⟩=>h k z)]
theorem wN:aK (minus H Fc) H:=fun b u h=>by
 unfold minus at h;split at h
 . cases h
 . exact h
theorem og{a:Addr}(h:minus H Fc a=none):H a=none \/ ∃ k,a∈Fc k:=by
 unfold minus at h;split at h
 . rename_i z;exact .inr z
 . exact .inl h
def Ou(K:PySem.W.Frag)(cls:String->Option Addr)(S H Hm:Hp):Sl->V->List Addr->Prop
 |.sh x,v,fp=>fp=[] /\ Rep K S x v
 |.tr true t,v,fp=>bA K cls S H t v fp /\ fp.Nodup
 |.bo t,v,fp=>fp=[] /\ ∃ f,bA K cls S Hm t v f
 |_,_,_=>False
structure EE(K:PySem.W.Frag)(cls:String->Option Addr)(vs:List V)(S H:Hp)(Fc:Nat->List Addr)(outs:List (Option OV))(S' H':Hp)(Fc':Nat->List Addr):Prop where
 s:aK S S'
 sh:aK S' H'
 keep:aK (minus H Fc) H'
 new:∀ b,S' b≠none->S b≠none \/ H b=none \/ ∃ k,b∈Fc k
 out:∀ k t',outs[k]?=some (some t')->∃ u,vs[k]?=some u /\ bA K cls S' H' t' u (Fc' k) /\ (Fc' k).Nodup
 apart:∀ j k a,a∈Fc' j->a∈Fc' k->j=k
 live:∀ k a,a∈Fc' k->minus H Fc a=none /\ S' a=none
def Ni(K:PySem.W.Frag)(cls:String->Option Addr)(vs:List V)(S H:Hp)(Fc:Nat->List Addr)(Q:VK)(E:XK):OI->Prop
 |.ok x outs=>∀ v S' H' Fc',EE K cls vs S H Fc outs S' H' Fc'->Rep K S' x v->Q v H'
 |.exc c fs outs=>∀ a C S' H' Fc',EE K cls vs S H Fc outs S' H' Fc'->pL K cls S' H' c fs a C->E (.ref C) (some a) H'
 |.bad=>False
structure GB(K:PySem.W.Frag)(cls:String->Option Addr)(as:List Sl)(vs:List V)(S H:Hp)(Fc:Nat->List Addr):Prop where
 sh:aK S H
 len:as.length=vs.length
 rel:∀(k:Nat) (s:Sl),as[k]?=some s->∃ v,vs[k]?=some v /\ Ou K cls S H (minus H Fc) s v (Fc k)
 apart:∀ j k a,a∈Fc j->a∈Fc k->j=k
 live:∀ k a,a∈Fc k->(∃ o,H a=some o /\ isX o=false) /\ S a=none
def spI(K:PySem.W.Frag)(cls:String->Option Addr)(f:List Sl->OI):Sp:=fun vs H Q E=>∃ S as Fc,GB K cls as vs S H Fc /\ Ni K cls vs S H Fc Q E (f as)
theorem I8{as:List Sl}{vs:List V}{N:List Str}{i:Nat}{s:Sl}(hl:as.length=vs.length)(e:(lg N.length as)[i]?=some (some s)):as[i]?=some s /\ (L2.start N vs)[i]?=some ((vs[i]?)):=by
 unfold lg at e
 by_cases hi:i<as.length
 . rw[List.getElem?_append_left (by simpa using hi),List.getElem?_map]at e
   have hx:as[i]?=some as[i]:=by simp[hi]
   rw[hx]at e;cases e
   refine⟨hx,?_⟩
   unfold L2.start;rw[List.getElem?_append_left (by rw[List.length_map,<- hl];exact hi),List.getElem?_map]
   have hv:vs[i]?=some (vs[i]'(by rw[<- hl];exact hi)):=by simp[<- hl,hi]
   rw[hv];rfl
 . rw[List.getElem?_append_right (by simpa using hi)]at e;rw[List.getElem?_replicate]at e
   split at e<;>cases e
def Eu(vs:List V):Hp:=fun i=>(vs[i]?).map fun v=>.lst [v]
theorem SR.KY{vs:List V}{np:Nat}{ρ':ag}{σ':St}(A:aK S H)(I:SR K cls (Eu vs) (minus H Fc) S ρ' σ' S' H'):∃ Fc',EE K cls vs S H Fc ((ρ'.take np).map pN) S' H' Fc':=by
 obtain⟨F,J⟩:=I
 refine⟨F,J.s0,J.sh,J.gh,fun b h=>?_,fun k t' e=>?_,J.apart,fun k a ha=>(J.live k a ha).2⟩
 . rcases J.new b h with z|z
   . exact .inl z
   . rcases og z with y|y
     . exact .inr (.inl y)
     . exact .inr (.inr y)
 . rw[List.getElem?_map]at e;obtain⟨s,e1,e2⟩:=Option.map_eq_some_iff.mp e
   have e3:ρ'[k]?=some s:=by
    rw[List.getElem?_take]at e1;split at e1
    . exact e1
    . cases e1
   cases s with
   |none=>cases e2
   | some s=>
     cases s with
     | tr io t=>
       cases io with
       |false=>cases e2
       | true=>
         cases e2;obtain⟨v,ev,ro,nd,_,hio⟩:=J.own k _ e3;have:=hio rfl;unfold Eu at this;obtain⟨u,eu,e4⟩:=Option.map_eq_some_iff.mp this;cases e4
         exact⟨v,eu,ro,nd⟩
     |sh x=>cases e2
     |ow x=>cases e2
     |ex c fs=>cases e2
     |bo t=>cases e2
theorem wm{P:Program}{w:World}{mg:Str->Option Value}{base:Heap}{x qual:Str}{st:Stmt}{f:Addr}{fd:FuncData}{N ps:List Str}{k:Nat}{m:ag->OS}(Fn:Fun K x qual st f fd)(Sc:aU N ps (aA st))
  (hbody:∀(cdv:Value) (A:Around) (outer:List Env) (s:Shared) (H:Hp) (E:XK),iM k (A.deeper (envOfC qual (aA st) s.heap.objs.size f cdv)) ->
    ∃ t,QSs (uk (CXE P w) P w K mg base N qual (aA st) f cdv A outer s H E) (dO st) t /\ JS K cls (fun C a _ H=>∀ H',aK H H'->E C a H') t m):cx P w K mg base (CXE P w) (k+1) f fd ps (spI K cls (fnI ps.length N.length m)):=by
 refine okX Fn Sc (fun vs H Q E h=>?_) fun cdv A outer s H vs Q E hr h=>?_
 . obtain⟨S,as,Fc,a,q⟩:=h;unfold fnI at q;split at q
   . rw[<- a.len];assumption
   . exact q.elim
 . obtain⟨S,as,Fc,a,q⟩:=h;unfold fnI at q;split at q
   . rename_i hl;obtain⟨t,ht,J⟩:=hbody cdv A outer s H E hr
     refine⟨t,ht.out,?_⟩
     have start:SR K cls (Eu vs) (minus H Fc) S (lg N.length as) (L2.start N vs) S H:=by
      refine⟨Fc,wN,aK.refl _,a.sh,fun _ z=>.inl z,fun i s e=>?_,a.apart,fun i b hb=>⟨(a.live i b hb).1,AY hb,(a.live i b hb).2⟩,?_⟩
      . obtain⟨e1,e2⟩:=I8 a.len e;obtain⟨v,ev,r⟩:=a.rel i s e1;rw[ev]at e2
        refine⟨v,e2,?_⟩
        cases s with
        |sh x=>exact r
        |ow x=>exact r.elim
        |ex c fs=>exact r.elim
        | tr io t=>
          cases io with
          |false=>exact r.elim
          |true=>exact⟨r.1,r.2,fun b hb=>⟨AY hb,(a.live i b hb).2⟩,fun _=>by unfold Eu;rw[ev];rfl⟩
        |bo t=>exact r
      . unfold lg L2.start;simp[a.len]
     refine J (Eu vs) (minus H Fc) S (lg N.length as) (L2.start N vs) S H _ start ?_
     cases e:m (lg N.length as)with
     |nx ρ'=>rw[e]at q;exact fun σ' S' H' I' s'=>let ⟨Fc',E'⟩:=I'.KY (np:=ps.length) a.sh;q .non S' H' Fc' E' (by unfold Rep;rfl)
     |bk ρ'=>rw[e]at q;exact q.elim
     |ct ρ'=>rw[e]at q;exact q.elim
     |bad=>rw[e]at q;exact q.elim
     | rt ρ' r=>
       rw[e]at q
       cases r with
       |al ys=>exact q.elim
       |fr ys=>exact q.elim
       |sh y=>exact fun v σ' S' H' I' s' rr=>let ⟨Fc',E'⟩:=I'.KY (np:=ps.length) a.sh;q v S' H' Fc' E' rr
     | exc ρ' c fs=>
       rw[e]at q
       exact fun b C σ' S' H' I' s' x H2 g2=>let ⟨Fc',E'⟩:=(I'.same g2).KY (np:=ps.length) a.sh;q b C S' H2 Fc' E' (x.mono (aK.refl _) g2)
   . exact q.elim
def AR1(K:PySem.W.Frag)(S H:Hp)(ρ:ag)(σ:St):Arg->Sl->V->Prop
 |.e _,.sh x,v=>Rep K S x v
 |.t i mp,.tr true u,v=>∃ io t π v0,ρ[i]?=some (some (.tr io t)) /\ mp ρ=some π /\ t.get π=some u /\ σ[i]?=some (some v0) /\ kD H v0 π v
 |.b i mp,.bo u,v=>∃ t π v0,gp i ρ=some t /\ mp ρ=some π /\ t.get π=some u /\ σ[i]?=some (some v0) /\ kD H v0 π v
 |_,_,_=>False
def ARs(K:PySem.W.Frag)(S H:Hp)(ρ:ag)(σ:St):List Arg->List Sl->List V->Prop
 |[],ss,vs=>ss=[] /\ vs=[]
 |a ::as,ss,vs=>∃ s sr v vr,ss=s ::sr /\ vs=v ::vr /\ AR1 K S H ρ σ a s v /\ ARs K S H ρ σ as sr vr
theorem AR1.mono{a:Arg}{s:Sl}{v:V}(h:AR1 K S H ρ σ a s v)(s1:aK S S')(g:aK H H'):AR1 K S' H' ρ σ a s v:=by
 cases a with
 |e me=>cases s<;>first|exact h.elim|exact Rep.mono s1 h
 | t i mp=>
   cases s with
   | tr io u=>
     cases io with
     |false=>exact h.elim
     |true=>obtain⟨io,t,π,v0,h1,h2,h3,h4,h5⟩:=h;exact⟨io,t,π,v0,h1,h2,h3,h4,h5.mono g⟩
   |_=>exact h.elim
 | b i mp=>
   cases s with
   |bo u=>obtain⟨t,π,v0,h1,h2,h3,h4,h5⟩:=h;exact⟨t,π,v0,h1,h2,h3,h4,h5.mono g⟩
   |_=>exact h.elim
theorem ARs.at{as:List Arg}:∀{ss:List Sl} {vs:List V} {k:Nat} {a:Arg},ARs K S H ρ σ as ss vs->as[k]?=some a->∃ s v,ss[k]?=some s /\ vs[k]?=some v /\ AR1 K S H ρ σ a s v:=by
 induction as with
 |nil=>intro ss vs k a _ e;simp at e
 | cons b as ih=>
   rintro ss vs k a ⟨s,sr,v,vr,rfl,rfl,h1,h2⟩ e
   cases k with
   |zero=>simp at e;subst e;exact⟨s,v,rfl,rfl,h1⟩
   |succ k=>simp at e;obtain⟨s',v',e1,e2,r⟩:=ih h2 e;exact⟨s',v',by simpa using e1,by simpa using e2,r⟩
theorem ARs.len{as:List Arg}:∀{ss:List Sl} {vs:List V},ARs K S H ρ σ as ss vs->ss.length=as.length /\ vs.length=as.length:=by
 induction as with
 |nil=>intro ss vs h;rw[h.1,h.2];exact⟨rfl,rfl⟩
 | cons b as ih=>
   rintro ss vs ⟨s,sr,v,vr,rfl,rfl,h1,h2⟩
   have:=ih h2;simp[this]
def JAI(K:PySem.W.Frag)(cls:String->Option Addr)(t:TA)(as:List Arg):Prop:=∀ Av G S₀ ρ σ S H Q ss,SR K cls Av G S₀ ρ σ S H->jT as ρ=some ss->(∀ vs S' H',bj S H S' H'->ARs K S' H' ρ σ as ss vs->Q vs H')->t σ H Q
def JA1(K:PySem.W.Frag)(cls:String->Option Addr)(te:TE)(a:Arg):Prop:=∀ Av G S₀ ρ σ S H Q s,SR K cls Av G S₀ ρ σ S H->nv a ρ=some s->(∀ v S' H',bj S H S' H'->AR1 K S' H' ρ σ a s v->Q v H')->te σ H Q
theorem CW{te:TE}{me:ag->OE}(h:JE K cls W te me):JA1 K cls te (.e me):=by
 intro Av G S₀ ρ σ S H Q s I e k;unfold nv at e
 dsimp only at e
 refine h Av G S₀ ρ σ S H Q I ?_
 cases em:me ρ with
 |exc c fs=>rw[em]at e;cases e
 |bad=>rw[em]at e;cases e
 | ok r=>
   rw[em]at e;obtain⟨x,e1,rfl⟩:=Option.map_eq_some_iff.mp e;intro v S1 H1 w1 r1;obtain⟨S2,w2,s2,rx⟩:=r1.share w1 e1;exact k v S2 H1 w2 rx
theorem qJ{te:TE}{i:Nat}{mp:MP}(h:JP K cls te i mp):JA1 K cls te (.t i mp):=by
 intro Av G S₀ ρ σ S H Q s I e k;unfold nv at e
 dsimp only at e
 split at e
 . rename_i io t hi;obtain⟨u,e1,rfl⟩:=Option.map_eq_some_iff.mp e;obtain⟨π,e2,e3⟩:=Option.bind_eq_some_iff.mp e1;obtain⟨v0,hv⟩:=I.val hi
   exact h.at I hi hv e2 e3 fun w S1 H1 w1 I1 wk=>k w S1 H1 w1 ⟨io,t,π,v0,hi,e2,e3,hv,wk⟩
 . cases e
theorem Jw{te:TE}{i:Nat}{mp:MP}(h:JP K cls te i mp):JA1 K cls te (.b i mp):=by
 intro Av G S₀ ρ σ S H Q s I e k;unfold nv at e
 dsimp only at e
 obtain⟨u,e1,rfl⟩:=Option.map_eq_some_iff.mp e;unfold subAt at e1;split at e1
 . rename_i t et;split at e1
   . rename_i π eπ;obtain⟨v0,fp,hv,_⟩:=I.tree et
     exact h Av G S₀ ρ σ S H Q v0 t π I et hv eπ (by rw[e1];rfl) fun w S1 H1 w1 wk=>k w S1 H1 w1 ⟨t,π,v0,et,eπ,e1,hv,wk⟩
   . cases e1
 . cases e1
theorem o9:JAI K cls lZ []:=by
 intro Av G S₀ ρ σ S H Q ss I e k;cases e;exact k [] S H (bj.refl I.sh) ⟨rfl,rfl⟩
theorem fV{te:TE}{t:TA}{a:Arg}{as:List Arg}(h:JA1 K cls te a)(r:JAI K cls t as):JAI K cls (jN te t) (a ::as):=by
 intro Av G S₀ ρ σ S H Q ss I e k;unfold jT at e;obtain⟨s,e1,e2⟩:=Option.bind_eq_some_iff.mp e;obtain⟨sr,e3,rfl⟩:=Option.map_eq_some_iff.mp e2
 refine h Av G S₀ ρ σ S H _ s I e1 fun v S1 H1 w1 h1=>?_
 refine r Av G S₀ ρ σ S1 H1 _ sr (I.grow w1) e3 fun vs S2 H2 w2 h2=>?_
 exact k (v ::vs) S2 H2 (w1.trans w2) ⟨s,sr,v,vs,rfl,rfl,h1.mono w2.s w2.g,h2⟩
end
section
variable{K:PySem.W.Frag}{cls:String->Option Addr}{W:XW}{Av G S₀ S S' H H' B B':Hp}{ρ:ag}{σ:St}{Q:VK}{F Fc Fc':Nat->List Addr}
def dA:List Arg->List Nat
 |[]=>[]
 |.t i _ ::as=>i ::dA as
 |_ ::as=>dA as
def uI:List Arg->List Nat
 |[]=>[]
 |.b i _ ::as=>i ::uI as
 |_ ::as=>uI as
def argsOk(as:List Arg):Bool:=decide (dA as).Nodup&&(uI as).all fun i=>!(dA as).contains i
theorem ic{as:List Arg}{k i:Nat}{mp:MP}(h:as[k]?=some (.t i mp)):i∈dA as:=by
 induction as generalizing k with
 |nil=>simp at h
 | cons a as ih=>
   cases k with
   |zero=>simp at h;subst h;simp[dA]
   | succ k=>
     simp at h;have:=ih h
     cases a<;>simp[dA,this]
theorem B1{as:List Arg}{k i:Nat}{mp:MP}(h:as[k]?=some (.b i mp)):i∈uI as:=by
 induction as generalizing k with
 |nil=>simp at h
 | cons a as ih=>
   cases k with
   |zero=>simp at h;subst h;simp[uI]
   | succ k=>
     simp at h;have:=ih h
     cases a<;>simp[uI,this]
theorem oS{as:List Arg}(nd:(dA as).Nodup){j k i:Nat}{mp mp':MP}(h:as[j]?=some (.t i mp))(h':as[k]?=some (.t i mp')):j=k:=by
 induction as generalizing j k with
 |nil=>simp at h
 | cons a as ih=>
   cases j with
   | zero=>
     simp at h;subst h
     cases k with
     |zero=>rfl
     | succ k=>
       simp at h';have:=ic h';simp[dA]at nd;exact absurd this nd.1
   | succ j=>
     cases k with
     | zero=>
       simp at h';subst h';simp at h;have:=ic h;simp[dA]at nd;exact absurd this nd.1
     | succ k=>
       simp at h h'
       have nd':(dA as).Nodup:=by
        cases a with
        |t i' mp=>simp[dA]at nd;exact nd.2
        |e me=>exact nd
        |b i' mp=>exact nd
       rw[ih nd' h h']
theorem um{as:List Arg}{i:Nat}(h:i∈dA as):∃(k:Nat) (mp:MP),as[k]?=some (.t i mp):=by
 induction as with
 |nil=>simp[dA]at h
 | cons a as ih=>
   cases a with
   | t j mp=>
     simp[dA]at h
     rcases h with h|h
     . subst h;exact⟨0,mp,rfl⟩
     . obtain⟨k,mp',e⟩:=ih h;exact⟨k+1,mp',by simpa using e⟩
   |e me=>obtain⟨k,mp',e⟩:=ih h;exact⟨k+1,mp',by simpa using e⟩
   |b j mp=>obtain⟨k,mp',e⟩:=ih h;exact⟨k+1,mp',by simpa using e⟩
theorem uX{as:List Arg}{ρ₀:ag}:∀{us:List (Option OV)} {ρ:ag} {i:Nat},i∉dA as->(fQ ρ₀ as us ρ)[i]?=ρ[i]?:=by
 induction as with
 |nil=>intro us ρ i _;rfl
 | cons a as ih=>
   intro us ρ i h;unfold fQ
   cases a with
   |e me=>rw[ih h];rfl
   |b j mp=>rw[ih h];rfl
   | t j mp=>
     simp[dA]at h;rw[ih h.2]
     have:∀ x:Option Sl,(ρ.set j x)[i]?=ρ[i]?:=fun x=>List.getElem?_set_ne (Ne.symm h.1)
     cases us.head?.join with
     |none=>exact this _
     | some u=>
       unfold kT;dsimp only;split
       . split
         . exact this _
         . exact this _
       . exact this _
theorem BI{as:List Arg}{ρ₀:ag}:∀{us:List (Option OV)} {ρ:ag} {i k:Nat} {mp:MP} {s:Sl},(dA as).Nodup->as[k]?=some (.t i mp)->(fQ ρ₀ as us ρ)[i]?=some (some s) ->
  ∃ io t π u,us[k]?=some (some u) /\ ρ[i]?=some (some (.tr io t)) /\ mp ρ₀=some π /\ s=.tr io (t.put π u):=by
 induction as with
 |nil=>intro us ρ i k mp s _ h;simp at h
 | cons a as ih=>
   intro us ρ i k mp s nd h e;unfold fQ at e
   cases k with
   | zero=>
     simp at h;subst h;simp[dA]at nd;rw[uX nd.1]at e
     cases us with
     | nil=>
       unfold kT at e;simp at e;rw[List.getElem?_set]at e;simp at e
     | cons u us=>
       cases u with
       | none=>
         unfold kT at e;simp at e;rw[List.getElem?_set]at e;simp at e
       | some u=>
         unfold kT at e;simp only[List.head?_cons,Option.join_some]at e;split at e
         . rename_i io t hi;split at e
           . rename_i π hπ;rw[List.getElem?_set]at e;simp at e
             exact⟨io,t,π,u,rfl,hi,hπ,e.2.symm⟩
           . rw[List.getElem?_set]at e;simp at e
         . rw[List.getElem?_set]at e;simp at e
   | succ k=>
     simp at h
     have nd':(dA as).Nodup:=by
      cases a with
      |t i' mp=>simp[dA]at nd;exact nd.2
      |e me=>exact nd
      |b i' mp=>exact nd
     obtain⟨io,t,π,u,e1,e2,e3,e4⟩:=ih nd' h e
     refine⟨io,t,π,u,?_,?_,e3,e4⟩
     . cases us with
       |nil=>simp at e1
       |cons _ us=>simpa using e1
     . cases a with
       |e me=>exact e2
       |b j mp=>exact e2
       | t j mp'=>
         have hij:i≠j:=by
          intro z;subst z;simp[dA]at nd;exact nd.1 (ic h)
         have:∀ x:Option Sl,(ρ.set j x)[i]?=ρ[i]?:=fun x=>List.getElem?_set_ne (Ne.symm hij)
         cases q:us.head?.join with
         |none=>rw[q]at e2;unfold kT at e2;simp only at e2;rw[this]at e2;exact e2
         | some u=>
           rw[q]at e2;unfold kT at e2;simp only at e2;split at e2
           . split at e2
             . rw[this]at e2;exact e2
             . rw[this]at e2;exact e2
           . rw[this]at e2;exact e2
theorem AV{as:List Arg}{ρ₀:ag}:∀{us:List (Option OV)} {ρ:ag},(fQ ρ₀ as us ρ).length=ρ.length:=by
 induction as with
 |nil=>intro us ρ;rfl
 | cons a as ih=>
   intro us ρ;unfold fQ;rw[ih];unfold kT;split
   . split
     . split<;>simp
     . simp
   . simp
   . rfl
theorem SR.Nj{as:List Arg}{ss:List Sl}{vs:List V}(I:SR K cls Av G S₀ ρ σ S H)(ok:argsOk as=true)(h:ARs K S H ρ σ as ss vs):
  ∃ Fc,GB K cls ss vs S H Fc /\ ∀ outs S' H' Fc',EE K cls vs S H Fc outs S' H' Fc'->SR K cls Av G S₀ (fQ ρ as outs ρ) σ S' H':=by
 obtain⟨F,J⟩:=I;unfold argsOk at ok;rw[Bool.and_eq_true,decide_eq_true_eq]at ok;obtain⟨nd,hb⟩:=ok
 have cell:∀ k:Nat,∃ d:List Addr×List Addr,(∀ i mp,as[k]?=some (.t i mp)->∃ io t π u v0 w,ss[k]?=some (.tr true u) /\ vs[k]?=some w /\ ρ[i]?=some (some (.tr io t)) /\ mp ρ=some π /\ t.get π=some u /\ σ[i]?=some (some v0) /\ bA K cls S H u w d.1 /\ (F i).Perm (d.1++d.2) /\ (d.1++d.2).Nodup /\ (io=true->Av i=some (.lst [v0])) /\
   ∀ S' H' u' f',aK S S'->bA K cls S' H' u' w f'->(∀ a∈d.2,∀ o,H a=some o->H' a=some o)->∃ g,bA K cls S' H' (t.put π u') v0 g /\ g.Perm (f'++d.2)) /\ ((∀ i mp,as[k]?≠some (.t i mp))->d=([],[])):=by
  intro k
  by_cases hk:∃ i mp,as[k]?=some (.t i mp)
  . obtain⟨i,mp,e⟩:=hk;obtain⟨s,w,es,ev,r⟩:=h.at e
    cases s with
    | tr io' u=>
      cases io' with
      |false=>exact r.elim
      | true=>
        obtain⟨io,t,π,v0,h1,h2,h3,h4,h5⟩:=r;obtain⟨v,ev',ro,ndf,gs,hio⟩:=J.own i _ h1;rw[h4]at ev';cases ev';obtain⟨w',f1,rest,wk,r1,p1,c1⟩:=ro.focus h3;have:=h5.inj wk;subst this
        refine⟨(f1,rest),fun i' mp' e'=>?_,fun z=>absurd e (z i mp)⟩
        rw[e]at e'
        cases e'
        exact⟨io,t,π,u,v0,w,es,ev,h1,h2,h3,h4,r1,p1,p1.nodup_iff.mp ndf,hio,c1⟩
    |sh x=>exact r.elim
    |ow x=>exact r.elim
    |ex c fs=>exact r.elim
    |bo x=>exact r.elim
  . exact⟨([],[]),fun i mp e=>absurd ⟨i,mp,e⟩ hk,fun _=>rfl⟩
 obtain⟨d,hd⟩:=Classical.axiomOfChoice cell
 have tOf:∀ k a,a∈(d k).1->∃ i mp,as[k]?=some (.t i mp) /\ a∈F i:=by
  intro k a ha
  by_cases hk:∃ i mp,as[k]?=some (.t i mp)
  . obtain⟨i,mp,e⟩:=hk;obtain⟨io,t,π,u,v0,w,_,_,_,_,_,_,_,p1,_⟩:=(hd k).1 i mp e
    exact⟨i,mp,e,p1.mem_iff.mpr (List.mem_append_left _ ha)⟩
  . rw[(hd k).2 fun i mp e=>hk ⟨i,mp,e⟩]at ha;cases ha
 have hlen:=h.len
 have vn:∀ i a,a∈F i->(∀ k mp,as[k]?=some (.t i mp)->a∉(d k).1)->∀ k,a∉(d k).1:=by
  intro i a ha hn k hk;obtain⟨i',mp,e,ha'⟩:=tOf k a hk;have:=J.apart i i' a ha ha';subst this;exact hn k mp e hk
 refine⟨fun k=>(d k).1,⟨J.sh,by rw[hlen.1,hlen.2],fun k s es=>?_,fun j k a h1 h2=>?_,fun k a ha=>?_⟩,fun outs S' H' Fc' E=>?_⟩
 . have hk:k<as.length:=by rw[<- hlen.1];exact(List.getElem?_eq_some_iff.mp es).1
   obtain⟨s',w,es',ev,r⟩:=h.at (k:=k) (a:=as[k]) (by simp[hk]);rw[es]at es';cases es'
   refine⟨w,ev,?_⟩
   cases q:as[k]with
   | e me=>
     rw[q]at r
     have hz:=(hd k).2 fun i mp e=>by rw[List.getElem?_eq_getElem hk,q]at e;cases e
     cases s<;>first|exact r.elim|exact⟨by rw[hz],r⟩
   | t i mp=>
     have eq:as[k]?=some (.t i mp):=by rw[List.getElem?_eq_getElem hk,q]
     obtain⟨io,t,π,u,v0,w',es',ev',_,_,_,_,r1,_,nd1,_⟩:=(hd k).1 i mp eq;rw[es]at es';cases es';rw[ev]at ev';cases ev'
     exact⟨r1,(List.nodup_append.mp nd1).1⟩
   | b i mp=>
     have eq:as[k]?=some (.b i mp):=by rw[List.getElem?_eq_getElem hk,q]
     rw[q]at r
     have hz:=(hd k).2 fun i mp e=>by rw[eq]at e;cases e
     cases s with
     | bo u=>
       obtain⟨t,π,v0,h1,h2,h3,h4,h5⟩:=r
       refine⟨by rw[hz],?_⟩
       have nt:i∉dA as:=by
        have:=List.all_eq_true.mp hb i (B1 eq)
        simpa using this
       have ro:∃ f,bA K cls S (minus H fun k=>(d k).1) t v0 f:=by
        unfold gp at h1
        cases q1:ρ[i]? with
        |none=>rw[q1]at h1;cases h1
        | some o=>
          cases o with
          |none=>rw[q1]at h1;cases h1
          | some s1=>
            rw[q1]at h1;obtain⟨v,ev',r⟩:=J.own i s1 q1;rw[h4]at ev';cases ev'
            cases s1 with
            | tr io t'=>
              cases h1
              exact⟨_,r.1.mono (aK.refl _) fun a ha o ho=>by
               rw[j1 (vn i a ha fun k' mp' e'=>absurd (ic e') nt)];exact ho⟩
            | bo t'=>
              cases h1;obtain⟨_,f,r⟩:=r
              exact⟨f,r.mono (aK.refl _) fun a ha o ho=>by
               rw[j1 fun k' hk'=>?_]
               . exact J.gh _ _ ho
               . obtain⟨i',mp',_,ha'⟩:=tOf k' a hk'
                 rw[(J.live i' a ha').2.1]at ho;cases ho⟩
            |sh x=>cases h1
            |ow x=>cases h1
            |ex c fs=>cases h1
       obtain⟨f,ro⟩:=ro;obtain⟨w',f1,rest,wk,r1,_,_⟩:=ro.focus h3;have:=h5.inj (wk.mono wN);subst this
       exact⟨f1,r1⟩
     |sh x=>exact r.elim
     |ow x=>exact r.elim
     |ex c fs=>exact r.elim
     |tr io x=>exact r.elim
 . obtain⟨i,mp,e1,m1⟩:=tOf j a h1;obtain⟨i',mp',e2,m2⟩:=tOf k a h2;have:=J.apart i i' a m1 m2;subst this;exact oS nd e1 e2
 . obtain⟨i,mp,e1,m1⟩:=tOf k a ha
   exact⟨(J.live i a m1).1,(J.live i a m1).2.2⟩
 .
  have noS:∀ i a,a∈F i->(∀ k,a∉(d k).1)->S' a=none:=fun i a ha hn=>by
   cases z:S' a with
   |none=>rfl
   | some o=>
     obtain⟨⟨o',h1,_⟩,_,h3⟩:=J.live i a ha
     rcases E.new a (by rw[z];simp)with y|y|⟨k,y⟩
     . exact absurd h3 y
     . rw[h1]at y;cases y
     . exact absurd y (hn k)
  have keep:∀ a o,(∀ k,a∉(d k).1)->H a=some o->H' a=some o:=fun a o hn ho=>E.keep a o (by rw[j1 hn];exact ho)
  have restOff:∀ k i mp,as[k]?=some (.t i mp)->∀ a∈(d k).2,a∈F i /\ ∀ k',a∉(d k').1:=fun k i mp e a ha=>by
   obtain⟨io,t,π,u,v0,w,_,_,_,_,_,_,_,p1,nd1,_⟩:=(hd k).1 i mp e
   have m:a∈F i:=p1.mem_iff.mpr (List.mem_append_right _ ha)
   refine⟨m,vn i a m fun k' mp' e' hk'=>?_⟩
   have:=oS nd e e';subst this
   exact(List.nodup_append.mp nd1).2.2 a hk' a ha rfl
  have gcell:∀ k:Nat,∃ g:List Addr,∀ i mp u',as[k]?=some (.t i mp)->outs[k]?=some (some u')->∀ io t π,ρ[i]?=some (some (.tr io t))->mp ρ=some π->∃ v0,σ[i]?=some (some v0) /\ (io=true->Av i=some (.lst [v0])) /\ bA K cls S' H' (t.put π u') v0 g /\ g.Perm (Fc' k++(d k).2):=by
   intro k
   by_cases hk:∃ i mp u',as[k]?=some (.t i mp) /\ outs[k]?=some (some u')
   . obtain⟨i,mp,u',e,eo⟩:=hk;obtain⟨io,t,π,u,v0,w,es,ev,h1,h2,h3,h4,r1,p1,nd1,hio,c1⟩:=(hd k).1 i mp e;obtain⟨w',ew,r',ndf'⟩:=E.out k u' eo;rw[ev]at ew;cases ew
     obtain⟨g,rg,pg⟩:=c1 S' H' u' (Fc' k) E.s r' fun a ha o ho=>keep a o (restOff k i mp e a ha).2 ho
     refine⟨g,fun i' mp' u'' e' eo' io' t' π' h1' h2'=>?_⟩
     rw[e]at e';cases e';rw[eo]at eo';cases eo';rw[h1]at h1';cases h1';rw[h2]at h2';cases h2'
     exact⟨v0,h4,hio,rg,pg⟩
   . exact⟨[],fun i mp u' e eo=>absurd ⟨i,mp,u',e,eo⟩ hk⟩
  obtain⟨g,hg⟩:=Classical.axiomOfChoice gcell
  have fcell:∀ i:Nat,∃ f:List Addr,(i∉dA as->f=F i) /\ ∀ k mp,as[k]?=some (.t i mp)->((∃ io t π u',ρ[i]?=some (some (.tr io t)) /\ mp ρ=some π /\ outs[k]?=some (some u'))->f=g k) /\ ((¬ ∃ io t π u',ρ[i]?=some (some (.tr io t)) /\ mp ρ=some π /\ outs[k]?=some (some u'))->f=[]):=by
   intro i
   by_cases hi:i∈dA as
   . obtain⟨k,mp,e⟩:=um hi
     by_cases hx:∃ io t π u',ρ[i]?=some (some (.tr io t)) /\ mp ρ=some π /\ outs[k]?=some (some u')
     . refine⟨g k,fun z=>absurd hi z,fun k' mp' e'=>?_⟩
       have:=oS nd e e';subst this;rw[e]at e';cases e'
       exact⟨fun _=>rfl,fun z=>absurd hx z⟩
     . refine⟨[],fun z=>absurd hi z,fun k' mp' e'=>?_⟩
       have:=oS nd e e';subst this;rw[e]at e';cases e'
       exact⟨fun z=>absurd z hx,fun _=>rfl⟩
   . exact⟨F i,fun _=>rfl,fun k mp e=>absurd (ic e) hi⟩
  obtain⟨F',hF'⟩:=Classical.axiomOfChoice fcell
  have memF:∀ i a,a∈F' i->(i∉dA as /\ a∈F i /\ ∀ k,a∉(d k).1) \/ (∃ k mp,as[k]?=some (.t i mp) /\ F' i=g k /\ ((a∈Fc' k) \/ (a∈F i /\ ∀ k,a∉(d k).1)) /\ ∃ io t π u',ρ[i]?=some (some (.tr io t)) /\ mp ρ=some π /\ outs[k]?=some (some u')):=by
   intro i a ha
   by_cases hi:i∈dA as
   . obtain⟨k,mp,e⟩:=um hi
     by_cases hx:∃ io t π u',ρ[i]?=some (some (.tr io t)) /\ mp ρ=some π /\ outs[k]?=some (some u')
     . have e1:=((hF' i).2 k mp e).1 hx;refine .inr ⟨k,mp,e,e1,?_,hx⟩;obtain⟨io,t,π,u',h1,h2,h3⟩:=hx;obtain⟨v0,_,_,rg,pg⟩:=hg k i mp u' e h3 io t π h1 h2;rw[e1]at ha
       rcases List.mem_append.mp (pg.mem_iff.mp ha)with z|z
       . exact .inl z
       . exact .inr (restOff k i mp e a z)
     . rw[((hF' i).2 k mp e).2 hx]at ha;cases ha
   . have e1:=(hF' i).1 hi;rw[e1]at ha;exact .inl ⟨hi,ha,vn i a ha fun k mp e=>absurd (ic e) hi⟩
  refine⟨F',?_,J.s0.trans E.s,E.sh,fun b hbn=>?_,fun i s e=>?_,fun i j a h1 h2=>?_,fun i a ha=>?_,?_⟩
  . intro b u hu;refine keep b u (fun k hk=>?_) (J.gh b u hu);obtain⟨i,mp,_,m⟩:=tOf k b hk;rw[(J.live i b m).2.1]at hu;cases hu
  . rcases E.new b hbn with z|z|⟨k,z⟩
    . exact J.new b z
    . exact .inr (J.gh.free z)
    . obtain⟨i,mp,_,m⟩:=tOf k b z;exact .inr (J.live i b m).2.1
  . by_cases hi:i∈dA as
    . obtain⟨k,mp,ek⟩:=um hi;obtain⟨io,t,π,u,e1,e2,e3,rfl⟩:=BI nd ek e;obtain⟨v0,h1,hio,rg,pg⟩:=hg k i mp u ek e1 io t π e2 e3;have e4:=((hF' i).2 k mp ek).1 ⟨io,t,π,u,e2,e3,e1⟩;rw[e4];obtain⟨w',ew,r',ndf'⟩:=E.out k u e1
      refine⟨v0,h1,rg,pg.nodup_iff.mpr (List.nodup_append.mpr ⟨ndf',?_,fun a ha b hb' z=>?_⟩),fun a ha=>?_,hio⟩
      . obtain⟨_,_,_,_,_,_,_,_,_,_,_,_,_,_,nd1,_⟩:=(hd k).1 i mp ek
        exact(List.nodup_append.mp nd1).2.1
      . subst z;obtain⟨m,off⟩:=restOff k i mp ek a hb';have:=(E.live k a ha).1;rw[j1 off]at this;obtain⟨⟨o,ho,_⟩,_⟩:=J.live i a m;rw[this]at ho;cases ho
      . rcases List.mem_append.mp (pg.mem_iff.mp ha)with z|z
        . refine⟨?_,(E.live k a z).2⟩
          rcases og (E.live k a z).1 with y|⟨k',y⟩
          . exact J.gh.free y
          . obtain⟨i',mp',_,m⟩:=tOf k' a y
            exact(J.live i' a m).2.1
        . obtain⟨m,off⟩:=restOff k i mp ek a z
          exact⟨(J.live i a m).2.1,noS i a m off⟩
    . rw[uX hi]at e;obtain⟨v,ev,r⟩:=J.own i s e;rw[(hF' i).1 hi]
      have off:∀ a∈F i,∀ k,a∉(d k).1:=fun a ha=>vn i a ha fun k mp e=>absurd (ic e) hi
      exact⟨v,ev,r.mono E.s (fun a ha o ho=>keep a o (off a ha) ho) (fun b o hx ho=>keep b o (fun k hk=>by
       obtain⟨i',mp',_,m⟩:=tOf k b hk;obtain⟨⟨o',h1,h2⟩,_⟩:=J.live i' b m
       rw[ho]at h1;cases h1;rw[hx]at h2;cases h2) ho) fun a ha=>noS i a ha (off a ha)⟩
  .
   have key:∀ i j a,a∈F' i->a∈F' j->(∃ k,a∈Fc' k)->∃ k mp,as[k]?=some (.t i mp) /\ a∈Fc' k:=by
    intro i j a ha _ ⟨k0,hk0⟩
    have no:∀ i',a∈F i'->¬ ∀ k,a∉(d k).1:=fun i' m off=>by
     have:=(E.live k0 a hk0).1;rw[j1 off]at this;obtain⟨⟨o,ho,_⟩,_⟩:=J.live i' a m;rw[this]at ho;cases ho
    rcases memF i a ha with⟨_,m,off⟩|⟨k,mp,e,_,z,_⟩
    . exact absurd off (no i m)
    . rcases z with z|⟨m,off⟩
      . exact⟨k,mp,e,z⟩
      . exact absurd off (no i m)
   by_cases hk:∃ k,a∈Fc' k
   . obtain⟨k1,mp1,e1,z1⟩:=key i j a h1 h2 hk;obtain⟨k2,mp2,e2,z2⟩:=key j i a h2 h1 hk;have:=E.apart k1 k2 a z1 z2;subst this;rw[e1]at e2;cases e2;rfl
   . have fromF:∀ i,a ∈ F' i -> a ∈ F i:=fun i ha=>by
      rcases memF i a ha with⟨_,m,_⟩|⟨k,mp,e,_,z,_⟩
      . exact m
      . rcases z with z|⟨m,_⟩
        . exact absurd ⟨k,z⟩ hk
        . exact m
     exact J.apart i j a (fromF i h1) (fromF j h2)
  . rcases memF i a ha with⟨_,m,off⟩|⟨k,mp,e,eg,z,io,t,π,u',x1,x2,x3⟩
    . obtain⟨⟨o,ho,hx⟩,hg',_⟩:=J.live i a m
      exact⟨⟨o,keep a o off ho,hx⟩,hg',noS i a m off⟩
    . obtain⟨v0,_,_,rg,pg⟩:=hg k i mp u' e x3 io t π x1 x2;rw[eg]at ha
      refine⟨rg.live a ha,?_⟩
      rcases z with z|⟨m,off⟩
      . refine⟨?_,(E.live k a z).2⟩
        rcases og (E.live k a z).1 with y|⟨k',y⟩
        . exact J.gh.free y
        . obtain⟨i',mp',_,m⟩:=tOf k' a y
          exact(J.live i' a m).2.1
      . exact⟨(J.live i a m).2.1,noS i a m off⟩
  . rw[AV];exact J.len
end
end L2.P
namespace L2.E
open PySem PySem.Spec PyProof.Rows L2
section
variable{X:Cx}{k:Nat}{f C:Addr}{fd:FuncData}{ps:List Str}{sp:Sp}{ds:List Value}{W:XW}{x m:Str}{p pos apos:Pos}{e o:Expr}{es:List Expr}{ta:TE}{t:TA}
def yR(C:Addr)(m:Str)(sp:Sp)(W:XW)(ta:TE)(t:TA):TE:=fun σ H Q=>ta σ H fun x H1=>∃ a dx fs,x=.ref a /\ H1 a=some (.ins C dx fs) /\ fs.lookup m=none /\
 t σ H1 fun vs H2=>sp (x ::vs) H2 Q fun C a H'=>W C a σ H'
theorem AJ{pl:Sem Bool}(he:QE X o ta)(c:Cls X.K C)(hm:Meth X.K C m f)(F:cx X.prog X.w X.K X.mg X.base (CXE X.prog X.w) k f fd ps sp)(hr:iM k X.A)(hb:Binds X.K fd ps [])(hx:Thr X W)(ha:QA X (e ::es) t)
  (hst:starEach (e ::es) X.env=(false,eval e X.env) ::starEach es X.env:=by rfl) (hpl:(backTo pos (starEach es X.env)).any (·.1)=false:=by rfl)
  (ht:eval (.Call (.Attribute o m apos) (e ::es) [] pos) X.env=(do
    let ov <- eval o X.env
    standAt apos.atName
    let (f,first) <- holding [ov] (getMethod ov m pl)
    callWith pos f first (backTo pos (starEach (e ::es) X.env)) (backToKw pos (keywordEach [] X.env))):=by rfl):
  QE X (.Call (.Attribute o m apos) (e ::es) [] pos) (yR C m sp W ta t):=⟨by
 intro pins s σ H Q I h;refine PySem.W.methodCall_KW (pl:=pl) (thn (he.out pins s σ H _ I h) fun u s1 ⟨x,H1,I1,rx,a,dx,fs,ex,ea,l,q⟩=>?_) ht;subst ex
 obtain rfl:u=Value.ref a:=rx
 refine vM I1 ea c hm l ?_;refine PySem.W.callWith_K (first:=[.ref a]) (h₀:=X.base) I.ok.mod.kin hm.kp (thn (ha.out pos pins s1 σ H1 _ I1 q) fun us s2 ⟨vs,H2,I2,r,q2⟩=>⟨I2.kIn,?_⟩) hst hpl
 exact vx (us:=.ref a ::us) (vs:=.ref a ::vs) (dvs:=[]) F hr hb .nil hx I2 (.cons rfl r) (by rw[List.append_nil];exact q2)⟩
theorem yg{pl:Sem Bool}(he:QE X o ta)(c:Cls X.K C)(hm:Meth X.K C m f)(F:cx X.prog X.w X.K X.mg X.base (CXE X.prog X.w) k f fd ps sp)(hr:iM k X.A)(hb:Binds X.K fd ps [])(hx:Thr X W)
  (ht:eval (.Call (.Attribute o m apos) [] [] pos) X.env=(do
    let ov <- eval o X.env
    standAt apos.atName
    let (f,first) <- holding [ov] (getMethod ov m pl)
    callWith pos f first (backTo pos (starEach [] X.env)) (backToKw pos (keywordEach [] X.env))):=by rfl):
  QE X (.Call (.Attribute o m apos) [] [] pos) (yR C m sp W ta lZ):=⟨by
 intro pins s σ H Q I h;refine PySem.W.methodCall_KW (pl:=pl) (thn (he.out pins s σ H _ I h) fun u s1 ⟨x,H1,I1,rx,a,dx,fs,ex,ea,l,q⟩=>?_) ht;subst ex
 obtain rfl:u=Value.ref a:=rx
 refine vM I1 ea c hm l ?_
 exact PySem.W.callWith_K0 (first:=[.ref a]) I1.kIn hm.kp (vx (us:=[.ref a]) (vs:=[.ref a]) (dvs:=[]) F hr hb .nil hx I1 (.cons rfl .nil) q)⟩
theorem xG{x:Str}(F:cx X.prog X.w X.K X.mg X.base (CXE X.prog X.w) k f fd ps sp)(hr:iM k X.A)(hg:Gl X x)(hm:X.mg x=some (.ref f))(hk:PySem.W.keepIn X.K (.ref f)=true)(hb:Binds X.K fd ps [])(hx:Thr X W)
  (hdb:(x==("__debug__":Str))=false:=by decide):QE X (.Call (.Name x p) [] [] pos) (sP sp [] W lZ):=⟨D6 F hr hg hm hk hb .nil hx hdb⟩
theorem Fv(M:Mk X.K C f)(F:cx X.prog X.w X.K X.mg X.base (CXE X.prog X.w) k f fd ps sp)(hr:iM (k+1) X.A)(hg:Gl X x)(hm:X.mg x=some (.ref C))(hb:Binds X.K fd ps [])(hdb:(x==("__debug__":Str))=false:=by decide):
  QE X (.Call (.Name x p) [] [] pos) (GH C sp [] (fun _ _ _=>False) lZ):=⟨EY M F hr hg hm hb .nil (fun pins σ H s e s' I h=>by obtain⟨a,C,dx,H',_,_,_,_,_,_,z⟩:=h;exact z.elim) hdb⟩
theorem vP{f:Str}(he:QE X e ta)(hb:attributeBase e f X.env (eval e X.env)=eval e X.env:=by rfl):QE X (.Attribute e f pos) (KH X.K ta f):=⟨KU he.out hb⟩
theorem K5{f:Str}{value:Expr}{tv:TE}{pos':Pos}(ha:QE X o ta)(hv:QE X value tv)(hs:swapsWith value (some (.Attribute o f pos')) pos.line X.env=pure false:=by rfl):QS X (.Assign [.Attribute o f pos'] value pos) (LQ X.K ta tv f):=⟨Km ha.out hv.out hs⟩
end
end L2.E
namespace L2.P
open PySem PySem.Spec PyProof.Rows L2 L2.E
section
variable{K:PySem.W.Frag}{cls:String->Option Addr}{W:XW}{Av G S₀ S S' H H' B B':Hp}{ρ:ag}{σ:St}{Q:VK}{F Fc Fc':Nat->List Addr}
theorem SR.more{x:PV}{v:V}(I:SR K cls Av G S₀ ρ σ S H)(h:Rep K S x v):SR K cls Av G S₀ (ρ++[some (.sh x)]) (σ++[some v]) S H:=by
 obtain⟨F,J⟩:=I
 exact J.more (fp:=[]) (fun t e=>by cases e;exact⟨v,rfl,rfl,h⟩) (fun a ha=>nomatch ha) fun j a _ ha=>nomatch ha
theorem wV{f:List Sl->OI}{as:List Arg}{ss:List Sl}{vs:List V}{S1 H1:Hp}(ok:argsOk as=true)(I:SR K cls Av G S₀ ρ σ S1 H1)(s1:aK S S1)(ar:ARs K S1 H1 ρ σ as ss vs)
  (p:Jp K cls W Av G S₀ σ S Q (match f ss with
    |.ok x outs=>.ok (fQ ρ as outs ρ) (.sh x)
    |.exc c fs outs=>.exc (fQ ρ as outs ρ) c fs
    |.bad=>.bad)):spI K cls f vs H1 Q fun C a H'=>W C a σ H':=by
 obtain⟨Fc,A,fin⟩:=I.Nj ok ar
 refine⟨S1,ss,Fc,A,?_⟩
 cases e:f ss with
 |bad=>rw[e]at p;exact p
 |ok x outs=>rw[e]at p;exact fun v S' H' Fc' E r=>p v S' H' ((fin outs S' H' Fc' E).more r) (s1.trans E.s)
 |exc c fs outs=>rw[e]at p;exact fun a C S' H' Fc' E r=>p a C S' H' (fin outs S' H' Fc' E) (s1.trans E.s) r
theorem v9{f:List Sl->OI}{as:List Arg}{t:TA}(ok:argsOk as=true)(h:JAI K cls t as):JX K cls W (sP (spI K cls f) [] W t) (jw f as):=by
 intro Av G S₀ ρ σ S H Q I p;unfold jw at p
 cases e:jT as ρ with
 |none=>rw[e]at p;exact p.elim
 | some ss=>
   rw[e]at p
   refine h Av G S₀ ρ σ S H _ ss I e fun vs S1 H1 w1 ar=>?_
   show spI K cls f (vs++[]) H1 Q _;rw[List.append_nil];exact wV ok (I.grow w1) w1.s ar p
theorem CY{c:String}{m:Str}{C:Addr}{a:Arg}{s:Sl}{v:V}(hc:cls c=some C)(I:SR K cls Av G S₀ ρ σ S H)(r:AR1 K S H ρ σ a s v)(h:recv c m (some s)=true):∃ q dx us,v=.ref q /\ H q=some (.ins C dx us) /\ us.lookup m=none:=by
 have main:∀(ks:List Str) (ts:List OV) (f:List Addr),(c==c && !ks.contains m)=true->bA K cls S H (.ob c ks ts) v f->∃ q dx us,v=.ref q /\ H q=some (.ins C dx us) /\ us.lookup m=none:=by
  intro ks ts f hk ro;unfold bA at ro;obtain⟨q,C',dx,us,ff,rfl,hcl,hq,hd,hks,rfl,rs⟩:=ro;rw[hc]at hcl;cases hcl
  refine⟨q,dx,us,rfl,hq,?_⟩
  have hn:m∉us.map (·.1):=by rw[hks];simpa using hk
  clear hks hk rs hq
  induction us with
  |nil=>rfl
  | cons p us ih=>
    obtain⟨g,y⟩:=p;simp at hn
    have:(m==g)=false:=by simpa using hn.1
    simp[List.lookup,this,ih (by simpa using hn.2)]
 cases a with
 |e me=>cases s<;>first|exact r.elim|cases h
 | t i mp=>
   cases s with
   | tr io u=>
     cases io with
     |false=>cases h
     | true=>
       cases u with
       |sh x=>cases h
       |ol ts=>cases h
       |di x=>cases h
       |dt x=>cases h
       | ob c' ks ts=>
         obtain⟨io,t,π,v0,h1,h2,h3,h4,h5⟩:=r
         have h':(c'==c && !ks.contains m)=true:=h
         have hcc:c'=c:=by rw[Bool.and_eq_true]at h';simpa using h'.1
         subst hcc;obtain⟨v',fp,ev,ro⟩:=I.tree (i:=i) (t:=t) (by unfold gp;rw[h1];rfl);rw[h4]at ev;cases ev;obtain⟨w,f1,rest,wk,r1,_,_⟩:=ro.focus h3;have:=h5.inj wk;subst this;exact main ks ts f1 h' r1
   |sh x=>exact r.elim
   |ow x=>exact r.elim
   |ex c fs=>exact r.elim
   |bo x=>exact r.elim
 | b i mp=>
   cases s with
   | bo u=>
     cases u with
     |sh x=>cases h
     |ol ts=>cases h
     |di x=>cases h
     |dt x=>cases h
     | ob c' ks ts=>
       obtain⟨t,π,v0,h1,h2,h3,h4,h5⟩:=r
       have h':(c'==c && !ks.contains m)=true:=h
       have hcc:c'=c:=by rw[Bool.and_eq_true]at h';simpa using h'.1
       subst hcc;obtain⟨v',fp,ev,ro⟩:=I.tree h1;rw[h4]at ev;cases ev;obtain⟨w,f1,rest,wk,r1,_,_⟩:=ro.focus h3;have:=h5.inj wk;subst this;exact main ks ts f1 h' r1
   |sh x=>exact r.elim
   |ow x=>exact r.elim
   |ex c fs=>exact r.elim
   |tr io x=>exact r.elim
theorem A6{c:String}{m:Str}{C:Addr}{f:List Sl->OI}{a:Arg}{as:List Arg}{ta:TE}{t:TA}(hc:cls c=some C)(ok:argsOk (a ::as)=true)(ha:JA1 K cls ta a)(h:JAI K cls t as):JX K cls W (yR C m (spI K cls f) W ta t) (qo c m f (a ::as)):=by
 intro Av G S₀ ρ σ S H Q I p;unfold qo at p
 dsimp only at p
 split at p
 . rename_i hr;unfold jw at p
   cases e:jT (a ::as) ρ with
   |none=>rw[e]at p;exact p.elim
   | some ss=>
     rw[e]at p
     have e':=e
     unfold jT at e';obtain⟨s,e1,e2⟩:=Option.bind_eq_some_iff.mp e';obtain⟨sr,e3,rfl⟩:=Option.map_eq_some_iff.mp e2;rw[e1]at hr
     refine ha Av G S₀ ρ σ S H _ s I e1 fun v S1 H1 w1 r1=>?_
     have I1:=I.grow w1;obtain⟨q,dx,us,rfl,hq,hl⟩:=CY hc I1 r1 hr
     refine⟨q,dx,us,rfl,hq,hl,?_⟩
     refine h Av G S₀ ρ σ S1 H1 _ sr I1 e3 fun vs S2 H2 w2 ar=>?_
     exact wV (ss:=s ::sr) ok (I1.grow w2) (w1.s.trans w2.s) ⟨s,sr,_,vs,rfl,rfl,r1.mono w2.s w2.g,ar⟩ p
 . exact p.elim
theorem B5{f:List Sl->OI}{as:List Arg}{ss:List Sl}{vs:List V}(ok:dA as=[])(I:SR K cls Av G S₀ ρ σ S H)(ar:ARs K S H ρ σ as ss vs)
  (p:mX K cls W σ S H Q (match f ss with
    |.ok x _=>.ok (.sh x)
    |.exc c fs _=>.exc c fs
    |.bad=>.bad)):spI K cls f vs H Q fun C a H'=>W C a σ H':=by
 have hm:minus H (fun _=>[])=H:=by funext a;exact j1 fun k h=>nomatch h
 have hlen:=ar.len
 refine⟨S,ss,fun _=>[],⟨I.sh,by rw[hlen.1,hlen.2],fun k s es=>?_,fun j k a h=>(nomatch h),fun k a h=>(nomatch h)⟩,?_⟩
 . have hk:k<as.length:=by rw[<- hlen.1];exact(List.getElem?_eq_some_iff.mp es).1
   obtain⟨s',w,es',ev,r⟩:=ar.at (k:=k) (a:=as[k]) (by simp[hk]);rw[es]at es';cases es'
   refine⟨w,ev,?_⟩
   cases q:as[k]with
   | e me=>
     rw[q]at r
     cases s<;>first|exact r.elim|exact⟨rfl,r⟩
   | t i mp=>
     have:=ic (as:=as) (k:=k) (i:=i) (mp:=mp) (by rw[List.getElem?_eq_getElem hk,q]);rw[ok]at this;cases this
   | b i mp=>
     rw[q]at r
     cases s with
     | bo u=>
       obtain⟨t,π,v0,h1,h2,h3,h4,h5⟩:=r;obtain⟨v',fp,ev',ro⟩:=I.tree h1;rw[h4]at ev';cases ev';obtain⟨w',f1,rest,wk,r1,_,_⟩:=ro.focus h3;have:=h5.inj wk;subst this
       exact⟨rfl,f1,by rw[hm];exact r1⟩
     |sh x=>exact r.elim
     |ow x=>exact r.elim
     |ex c fs=>exact r.elim
     |tr io x=>exact r.elim
 . have gr:∀ {outs S' H' Fc'},EE K cls vs S H (fun _=>[]) outs S' H' Fc' -> bj S H S' H':=fun {outs S' H' Fc'} E=>⟨E.s,by have:=E.keep; rwa [hm] at this,E.sh,fun b hb=>by
    rcases E.new b hb with z|z|⟨k,z⟩
    . exact .inl z
    . exact .inr z
    . cases z⟩
   cases e:f ss with
   |bad=>rw[e]at p;exact p
   |ok x outs=>rw[e]at p;exact fun v S' H' Fc' E r=>p v S' H' (gr E) r
   |exc c fs outs=>rw[e]at p;exact fun a C S' H' Fc' E r=>p a C S' H' (gr E) r
theorem AN{c:String}{m:Str}{C:Addr}{f:List Sl->OI}{a:Arg}{as:List Arg}{ta:TE}{t:TA}(hc:cls c=some C)(ok:dA (a ::as)=[])(ha:JA1 K cls ta a)(h:JAI K cls t as):JE K cls W (yR C m (spI K cls f) W ta t) (oW c m f (a ::as)):=by
 intro Av G S₀ ρ σ S H Q I p;unfold oW at p
 dsimp only at p
 split at p
 . rename_i hr;unfold zf at p
   cases e:jT (a ::as) ρ with
   |none=>rw[e]at p;exact p.elim
   | some ss=>
     rw[e]at p
     have e':=e
     unfold jT at e';obtain⟨s,e1,e2⟩:=Option.bind_eq_some_iff.mp e';obtain⟨sr,e3,rfl⟩:=Option.map_eq_some_iff.mp e2;rw[e1]at hr
     refine ha Av G S₀ ρ σ S H _ s I e1 fun v S1 H1 w1 r1=>?_
     have I1:=I.grow w1;obtain⟨q,dx,us,rfl,hq,hl⟩:=CY hc I1 r1 hr
     refine⟨q,dx,us,rfl,hq,hl,?_⟩
     refine h Av G S₀ ρ σ S1 H1 _ sr I1 e3 fun vs S2 H2 w2 ar=>?_
     exact B5 (ss:=s ::sr) ok (I1.grow w2) ⟨s,sr,_,vs,rfl,rfl,r1.mono w2.s w2.g,ar⟩ (p.back (w1.trans w2))
 . exact p.elim
theorem Hz{c:String}{C:Addr}{f:List Sl->OI}(hc:cls c=some C):JD K cls W (GH C (spI K cls f) [] (fun _ _ _=>False) lZ) (x9 c f):=by
 intro Av G S₀ ρ σ S H Q I p;unfold x9 at p
 show ∀ x dx,H x=none->H dx=none->dx≠x->_
 intro x dx hx hdx ne
 have gS:∀ a,H a=none->S a=none:=fun a h=>I.sh.free h
 let H1:=upd (upd H dx (.own x)) x (.ins C dx [])
 have h1x:H1 x=some (.ins C dx []):=bC
 have h1d:H1 dx=some (.own x):=by show upd _ x _ dx=_;rw[bQ ne,bC]
 have h1o:∀ a,a≠x->a≠dx->H1 a=H a:=fun a n1 n2=>by show upd _ x _ a=_;rw[bQ n1,bQ n2]
 let Fc:Nat->List Addr:=fun k=>if k=0 then[x,dx]else[]
 have mF:∀ k a,a∈Fc k->k=0 /\ (a=x \/ a=dx):=fun k a h=>by
  have h':a∈(if k=0 then[x,dx]else[]):=h
  split at h'
  . rename_i e;exact⟨e,by simpa using h'⟩
  . cases h'
 have A:GB K cls [.tr true (.ob c [] [])] [.ref x] S H1 Fc:=by
  refine⟨fun b u h=>?_,rfl,fun k s e=>?_,fun j k a h1 h2=>?_,fun k a h=>?_⟩
  . have hb:=I.sh b u h;rw[h1o b (fun z=>by rw[z,hx]at hb;cases hb) (fun z=>by rw[z,hdx]at hb;cases hb)];exact hb
  . cases k with
    | zero=>
      cases e
      refine⟨.ref x,rfl,?_,?_⟩
      . unfold bA
        exact⟨x,C,dx,[],[],rfl,hc,h1x,h1d,rfl,rfl,.nil⟩
      . show[x,dx].Nodup
        simp[Ne.symm ne]
    |succ k=>simp at e
  . rw[(mF j a h1).1,(mF k a h2).1]
  . rcases(mF k a h).2 with z|z
    . subst z;exact⟨⟨_,h1x,rfl⟩,gS _ hx⟩
    . subst z;exact⟨⟨_,h1d,rfl⟩,gS _ hdx⟩
 refine⟨S,_,Fc,A,?_⟩
 have free:∀ a,minus H1 Fc a=none->H a=none:=fun a h=>by
  rcases og h with z|⟨k,z⟩
  . by_cases n1:a=x
    . rw[n1];exact hx
    . by_cases n2:a=dx
      . rw[n2];exact hdx
      . rw[h1o a n1 n2]at z;exact z
  . rcases(mF k a z).2 with y|y
    . rw[y];exact hx
    . rw[y];exact hdx
 cases e:f [.tr true (.ob c [] [])]with
 |bad=>rw[e]at p;exact p.elim
 |exc c fs outs=>rw[e]at p;exact p.elim
 | ok y outs=>
   rw[e]at p
   cases y with
   | non=>
     cases outs with
     |nil=>exact p.elim
     | cons o outs=>
       cases o with
       |none=>exact p.elim
       | some t=>
         dsimp only at p
         intro v S' H' Fc' E r;unfold Rep at r
         refine⟨r,p (.ref x) S' H' ⟨E.s,fun b u h=>?_,E.sh,fun b h=>?_⟩ ?_⟩
         . have n1:b≠x:=fun z=>by rw[z,hx]at h;cases h
           have n2:b≠dx:=fun z=>by rw[z,hdx]at h;cases h
           refine E.keep b u ?_;rw[j1 fun k z=>?_]
           . exact(h1o b n1 n2).trans h
           . rcases(mF k b z).2 with y|y
             . exact n1 y
             . exact n2 y
         . rcases E.new b h with z|z|⟨k,z⟩
           . exact .inl z
           . refine .inr ?_
             by_cases n1:b=x
             . rw[n1];exact hx
             . by_cases n2:b=dx
               . rw[n2];exact hdx
               . exact(h1o b n1 n2).symm.trans z
           . rcases(mF k b z).2 with y|y
             . rw[y];exact .inr hx
             . rw[y];exact .inr hdx
         . obtain⟨u,eu,ro,nd⟩:=E.out 0 t rfl;cases eu
           exact⟨Fc' 0,ro,nd,fun a ha=>⟨free a (E.live 0 a ha).1,(E.live 0 a ha).2⟩⟩
   |bl b=>exact p.elim
   |int b=>exact p.elim
   |str b=>exact p.elim
   |lst b=>exact p.elim
   |tup b=>exact p.elim
end
end L2.P
namespace L2.E
open PySem PySem.Spec PyProof.Rows L2
def yN(wi:TI)(ι:List Nat)(tc:TT)(te:TE):TE:=fun σ H Q=>wi σ H fun J H1=>∀ D,H1 D=none->∃ W:Nat->Nat->List V->Hp->Prop,(∃ m,W 0 m [] (upd H1 D (.lst []))) /\ ∀ i m ys H,W i m ys H ->
 H D=some (.lst ys) /\ ((J.stop i H /\ Q (.ref D) H) \/ (J.go i H /\ ∀ x H',J.yld i H x H'->tc (pick ι σ++[some x]) H' fun b H3=>H3 D=some (.lst ys) /\ if b=true then
   te (pick ι σ++[some x]) H3 fun y H2=>H2 D=some (.lst ys) /\ ys.length<sizeLine /\ ∃ m',m'<m /\ W (i+1) m' (ys++[y]) (upd H2 D (.lst (ys++[y])))else ∃ m',m'<m /\ W (i+1) m' ys H3))
section
variable{X:Cx}{scope:Scope}{cl:List (Str×Addr)}{M:List Str}{ι:List Nat}{x:Str}
theorem DL{elt iter c:Expr}{px pos:Pos}{wi:TI}{tc:TT}{te:TE}(S:oy X scope cl M ι x)(hc:X.calm=true)(hi:PI X (.Name x px) iter wi)(hcd:∀ C s₀ H₀ ex,PT (blk X scope cl (M++[x]) C s₀ H₀ ex) c tc)(he:∀ C s₀ H₀ ex,PE (blk X scope cl (M++[x]) C s₀ H₀ ex) elt te)
  (hs:∀ v,foldedSetIterable iter X.env v=pure v:=by intro _;rfl):PE X (.ListComp elt [⟨.Name x px,iter,[c],0⟩] scope pos) (yN wi ι tc te):=by
 intro pins s σ H Q I h;rw[eval_ListComp];refine wpAny_comprehension_free (use:=none) rfl hs S.clos S.kind (fun y hy hl=>?_) (wpAny_mono (hi pins s σ H _ I h) (fun v s1 h1=>wpAny_mono h1 (fun itv s2 h2=>?_) fun _ _ z=>z) fun _ _ z=>z)
 . have q:=List.all_eq_true.mp S.locs y hy;rw[hl]at q
   simpa using q
 obtain⟨it,fp,tn,J,H2,rfl,I2,T,st2,f2,hW⟩:=h2;have I3:=I2.HN (ys:=[]) (its:=[]) (t':=s2.toks) .nil (Nat.zero_le _);obtain⟨W,⟨m0,w0⟩,turn⟩:=hW s2.heap.objs.size I2.fresh
 have fpo:∀ b∈fp,b<s2.heap.objs.size:=fun b hb=>let ⟨_,e,_⟩:=T.obj _ _ st2 b hb;Heap.lt_size e
 have f3:∀ b∈fp,p8 X pins (upd H2 s2.heap.objs.size (.lst [])) b:=fun b hb=>by
  obtain⟨q0,q⟩:=f2 b hb
  exact⟨by rw[bQ (Nat.ne_of_lt (fpo b hb))];exact q0,q⟩
 show wpAny _ _ (newObj (.type "list") _ none) _ _ s2;refine wpAny_newObj_type (wpAny_newFunctionEnv (fun y hy=>?_) (by intro y hy;simp at hy) (fun h₁ hn₁ sb₁=>?_) S.kind)
 . have q:=List.all_eq_true.mp S.nocell y hy
   simpa using q
 have hsz:(s2.heap.push { cls:=.type "list",dict:=none,data:=.seq ([]:List Value).toArray }).objs.size=s2.heap.objs.size+1:=Heap.size_push ..
 have hk₁:∀ b o,(s2.heap.push { cls:=.type "list",dict:=none,data:=.seq ([]:List Value).toArray }).get? b=some o->h₁.get? b=some o:=fun b o e=>
  (sb₁.2 b (Nat.ne_of_lt (Heap.lt_size e))).trans (Heap.get?_push_of_some _ e)
 have J0:=BC (t':=s2.toks+([]:List (Str×Value)).length) S I3 (ex:=fp) (fun b hb=>⟨f3 b hb,Nat.lt_of_lt_of_le (fpo b hb) (by rw[hsz];exact Nat.le_succ _)⟩) hn₁ hk₁
 have old:∀ b∈fp,∀ o,s2.heap.get? b=some o->h₁.get? b=some o:=fun b _ o e=>hk₁ b o (Heap.get?_push_of_some _ e)
 have st₁:tn 0 h₁:=T.keep _ _ _ st2 old
 have loop:codeAny (model X.prog X.w) X.A (.compLoop (.ListComp elt [⟨.Name x px,iter,[c],0⟩] scope pos) 0 (.ref it) (.ref s2.heap.objs.size) (compEnvC scope cl (s2.heap.objs.size+1) X.env))
   (compPost (model X.prog X.w) X.A X.xe none (EP X pins σ Q) (.ref s2.heap.objs.size) (s2.heap.objs.size+1)) { s2 with heap:=h₁,toks:=s2.toks+([]:List (Str×Value)).length }:=by
  rw[hsz]at J0
  refine codeAny_loop rfl (fun n s'=>∃ i H' ys v,Inv (blk X scope cl (M++[x]) (s2.heap.objs.size+1) { s2 with heap:=s2.heap.push { cls:=.type "list",data:=.seq ([]:List Value).toArray },toks:=s2.toks } (upd H2 s2.heap.objs.size (.lst [])) fp) [] (pick ι σ++[v]) H' s' /\ tn i s'.heap /\ (∀ b∈fp,H' b=none) /\ W i n ys H')
   (fun n s' hI=>?_) m0 ⟨0,_,[],none,J0,st₁,fun b hb=>(f3 b hb).1,w0⟩
  obtain⟨i,H',ys,v,J',st',fr',w'⟩:=hI;obtain⟨hD,alt⟩:=turn i n ys H' w'
  have fpY:∀{G:Hp},(∀ b∈fp,G b=none)->∀ b∈fp,p8 (blk X scope cl (M++[x]) (s2.heap.objs.size+1) { s2 with heap:=s2.heap.push { cls:=.type "list",data:=.seq ([]:List Value).toArray },toks:=s2.toks } (upd H2 s2.heap.objs.size (.lst [])) fp) [] G b:=fun hG b hb=>
   ⟨hG b hb,(J'.ok.exf b hb).1,J'.ok.exfs b hb,.inl hb,(J'.ok.exf b hb).2,fun p hp=>absurd (show p∈([]:List (Addr×Obj)) from hp) (by simp)⟩
  show wpAny _ _ ((compTurn _ 0 (.ref it) (.ref s2.heap.objs.size) (compEnvC scope cl (s2.heap.objs.size+1) X.env)).onRaise _) _ _ s';refine wpAny_noted (wpAny_noRaise ?_);rw[compTurn_list];refine wpAny_bind (wpAny_standAt (wpAny_bind ?_))
  rcases alt with⟨stop,qn⟩|⟨go,step⟩
  . refine thn (T.done (blk X scope cl (M++[x]) (s2.heap.objs.size+1) _ _ fp) rfl rfl rfl hc i [] s' _ H' _ J' (fpY fr') st' stop) fun r s4 ⟨hr,J4⟩=>?_
    subst hr;refine wpAny_pure ?_;obtain⟨m,hm,_⟩:=id J4.loc
    refine⟨m,hm,fun h' sb=>⟨.ref s2.heap.objs.size,H',zq I3 hsz.symm f3 J4 sb,rfl,qn⟩⟩
  . refine thn (T.item (blk X scope cl (M++[x]) (s2.heap.objs.size+1) _ _ fp) rfl rfl rfl hc i [] s' _ H' _ J' (fpY fr') st' go) fun r s4 ⟨u,hr,h4⟩=>?_
    subst hr;refine wpAny_bind (thn h4 fun _ s5 ⟨z,H5,J5,r5,y5,st5,fr5⟩=>?_)
    have J5':=J5.pinned (fpY fr5) (T.obj _ _ st5)
    have hxN:(M++[x])[M.length]?=some x:=by simp
    refine wpAny_bind ?_;refine wpAny_assign_Name ?_;refine mH (X:=blk X scope cl (M++[x]) (s2.heap.objs.size+1) _ _ fp) (i:=M.length) (v:=z) J5' S.nd hxN (.inl (lookup_relabel_local S.var)) r5 (fun s6 J6=>?_) (.inr (lookup_relabel_local S.var))
    have hlp:(pick ι σ).length=M.length:=by
     have q:=congrArg List.length S.names;rw[List.length_map,List.length_map]at q;unfold pick;rw[List.length_map,q]
    have hset:(pick ι σ++[v]).set M.length (some z)=pick ι σ++[some z]:=by
     rw[<- hlp,List.set_append_right _ _ (Nat.le_refl _),Nat.sub_self];rfl
    rw[hset]at J6;refine wpAny_bind (wpAny_tests_one (thn (hcd _ _ _ _ _ s6 _ H5 _ J6 (step z H5 y5)) fun b s7 ⟨H7,J7,hD7,q7⟩=>?_))
    cases b with
    | true=>
      rw[if_pos rfl]at q7;refine wpAny_bind (wpAny_bind (thn (he _ _ _ _ _ s7 _ H7 _ J7 q7) fun yv s8 ⟨y,H8,J8,r8,hD8,hz8,m',hm',w8⟩=>?_));refine wpAny_bind (thn (b7 (X:=blk X scope cl (M++[x]) (s2.heap.objs.size+1) _ _ fp) _ s8 _ H8 (.ref s2.heap.objs.size) [y] (.ref s2.heap.objs.size) [yv] (fun _ G=>G=upd H8 s2.heap.objs.size (.lst (ys++[y]))) J8 rfl (.cons r8 .nil) ⟨_,_,y,rfl,rfl,hD8,hz8,rfl⟩) fun _ s9 ⟨_,H9,J9,_,e9⟩=>?_);subst e9;refine wpAny_pure (wpAny_pure ⟨rfl,m',hm',i+1,_,_,some z,J9.kK,?_,fun b hb=>?_,w8⟩)
      . exact T.keep _ _ _ st5 fun b hb o e=>(J9.pin (b,o) (List.mem_append_right _ (List.mem_append_right _ (eX hb e)))).1
      . obtain⟨o,e,d⟩:=T.obj _ _ st5 b hb
        exact(J9.pin (b,o) (List.mem_append_right _ (List.mem_append_right _ (eX hb e)))).2.1
    | false=>
      rw[if_neg (by decide)]at q7;obtain⟨m',hm',w8⟩:=q7;refine wpAny_pure ⟨rfl,m',hm',i+1,_,_,some z,J7.kK,?_,fun b hb=>?_,w8⟩
      . exact T.keep _ _ _ st5 fun b hb o e=>(J7.pin (b,o) (List.mem_append_right _ (List.mem_append_right _ (eX hb e)))).1
      . obtain⟨o,e,d⟩:=T.obj _ _ st5 b hb
        exact(J7.pin (b,o) (List.mem_append_right _ (List.mem_append_right _ (eX hb e)))).2.1
 rw[hsz]at *;exact codeAny_compStart_list loop (T.self X.A 0 _ _ _ st₁ loop)
end
theorem F4(its:List Value):slicePick its.toArray none none (some (-1))=its.reverse.toArray:=by
 unfold slicePick
 have hb:sliceBounds none none (some (-1)) its.toArray.size=((its.length:Int) - 1,-1,-1):=by simp[sliceBounds]
 rw[hb]
 congr 1
 have hr:sliceRange ((its.length:Int) - 1) (-1) (-1)=(List.range its.length).map fun i=>its.length - 1 - i:=by
  unfold sliceRange;rw[if_neg (by decide)]
  have hc:(if((its.length:Int) - 1) > -1 then(((its.length:Int) - 1) - -1 - -1 - 1)/(- -1)else 0).toNat=its.length:=by
   split
   . rw[show(- -1:Int)=1 by decide,Int.ediv_one];omega
   . omega
  dsimp only;rw[hc]
  refine List.map_congr_left fun k hk=>?_
  have:=List.mem_range.mp hk;omega
 rw[hr];apply List.ext_getElem?;intro n;rw[List.filterMap_map]
 have hall:∀ m,m<=its.length->List.filterMap ((fun x=>its.toArray[x]?) ∘ fun i=>its.length - 1 - i) (List.range m)=(its.reverse).take m:=by
  intro m
  induction m with
  |zero=>intro _;simp
  | succ m ih=>
    intro hm;rw[List.range_succ,List.filterMap_append,ih (by omega)]
    have h1:its.length - 1 - m<its.length:=by omega
    have h2:m<its.reverse.length:=by rw[List.length_reverse];omega
    rw[List.take_succ_eq_append_getElem h2]
    congr 1
    simp[h1]
 rw[hall its.length (Nat.le_refl _),List.take_of_length_le (by simp)]
theorem AQ:∀{xs:List V} {us:List Value},Vals xs us->Vals xs.reverse us.reverse
 |_,_,.nil=>.nil
 | _,_,.cons r t=>by
   rw[List.reverse_cons,List.reverse_cons]
   exact(AQ t).append (.cons r .nil)
section
variable{X:Cx}{e st:Expr}{te ts:TE}{pos p2:Pos}
def Mj(K:PySem.W.Frag)(te ts:TE):TE:=fun σ H Q=>te σ H fun x H1=>ts σ H1 fun k H2=>k=.int (-1) /\ ∃ a xs,x=.ref a /\ SqL K H2 a xs /\ ∀ p,H2 p=none->Q (.ref p) (upd H2 p (.lst xs.reverse))
theorem Lg(he:PE X e te)(hk:PE X st ts):PE X (.Subscript e (.Slice none none (some st) p2) pos) (Mj X.K te ts):=by
 intro pins s σ H Q I h;refine Subscript_ (thn (he pins s σ H _ I h) fun v s1 ⟨x,H1,I1,r1,q1⟩=>?_);refine wpAny_Slice ?_;rw[evalPart_none];refine wpAny_pure (wpAny_pure ?_);rw[evalPart_some]
 refine thn (hk pins s1 σ H1 _ I1 q1) fun u s3 ⟨k,H3,I3,r3,q3⟩=>?_
 obtain⟨rfl,a,xs,rfl,hq,q⟩:=q3;obtain⟨t,rfl⟩:=r3;cases r1
 have I4:Inv X pins σ H3 { s3 with heap:=s3.heap.push { cls:=.type "slice",data:=.fields #[.none,.none,.int (-1) t] } }:=I3.kept (t':=s3.toks) fun b ob q=>Heap.get?_push_of_some _ q
 obtain⟨its,r,ht,hz⟩:=I4.list hq;have hlen:=r.length;show wpAny (model X.prog X.w) X.A (subscriptTail e (.Slice none none (some st) p2) (.ref a) (.ref s3.heap.objs.size)) (EP X pins σ Q) X.xe { s3 with heap:=s3.heap.push { cls:=.type "slice",data:=.fields #[.none,.none,.int (-1) t] } };refine tail_any (ops:=[.ref a,.ref s3.heap.objs.size]) ht.isList.typeIs slot_list_getitem.lookup ?_ (by with_unfolding_all rfl);refine wpAny_getItem_list_slice ht.isList (Heap.IsSliceOf.new ..) .none .none (.int (-1) t) (by decide) ?_ (by rw[List.size_toArray]<;>omega);rw[F4]
 refine⟨.ref _,_,I4.laid (t':=s3.toks) (o:=.lst xs.reverse) (fun b ob q=>Heap.get?_push_of_some _ q) (Nat.le_refl _) ?_,rfl,q _ (I4.hok.fresh (Nat.le_refl _))⟩
 refine⟨by rw[List.length_reverse];exact hz,its.reverse,0,AQ r,Heap.get?_push_size _ rfl⟩
end
section
variable{X:Cx}{scope:Scope}{cl:List (Str×Addr)}{M:List Str}{ι:List Nat}{x:Str}
theorem HM{i:Nat}{y:Str}{py spos:Pos}{elt iter:Expr}{px pos:Pos}{wi:TI}{te:TE}(S:oy X scope cl M ι x)(hc:X.calm=true)(hi:PI X (.Name x px) iter wi)(he:∀ C s₀ H₀ ex,PE (blk X scope cl (M++[x]) C s₀ H₀ ex) elt te)
  (hN:X.N.Nodup) (hiy:X.N[i]?=some y) (hy:Loc X.env.scope y) (hsw:swapsWith (.ListComp elt [⟨.Name x px,iter,[],0⟩] scope pos) (some (.Name y py)) spos.line X.env=pure true) (hf:X.fn y=true \/ X.env.scope.names.lookup y=some .local:=by first|exact .inl rfl|exact .inr rfl|assumption)
  (hs:∀ v,foldedSetIterable iter X.env v=pure v:=by intro _;rfl):PS X (.Assign [.Name y py] (.ListComp elt [⟨.Name x px,iter,[],0⟩] scope pos) spos) (vh (u3 wi ι te) (mx i)):=by
 intro pins s σ H D0 I h;rw[exec_Assign_Name_used _ _ _ _ hsw];refine wpAny_bind (wpAny_standAt (wpAny_bind ?_));show wpAny _ _ (do let _ <- comprehension (.ListComp elt [⟨.Name x px,iter,[],0⟩] scope pos) scope X.env _ (newList []) false (eval iter X.env) (some (assign (.Name y py) X.env))) _ _ s;refine wpAny_bind (wpAny_mono (wpAny_comprehension_free (use:=some (assign (.Name y py) X.env)) (Q:=fun _ s'=>∃ σ' H',Inv X pins σ' H' s' /\ D0.nx σ' H') rfl hs S.clos S.kind (fun y hy hl=>?_) (wpAny_mono (hi pins s σ H _ I h) (fun v s1 h1=>wpAny_mono h1 (fun itv s2 h2=>?_) fun _ _ z=>z) fun _ _ z=>z)) (fun _ s' hq=>wpAny_pure (wpAny_pure hq)) fun _ _ e=>e)
 . have q:=List.all_eq_true.mp S.locs y hy;rw[hl]at q
   simpa using q
 obtain⟨it,fp,tn,J,H2,rfl,I2,T,st2,f2,hW⟩:=h2;have I3:=I2.HN (ys:=[]) (its:=[]) (t':=s2.toks) .nil (Nat.zero_le _);obtain⟨W,⟨m0,w0⟩,turn⟩:=hW s2.heap.objs.size I2.fresh
 have fpo:∀ b∈fp,b<s2.heap.objs.size:=fun b hb=>let ⟨_,e,_⟩:=T.obj _ _ st2 b hb;Heap.lt_size e
 have f3:∀ b∈fp,p8 X pins (upd H2 s2.heap.objs.size (.lst [])) b:=fun b hb=>by
  obtain⟨q0,q⟩:=f2 b hb
  exact⟨by rw[bQ (Nat.ne_of_lt (fpo b hb))];exact q0,q⟩
 show wpAny _ _ (newObj (.type "list") _ none) _ _ s2;refine wpAny_newObj_type (wpAny_newFunctionEnv (fun y hy=>?_) (by intro y hy;simp at hy) (fun h₁ hn₁ sb₁=>?_) S.kind)
 . have q:=List.all_eq_true.mp S.nocell y hy
   simpa using q
 have hsz:(s2.heap.push { cls:=.type "list",dict:=none,data:=.seq ([]:List Value).toArray }).objs.size=s2.heap.objs.size+1:=Heap.size_push ..
 have hk₁:∀ b o,(s2.heap.push { cls:=.type "list",dict:=none,data:=.seq ([]:List Value).toArray }).get? b=some o->h₁.get? b=some o:=fun b o e=>
  (sb₁.2 b (Nat.ne_of_lt (Heap.lt_size e))).trans (Heap.get?_push_of_some _ e)
 have J0:=BC (t':=s2.toks+([]:List (Str×Value)).length) S I3 (ex:=fp) (fun b hb=>⟨f3 b hb,Nat.lt_of_lt_of_le (fpo b hb) (by rw[hsz];exact Nat.le_succ _)⟩) hn₁ hk₁
 have old:∀ b∈fp,∀ o,s2.heap.get? b=some o->h₁.get? b=some o:=fun b _ o e=>hk₁ b o (Heap.get?_push_of_some _ e)
 have st₁:tn 0 h₁:=T.keep _ _ _ st2 old
 have loop:codeAny (model X.prog X.w) X.A (.compLoop (.ListComp elt [⟨.Name x px,iter,[],0⟩] scope pos) 0 (.ref it) (.ref s2.heap.objs.size) (compEnvC scope cl (s2.heap.objs.size+1) X.env))
   (compPost (model X.prog X.w) X.A X.xe (some (assign (.Name y py) X.env)) (fun _ s'=>∃ σ' H',Inv X pins σ' H' s' /\ D0.nx σ' H') (.ref s2.heap.objs.size) (s2.heap.objs.size+1)) { s2 with heap:=h₁,toks:=s2.toks+([]:List (Str×Value)).length }:=by
  rw[hsz]at J0
  refine codeAny_loop rfl (fun n s'=>∃ i H' ys v,Inv (blk X scope cl (M++[x]) (s2.heap.objs.size+1) { s2 with heap:=s2.heap.push { cls:=.type "list",data:=.seq ([]:List Value).toArray },toks:=s2.toks } (upd H2 s2.heap.objs.size (.lst [])) fp) [] (pick ι σ++[v]) H' s' /\ tn i s'.heap /\ (∀ b∈fp,H' b=none) /\ W i n ys H')
   (fun n s' hI=>?_) m0 ⟨0,_,[],none,J0,st₁,fun b hb=>(f3 b hb).1,w0⟩
  obtain⟨i,H',ys,v,J',st',fr',w'⟩:=hI;obtain⟨hD,alt⟩:=turn i n ys H' w'
  have fpY:∀{G:Hp},(∀ b∈fp,G b=none)->∀ b∈fp,p8 (blk X scope cl (M++[x]) (s2.heap.objs.size+1) { s2 with heap:=s2.heap.push { cls:=.type "list",data:=.seq ([]:List Value).toArray },toks:=s2.toks } (upd H2 s2.heap.objs.size (.lst [])) fp) [] G b:=fun hG b hb=>
   ⟨hG b hb,(J'.ok.exf b hb).1,J'.ok.exfs b hb,.inl hb,(J'.ok.exf b hb).2,fun p hp=>absurd (show p∈([]:List (Addr×Obj)) from hp) (by simp)⟩
  show wpAny _ _ ((compTurn _ 0 (.ref it) (.ref s2.heap.objs.size) (compEnvC scope cl (s2.heap.objs.size+1) X.env)).onRaise _) _ _ s';refine wpAny_noted (wpAny_noRaise ?_);rw[ya];refine wpAny_bind (wpAny_standAt (wpAny_bind ?_))
  rcases alt with⟨stop,qn⟩|⟨go,step⟩
  . refine thn (T.done (blk X scope cl (M++[x]) (s2.heap.objs.size+1) _ _ fp) rfl rfl rfl hc i [] s' _ H' _ J' (fpY fr') st' stop) fun r s4 ⟨hr,J4⟩=>?_
    subst hr;refine wpAny_pure ?_;obtain⟨m,hm,_⟩:=id J4.loc
    have I4:Inv X pins σ H' s4:=zq (h':=s4.heap) I3 hsz.symm f3 J4 ⟨rfl,fun _ _=>rfl⟩
    obtain⟨oC,es,ep,hoC,rC⟩:=id hm
    have fC:p8 X pins H' (s2.heap.objs.size+1):=I3.Dj (by rw[hsz];exact Nat.le_refl _) J4.free
    obtain⟨_,c1,c2,c3,c4,c5⟩:=id fC
    have I5:=I4.pinned (fp:=[s2.heap.objs.size+1]) (fun b hb=>by
     have z:b=s2.heap.objs.size+1:=by simpa using hb
     subst z;exact fC) fun b hb=>by
     have z:b=s2.heap.objs.size+1:=by simpa using hb
     subst z
     exact⟨oC,hoC,fun v z=>by rw[rC.1]at z;cases z⟩
    show wpAny _ _ (assign (.Name y py) X.env (.ref s2.heap.objs.size)) _ _ s4;refine wpAny_assign_Name (mH I5 hN hiy hy (v:=.ref s2.heap.objs.size) rfl (fun s5 I6=>?_) hf)
    have hC5:s5.heap.get? (s2.heap.objs.size+1)=some oC:=(I6.pin (_,oC) (List.mem_append_right _ (List.mem_append_right _ (eX (List.mem_singleton.mpr rfl) hoC)))).1
    refine⟨m,⟨oC,es,ep,hC5,rC⟩,fun h' sb=>⟨_,H',(I6.kK).turned (t':=s5.toks) (it:=s2.heap.objs.size+1) (fun b o hb e=>(sb.2 b hb).trans e) J4.free c1 c3 c4 c5,qn⟩⟩
  . refine thn (T.item (blk X scope cl (M++[x]) (s2.heap.objs.size+1) _ _ fp) rfl rfl rfl hc i [] s' _ H' _ J' (fpY fr') st' go) fun r s4 ⟨u,hr,h4⟩=>?_
    subst hr;refine wpAny_bind (thn h4 fun _ s5 ⟨z,H5,J5,r5,y5,st5,fr5⟩=>?_)
    have J5':=J5.pinned (fpY fr5) (T.obj _ _ st5)
    have hxN:(M++[x])[M.length]?=some x:=by simp
    refine wpAny_bind ?_;refine wpAny_assign_Name ?_;refine mH (X:=blk X scope cl (M++[x]) (s2.heap.objs.size+1) _ _ fp) (i:=M.length) (v:=z) J5' S.nd hxN (.inl (lookup_relabel_local S.var)) r5 (fun s6 J6=>?_) (.inr (lookup_relabel_local S.var))
    have hlp:(pick ι σ).length=M.length:=by
     have q:=congrArg List.length S.names;rw[List.length_map,List.length_map]at q;unfold pick;rw[List.length_map,q]
    have hset:(pick ι σ++[v]).set M.length (some z)=pick ι σ++[some z]:=by
     rw[<- hlp,List.set_append_right _ _ (Nat.le_refl _),Nat.sub_self];rfl
    rw[hset]at J6;refine wpAny_bind (wpAny_bind (thn (he _ _ _ _ _ s6 _ H5 _ J6 (step z H5 y5)) fun yv s7 ⟨y,H7,J7,r7,hD7,hz7,m',hm',w7⟩=>?_));refine wpAny_bind (thn (b7 (X:=blk X scope cl (M++[x]) (s2.heap.objs.size+1) _ _ fp) _ s7 _ H7 (.ref s2.heap.objs.size) [y] (.ref s2.heap.objs.size) [yv] (fun _ G=>G=upd H7 s2.heap.objs.size (.lst (ys++[y]))) J7 rfl (.cons r7 .nil) ⟨_,_,y,rfl,rfl,hD7,hz7,rfl⟩) fun _ s8 ⟨_,H8,J8,_,e8⟩=>?_);subst e8;refine wpAny_pure (wpAny_pure ⟨rfl,m',hm',i+1,_,_,some z,J8.kK,?_,fun b hb=>?_,w7⟩)
    . exact T.keep _ _ _ st5 fun b hb o e=>(J8.pin (b,o) (List.mem_append_right _ (List.mem_append_right _ (eX hb e)))).1
    . obtain⟨o,e,d⟩:=T.obj _ _ st5 b hb
      exact(J8.pin (b,o) (List.mem_append_right _ (List.mem_append_right _ (eX hb e)))).2.1
 rw[hsz]at *;exact codeAny_compStart_list loop (T.self X.A 0 _ _ _ st₁ loop)
end
end L2.E
namespace L2.P
open PySem PySem.Spec PyProof.Rows L2 L2.E
section
variable{K:PySem.W.Frag}{cls:String->Option Addr}{W:XW}{Av G S₀ S S' H H' B B':Hp}{ρ:ag}{σ:St}{Q:VK}
theorem Fs{tl te:TE}{ml me:ag->OE}{ι:List Nat}(hι:ι.Nodup)(hl:JE K cls W tl ml)(he:JE K cls (fun _ _ _ _=>False) te me):JE K cls W (u3 (LH K tl) ι te) (wq ml ι me):=by
 intro Av G S₀ ρ σ S H Q I p
 refine hl.go I p fun r v S1 H1 I1 w1 r1 p1=>?_
 have ra:=r1.rd I1.sh
 cases e:r.pv with
 | tup xs=>
   rw[e]at p1 ra;obtain⟨a,vs,rfl,hq,hr⟩:=ni ra
   refine⟨a,rfl,⟨vs,aK.tup I1.sh hq⟩,?_⟩
   dsimp only at p1
   cases em:da me (dw ι ρ) xs with
   |exc c fs=>rw[em]at p1;exact p1.elim
   |bad=>rw[em]at p1;exact p1.elim
   | ok ys=>
     rw[em]at p1;simp only[noX]at p1;split at p1
     . rename_i hlen
       refine qR hι he I1 em hlen (fun k H' x g hx=>?_) (fun H' g=>⟨vs,aK.tup (I1.sh.trans g) hq,by rw[hr.length];exact Nat.le_refl _⟩) fun D S' H' w nD sD ⟨us,hD,rr⟩=>p1 (.ref D) S' H' w ⟨D,us,rfl,nD,sD,hD,rr⟩
       obtain⟨u,hu,ru⟩:=hr.get hx
       refine⟨⟨vs,u,aK.tup (I1.sh.trans g) hq,hu⟩,?_⟩
       rintro v' H2 ⟨rfl,hv⟩
       have:=hv vs (aK.tup (I1.sh.trans g) hq);rw[hu]at this;cases this
       exact⟨rfl,ru⟩
     . exact p1.elim
 |_=>rw[e]at p1;exact p1.elim
theorem zT{J:It}{ι:List Nat}{tc:TT}{mc:ag->OT}{te:TE}{me:ag->OE}{xs ys:List PV}(hι:ι.Nodup)(hc:JT K cls (fun _ _ _ _=>False) tc mc)(he:JE K cls (fun _ _ _ _=>False) te me)(I:SR K cls Av G S₀ ρ σ S H)(hy:iX mc me (dw ι ρ) xs=.ok ys)(hl:ys.length<=lim)
  (go:∀ k H' x,aK H H'->xs[k]?=some x->J.go k H' /\ ∀ v H2,J.yld k H' v H2->H2=H' /\ Rep K S x v) (stop:∀ H',aK H H'->J.stop xs.length H')
  (hQ:∀ D S' H',bj S H S' H'->H D=none->S' D=none->(∃ us,H' D=some (.lst us) /\ bZ K S' ys us)->Q (.ref D) H'):
  ∀ D,H D=none->∃ W:Nat->Nat->List V->Hp->Prop,(∃ m,W 0 m [] (upd H D (.lst []))) /\ ∀ i m us H',W i m us H' ->
    H' D=some (.lst us) /\ ((J.stop i H' /\ Q (.ref D) H') \/ (J.go i H' /\ ∀ x H2,J.yld i H' x H2->tc (L2.E.pick ι σ++[some x]) H2 fun b H4=>H4 D=some (.lst us) /\ if b=true then te (L2.E.pick ι σ++[some x]) H4 fun y H3=>H3 D=some (.lst us) /\ us.length<sizeLine /\ ∃ m',m'<m /\ W (i+1) m' (us++[y]) (upd H3 D (.lst (us++[y])))else ∃ m',m'<m /\ W (i+1) m' us H4)):=by
 intro D nD
 refine⟨fun k m us H'=>m+k=xs.length /\ H' D=some (.lst us) /\ ∃ S' zs ws,aK S S' /\ aK H H' /\ aK S' H' /\ (∀ b,S' b≠none->S b≠none \/ (H b=none /\ b≠D)) /\ bZ K S' zs us /\ iX mc me (dw ι ρ) (xs.drop k)=.ok ws /\ ys=zs++ws,
  ⟨xs.length,rfl,bC,S,[],ys,aK.refl _,aK.new nD,I.sh.trans (aK.new nD),fun b z=>.inl z,.nil,hy,rfl⟩,?_⟩
 rintro k m us H' ⟨hm,hD,S',zs,ws,s1,g1,sh1,n1,r1,e1,rfl⟩
 refine⟨hD,?_⟩
 have hSD:S' D=none:=by
  cases q:S' D with
  |none=>rfl
  | some o=>
    rcases n1 D (by rw[q];simp)with z|⟨_,z⟩
    . exact absurd (I.sh.free nD) z
    . exact absurd rfl z
 by_cases hk:k<xs.length
 . refine .inr ?_
   have hx:xs[k]?=some xs[k]:=by simp[hk]
   obtain⟨hgo,hyld⟩:=go k H' xs[k] g1 hx
   refine⟨hgo,fun v H2 hv=>?_⟩
   obtain⟨rfl,rv⟩:=hyld v H2 hv;rw[List.drop_eq_getElem_cons hk]at e1
   have I1:SR K cls Av G S₀ ρ σ S' H2:=I.grow ⟨s1,g1,sh1,fun b z=>by
    rcases n1 b z with z|⟨z,_⟩
    . exact .inl z
    . exact .inr z⟩
   have Ip:=I1.pick hι (Rep.mono s1 rv);refine hc _ G S₀ _ _ S' H2 _ Ip ?_;unfold iX at e1;split at e1
   . rename_i ec;rw[ec];intro S2 H3 w2
     have hSD2:S2 D=none:=by
      cases q:S2 D with
      |none=>rfl
      | some o=>
        rcases w2.new D (by rw[q];simp)with z|z
        . exact absurd hSD z
        . rw[hD]at z;cases z
     refine⟨w2.g _ _ hD,?_⟩
     rw[if_pos rfl];refine he _ G S₀ _ _ S2 H3 _ (Ip.grow w2) ?_
     cases em:me (dw ι ρ++[some (.sh xs[k])])with
     |exc c fs=>rw[em]at e1;cases e1
     |bad=>rw[em]at e1;cases e1
     | ok r=>
       rw[em]at e1;simp only[OE.fX]at e1
       cases es:mM r with
       |none=>rw[es]at e1;cases e1
       | some y=>
         rw[es]at e1
         dsimp only at e1
         cases e2:iX mc me (dw ι ρ) (xs.drop (k+1))with
         |exc c fs=>rw[e2]at e1;cases e1
         |bad=>rw[e2]at e1;cases e1
         | ok zs'=>
           rw[e2]at e1;simp only[OA.fX]at e1;cases e1;intro u S4 H4 w4 r4;obtain⟨S3,w3,s3,ru⟩:=r4.share w4 es
           have hl2:(zs++y ::zs').length<=lim:=hl
           have w5:=w2.trans w3
           have hSD3:S3 D=none:=by
            cases q:S3 D with
            |none=>rfl
            | some o=>
              rcases w3.new D (by rw[q];simp)with z|z
              . exact absurd hSD2 z
              . rw[w2.g _ _ hD]at z;cases z
           refine⟨w5.g _ _ hD,?_,m - 1,by omega,by omega,bC,S3,zs++[y],zs',s1.trans w5.s,(g1.trans w5.g).upd nD,w3.sh.upd hSD3,fun b z=>?_,(r1.mono w5.s).append (.cons ru .nil),e2,by simp⟩
           . rw[r1.length,<- EW];rw[List.length_append,List.length_cons]at hl2;omega
           . rcases w5.new b z with z|z
             . exact n1 b z
             . refine .inr ⟨g1.free z,fun e=>?_⟩;rw[e,hD]at z;cases z
   . rename_i ec;rw[ec];intro S2 H3 w2
     refine⟨w2.g _ _ hD,?_⟩
     rw[if_neg (by decide)]
     refine⟨m - 1,by omega,by omega,w2.g _ _ hD,S2,zs,ws,s1.trans w2.s,g1.trans w2.g,w2.sh,fun b z=>?_,r1.mono w2.s,e1,rfl⟩
     rcases w2.new b z with z|z
     . exact n1 b z
     . refine .inr ⟨g1.free z,fun e=>?_⟩;rw[e,hD]at z;cases z
   . cases e1
 . have hk':k=xs.length:=by omega
   subst hk';refine .inl ⟨stop H' g1,?_⟩;rw[List.drop_length]at e1;cases e1
   exact hQ D S' H' ⟨s1,g1,sh1,fun b z=>by
    rcases n1 b z with z|⟨z,_⟩
    . exact .inl z
    . exact .inr z⟩ nD hSD ⟨us,hD,by rw[List.append_nil];exact r1⟩
theorem B3{tl te:TE}{tc:TT}{ml me:ag->OE}{mc:ag->OT}{ι:List Nat}(hι:ι.Nodup)(hl:JE K cls W tl ml)(hc:JT K cls (fun _ _ _ _=>False) tc mc)(he:JE K cls (fun _ _ _ _=>False) te me):JE K cls W (yN (AL K tl) ι tc te) (xg ml ι mc me):=by
 intro Av G S₀ ρ σ S H Q I p
 refine hl.go I p fun r v S1 H1 I1 w1 r1 p1=>?_
 have ra:=r1.rd I1.sh
 cases e:r.pv with
 | lst xs=>
   rw[e]at p1 ra;obtain⟨a,vs,rfl,hq,hr⟩:=iJ ra
   refine⟨a,rfl,⟨vs,hq⟩,?_⟩
   dsimp only at p1
   cases em:iX mc me (dw ι ρ) xs with
   |exc c fs=>rw[em]at p1;exact p1.elim
   |bad=>rw[em]at p1;exact p1.elim
   | ok ys=>
     rw[em]at p1;simp only[noX]at p1;split at p1
     . rename_i hlen
       refine zT hι hc he I1 em hlen (fun k H' x g hx=>?_) (fun H' g=>⟨vs,aK.seq g hq,by rw[hr.length];exact Nat.le_refl _⟩) fun D S' H' w nD sD ⟨us,hD,rr⟩=>p1 (.ref D) S' H' w ⟨D,us,rfl,nD,sD,hD,rr⟩
       obtain⟨u,hu,ru⟩:=hr.get hx
       refine⟨⟨vs,u,aK.seq g hq,hu⟩,?_⟩
       rintro v' H2 ⟨rfl,hv⟩
       have:=hv vs (aK.seq g hq);rw[hu]at this;cases this
       exact⟨rfl,ru⟩
     . exact p1.elim
 |_=>rw[e]at p1;exact p1.elim
theorem KI{ta ts:TE}{ma ms:ag->OE}(ha:JE K cls W ta ma)(hs:JE K cls W ts ms):JE K cls W (Mj K ta ts) (GR ma ms):=by
 intro Av G S₀ ρ σ S H Q I p
 refine ha.go I p fun a v S1 H1 I1 w1 r1 p1=>hs.go I1 p1 fun k u S2 H2 I2 w2 r2 p2=>?_
 have ra:=(r1.rd I1.sh).mono w2.s w2.g;have rk:=r2.rd I2.sh;split at p2
 . rename_i xs n ea ek;split at p2
   . rename_i hn;rw[ea]at ra;rw[ek]at rk;obtain⟨q,vs,rfl,hq,hr⟩:=iJ ra
     refine⟨by rw[dg rk,hn],q,vs,rfl,hq,fun l hl=>?_⟩
     refine p2 _ S2 _ (bj.heap I2.sh hl) ⟨l,_,rfl,hl,I2.sh.free hl,bC,?_⟩;clear ea p2 hq ra
     induction xs generalizing vs with
     |nil=>rw[hr.nil_inv];exact .nil
     | cons x xs ih=>
       obtain⟨y,t,rfl,h1,h2⟩:=hr.cons_inv;rw[List.reverse_cons,List.reverse_cons]
       exact(ih _ h2).append (.cons h1 .nil)
   . exact p2.elim
 . exact p2.elim
theorem y7:JU K (fun xs H Q=>∃ p ys,xs=[.ref p] /\ ((SqL K H p ys /\ ∀ l,H l=none->Q (.ref l) (upd H l (.tup ys))) \/ (SqT K H p ys /\ Q (.ref p) H))) nG:=by
 intro S H x v rr Q I hx e k
 cases x with
 | lst xs=>
   cases e;obtain⟨p,vs,rfl,hq,r⟩:=iJ hx
   refine⟨p,vs,rfl,.inl ⟨hq,fun l hl=>k _ _ _ (bj.both I hl) ?_⟩⟩
   show Rep K _ _ _;unfold Rep
   exact⟨l,vs,rfl,SqT.new bC,r.mono (bj.both (o:=.tup vs) I hl).s⟩
 | tup xs=>
   cases e;obtain⟨p,vs,rfl,hq,r⟩:=ni hx
   refine⟨p,vs,rfl,.inr ⟨aK.tup I hq,k _ S H (bj.refl I) ?_⟩⟩
   show Rep K _ _ _;unfold Rep
   exact⟨p,vs,rfl,hq,r⟩
 |_=>cases e
end
end L2.P
namespace L2.E
open PySem PySem.Spec PyProof.Rows L2
theorem DJ{X:Cx}{scope:Scope}{cl:List (Str×Addr)}{M:List Str}{ι:List Nat}{x:Str}{elt iter c:Expr}{px pos:Pos}{wi:TI}{tc:TT}{te:TE}(S:oy X scope cl M ι x)(hc:X.calm=true)(hi:QI X (.Name x px) iter wi)(hcd:∀ C s₀ H₀ ex,QT (blk X scope cl (M++[x]) C s₀ H₀ ex) c tc)(he:∀ C s₀ H₀ ex,QE (blk X scope cl (M++[x]) C s₀ H₀ ex) elt te)
  (hs:∀ v,foldedSetIterable iter X.env v=pure v:=by intro _;rfl):QE X (.ListComp elt [⟨.Name x px,iter,[c],0⟩] scope pos) (yN wi ι tc te):=⟨DL S hc hi.out (fun a b c d=>(hcd a b c d).out) (fun a b c d=>(he a b c d).out) hs⟩
theorem LS{X:Cx}{e st:Expr}{te ts:TE}{pos p2:Pos}(he:QE X e te)(hk:QE X st ts):QE X (.Subscript e (.Slice none none (some st) p2) pos) (Mj X.K te ts):=⟨Lg he.out hk.out⟩
theorem G9{X:Cx}{scope:Scope}{cl:List (Str×Addr)}{M:List Str}{ι:List Nat}{x:Str}{i:Nat}{y:Str}{py spos:Pos}{elt iter:Expr}{px pos:Pos}{wi:TI}{te:TE}(hN:X.N.Nodup)(hiy:X.N[i]?=some y)(hy:Loc X.env.scope y)(S:oy X scope cl M ι x)(hc:X.calm=true)(hi:QI X (.Name x px) iter wi)(he:∀ C s₀ H₀ ex,QE (blk X scope cl (M++[x]) C s₀ H₀ ex) elt te)
  (hsw:swapsWith (.ListComp elt [⟨.Name x px,iter,[],0⟩] scope pos) (some (.Name y py)) spos.line X.env=pure true:=by rfl) (hf:X.fn y=true \/ X.env.scope.names.lookup y=some .local:=by first|exact .inl rfl|exact .inr rfl|assumption)
  (hs:∀ v,foldedSetIterable iter X.env v=pure v:=by intro _;rfl):QS X (.Assign [.Name y py] (.ListComp elt [⟨.Name x px,iter,[],0⟩] scope pos) spos) (vh (u3 wi ι te) (mx i)):=⟨HM S hc hi.out (fun a b c d=>(he a b c d).out) hN hiy hy hsw hf hs⟩
def Nh(p:Int×V)(e:DictEntry):Prop:=e.hash=hashInt p.1 /\ (∃ t,e.key=.int p.1 t) /\ RelV p.2 e.val
def DKI(K:PySem.W.Frag)(d:Addr)(kvs:List (Int×V)):Prop:=(d==sysModules)=false /\ (kvs.map (·.1)).Nodup /\ ∃(es:List DictEntry) (ep:Nat),K.lookup d=some ⟨.type "dict",none,.dict es.toArray ep,#[]⟩ /\ Paired Nh kvs es
theorem AI{prog:Program}{w:World}:∀{kvs:List (Int×V)} {es:List DictEntry},Paired Nh kvs es ->
  ∃ us:List (Int×Value),us.map (·.1)=kvs.map (·.1) /\ Pairs (intKind prog w) es us /\ (∀ e∈es,∃ k,(intKind prog w).is k e.key=true /\ e.hash=(intKind prog w).hash k) /\
    ∀ n,match kvs.lookup n with
      |some v=>∃ u,valueAt us n=some u /\ RelV v u
      |none=>valueAt us n=none
 |_,_,.nil=>⟨[],rfl,.nil,fun e he=>(nomatch he),fun n=>rfl⟩
 | (n,v) ::kvs,e ::es,.cons h t=>by
   obtain⟨us,h1,h2,h3,h4⟩:=AI (prog:=prog) (w:=w) t;obtain⟨k1,⟨tk,k2⟩,k3⟩:=h
   have hk:(intKind prog w).is n e.key=true:=by rw[k2];show Value.isInt n (.int n tk)=true;simp[Value.isInt]
   refine⟨(n,e.val) ::us,by simp[h1],.cons hk rfl h2,fun e' he'=>?_,fun m=>?_⟩
   . rcases List.mem_cons.mp he' with z|z
     . subst z;exact⟨n,hk,k1⟩
     . exact h3 e' z
   . have:=h4 m
     by_cases hm:m=n
     . subst hm;simp[List.lookup,valueAt];exact k3
     . have hb:(m==n)=false:=by simpa using hm
       have hn:¬ n=m:=fun z=>hm z.symm
       simp only[List.lookup,hb]
       unfold valueAt at this ⊢
       simp only[List.find?_cons,hn,decide_false];exact this
theorem DKI.at{X:Cx}{pins:List (Addr×Obj)}{σ:St}{H:Hp}{s:Shared}{d:Addr}{kvs:List (Int×V)}(D:DKI X.K d kvs)(I:Inv X pins σ H s):
  ∃ us:List (Int × Value),s.heap.DictOf (intKind X.prog X.w) d us /\ ∀ n,match kvs.lookup n with
     |some v=>∃ u,valueAt us n=some u /\ RelV v u
     |none=>valueAt us n=none:=by
 obtain⟨_,nd,es,ep,hk,pr⟩:=D;obtain⟨us,h1,h2,h3,h4⟩:=AI (prog:=X.prog) (w:=X.w) pr
 exact⟨us,⟨_,es.toArray,ep,I.kIn d _ hk,⟨rfl,rfl,rfl⟩,rfl,fun e he=>h3 e (by simpa using he),by simpa using h2,by rw[h1];exact nd⟩,h4⟩
section
variable{X:Cx}
def JI(K:PySem.W.Frag):R2:=fun x y H Q=>∃ d kvs n v,x=.ref d /\ y=.int n /\ DKI K d kvs /\ kvs.lookup n=some v /\ Q v H
theorem MM:IxR X (JI X.K):=by
 intro value slice pins s σ H x y v u Q I rx ry h hs;obtain⟨d,kvs,n,z,rfl,rfl,D,hl,q⟩:=h;cases rx;obtain⟨t,rfl⟩:=ry;obtain⟨us,dd,hv⟩:=D.at I;have h2:=hv n;rw[hl]at h2;obtain⟨w,e,rw'⟩:=h2;refine tail_any (ops:=[.ref d,.int n t]) dd.typeIs slot_dict_getitem.lookup ?_ hs;exact wpAny_getItem_of (knd:=intKind X.prog X.w) (k:=n) (by show Value.isInt n (.int n t)=true;simp[Value.isInt]) dd.mapOf e ⟨z,H,I.tok _,rw',q⟩
def ED(K:PySem.W.Frag)(td te:TE):TE:=fun σ H Q=>td σ H fun x H1=>∃ d kvs,x=.ref d /\ DKI K d kvs /\ te σ H1 fun y H2=>∃ n,y=.int n /\ Q ((kvs.lookup n).getD .non) H2
theorem zW{o e:Expr}{td te:TE}{apos cpos:Pos}(ho:QE X o td)(he:QE X e te)(hbase:attributeBase o "get" X.env (eval o X.env)=eval o X.env:=by rfl)
  (few:((backTo cpos (starEach [e] X.env)).all (fun x=>!x.1)&&(backToKw cpos (keywordEach [] X.env)).all (fun x=>x.1.isSome)&&decide (([e]:List Expr).length+([]:List Keyword).length+(if([]:List Keyword).isEmpty then 0 else 1)<30))=true:=by rfl)
  (line:(apos.endLine==cpos.line)=true:=by rfl) (trees:backTo cpos (starEach [e] X.env)=[(false,eval e X.env)]:=by rfl):QE X (.Call (.Attribute o "get" apos) [e] [] cpos) (ED X.K td te):=⟨by
 intro pins s σ H Q I h;refine wpAny_Call_method hbase few line PySem.F.plainAttrs_dict PySem.F.slot_dict_get PySem.F.type_dict_get (thn (ho.out pins s σ H _ I h) fun u s1 ⟨x,H1,I1,rx,d,kvs,ex,D,q1⟩=>?_);subst ex
 obtain rfl:u=Value.ref d:=rx
 obtain⟨us,dd,hv⟩:=D.at I1;obtain⟨_,nd,es,ep,hk,pr⟩:=id D
 refine⟨dd.typeIs,fun b hb=>by cases hb;exact⟨_,I1.kIn d _ hk,rfl⟩,?_⟩
 rw[trees];refine Calls.callWith_builtin rfl (Calls.evalArgs_plain (Calls.spliced_cons (thn (he.out pins s1 σ H1 _ I1 q1) fun iv s2 ⟨y,H2,I2,ry,n,ey,q2⟩=>Calls.spliced_nil ?_)));subst ey;obtain⟨t,rfl⟩:=ry;obtain⟨us2,dd2,hv2⟩:=D.at I2;refine call_meetsIn PySem.F.slot_dict_get dd2.typeIs PySem.F.entry_dict_get (PySem.F.args_dict_get_2 _ _) (meets_dict_get (intKind X.prog X.w) d (k:=n) (key:=.int n t) (by show Value.isInt n (.int n t)=true;simp[Value.isInt]) D.1) ⟨_,dd2.mapOf,⟨_,H2,I2.tok _,?_,q2⟩⟩;have h2:=hv2 n
 cases q:kvs.lookup n with
 |none=>rw[q]at h2;rw[h2];rfl
 |some v=>rw[q]at h2;obtain⟨u,e,r⟩:=h2;rw[e];exact r⟩
end
end L2.E
namespace L2.P
open PySem PySem.Spec PyProof.Rows L2 L2.E
section
variable{K:PySem.W.Frag}{cls:String->Option Addr}{W:XW}{Av G S₀ S S' H H' B B':Hp}{ρ:ag}{σ:St}{Q:VK}
def DKP(K:PySem.W.Frag)(d:Addr)(kvs:List (Int×PV)):Prop:=∃ us,DKI K d us /\ Paired (fun (p:Int×PV) (q:Int×V)=>p.1=q.1 /\ ∀ S,Rep K S p.2 q.2) kvs us
theorem DKP.look{d:Addr}:∀{kvs:List (Int×PV)} {us:List (Int×V)},Paired (fun (p:Int×PV) (q:Int×V)=>p.1=q.1 /\ ∀ S,Rep K S p.2 q.2) kvs us->∀ n,match kvs.lookup n with
  |some x=>∃ v,us.lookup n=some v /\ ∀ S,Rep K S x v
  |none=>us.lookup n=none
 |_,_,.nil,n=>rfl
 | (k,x) ::kvs,(k',v) ::us,.cons h t,n=>by
   obtain⟨rfl,hr⟩:=h;have:=DKP.look (d:=d) t n
   by_cases hm:n=k
   . subst hm;simp[List.lookup];exact hr
   . have hb:(n==k)=false:=by simpa using hm
     simp only[List.lookup,hb];exact this
theorem GY{d:Addr}{kvs:List (Int×PV)}{ta:TE}{ma:ag->OE}(D:DKP K d kvs)(ha:JE K cls W ta ma):JE K cls W (tOp (JI K) (tC (.ref d)) ta) (mUn (C1 kvs) ma):=by
 intro Av G S₀ ρ σ S H Q I p
 refine ha.go I p fun a v S1 H1 I1 w1 r1 p1=>?_
 have ra:=r1.rd I1.sh
 cases e:a.pv with
 | int n=>
   rw[e]at p1 ra;obtain⟨us,D1,pr⟩:=D;have:=DKP.look (d:=d) pr n;simp only[C1]at p1
   cases q:kvs.lookup n with
   |none=>rw[q]at p1;exact p1.elim
   | some x=>
     rw[q]at p1 this;obtain⟨u,eu,hr⟩:=this
     exact⟨d,us,n,u,rfl,dg ra,D1,eu,p1 _ S1 H1 (bj.refl I1.sh) (hr S1)⟩
 |_=>rw[e]at p1;exact p1.elim
theorem zP{d:Addr}{kvs:List (Int×PV)}{ta:TE}{ma:ag->OE}(D:DKP K d kvs)(ha:JE K cls W ta ma):JE K cls W (ED K (tC (.ref d)) ta) (mUn (gY kvs) ma):=by
 intro Av G S₀ ρ σ S H Q I p;obtain⟨us,D1,pr⟩:=D
 refine⟨d,us,rfl,D1,?_⟩
 refine ha.go I p fun a v S1 H1 I1 w1 r1 p1=>?_
 have ra:=r1.rd I1.sh
 cases e:a.pv with
 | int n=>
   rw[e]at p1 ra;have:=DKP.look (d:=d) pr n;simp only[gY,oE]at p1
   refine⟨n,dg ra,?_⟩
   cases q:kvs.lookup n with
   | none=>
     rw[q]at p1 this;rw[this];exact p1 _ S1 H1 (bj.refl I1.sh) (by show Rep K S1 _ _;unfold Rep;rfl)
   | some x=>
     rw[q]at p1 this;obtain⟨u,eu,hr⟩:=this;rw[eu];exact p1 _ S1 H1 (bj.refl I1.sh) (hr S1)
 |_=>rw[e]at p1;exact p1.elim
end
end L2.P
namespace L2.E
open PySem PySem.Spec PyProof.Rows L2
end L2.E
namespace L2.P
open PySem PySem.Spec PyProof.Rows L2 L2.E
end L2.P
namespace L2.P
open PySem
end L2.P
namespace L2.P
open PySem PySem.Spec PyProof.Rows L2 L2.E
end L2.P
namespace L2.P
open PySem
def zi(x:Str):List PV:=x.cps.toList.map fun c=>.str ⟨#[c]⟩
def ql(ml:ag->OE)(ι:List Nat)(me:ag->OE):ag->OE:=fun ρ=>(ml ρ).bind fun r=>match r.pv with
 |.str x=>noX (da me (dw ι ρ) (zi x))
 |_=>.bad
@[simp] theorem FW(ml:ag->OE)(ι:List Nat)(me:ag->OE)(ρ:ag):ql ml ι me ρ=((ml ρ).bind fun r=>match r.pv with
  |.str x=>noX (da me (dw ι ρ) (zi x))
  |_=>.bad):=rfl
def F6:PV->Option RV
 |.str x=>if x.length=1 then some (.sh (.int (x.cps.getD 0 0:Nat)))else none
 |_=>none
def qL:PV->Option RV
 |.int i=>if i.natAbs.log2<1920 then some (.sh (.str (toString i)))else none
 |_=>none
end L2.P
namespace L2
open PySem PySem.Spec PyProof.Rows
def Its(x:Str):It:=⟨fun i _=>i<x.cps.size,fun i H v H'=>H'=H /\ ∃ c,x.cps[i]?=some c /\ v=.str ⟨#[c]⟩,fun i _=>x.cps.size<=i⟩
theorem zV{P:Program}{w:World}{K:PySem.W.Frag}{tg:Expr}{it:Addr}{x:Str}{t:Tok}{n:String}(hn:["enumerate","zip","dict_itemiterator","dict_reverseitemiterator","odict_iterator","itertools.zip_longest","itertools.pairwise"].contains n=false)
  (W:∀ A:Around,A.handled=none->Walks P w A it [it] [it] x.cps.size (SignAt x) (fun i h=>h.IsStrIter it n x t i))
  (De:∀(A:Around) (s:Shared) (i:Nat) (Q:Option Value->Shared->Prop) (E:Value->Shared->Prop),A.handled=none->s.heap.IsStrIter it n x t i->x.cps[i]?=none->(∀ h',Heap.ExtBut it s.heap h'->Q none { s with heap:=h' })->wpAny (model P w) A (pyNext (.ref it)) Q E s)
  (Se:∀(A:Around) (i:Nat) (s:Shared) (Q:Value->Shared->Prop) (E:Value->Shared->Prop),s.heap.IsStrIter it n x t i->Q (.ref it) s->wpAny (model P w) A (pyIter (.ref it)) Q E s):Turn P w K tg (Its x) [it] it (fun i h=>h.IsStrIter it n x t i) where
 mem:=by simp
 obj:=fun i h st b hb=>by
  have e:b=it:=by simpa using hb
  subst e;obtain⟨o,e,c,d⟩:=st
  exact⟨o,e,fun v z=>by rw[d]at z;cases z⟩
 keep:=fun i h h' st k=>let ⟨o,e,r⟩:=st;⟨o,k it (by simp) o e,r⟩
 item:=by
  intro X hP hw hK hc i pins s σ H E I hf st hg;subst hP hw hK;obtain⟨f0,f1,f2,f3,f4,f5⟩:=hf it (by simp)
  refine(W X.A (I.ok.hd hc)).item i s _ _ hg st fun v h' tk hv st' kk=>?_
  obtain⟨c,u,hc1,rfl⟩:=hv
  have I1:Inv X pins σ H { s with heap:=h',toks:=tk }:=I.turned (fun b o hb e=>kk b o (by simpa using hb) e) f0 f1 f3 f4 f5
  obtain⟨o,e,cc,d⟩:=id st'
  exact⟨_,rfl,CL (s:={ s with heap:=h',toks:=tk }) e cc d hn ⟨.str ⟨#[c]⟩,H,I1,⟨u,rfl⟩,⟨rfl,c,hc1,rfl⟩,st',fun b hb=>(hf b hb).1⟩⟩
 done:=by
  intro X hP hw hK hc i pins s σ H E I hf st hg;subst hP hw hK;obtain⟨f0,f1,f2,f3,f4,f5⟩:=hf it (by simp)
  have hg':x.cps.size<=i:=hg
  exact De X.A s i _ _ (I.ok.hd hc) st (by simp;omega) fun h' eb=>⟨rfl,I.turned (t':=s.toks) (fun b o hb e=>eb b o hb e) f0 f1 f3 f4 f5⟩
 self:=fun A i s Q E st h=>Se A i s Q E st h
def LC(tl:TE):TI:=fun σ H R=>tl σ H fun v H1=>∃ x,v=.str x /\ R (Its x) H1
theorem LF{X:Cx}{tg:Expr}{l:Expr}{tl:TE}(hl:PE X l tl):PI X tg l (LC tl):=by
 intro pins s σ H R I h
 refine thn (hl pins s σ H _ I h) fun v s1 ⟨y,H1,I1,r1,q1⟩=>?_
 obtain⟨x,e,q⟩:=q1;subst e;obtain⟨t,rfl⟩:=r1
 have hf:∀ b∈[s1.heap.objs.size],p8 X pins H1 b:=fun b hb=>by
  have e:b=s1.heap.objs.size:=by simpa using hb
  subst e;exact I1.Dj (Nat.le_refl _) (I1.hok.fresh (Nat.le_refl _))
 cases ha:x.cps.all (·<128)with
 | false=>
   exact wpAny_pyIter_wide ha ⟨s1.heap.objs.size,[s1.heap.objs.size],_,_,H1,rfl,I1.kept (t':=s1.toks) fun b o e=>Heap.get?_push_of_some _ e,
    zV (n:="str_iterator") (x:=x) (t:=t) (by decide) (fun A' hA=>Walks.strWide hA _ x t) (fun A s i Q E hA st hx hQ=>wpAny_pyNext_wide_end hA st hx hQ) (fun A i s Q E st h=>wpAny_pyIter_striter_wide st h),⟨_,Heap.get?_push_size _ rfl,rfl,rfl⟩,hf,q⟩
 | true=>
   exact wpAny_pyIter_ascii ha ⟨s1.heap.objs.size,[s1.heap.objs.size],_,_,H1,rfl,I1.kept (t':=s1.toks) fun b o e=>Heap.get?_push_of_some _ e,
    zV (n:="str_ascii_iterator") (x:=x) (t:=t) (by decide) (fun A' hA=>Walks.strAscii hA _ x t) (fun A s i Q E hA st hx hQ=>wpAny_pyNext_ascii_end hA st hx hQ) (fun A i s Q E st h=>wpAny_pyIter_striter_ascii st h),⟨_,Heap.get?_push_size _ rfl,rfl,rfl⟩,hf,q⟩
end L2
theorem L2.E.boot_ord:PySem.bootBuiltins "ord" = some (.builtin "ord"):=by decide +kernel
namespace L2.P
open PySem PySem.Spec PyProof.Rows L2 L2.E
theorem EA{X:L2.Cx}{tg l:Expr}{tl:TE}(h:QE X l tl):QI X tg l (LC tl):=⟨LF h.out⟩
section
variable{K:PySem.W.Frag}{cls:String->Option Addr}{W:XW}{Av G S₀ S S' H H' B B':Hp}{ρ:ag}{σ:St}{Q:VK}{F:Nat->List Addr}
theorem Al{tl te:TE}{ml me:ag->OE}{ι:List Nat}(hι:ι.Nodup)(hl:JE K cls W tl ml)(he:JE K cls (fun _ _ _ _=>False) te me):JE K cls W (u3 (LC tl) ι te) (ql ml ι me):=by
 intro Av G S₀ ρ σ S H Q I p
 refine hl.go I p fun r v S1 H1 I1 w1 r1 p1=>?_
 have ra:=r1.rd I1.sh
 cases e:r.pv with
 | str x=>
   rw[e]at p1 ra;have hv:=j3 ra;subst hv
   refine⟨x,rfl,?_⟩
   dsimp only at p1
   cases em:da me (dw ι ρ) (zi x)with
   |exc c fs=>rw[em]at p1;exact p1.elim
   |bad=>rw[em]at p1;exact p1.elim
   | ok ys=>
     rw[em]at p1;simp only[noX]at p1;split at p1
     . rename_i hlen
       have hcl:(zi x).length=x.cps.size:=by simp[zi]
       refine qR hι he I1 em hlen (fun k H' y g hx=>?_) (fun H' g=>by show x.cps.size<=(zi x).length;rw[hcl];exact Nat.le_refl _) fun D S' H' w nD sD ⟨us,hD,rr⟩=>p1 (.ref D) S' H' w ⟨D,us,rfl,nD,sD,hD,rr⟩
       have hk:k<x.cps.size:=by rw[<- hcl];exact(List.getElem?_eq_some_iff.mp hx).1
       refine⟨hk,?_⟩
       rintro v' H2 ⟨rfl,c,hc,rfl⟩
       refine⟨rfl,?_⟩
       have hy:y=.str ⟨#[c]⟩:=by
        unfold zi at hx;rw[List.getElem?_map]at hx
        have:x.cps.toList[k]?=some c:=by simpa using hc
        rw[this]at hx
        exact(Option.some.inj hx).symm
       subst hy;unfold Rep;rfl
     . exact p1.elim
 |_=>rw[e]at p1;exact p1.elim
theorem L7:JU K (fun xs H Q=>∃ x,xs=[.str x] /\ x.length=1 /\ Q (.int (x.cps.getD 0 0:Nat)) H) F6:=by
 intro S H x v rr Q I hx e k
 cases x with
 | str x=>
   by_cases hl:x.length=1
   . have e':F6 (.str x)=some (.sh (.int (x.cps.getD 0 0:Nat))):=if_pos hl
     rw[e']at e;cases e
     exact⟨x,by rw[j3 hx],hl,k _ S H (bj.refl I) (by show Rep K S _ _;unfold Rep;rfl)⟩
   . have e':F6 (.str x)=none:=if_neg hl
     rw[e']at e;cases e
 |_=>cases e
theorem EO:JU K (fun xs H Q=>∃ i:Int,xs=[.int i] /\ i.natAbs.log2<1920 /\ Q (.str (toString i)) H) qL:=by
 intro S H x v rr Q I hx e k
 cases x with
 | int i=>
   by_cases hl:i.natAbs.log2<1920
   . have e':qL (.int i)=some (.sh (.str (toString i))):=if_pos hl
     rw[e']at e;cases e
     exact⟨i,by rw[dg hx],hl,k _ S H (bj.refl I) (by show Rep K S _ _;unfold Rep;rfl)⟩
   . have e':qL (.int i)=none:=if_neg hl
     rw[e']at e;cases e
 |_=>cases e
end
end L2.P
namespace HT
open PySem PyProof.Rows
end HT
namespace L2
open PySem PySem.Spec PyProof.Rows
end L2
namespace L2.P
open PySem PySem.Spec PyProof.Rows L2 L2.E
end L2.P
namespace HT
open PySem PyProof.Rows
open AutoSeq1 (wpAny_loadPart')
end HT
namespace L2
open PySem PySem.Spec PyProof.Rows
end L2
namespace L2.P
open PySem PySem.Spec PyProof.Rows L2 L2.E
end L2.P
namespace L2.P
open PySem
def jt(kvs:List (Int×PV))(a b:RV):OE:=match a.pv,b with
 |.int n,.sh d=>.ok (.sh ((kvs.lookup n).getD d))
 |_,_=>.bad
def zm(kvs:List (Int×PV))(ma mb:ag->OE):ag->OE:=fun ρ=>(ma ρ).bind fun a=>(mb ρ).bind fun b=>jt kvs a b
@[simp] theorem Ms(kvs:List (Int×PV))(ma mb:ag->OE)(ρ:ag):zm kvs ma mb ρ=(ma ρ).bind fun a=>(mb ρ).bind fun b=>jt kvs a b:=rfl
def Lu(kvs:List (Int×Int)):ag->OD:=fun _=>.ok (.di (kvs.map fun p=>(p.1,.int p.2)))
def AU(neg:Bool)(me:ag->OE)(i:Nat)(mp:MP):ag->OE:=fun ρ=>(me ρ).bind fun r=>match r.pv with
 | .int n=>(match subAt i mp ρ with
   |some (.di kvs)=>.ok (.sh (.bl (if neg then !(kvs.lookup n).isSome else(kvs.lookup n).isSome)))
   |_=>.bad)
 |_=>.bad
def Cc(i:Nat)(mp:MP)(me:ag->OE):ag->OE:=fun ρ=>match subAt i mp ρ with
 | some (.di kvs)=>(me ρ).bind fun r=>(match r.pv with
   |.int n=>oE ((kvs.lookup n).map .sh)
   |_=>.bad)
 |_=>.bad
def Bb:ag->OS:=fun _=>.bad
def CQ:PV->Option RV
 | .str x=>(match x.cps.toList with
   |[c]=>if 48<=c /\ c<=57 then some (.sh (.int ((c:Int) - 48)))else none
   |_=>none)
 |_=>none
def dQ(i:Nat)(mp:MP)(me:ag->OE):ag->OS:=fun ρ=>vd i mp ρ fun u put=>match u with
 | .ol ts=>(me ρ).cy ρ fun r=>(match r with
   |.fr ys=>if ts.length+ys.length<=lim then .nx (put (.ol (ts++ys.map .sh)))else .bad
   |.sh (.lst ys)=>if ts.length+ys.length<=lim then .nx (put (.ol (ts++ys.map .sh)))else .bad
   |_=>.bad)
 |_=>.bad
end L2.P
namespace L2
open PySem PySem.Spec PyProof.Rows
end L2
namespace L2.E
open PySem PySem.Spec PyProof.Rows L2
section
variable{X:Cx}
def C7(K:PySem.W.Frag)(td te tf:TE):TE:=fun σ H Q=>td σ H fun x H1=>∃ d kvs,x=.ref d /\ DKI K d kvs /\ te σ H1 fun y H2=>tf σ H2 fun z H3=>∃ n,y=.int n /\ Q ((kvs.lookup n).getD z) H3
theorem Dh{o e f:Expr}{td te tf:TE}{apos cpos:Pos}(ho:QE X o td)(he:QE X e te)(hf:QE X f tf)(hbase:attributeBase o "get" X.env (eval o X.env)=eval o X.env:=by rfl)
  (few:((backTo cpos (starEach [e,f] X.env)).all (fun x=>!x.1)&&(backToKw cpos (keywordEach [] X.env)).all (fun x=>x.1.isSome)&&decide (([e,f]:List Expr).length+([]:List Keyword).length+(if([]:List Keyword).isEmpty then 0 else 1)<=15))=true:=by rfl)
  (line:(apos.endLine==cpos.line)=true:=by rfl) (trees:backTo cpos (starEach [e,f] X.env)=[(false,eval e X.env),(false,eval f X.env)]:=by rfl):QE X (.Call (.Attribute o "get" apos) [e,f] [] cpos) (C7 X.K td te tf):=⟨by
 intro pins s σ H Q I h;refine wpAny_Call_method hbase few line PySem.F.plainAttrs_dict PySem.F.slot_dict_get PySem.F.type_dict_get (thn (ho.out pins s σ H _ I h) fun u s1 ⟨x,H1,I1,rx,d,kvs,ex,D,q1⟩=>?_);subst ex
 obtain rfl:u=Value.ref d:=rx
 obtain⟨us,dd,hv⟩:=D.at I1;obtain⟨_,nd,es,ep,hk,pr⟩:=id D
 refine⟨dd.typeIs,fun b hb=>by cases hb;exact⟨_,I1.kIn d _ hk,rfl⟩,?_⟩
 rw[trees];refine Calls.callWith_builtin rfl (Calls.evalArgs_plain (Calls.spliced_cons (thn (he.out pins s1 σ H1 _ I1 q1) fun iv s2 ⟨y,H2,I2,ry,q2⟩=>Calls.spliced_cons (thn (hf.out pins s2 σ H2 _ I2 q2) fun fv s3 ⟨z,H3,I3,rz,n,ey,q3⟩=>Calls.spliced_nil ?_))));subst ey;obtain⟨t,rfl⟩:=ry;obtain⟨us2,dd2,hv2⟩:=D.at I3;refine call_meetsIn PySem.F.slot_dict_get dd2.typeIs PySem.F.entry_dict_get (PySem.F.args_dict_get_3 _ _ _) (meets_dict_get_default (intKind X.prog X.w) d (k:=n) (key:=.int n t) (by show Value.isInt n (.int n t)=true;simp[Value.isInt]) D.1 fv) ⟨_,dd2.mapOf,_,H3,I3.tok _,?_,q3⟩;have h2:=hv2 n
 cases q:kvs.lookup n with
 |none=>rw[q]at h2;rw[h2];exact rz
 |some v=>rw[q]at h2;obtain⟨u,e,r⟩:=h2;rw[e];exact r⟩
def JH:TS:=fun _ _ _=>False
theorem IP{e:Stmt}:QS X e JH:=⟨fun _ _ _ _ _ _ h=>h.elim⟩
end
end L2.E
namespace L2.P
open PySem PySem.Spec PyProof.Rows L2 L2.E
section
variable{K:PySem.W.Frag}{cls:String->Option Addr}{W:XW}{S:Hp}
theorem DI{d:Addr}{kvs:List (Int×PV)}{ta tb:TE}{ma mb:ag->OE}(D:DKP K d kvs)(ha:JE K cls W ta ma)(hb:JE K cls W tb mb):JE K cls W (C7 K (tC (.ref d)) ta tb) (zm kvs ma mb):=by
 intro Av G S₀ ρ σ S H Q I p;obtain⟨us,D1,pr⟩:=D
 refine⟨d,us,rfl,D1,?_⟩
 refine ha.go I p fun a v S1 H1 I1 w1 r1 p1=>hb.go I1 p1 fun b u S2 H2 I2 w2 r2 p2=>?_
 have ra:=(r1.rd I1.sh).mono w2.s w2.g
 cases e:a.pv with
 | int n=>
   rw[e]at ra;have:=DKP.look (d:=d) pr n
   cases b with
   |fr xs=>unfold jt at p2;rw[e]at p2;exact p2.elim
   |al xs=>unfold jt at p2;rw[e]at p2;exact p2.elim
   | sh x=>
     unfold jt at p2;rw[e]at p2
     refine⟨n,dg ra,?_⟩
     cases q:kvs.lookup n with
     | none=>
       simp only[q]at p2 this;rw[this];exact p2 _ S2 H2 (bj.refl I2.sh) r2
     | some y=>
       simp only[q]at p2 this;obtain⟨u,eu,hr⟩:=this;rw[eu];exact p2 _ S2 H2 (bj.refl I2.sh) (hr S2)
 |_=>unfold jt at p2;rw[e]at p2;exact p2.elim
theorem Iu:JS K cls W JH Bb:=fun _ _ _ _ _ _ _ _ _ p=>p
end
end L2.P
namespace L2.E
open PySem PySem.Spec PyProof.Rows L2
section
variable{X:Cx}{o i:Expr}{td ty:TE}{pos:Pos}
theorem K1(hu:X.A.units+1<cLine)(hi:QE X i ty)(ho:QE X o td)(h1:behindInMarks .In o=false:=by first|exact zU _ (by decide) (by decide)|rfl):QT X (.Compare i [.In] [o] pos) (tB (LL ty td)):=⟨Mo (KW hu hi.out ho.out) h1⟩
theorem HV(hu:X.A.units+1<cLine)(ho:QE X o td)(hi:QE X i ty)(hs:Lr i):QE X (.Subscript o i pos) (Gy td ty):=⟨IB hu ho.out hi.out hs⟩
structure QPs(X:Cx)(pos:Pos)(keys:List (Option Expr))(values:List Expr)(trs:List (TE×TE)):Prop where
 out:PPs X pos keys values trs
theorem HU:QPs X pos [] [] []:=⟨Hn⟩
theorem kC{k v:Expr}{ks:List (Option Expr)}{vs:List Expr}{tk tv:TE}{trs:List (TE×TE)}(hk:QE X k tk)(hv:QE X v tv)(hr:QPs X pos ks vs trs):QPs X pos (some k ::ks) (v ::vs) ((tk,tv) ::trs):=⟨EF hk.out hv.out hr.out⟩
theorem GW{keys:List (Option Expr)}{values:List Expr}{trs:List (TE×TE)}(h:QPs X pos keys values trs)(hall:keys.all (·.isSome)=true:=by rfl)(hl:keys.length=values.length:=by rfl)(h0:keys≠[]:=by intro z;cases z)(h15:keys.length<=15:=by decide):QE X (.Dict keys values pos) (FX trs):=⟨IM h.out hall hl h0 h15⟩
end
end L2.E
namespace L2.P
open PySem PySem.Spec PyProof.Rows L2 L2.E
section
variable{K:PySem.W.Frag}{cls:String->Option Addr}{W:XW}{S H:Hp}
theorem AE(kvs:List (Int×Int))(σ:St):∀(H:Hp) (R:List (V×V)->Hp->Prop),R (kvs.map fun p=>(.int p.1,.int p.2)) H->zg (kvs.map fun p=>(tC (.int p.1),tC (.int p.2))) σ H R:=by
 induction kvs with
 |nil=>intro H R h;exact h
 |cons p kvs ih=>intro H R h;exact ih H _ h
theorem Ek(more:List (Key×V)):∀ kvs:List (Key×V),((kvs++more).map (·.1)).Nodup->pM kvs more=kvs++more:=by
 induction more with
 |nil=>intro kvs _;simp[pM]
 | cons p more ih=>
   intro kvs h
   have hn:m9 kvs p.1=none:=by
    unfold m9;rw[Option.map_eq_none_iff,List.find?_eq_none];intro q hq e
    have e':q.1=p.1:=of_decide_eq_true e
    rw[List.map_append,List.nodup_append]at h;exact h.2.2 q.1 (List.mem_map_of_mem hq) p.1 (by simp) e'
   show pM (putK kvs p.1 p.2) more=_;rw[Gb _ hn,ih _ (by simpa using h)];simp
theorem LV{kvs:List (Int×Int)}(nd:(kvs.map (·.1)).Nodup)(h15:kvs.length<=15):JD K cls W (FX (kvs.map fun p=>(tC (.int p.1),tC (.int p.2)))) (Lu kvs):=by
 intro Av G S₀ ρ σ S H Q I p;intro q hq;refine AE kvs σ _ _ ⟨bC,kvs.map fun p=>(Sum.inl p.1,V.int p.2),by simp[kV],by simpa using h15,?_⟩
 rw[HE,Ek _ [] (by
  rw[List.nil_append,List.map_map]
  have:((fun x:Key×V=>x.1) ∘ fun p:Int×Int=>((Sum.inl p.1:Key),V.int p.2))=(fun k:Int=>(Sum.inl k:Key)) ∘ fun p:Int×Int=>p.1:=rfl
  rw[this,<- List.map_map]
  exact List.pairwise_map.mpr (List.Pairwise.imp (fun h z=>h (Sum.inl.inj z)) nd)),List.nil_append]
 refine p (.ref q) S _ (bj.heap I.sh hq) ⟨[q],?_,by simp,fun a ha=>?_⟩
 . unfold bA
   refine⟨q,_,rfl,bC,rfl,?_⟩
   clear nd h15 p
   induction kvs with
   |nil=>exact .nil
   |cons x kvs ih=>exact .cons ⟨rfl,by unfold Rep;rfl⟩ ih
 . have z:a=q:=by simpa using ha
   subst z
   exact⟨hq,I.sh.free hq⟩
theorem yF.look{kvs:List (Int×PV)}{us:List (Key×V)}(h:yF K S kvs us)(n:Int):match kvs.lookup n with
  |some x=>∃ v,m9 us (Sum.inl n:Key)=some v /\ Rep K S x v
  |none=>m9 us (Sum.inl n:Key)=none:=by
 induction h with
 |nil=>rfl
 | @cons p q ps qs h t ih=>
   obtain⟨h1,h2⟩:=h;obtain⟨k,x⟩:=p;obtain⟨k',v⟩:=q
   dsimp only at h1 h2
   subst h1
   by_cases hm:n=k
   . subst hm;simp[List.lookup,m9];exact h2
   . have hb:(n==k)=false:=by simpa using hm
     have hd:decide ((Sum.inl k:Key)=Sum.inl n)=false:=decide_eq_false fun z=>hm (Sum.inl.inj z).symm
     simp only[List.lookup,hb]
     have e:m9 ((Sum.inl k,v) ::qs) (Sum.inl n:Key)=m9 qs (Sum.inl n):=by
      unfold m9;rw[List.find?_cons,hd]
     rw[e];exact ih
theorem yF.HI{kvs:List (Int×PV)}{us:List (Key×V)}(h:yF K S kvs us)(n:Int):(m9 us (Sum.inl n:Key)).isSome=(kvs.lookup n).isSome:=by
 have:=h.look n
 cases q:kvs.lookup n with
 |none=>rw[q]at this;rw[this];rfl
 |some x=>rw[q]at this;obtain⟨v,e,_⟩:=this;rw[e];rfl
theorem Iy{i:Nat}{ta td:TE}{ma:ag->OE}{mp:MP}(ha:JE K cls W ta ma)(hp:JP K cls td i mp):JE K cls W (LL ta td) (AU false ma i mp):=by
 intro Av G S₀ ρ σ S H Q I p
 refine ha.go I p fun a v S1 H1 I1 w1 r1 p1=>?_
 have ra:=r1.rd I1.sh
 cases e:a.pv with
 | int n=>
   rw[e]at p1 ra
   dsimp only at p1
   split at p1
   . rename_i kvs es
     refine hp.sub I1 es fun w S2 H2 f w2 _ r=>?_
     unfold bA at r;obtain⟨q,us,rfl,hq,_,hd⟩:=r;have hv:=dg ra;subst hv
     refine⟨q,_,rfl,yS.k (k:=Sum.inl n) hq,?_⟩
     rw[hd.HI n];exact p1 _ S2 H2 w2 o7
   . exact p1.elim
 |_=>rw[e]at p1;exact p1.elim
theorem HX{i:Nat}{ta td:TE}{ma:ag->OE}{mp:MP}(hp:JP K cls td i mp)(ha:JE K cls W ta ma):JE K cls W (Gy td ta) (Cc i mp ma):=by
 intro Av G S₀ ρ σ S H Q I p;unfold Cc at p;split at p
 . rename_i kvs es
   refine hp.sub I es fun w S2 H2 f w2 I2 r=>?_
   refine ha.go I2 (p.back w2) fun a v S1 H1 I1 w1 r1 p1=>?_
   have ra:=r1.rd I1.sh
   have r':=r.mono w1.s fun a _ o z=>w1.g _ _ z
   unfold bA at r';obtain⟨q,us,rfl,hq,_,hd⟩:=r'
   cases e:a.pv with
   | int n=>
     rw[e]at p1 ra
     dsimp only at p1
     have hv:=dg ra;subst hv;have hl:=hd.look n
     cases el:kvs.lookup n with
     |none=>rw[el]at p1;exact p1.elim
     | some x=>
       rw[el]at p1 hl;obtain⟨u,eu,ru⟩:=hl
       refine⟨q,u,rfl,by have:=yS.k (k:=(Sum.inl n:Key)) hq;rw[eu]at this;exact this,p1 u S1 H1 (bj.refl I1.sh) ru⟩
   |_=>rw[e]at p1;exact p1.elim
 . exact p.elim
end
end L2.P
namespace L2.E
open PySem PySem.Spec PyProof.Rows L2
end L2.E
namespace L2.P
open PySem PySem.Spec PyProof.Rows L2 L2.E
end L2.P
namespace L2.E
open PySem PySem.Spec PyProof.Rows L2
theorem DH{X:Cx}:n4 X (.type "int") (fun xs H Q=>∃ x n,xs=[.str x] /\ PySem.intText? x=some n /\ x.length<=640 /\ Q (.int n) H):=by
 intro pins s σ H xs us Q I r h;obtain⟨x,n,rfl,h1,h2,q⟩:=h;obtain⟨u,rfl,t,rfl⟩:=vals1 r;exact PySem.W.KIN.call_text h1 h2 ⟨.int n,H,I.tok _,⟨_,rfl⟩,q⟩
theorem Bw{x:Str}{c:Nat}(h:x.cps.toList=[c])(h1:48<=c)(h2:c<=57):PySem.intText? x=some ((c:Int) - 48) /\ x.length<=640:=by
 have e:x=⟨#[c]⟩:=by
  cases x with
  | mk a=>cases a with
    |mk l=>simp at h;subst h;rfl
 subst e
 refine⟨?_,by show 1<=640;decide⟩
 have hc:c=48 \/ c=49 \/ c=50 \/ c=51 \/ c=52 \/ c=53 \/ c=54 \/ c=55 \/ c=56 \/ c=57:=by omega
 rcases hc with rfl|rfl|rfl|rfl|rfl|rfl|rfl|rfl|rfl|rfl<;>decide +kernel
end L2.E
namespace L2.P
open PySem PySem.Spec PyProof.Rows L2 L2.E
theorem Ik{K:PySem.W.Frag}:JU K (fun xs H Q=>∃ x n,xs=[.str x] /\ PySem.intText? x=some n /\ x.length<=640 /\ Q (.int n) H) CQ:=by
 intro S H x v rr Q sh r e k
 cases x with
 | str z=>
   have hv:v=.str z:=by have r':Rep K S (.str z) v:=r;unfold Rep at r';exact r'
   subst hv;unfold CQ at e
   dsimp only at e
   split at e
   . rename_i c hc;split at e
     . rename_i h;cases e;obtain⟨h1,h2⟩:=Bw hc h.1 h.2
       exact⟨z,_,rfl,h1,h2,k _ S H (bj.refl sh) (by show Rep K S _ _;unfold Rep;rfl)⟩
     . cases e
   . cases e
 |_=>cases e
end L2.P
namespace L2.E
open PySem PySem.Spec PyProof.Rows L2
theorem yo(l:Addr)(items:Array Value)(n:Nat)(b:Addr)(items2:Array Value)(n2:Nat)(dd2:Option Addr)(sl2:Array (Option Value))(hc0:¬(!items.isEmpty&&Builtin.List.listTooLong (items.size+items2.size))=true)(hc1:items.size<=sizeLine)(hs2:items.size+items2.size<=sizeLine+1):
  Meets (Builtin.«list.extend» ⟨[.ref l,.ref b],[]⟩) (fun _ R s=>s.heap.get? l=some { cls:=.type "list",dict:=none,data:=.seq items n,slots:=#[] } /\ s.heap.get? b=some { cls:=.type "list",dict:=dd2,data:=.seq items2 n2,slots:=sl2 } /\ R (.ok (.ret Value.none)) { s with heap:=s.heap.update l (Obj.mapSeq fun x=>x++items2),toks:=s.toks }):=
 .of_wp fun prog w A R s h=>by
  obtain⟨hp,g,d,tk,os⟩:=s;obtain⟨hl,hb,h⟩:=h;have f1:=AutoSeq1.idx_int;have f2:=AutoSeq1.sub_tuple_tuple;have f3:=AutoSeq1.sub_list_list;have f4:=AutoSeq1.sub_tuple_list;have f5:=AutoSeq1.sub_list_tuple
  have hz':(items++items2).size<=sizeLine+1:=by rw[Array.size_append];exact hs2
  wp_walk using (wpAny_updateSeq hl rfl (hz:=hc1) (_hz':=hz')),wpAny_loadPart' hl,wpAny_loadPart' hb;exact⟨_,rfl,h⟩
def A2(K:PySem.W.Frag):V->List V->Hp->VK->Prop:=fun x vs H Q=>∃ l b xs zs,x=.ref l /\ vs=[.ref b] /\ H l=some (.lst xs) /\ SqL K H b zs /\ xs.length+zs.length<=sizeLine /\ Q .non (upd H l (.lst (xs++zs)))
theorem gk{X:Cx}:MtM X "list.extend" (A2 X.K):=by
 intro pins s σ H x vs v us Q I rx rv h;obtain⟨l,b,xs,zs,rfl,rfl,hH,hB,hz,q⟩:=h;cases rx;obtain⟨u,rfl,ru⟩:=rv.one;cases ru;obtain⟨z,its,n,r,hl,e⟩:=I.Ka hH;obtain⟨its2,r2,pl2,z2⟩:=I.list hB;obtain⟨⟨cls2,dd2,data2,sl2⟩,ho2,hc2,n2,hd2⟩:=pl2.isList;simp only at hc2 hd2;subst hc2 hd2;have hl2:=r2.length
 have hsz:its.toArray.size+its2.toArray.size<=sizeLine:=by rw[List.size_toArray,List.size_toArray];omega
 have hlong:¬ (!its.toArray.isEmpty&&Builtin.List.listTooLong (its.toArray.size+its2.toArray.size))=true:=by
  rw[Fl hsz,Bool.and_false];exact Bool.false_ne_true
 refine call_meets F.slot_list_extend ⟨_,e,rfl⟩ F.entry_list_extend (F.args_list_extend_2 _ _)
  (yo l its.toArray n b its2.toArray n2 dd2 sl2 hlong (by rw[List.size_toArray];omega) (by omega)) ⟨e,ho2,?_⟩
 refine⟨.non,_,I.Ki (its':=its++its2) hH e (by simp) (r.append r2) ?_,rfl,q⟩
 rw[List.length_append];omega
end L2.E
namespace L2.P
open PySem PySem.Spec PyProof.Rows L2 L2.E
section
variable{K:PySem.W.Frag}{cls:String->Option Addr}{W:XW}{Av G S₀ S S' H H' B B':Hp}{ρ:ag}{σ:St}{Q:VK}{F:Nat->List Addr}
theorem gv{i:Nat}{te tx:TE}{mp:MP}{me:ag->OE}(hp:JP K cls te i mp)(hx:JE K cls W tx me):JS K cls W (u0 (tBM K "list" (A2 K) te (jN tx lZ))) (dQ i mp me):=by
 intro Av G S₀ ρ σ S H D I p;obtain⟨io,t,π,u,hi,e0,e1,p⟩:=tM p;obtain⟨v0,hv⟩:=I.val hi
 cases u with
 |sh x=>exact p.elim
 |ob c ks us=>exact p.elim
 |di x=>exact p.elim
 |dt x=>exact p.elim
 | ol ts=>
   dsimp only at p
   refine hp.at I hi hv e0 e1 fun w S1 H1 w1 I1 wk=>?_
   have p1:=p.back w1.s;obtain⟨F,J1⟩:=id I1;obtain⟨q,vs,ff,rest,wk',hq,hl,rs,_,nd,c⟩:=J1.vy hi hv e1;have:=wk.inj wk';subst this
   refine⟨.inl ⟨rfl,_,SqL.new hq⟩,?_⟩
   refine hx.goS I1 p1 fun r v S2 H2 I2 w2 r2 p2=>?_
   have ndf:ff.Nodup:=(List.nodup_cons.mp (List.nodup_append.mp nd).1).2
   cases r with
   |al ys=>exact p2.elim
   | sh x=>
     cases x with
     | lst ys=>
       dsimp only at p2
       split at p2
       . rename_i hlt
         have r3:Rep K S2 (.lst ys) v:=r2
         unfold Rep at r3;obtain⟨b,us,rfl,k3,k4⟩:=r3
         refine⟨q,b,vs,us,rfl,rfl,w2.g _ _ hq,aK.seq w2.sh k3,by rw[hl,k4.length];exact hlt,?_⟩
         obtain⟨g,J3,_⟩:=c S2 H2 (ts++ys.map .sh) (vs++us) (ff++[]) w2 ((rs.mono w2.s fun a _ o h=>w2.g _ _ h).append (.shs k4)) (by rw[List.append_nil];exact ndf) fun a ha=>.inl (by simpa using ha)
         exact p2 σ S2 _ ⟨_,J3⟩ (aK.refl _)
       . exact p2.elim
     |_=>exact p2.elim
   | fr ys=>
     dsimp only at p2
     split at p2
     . rename_i hlt;obtain⟨b,us,rfl,k1,k2,k3,k4⟩:=r2
       refine⟨q,b,vs,us,rfl,rfl,w2.g _ _ hq,SqL.new k3,by rw[hl,k4.length];exact hlt,?_⟩
       obtain⟨g,J3,_⟩:=c S2 H2 (ts++ys.map .sh) (vs++us) (ff++[]) w2 ((rs.mono w2.s fun a _ o h=>w2.g _ _ h).append (.shs k4)) (by rw[List.append_nil];exact ndf) fun a ha=>.inl (by simpa using ha)
       exact p2 σ S2 _ ⟨_,J3⟩ (aK.refl _)
     . exact p2.elim
end
end L2.P
namespace L2.E
open PySem PySem.Spec PyProof.Rows L2
theorem eD{N P:List Str}{sc:Scope}(a:sc.kind=.function:=by rfl)(b:sc.isCoroutine=false:=by rfl)(c:sc.isGenerator=false:=by rfl)(d:N.Nodup:=by decide +kernel)(e:N.take P.length=P:=by rfl)
  (f:∀ x∈P,sc.names.lookup x=some .local \/ sc.names.lookup x=some .cell:=by decide +kernel) (g:∀ y∈sc.names,y.2≠.free:=by decide +kernel):aU N P sc:=⟨a,b,c,d,e,f,g⟩
structure Ent(K:PySem.W.Frag)(mg:Str->Option Value)(x:Str)(st:Stmt)(f:Addr)(d:FuncData)(ps:List Str):Prop where
 F:Fun K x x st f d
 m:mg x=some (.ref f)
 b:Binds K d ps []
structure Fd(K:PySem.W.Frag)(x:Str)(st:Stmt)(f:Addr)(d:FuncData):Prop where
 a:PySem.W.nsIn K mainGlobals x=some (some (.ref f))
 F:Fun K x x st f d
section
variable{K:PySem.W.Frag}{mg:Str->Option Value}{h:Heap}{x:Str}{st:Stmt}{f:Addr}{d:FuncData}
theorem cC{oc:Value}{od an:Option Addr}{osl:Array (Option Value)}{kV doc pm cdv ct:Value}(a:PySem.W.nsIn K mainGlobals x=some (some (.ref f)))
  (l:K.lookup f=some ⟨oc,od,.func (PySem.W.fnOf x x (fb st) (dO st) (aA st) .none kV doc pm an cdv ct),osl⟩) (c:PySem.W.codeIn K cdv x=true) (k:PySem.W.keepIn K (.ref f)=true):
  Fd K x st f (PySem.W.fnOf x x (fb st) (dO st) (aA st) .none kV doc pm an cdv ct):=⟨a,mG l c k⟩
theorem Fd.e{ps:List Str}(H:Fd K x st f d)(X:K.In h)(G:h.Ns mainGlobals mg)
  (hb:∀(kV doc pm:Value) (an:Option Addr) (cdv ct:Value) (us:List Value),us.length=ps.length->bindArgs (PySem.W.fnOf x x (fb st) (dO st) (aA st) .none kV doc pm an cdv ct) ⟨us,[]⟩=pure (ps.zip us)):Ent K mg x st f d ps:=⟨H.F,PySem.W.mg_of X G H.a,H.F.binds hb⟩
theorem Fd.e0(H:Fd K x st f d)(X:K.In h)(G:h.Ns mainGlobals mg)
  (hb:∀(kV doc pm:Value) (an:Option Addr) (cdv ct:Value),bindArgs (PySem.W.fnOf x x (fb st) (dO st) (aA st) .none kV doc pm an cdv ct) ⟨[],[]⟩=pure []:=by intros;rfl):Ent K mg x st f d []:=
 H.e X G fun p q r s t u us hl=>match us,hl with|[],_=>hb p q r s t u
theorem Fd.e1{a:Str}(H:Fd K x st f d)(X:K.In h)(G:h.Ns mainGlobals mg)
  (hb:∀(kV doc pm:Value) (an:Option Addr) (cdv ct i:Value),bindArgs (PySem.W.fnOf x x (fb st) (dO st) (aA st) .none kV doc pm an cdv ct) ⟨[i],[]⟩=pure [(a,i)]:=by intros;rfl):Ent K mg x st f d [a]:=
 H.e X G fun p q r s t u us hl=>match us,hl with|[_],_=>hb p q r s t u _
theorem Fd.e2{a b:Str}(H:Fd K x st f d)(X:K.In h)(G:h.Ns mainGlobals mg)
  (hb:∀(kV doc pm:Value) (an:Option Addr) (cdv ct i j:Value),bindArgs (PySem.W.fnOf x x (fb st) (dO st) (aA st) .none kV doc pm an cdv ct) ⟨[i,j],[]⟩=pure [(a,i),(b,j)]:=by intros;rfl):Ent K mg x st f d [a,b]:=
 H.e X G fun p q r s t u us hl=>match us,hl with|[_,_],_=>hb p q r s t u _ _
theorem Fd.e3{a b c:Str}(H:Fd K x st f d)(X:K.In h)(G:h.Ns mainGlobals mg)
  (hb:∀(kV doc pm:Value) (an:Option Addr) (cdv ct i j k:Value),bindArgs (PySem.W.fnOf x x (fb st) (dO st) (aA st) .none kV doc pm an cdv ct) ⟨[i,j,k],[]⟩=pure [(a,i),(b,j),(c,k)]:=by intros;rfl):Ent K mg x st f d [a,b,c]:=
 H.e X G fun p q r s t u us hl=>match us,hl with|[_,_,_],_=>hb p q r s t u _ _ _
theorem Fd.e5{a b c e g:Str}(H:Fd K x st f d)(X:K.In h)(G:h.Ns mainGlobals mg)
  (hb:∀(kV doc pm:Value) (an:Option Addr) (cdv ct i j k l m:Value),bindArgs (PySem.W.fnOf x x (fb st) (dO st) (aA st) .none kV doc pm an cdv ct) ⟨[i,j,k,l,m],[]⟩=pure [(a,i),(b,j),(c,k),(e,l),(g,m)]:=by intros;rfl):Ent K mg x st f d [a,b,c,e,g]:=
 H.e X G fun p q r s t u us hl=>match us,hl with|[_,_,_,_,_],_=>hb p q r s t u _ _ _ _ _
end
theorem qz{X:Cx}{pos:Pos}(i:Nat){x:Str}{e:Expr}{te:TE}{pos':Pos}(h7:X.N.Nodup)(h10:QE X e te)(h8:X.N[i]?=some x:=by rfl)(h9:Loc X.env.scope x:=by first|exact Or.inl rfl|exact Or.inr rfl)
  (h11:autoParam (swapsWith e (some (.Name x pos')) pos.line X.env=pure false) L2.qau._auto_1) (h12:autoParam (X.fn x=true \/ X.env.scope.names.lookup x=some .local) L2.qau._auto_1):QS X (.Assign [.Name x pos'] e pos) (vh te (mx i)):=K6 h7 h8 h9 h10 h11 h12
theorem qx{X:Cx}{j k:Nat}{f:Addr}{fd:FuncData}{ps:List Str}{sp:Sp}{W:XW}{x:Str}{st:Stmt}{p pos:Pos}{e:Expr}{es:List Expr}{t:TA}(h15:cx X.prog X.w X.K X.mg X.base (CXE X.prog X.w) j f fd ps sp)(E:Ent X.K X.mg x st f fd ps)(h16:iM k X.A)(h22:Thr X W)(h23:QA X (e ::es) t)
  (hj:j<=k:=by decide) (h17:Gl X x:=by rfl) (h24:autoParam ((x==Str.ofString "__debug__")=false) L2.qau._auto_1) (h25:autoParam (starEach (e ::es) X.env=(false,eval e X.env) ::starEach es X.env) L2.qau._auto_1) (h26:autoParam (((backTo pos (starEach es X.env)).any fun x=>x.1)=false) L2.qau._auto_1):
  QE X (.Call (.Name x p) (e ::es) [] pos) (sP sp [] W t):=ER (h15.mono hj) h16 h17 E.m E.F.kp E.b .nil h22 h23 h24 h25 h26
theorem kE{X:Cx}{p pos:Pos}{e:Expr}{te:TE}(h11:X.mg "len" = none)(h:QE X e te)(h10:Gl X "len":=by rfl)(hs:isStar e=false:=by rfl)(h16:autoParam (starEach [e] X.env=(false,eval e X.env) ::starEach [] X.env) L2.qau._auto_1)(h17:autoParam (((backTo pos (starEach [] X.env)).any fun x=>x.1)=false) L2.qau._auto_1):
  QE X (.Call (.Name "len" p) [e] [] pos) (tCB (fun xs H Q=>∃ p ys,xs=[.ref p] /\ (SqL X.K H p ys \/ SqT X.K H p ys) /\ Q (.int ys.length) H) (jN te lZ)):=jC yA h10 h11 boot_len (aa h av hs) (by decide) (by decide) h16 h17
theorem qi{X:Cx}{a b:Expr}{ta tb:TE}{pos:Pos}{r:R2}(h7:IxR X r)(h8:QE X a ta)(h9:QE X b tb)(h10:za b:=by exact fun _ _=>rfl):QE X (.Subscript a b pos) (tOp r ta tb):=MH h7 h8 h9 h10
theorem bJ{X:Cx}{a b:Expr}{ta tb:TE}{pos:Pos}{op:CmpOp}{r:R2}(h8:OpR X (compareOp op) r)(h9:QE X a ta)(h10:QE X b tb)(h11:behindInMarks op b=false:=by exact lT _):QT X (.Compare a [op] [b] pos) (yf (tOp r ta tb)):=iC h8 h9 h10 h11
theorem qap{X:Cx}{o e:Expr}{to te:TE}{apos cpos pos:Pos}{r:V->List V->Hp->VK->Prop}(h15:MtR X "list.append" r)(h16:QE X o to)(h:QE X e te)(hs:isStar e=false:=by rfl)
  (h18:autoParam (attributeBase o "append" X.env (eval o X.env)=eval o X.env) L2.qau._auto_1) (h19:autoParam (((((backTo cpos (starEach [e] X.env)).all fun x=>!x.1)&&(backToKw cpos (keywordEach [] X.env)).all fun x=>x.1.isSome)&&decide (([e].length+([]:List Keyword).length+if([]:List Keyword).isEmpty=true then 0 else 1)<30))=true) L2.qau._auto_1)
  (h20:autoParam ((apos.endLine==cpos.line)=true) L2.qau._auto_1) (h21:autoParam (starEach [e] X.env=(false,eval e X.env) ::starEach [] X.env) L2.qau._auto_1) (h22:autoParam (((backTo cpos (starEach [] X.env)).any fun x=>x.1)=false) L2.qau._auto_1) (h5:autoParam (swapsWith (.Call (.Attribute o "append" apos) [e] [] cpos) none pos.line X.env=pure false) L2.qau._auto_1):
  QS X (.Expr (.Call (.Attribute o "append" apos) [e] [] cpos) pos) (u0 (tBM X.K "list" r to (jN te lZ))):=zc (Jk PySem.F.plainAttrs_list PySem.F.slot_list_append PySem.F.type_list_append h15 h16 (aa h av hs) h18 h19 h20 h21 h22) h5
theorem qex{X:Cx}{o e:Expr}{to te:TE}{apos cpos pos:Pos}{r:V->List V->Hp->VK->Prop}(h15:MtR X "list.extend" r)(h16:QE X o to)(h:QE X e te)(hs:isStar e=false:=by rfl)
  (h18:autoParam (attributeBase o "extend" X.env (eval o X.env)=eval o X.env) L2.qau._auto_1) (h19:autoParam (((((backTo cpos (starEach [e] X.env)).all fun x=>!x.1)&&(backToKw cpos (keywordEach [] X.env)).all fun x=>x.1.isSome)&&decide (([e].length+([]:List Keyword).length+if([]:List Keyword).isEmpty=true then 0 else 1)<30))=true) L2.qau._auto_1)
  (h20:autoParam ((apos.endLine==cpos.line)=true) L2.qau._auto_1) (h21:autoParam (starEach [e] X.env=(false,eval e X.env) ::starEach [] X.env) L2.qau._auto_1) (h22:autoParam (((backTo cpos (starEach [] X.env)).any fun x=>x.1)=false) L2.qau._auto_1) (h5:autoParam (swapsWith (.Call (.Attribute o "extend" apos) [e] [] cpos) none pos.line X.env=pure false) L2.qau._auto_1):
  QS X (.Expr (.Call (.Attribute o "extend" apos) [e] [] cpos) pos) (u0 (tBM X.K "list" r to (jN te lZ))):=zc (Jk PySem.F.plainAttrs_list PySem.F.slot_list_extend PySem.F.type_list_extend h15 h16 (aa h av hs) h18 h19 h20 h21 h22) h5
end L2.E
namespace L2.P
open PySem PySem.Spec PyProof.Rows L2 L2.E
theorem kg{K:PySem.W.Frag}{cls:String->Option Addr}{i:Nat}{te tk:TE}{mp:MP}{mk:ag->OE}(h:JP K cls te i mp)(k:JE K cls (fun _ _ _ _=>False) tk mk):JP K cls (tOp (HQ K) te tk) i (pIx i mp mk):=M6 h k
end L2.P
namespace PG
def nI(n:Int):Bool:=(decide (0<=n)&&decide (n<55296))||(decide (57343<n)&&decide (n<=1114111))
def ba(n:Int):List Int:=if n<128 then[n]else if n<2048 then[192+n/64,128+n%64]else if n<65536 then[224+n/4096,128+n/64%64,128+n%64]else[240+n/262144,128+n/4096%64,128+n/64%64,128+n%64]
def cell(ns:List Int)(k:Int):Int:=if ns=[]then 0 else ns.getD (k%(ns.length:Int)).toNat 0
def mix(ns:List Int)(k:Int):Int:=
 let a:=(cell ns k+104729*(k+1))%4294967291
 let b:=a*48271%4294967279
 (b/64*69621+b)%4294967231
def menu:List Int:=[34,92,47,8,12,10,13,9,0,31,127]
def point(n:Int):Int:=
 if n%8<2 then 32+n/8%95 else if n%8<4 then menu.getD (n/8%11).toNat 0 else if n%8=4 then 128+n/8%1920
 else if n%8=5 then 2048+n/8%53248 else if n%8=6 then 57344+n/8%8192 else 65536+n/8%1048576
def wb(ns:List Int)(k:Int):Int:=if mix ns k/5%8=3 then mix ns k/40%14 else mix ns k%5
def points(ns:List Int)(k:Int):List Int:=(List.range (wb ns k).toNat).map fun j:Nat=>point (mix ns (k+1+(j:Int)))
theorem Bh(ns:List Int)(k:Int):0<=mix ns k /\ mix ns k<4294967231:=by unfold mix;dsimp only;omega
theorem zH(ns:List Int)(k:Int):0<=wb ns k /\ wb ns k<14:=by
 have:=Bh ns k
 unfold wb;split<;>omega
theorem IS(i:Nat)(h:i<11):0<=menu.getD i 0 /\ menu.getD i 0<128:=by
 revert h;revert i;decide
theorem Er(n:Int):nI (point n)=true:=by
 unfold point nI;have h11:=IS (n/8%11).toNat (by omega);simp only[Bool.or_eq_true,Bool.and_eq_true,decide_eq_true_eq];split
 . omega
 . split
   . omega
   . split
     . omega
     . split
       . omega
       . split<;>omega
theorem qZ(ns:List Int)(k:Int):(points ns k).all nI=true:=by
 rw[List.all_eq_true];intro x hx;unfold points at hx;obtain⟨j,_,rfl⟩:=List.mem_map.mp hx;exact Er _
theorem sf(ns:List Int)(k:Int):(points ns k).length<14:=by
 have:=zH ns k;unfold points;rw[List.length_map,List.length_range];omega
end PG
namespace PG
def N8(b:Int):Int×Int:=if b=224 then(160,191)else if b=237 then(128,159)else(128,191)
def N9(b:Int):Int×Int:=if b=240 then(144,191)else if b=244 then(128,143)else(128,191)
def spans(b:Int):Option (List (Int×Int)):=if 0<=b /\ b<128 then some []else if 194<=b /\ b<224 then some [(128,191)]else if 224<=b /\ b<240 then some [N8 b,(128,191)]else if 240<=b /\ b<245 then some [N9 b,(128,191),(128,191)]else none
def mark(k:Nat):Int:=[0,192,224,240].getD k 0
def val(b:Int)(cs:List Int):Int:=cs.foldl (fun n c=>n*64+c - 128) (b - mark cs.length)
theorem oo{n:Int}(h:nI n=true):0<=n /\ n<=1114111:=by
 unfold nI at h;simp only[Bool.or_eq_true,Bool.and_eq_true,decide_eq_true_eq]at h;omega
end PG
namespace L2.P
open PySem
@[simp] theorem Jo(s:String):(Str.ofString s).cps.all (·<0x110000)=true:=by
  rw[Str.ofString_eq_toList,List.all_toArray,List.all_map];rw[List.all_eq_true];intro c _;have:=c.valid;simp only[Function.comp,decide_eq_true_eq]
  rcases this with h|⟨_,h⟩
  . exact Nat.lt_of_lt_of_le h (by decide)
  . exact h
theorem toNat_inj:∀(xs ys:List Char),xs.map Char.toNat=ys.map Char.toNat->xs=ys
 |[],[],_=>rfl
 |[],_ ::_,h=>by cases h
 |_ ::_,[],h=>by cases h
 | x ::xs,y ::ys,h=>by
   rw[List.map_cons,List.map_cons]at h
   injection h with h1 h2
   have:x=y:=Char.ext (UInt32.toNat_inj.mp h1)
   rw[this,toNat_inj xs ys h2]
theorem aH(a b:String):Str.ofString a=Str.ofString b↔a=b:=by
 constructor
 . intro h;rw[Str.ofString_eq_toList,Str.ofString_eq_toList]at h
   injection h with h
   have h2:a.toList.map Char.toNat=b.toList.map Char.toNat:=by
    have:=congrArg Array.toList h
    simpa using this
   exact String.toList_inj.mp (toNat_inj _ _ h2)
 . intro h;rw[h]
@[simp] theorem IL(a b:String):(Str.ofString a==Str.ofString b)=decide (a=b):=by
  by_cases h:a=b
  . subst h;simp
  . have:Str.ofString a≠Str.ofString b:=fun z=>h ((aH a b).mp z)
    simp[h,this]
@[simp] theorem ND(a b:String):fg (.str (Str.ofString a)) (.str (Str.ofString b))=decide (a=b):=by simp[fg]
@[simp] theorem Ol(a:String)(n:Nat):qH (.str (Str.ofString a)) n=true:=by simp[qH]
theorem K7(n:Nat):ixP (n+1) (-1)=some n:=by
 unfold ixP;rw[if_neg (by decide),if_pos (by omega)]
 congr 1
 omega
@[simp] theorem get_nil(t:OV):t.get []=some t:=by cases t<;>rfl
@[simp] theorem lE(t u:OV):t.put [] u=u:=by cases t<;>rfl
theorem AA{ρ:ag}{i:Nat}{io:Bool}{ts:List OV}{md:ag->OD}{x:OV}(h:ρ[i]?=some (some (.tr io (.ol ts))))(hd:md ρ=.ok x)(hl:ts.length<lim):
  bR i aI md ρ=.nx (ρ.set i (some (.tr io (.ol (ts++[x]))))):=by
 unfold bR vd aI;rw[h];simp only[get_nil];rw[hd];simp only[hl,if_true,lE]
section
variable{ρ:ag}{i:Nat}{io:Bool}{init us:List OV}{x:PV}
theorem Hs(n k:Nat)(h:k<n):ixP n (k:Int)=some k:=by
 unfold ixP;rw[if_pos (by omega),if_pos (by omega)];simp
end
theorem FC{ρ:ag}{i:Nat}{io:Bool}{ts:List OV}{x:OV}(h:ρ[i]?=some (some (.tr io (.ol (ts++[x]))))):m6 i aI ρ=.ok (ρ.set i (some (.tr io (.ol ts)))) (slO x):=by
 unfold m6 aI;rw[h];simp
end L2.P
namespace PG
open L2.P PySem
inductive It where
 |sp (lo hi:Int)|br|value|lead|figures|fraction|exponent|sign|text|escape|code|coded|hex|hexd|hexcf|row|mrow|fields|mfields|name
 deriving DecidableEq
def bB:It->PV
 |.sp lo hi=>.tup [.int lo,.int hi]
 |.br=>.str "white" | .value=>.str "value" | .lead=>.str "lead" | .figures=>.str "figures" | .fraction=>.str "fraction" | .exponent=>.str "exponent" | .sign=>.str "sign"
 |.text=>.str "text" | .escape=>.str "escape" | .code=>.str "code" | .coded=>.str "code d" | .hex=>.str "hex" | .hexd=>.str "hex d" | .hexcf=>.str "hex c to f"
 |.row=>.str "row" | .mrow=>.str "more row" | .fields=>.str "fields" | .mfields=>.str "more fields" | .name=>.str "name"
def loose:It->Bool
 |.br=>true|.figures=>true|.fraction=>true|.exponent=>true|.sign=>true
 |_=>false
def opn:It->Bool
 |.row=>true|.mrow=>true|.fields=>true|.mfields=>true
 |_=>false
def wht(b:Int):Bool:=decide (9=b)||(decide (10=b)||(decide (13=b)||decide (32=b)))
def fig(b:Int):Bool:=decide (48<=b)&&decide (b<=57)
def eU(b:Int):Option Int:=if 48<=b /\ b<=57 then some (b - 48)else if 65<=b /\ b<=70 then some (b - 55)else if 97<=b /\ b<=102 then some (b - 87)else none
def nN(b:Int):Option (List It):=if b=48 then some [.fraction,.exponent]else if 48<=b /\ b<=57 then some [.figures,.fraction,.exponent]else none
def lx(b:Int):Option (List It):=
 if b=91 then some [.br,.row]else if b=123 then some [.br,.fields]else if b=34 then some [.text]else if b=45 then some [.lead]
 else if b=110 then some [.sp 117 117,.sp 108 108,.sp 108 108]else if b=116 then some [.sp 114 114,.sp 117 117,.sp 101 101]else if b=102 then some [.sp 97 97,.sp 108 108,.sp 115 115,.sp 101 101]
 else nN b
def sV:List It:=[.br,.sp 58 58,.br,.value,.br,.mfields]
def tls(b:Int):Option (List It):=
 if 0<=b /\ b<128 then some []else if 194<=b /\ b<224 then some [.sp 128 191]
 else if 224<=b /\ b<240 then some [if b=224 then .sp 160 191 else if b=237 then .sp 128 159 else .sp 128 191,.sp 128 191]
 else if 240<=b /\ b<245 then some [if b=240 then .sp 144 191 else if b=244 then .sp 128 143 else .sp 128 191,.sp 128 191,.sp 128 191]
 else none
def uA(b:Int):Option (List It):=if b=34 then some []else if b=92 then some [.escape,.text]else if b<32 then none else(tls b).map (·++[.text])
def y9(b:Int):Bool:=b=34||b=92||b=47||b=98||b=102||b=110||b=114||b=116
def Gz(b:Int):Option (List It):=if b=117 then some [.code]else if y9 b then some []else none
def BN(w:Int):Option (List It):=if w<8 then some [.hex,.hex]else if w<12 then some [.hex,.hex,.sp 92 92,.sp 117 117,.hexd,.hexcf,.hex,.hex]else none
def bh:It->Int->Option (List It)
 |.sp lo hi,b=>if lo<=b /\ b<=hi then some []else none
 |.br,b=>if wht b then some [.br]else none
 |.value,b=>lx b
 |.lead,b=>nN b
 |.figures,b=>if 48<=b /\ b<=57 then some [.figures]else none
 |.fraction,b=>if b=46 then some [.sp 48 57,.figures]else none
 |.exponent,b=>if b=101 \/ b=69 then some [.sign,.sp 48 57,.figures]else none
 |.sign,b=>if b=43 \/ b=45 then some []else none
 |.text,b=>uA b
 |.escape,b=>Gz b
 |.code,b=>(eU b).bind fun w=>if w=13 then some [.coded]else some [.hex,.hex,.hex]
 |.coded,b=>(eU b).bind BN
 |.hex,b=>(eU b).map fun _=>[]
 |.hexd,b=>(eU b).bind fun w=>if w=13 then some []else none
 |.hexcf,b=>(eU b).bind fun w=>if 12<=w then some []else none
 |.row,b=>if b=93 then some []else(lx b).map (·++[.br,.mrow])
 |.mrow,b=>if b=44 then some [.br,.value,.br,.mrow]else if b=93 then some []else none
 |.fields,b=>if b=125 then some []else if b=34 then some (.text ::sV)else none
 |.mfields,b=>if b=44 then some (.br ::.name ::sV)else if b=125 then some []else none
 |.name,b=>if b=34 then some [.text]else none
def cnt(st:List It):Nat:=(st.filter opn).length
def gon:List It->Int->List It×Bool
 |[],_=>([],false)
 | it ::st,b=>match bh it b with
   |some l=>(l++st,decide (cnt (l++st)<=64))
   |none=>if loose it then gon st b else(st,false)
def tk:List It->List Int->List It×Nat
 |st,[]=>(st,0)
 |st,b ::r=>if(gon st b).2 then((tk (gon st b).1 r).1,(tk (gon st b).1 r).2+1)else((gon st b).1,0)
def st0:List It:=[.br,.value,.br]
def flt(row:List Int):Option Nat:=if(tk st0 row).2=row.length /\ (tk st0 row).1.all loose=true then none else some (tk st0 row).2
def wk(st:List It):OV:=.ob "Walk" ["coming"] [.ol ((st.reverse.map bB).map .sh)]
theorem ES(it:It)(b:Int)(l:List It)(h:bh it b=some l):l.length<=8:=by
 have hv:∀ l,lx b=some l->l.length<=5:=by
  intro l h;unfold lx nN at h
  repeat' split at h
  all_goals(first|(cases h;done)|(injection h with h;subst h;decide))
 have ht:∀ l,tls b=some l->l.length<=5:=by
  intro l h;unfold tls at h
  repeat' split at h
  all_goals(first|(cases h;done)|(injection h with h;subst h;simp))
 cases it with
 |value=>exact Nat.le_trans (hv l h) (by decide)
 | row=>
   simp only[bh]at h;split at h
   . injection h with h;subst h;decide
   . cases e:lx b with
     |none=>rw[e]at h;cases h
     |some l'=>rw[e]at h;injection h with h;subst h;have:=hv l' e;simp;omega
 | text=>
   simp only[bh,uA]at h
   repeat' split at h
   all_goals first|(cases h;done)|(injection h with h;subst h;decide)|skip
   cases e:tls b with
   |none=>rw[e]at h;cases h
   |some l'=>rw[e]at h;injection h with h;subst h;have:=ht l' e;simp;omega
 | code=>
   simp only[bh]at h
   cases e:eU b with
   |none=>rw[e]at h;cases h
   |some w=>rw[e]at h;simp only[Option.bind_some]at h;split at h<;>(injection h with h;subst h;decide)
 | coded=>
   simp only[bh]at h
   cases e:eU b with
   |none=>rw[e]at h;cases h
   | some w=>
     rw[e]at h;simp only[Option.bind_some,BN]at h
     repeat' split at h
     all_goals first|(cases h;done)|(injection h with h;subst h;decide)
 | hex=>
   simp only[bh]at h
   cases e:eU b with
   |none=>rw[e]at h;cases h
   |some w=>rw[e]at h;injection h with h;subst h;simp
 | hexd=>
   simp only[bh]at h
   cases e:eU b with
   |none=>rw[e]at h;cases h
   |some w=>rw[e]at h;simp only[Option.bind_some]at h;split at h<;>first|(cases h;done)|(injection h with h;subst h;decide)
 | hexcf=>
   simp only[bh]at h
   cases e:eU b with
   |none=>rw[e]at h;cases h
   |some w=>rw[e]at h;simp only[Option.bind_some]at h;split at h<;>first|(cases h;done)|(injection h with h;subst h;decide)
 | _=>
   simp only[bh,nN,Gz,sV]at h
   repeat' split at h
   all_goals first|(cases h;done)|(injection h with h;subst h;decide)
theorem Cj(st:List It)(b:Int):(gon st b).1.length<=st.length+8:=by
 induction st with
 |nil=>simp[gon]
 | cons it st ih=>
   unfold gon
   cases e:bh it b with
   |some l=>have:=ES it b l e;simp;omega
   | none=>
     dsimp only;split
     . simp;omega
     . simp;omega
end PG
namespace PG
inductive Sg where
 |pl (p:Int)|sh (c p:Int)|hx (a b c d:Int)|pr (a b c d e f g h:Int)
def pts:Sg->List Int
 |.pl p=>[p]
 |.sh c _=>[92,c]
 |.hx a b c d=>[92,117,a,b,c,d]
 |.pr a b c d e f g h=>[92,117,a,b,c,d,92,117,e,f,g,h]
def hv(b:Int):Int:=(eU b).getD 0
def cod(a b c d:Int):Int:=16*(16*(16*hv a+hv b)+hv c)+hv d
def Nk:Sg->Int
 |.pl p=>p
 |.sh _ p=>p
 |.hx a b c d=>cod a b c d
 |.pr a b c d e f g h=>65536+1024*(cod a b c d - 55296)+cod e f g h - 56320
def shP:List (Int×Int):=[(34,34),(92,92),(47,47),(98,8),(102,12),(110,10),(114,13),(116,9)]
def Sok:Sg->Prop
 |.pl p=>nI p=true /\ 32<=p /\ p≠34 /\ p≠92
 |.sh c p=>(c,p)∈shP
 |.hx a b c d=>(eU a).isSome=true /\ (eU b).isSome=true /\ (eU c).isSome=true /\ (eU d).isSome=true /\ ¬ (55296<=cod a b c d /\ cod a b c d<=57343)
 |.pr a b c d e f g h=>(eU a=some 13 /\ 8<=hv b /\ hv b<12 /\ (eU b).isSome=true /\ (eU c).isSome=true /\ (eU d).isSome=true) /\ eU e=some 13 /\ 12<=hv f /\ (eU f).isSome=true /\ (eU g).isSome=true /\ (eU h).isSome=true
def nc(s:Sg):List Int:=(pts s).flatMap ba
theorem kL{b w:Int}(h:eU b=some w):0<=w /\ w<16 /\ 48<=b /\ b<=102 /\ b≠92 /\ b≠117:=by
 unfold eU at h;split at h
 . injection h with h;omega
 . split at h
   . injection h with h;omega
   . split at h
     . injection h with h;omega
     . cases h
theorem nU{b w:Int}(h:eU b=some w):hv b=w:=by unfold hv;rw[h];rfl
theorem mO{n:Int}(h:n<128):ba n=[n]:=by unfold ba;rw[if_pos h]
theorem cnt_cons(it:It)(st:List It):cnt (it ::st)=(if opn it then 1 else 0)+cnt st:=by
 unfold cnt
 cases e:opn it<;>simp[e]
 omega
theorem Hw(l st:List It):cnt (l++st)=cnt l+cnt st:=by
 unfold cnt;rw[List.filter_append,List.length_append]
theorem MU{st st':List It}{b:Int}{r:List Int}(h:gon st b=(st',true)):tk st (b ::r)=((tk st' r).1,(tk st' r).2+1):=by
 simp[tk,h]
theorem Hk{it:It}{st l:List It}{b:Int}{r:List Int}(h:bh it b=some l)(hl:cnt l=0)(hc:cnt st<=64):tk (it ::st) (b ::r)=((tk (l++st) r).1,(tk (l++st) r).2+1):=by
 refine MU ?_
 have:cnt (l++st)<=64:=by rw[Hw];omega
 simp[gon,h,this]
theorem HJ{it:It}{st:List It}{b:Int}{r:List Int}(h:bh it b=none)(hl:loose it=true):tk (it ::st) (b ::r)=tk st (b ::r):=by
 simp[tk,gon,h,hl]
def Goes(st:List It)(bs:List Int)(st':List It):Prop:=∀ r,tk st (bs++r)=((tk st' r).1,(tk st' r).2+bs.length)
theorem Goes.nil(st:List It):Goes st [] st:=fun r=>by simp
theorem Goes.trans{a b c:List It}{xs ys:List Int}(h:Goes a xs b)(k:Goes b ys c):Goes a (xs++ys) c:=fun r=>by
 rw[List.append_assoc,h,k,List.length_append]
 congr 1
 omega
theorem Goes.step{it:It}{st l st':List It}{b:Int}{bs:List Int}(h:bh it b=some l)(hl:cnt l=0)(hc:cnt st<=64)(k:Goes (l++st) bs st'):Goes (it ::st) (b ::bs) st':=fun r=>by
 rw[List.cons_append,Hk h hl hc,k,List.length_cons]
 congr 1
theorem IZ{p:Int}{st:List It}(h:nI p=true)(h1:32<=p)(h2:p≠34)(h3:p≠92)(hc:cnt st<=64):Goes (.text ::st) (ba p) (.text ::st):=by
 have hr:=oo h
 have hs:p<55296 \/ 57343<p:=by
  unfold nI at h;simp only[Bool.or_eq_true,Bool.and_eq_true,decide_eq_true_eq]at h;omega
 have hc1:cnt (.text ::st)<=64:=by rw[cnt_cons];simp[opn];omega
 have hsp:∀ lo hi:Int,cnt (.sp lo hi ::.text ::st)<=64:=fun lo hi=>by rw[cnt_cons,cnt_cons];simp[opn];omega
 have b1:∀ b:Int,b≠34->b≠92->¬ b<32->bh .text b=(tls b).map (·++[.text]):=fun b g1 g2 g3=>by simp only[bh,uA,g1,g2,g3,if_false]
 unfold ba
 by_cases c1:p<128
 . rw[if_pos c1];refine Goes.step (l:=[.text]) ?_ rfl hc (.nil _);rw[b1 p h2 h3 (by omega)];unfold tls;rw[if_pos ⟨by omega,c1⟩];rfl
 . rw[if_neg c1]
   by_cases c2:p<2048
   . rw[if_pos c2];refine Goes.step (l:=[.sp 128 191,.text]) ?_ rfl hc ?_
     . rw[b1 _ (by omega) (by omega) (by omega)];unfold tls;rw[if_neg (by omega),if_pos (by omega)];rfl
     . refine Goes.step (l:=[]) ?_ rfl hc1 (.nil _);simp only[bh];rw[if_pos (by omega)]
   . rw[if_neg c2]
     by_cases c3:p<65536
     . rw[if_pos c3];refine Goes.step (l:=[if 224+p/4096=224 then .sp 160 191 else if 224+p/4096=237 then .sp 128 159 else .sp 128 191,.sp 128 191,.text]) ?_ ?_ hc ?_
       . rw[b1 _ (by omega) (by omega) (by omega)];unfold tls;rw[if_neg (by omega),if_neg (by omega),if_pos (by omega)];rfl
       . split
         . rfl
         . split<;>rfl
       . refine Goes.step (l:=[]) ?_ rfl (hsp _ _) ?_
         . split
           . simp only[bh];rw[if_pos (by omega)]
           . split
             . simp only[bh];rw[if_pos (by omega)]
             . simp only[bh];rw[if_pos (by omega)]
         . refine Goes.step (l:=[]) ?_ rfl hc1 (.nil _);simp only[bh];rw[if_pos (by omega)]
     . rw[if_neg c3]
       have hsp2:cnt (.sp 128 191 ::.sp 128 191 ::.text ::st)<=64:=by rw[cnt_cons,cnt_cons,cnt_cons];simp[opn];omega
       refine Goes.step (l:=[if 240+p/262144=240 then .sp 144 191 else if 240+p/262144=244 then .sp 128 143 else .sp 128 191,.sp 128 191,.sp 128 191,.text]) ?_ ?_ hc ?_
       . rw[b1 _ (by omega) (by omega) (by omega)];unfold tls;rw[if_neg (by omega),if_neg (by omega),if_neg (by omega),if_pos (by omega)];rfl
       . split
         . rfl
         . split<;>rfl
       . refine Goes.step (l:=[]) ?_ rfl hsp2 ?_
         . split
           . simp only[bh];rw[if_pos (by omega)]
           . split
             . simp only[bh];rw[if_pos (by omega)]
             . simp only[bh];rw[if_pos (by omega)]
         . refine Goes.step (l:=[]) ?_ rfl (hsp _ _) ?_
           . simp only[bh];rw[if_pos (by omega)]
           . refine Goes.step (l:=[]) ?_ rfl hc1 (.nil _);simp only[bh];rw[if_pos (by omega)]
theorem o5{b w:Int}(h:eU b=some w):bh .hex b=some []:=by simp[bh,h]
theorem some_of{b:Int}(h:(eU b).isSome=true):∃ w,eU b=some w:=Option.isSome_iff_exists.mp h
theorem kx{a b c d:Int}(ha:(eU a).isSome=true)(hb:(eU b).isSome=true)(hc:(eU c).isSome=true)(hd:(eU d).isSome=true):ba a=[a] /\ ba b=[b] /\ ba c=[c] /\ ba d=[d]:=by
 obtain⟨w1,e1⟩:=some_of ha;obtain⟨w2,e2⟩:=some_of hb;obtain⟨w3,e3⟩:=some_of hc;obtain⟨w4,e4⟩:=some_of hd;have:=kL e1;have:=kL e2;have:=kL e3;have:=kL e4
 exact⟨mO (by omega),mO (by omega),mO (by omega),mO (by omega)⟩
theorem Iq(s:Sg)(h:Sok s)(st:List It)(hc:cnt st<=64):Goes (.text ::st) (nc s) (.text ::st):=by
 have hc1:cnt (.text ::st)<=64:=by rw[cnt_cons];simp[opn];omega
 have n0:∀ it:It,opn it=false->∀ st,cnt st<=64->cnt (it ::st)<=64:=fun it ho st h=>by rw[cnt_cons,ho];simp;omega
 cases s with
 | pl p=>
   obtain⟨h1,h2,h3,h4⟩:=h;show Goes _ (ba p++[]) _;rw[List.append_nil];exact IZ h1 h2 h3 h4 hc
 | sh c p=>
   have hb:nc (.sh c p)=[92,c] /\ bh .escape c=some []:=by
    simp only[Sok,shP,List.mem_cons,Prod.mk.injEq,List.not_mem_nil,or_false]at h
    rcases h with h|h|h|h|h|h|h|h<;>(obtain⟨rfl,rfl⟩:=h;exact⟨rfl,rfl⟩)
   rw[hb.1];exact Goes.step (l:=[.escape,.text]) rfl rfl hc (Goes.step (l:=[]) hb.2 rfl hc1 (.nil _))
 | hx a b c d=>
   obtain⟨ha,hb,hcc,hd,hs⟩:=h;obtain⟨e1,e2,e3,e4⟩:=kx ha hb hcc hd
   have hby:nc (.hx a b c d)=[92,117,a,b,c,d]:=by
    show ba 92++(ba 117++(ba a++(ba b++(ba c++(ba d++[])))))=_;rw[e1,e2,e3,e4];rfl
   rw[hby];obtain⟨w1,f1⟩:=some_of ha;obtain⟨w2,f2⟩:=some_of hb;obtain⟨w3,f3⟩:=some_of hcc;obtain⟨w4,f4⟩:=some_of hd;refine Goes.step (l:=[.escape,.text]) rfl rfl hc (Goes.step (l:=[.code]) rfl rfl hc1 ?_)
   by_cases hw:w1=13
   . have h8:w2 < 8:=by
      have g2:=kL f2;have g3:=kL f3;have g4:=kL f4;simp only[cod,nU f1,nU f2,nU f3,nU f4]at hs;omega
     refine Goes.step (l:=[.coded]) (by simp[bh,f1,hw]) rfl hc1 (Goes.step (l:=[.hex,.hex]) (by simp[bh,f2,BN,h8]) rfl hc1 ?_);exact Goes.step (l:=[]) (o5 f3) rfl (n0 _ rfl _ hc1) (Goes.step (l:=[]) (o5 f4) rfl hc1 (.nil _))
   . refine Goes.step (l:=[.hex,.hex,.hex]) (by simp[bh,f1,hw]) rfl hc1 ?_;exact Goes.step (l:=[]) (o5 f2) rfl (n0 _ rfl _ (n0 _ rfl _ hc1)) (Goes.step (l:=[]) (o5 f3) rfl (n0 _ rfl _ hc1) (Goes.step (l:=[]) (o5 f4) rfl hc1 (.nil _)))
 | pr a b c d e f g h'=>
   obtain⟨⟨f1,hb8,hb12,hb,hcc,hd⟩,f5,hf12,hf,hg,hh⟩:=h;obtain⟨e1,e2,e3,e4⟩:=kx (by rw[f1];rfl) hb hcc hd;obtain⟨e5,e6,e7,e8⟩:=kx (by rw[f5];rfl) hf hg hh
   have hby:nc (.pr a b c d e f g h')=[92,117,a,b,c,d,92,117,e,f,g,h']:=by
    show ba 92++(ba 117++(ba a++(ba b++(ba c++(ba d++(ba 92++(ba 117++(ba e++(ba f++(ba g++(ba h'++[])))))))))))=_;rw[e1,e2,e3,e4,e5,e6,e7,e8];rfl
   rw[hby];obtain⟨w2,f2⟩:=some_of hb;obtain⟨w3,f3⟩:=some_of hcc;obtain⟨w4,f4⟩:=some_of hd;obtain⟨w6,f6⟩:=some_of hf;obtain⟨w7,f7⟩:=some_of hg;obtain⟨w8,f8⟩:=some_of hh;rw[nU f2]at hb8 hb12;rw[nU f6]at hf12
   have hn8:¬ w2<8:=by omega
   refine Goes.step (l:=[.escape,.text]) rfl rfl hc (Goes.step (l:=[.code]) rfl rfl hc1 (Goes.step (l:=[.coded]) (by simp[bh,f1]) rfl hc1 (Goes.step (l:=[.hex,.hex,.sp 92 92,.sp 117 117,.hexd,.hexcf,.hex,.hex]) (by simp[bh,f2,BN,hn8,hb12]) rfl hc1 ?_)));have k1:=n0 .hex rfl _ hc1;have k2:=n0 .hex rfl _ k1;have k3:=n0 .hexcf rfl _ k2;have k4:=n0 .hexd rfl _ k3;have k5:=n0 (.sp 117 117) rfl _ k4;have k6:=n0 (.sp 92 92) rfl _ k5;have k7:=n0 .hex rfl _ k6;exact Goes.step (l:=[]) (o5 f3) rfl k7 (Goes.step (l:=[]) (o5 f4) rfl k6 (Goes.step (l:=[]) rfl rfl k5 (Goes.step (l:=[]) rfl rfl k4 (Goes.step (l:=[]) (by simp[bh,f5]) rfl k3 (Goes.step (l:=[]) (by simp[bh,f6,hf12]) rfl k2 (Goes.step (l:=[]) (o5 f7) rfl k1 (Goes.step (l:=[]) (o5 f8) rfl hc1 (.nil _))))))))
def inner(ss:List Sg):List Int:=ss.flatMap nc
theorem GF(ss:List Sg)(h:∀ s∈ss,Sok s)(st:List It)(hc:cnt st<=64):Goes (.text ::st) (inner ss) (.text ::st):=by
 induction ss with
 |nil=>exact .nil _
 |cons s ss ih=>exact(Iq s (h s List.mem_cons_self) st hc).trans (ih fun x hx=>h x (List.mem_cons_of_mem _ hx))
theorem uM(ss:List Sg)(h:∀ s∈ss,Sok s)(st:List It)(hc:cnt st<=64):Goes (.text ::st) (inner ss++[34]) st:=
 (GF ss h st hc).trans (Goes.step (l:=[]) rfl rfl hc (.nil _))
inductive Skp:List Int->Prop
 |nil:Skp []
 |one {b:Int} {r:List Int}:b≠34->b≠92->Skp r->Skp (b ::r)
 |two {c:Int} {r:List Int}:Skp r->Skp (92 ::c ::r)
theorem Skp.app{xs ys:List Int}(h:Skp xs)(k:Skp ys):Skp (xs++ys):=by
 induction h with
 |nil=>exact k
 |one h1 h2 _ ih=>exact .one h1 h2 ih
 |two _ ih=>exact .two ih
theorem Hx{l:List Int}(h:∀ b∈l,b≠34 /\ b≠92):Skp l:=by
 induction l with
 |nil=>exact .nil
 |cons b l ih=>exact .one (h b List.mem_cons_self).1 (h b List.mem_cons_self).2 (ih fun x hx=>h x (List.mem_cons_of_mem _ hx))
theorem i4{b:Int}{r:List Int}(h:(eU b).isSome=true)(k:Skp r):Skp (b ::r):=by
 obtain⟨w,e⟩:=some_of h;have:=kL e;exact .one (by omega) (by omega) k
theorem Ly(s:Sg)(h:Sok s):Skp (nc s):=by
 cases s with
 | pl p=>
   obtain⟨h1,h2,h3,h4⟩:=h;have hr:=oo h1;show Skp (ba p++[]);rw[List.append_nil]
   refine Hx fun b hb=>?_
   unfold ba at hb;split at hb
   . simp at hb;omega
   . split at hb
     . simp at hb;omega
     . split at hb<;>(simp at hb;omega)
 | sh c p=>
   simp only[Sok,shP,List.mem_cons,Prod.mk.injEq,List.not_mem_nil,or_false]at h
   rcases h with h|h|h|h|h|h|h|h<;>(obtain⟨rfl,rfl⟩:=h;exact .two .nil)
 | hx a b c d=>
   obtain⟨ha,hb,hcc,hd,hs⟩:=h;obtain⟨e1,e2,e3,e4⟩:=kx ha hb hcc hd
   have hby:nc (.hx a b c d)=[92,117,a,b,c,d]:=by
    show ba 92++(ba 117++(ba a++(ba b++(ba c++(ba d++[])))))=_;rw[e1,e2,e3,e4];rfl
   rw[hby];exact .two (i4 ha (i4 hb (i4 hcc (i4 hd .nil))))
 | pr a b c d e f g h'=>
   obtain⟨⟨f1,_,_,hb,hcc,hd⟩,f5,_,hf,hg,hh⟩:=h
   have ha:(eU a).isSome=true:=by rw[f1];rfl
   have he:(eU e).isSome=true:=by rw[f5];rfl
   obtain⟨e1,e2,e3,e4⟩:=kx ha hb hcc hd;obtain⟨e5,e6,e7,e8⟩:=kx he hf hg hh
   have hby:nc (.pr a b c d e f g h')=[92,117,a,b,c,d,92,117,e,f,g,h']:=by
    show ba 92++(ba 117++(ba a++(ba b++(ba c++(ba d++(ba 92++(ba 117++(ba e++(ba f++(ba g++(ba h'++[])))))))))))=_;rw[e1,e2,e3,e4,e5,e6,e7,e8];rfl
   rw[hby];exact .two (i4 ha (i4 hb (i4 hcc (i4 hd (.two (i4 he (i4 hf (i4 hg (i4 hh .nil)))))))))
theorem Ee(ss:List Sg)(h:∀ s∈ss,Sok s):Skp (inner ss):=by
 induction ss with
 |nil=>exact .nil
 |cons s ss ih=>exact(Ly s (h s List.mem_cons_self)).app (ih fun x hx=>h x (List.mem_cons_of_mem _ hx))
theorem Goes.skip{it:It}{st st':List It}{b:Int}{bs:List Int}(h:bh it b=none)(hl:loose it=true)(k:Goes st (b ::bs) st'):Goes (it ::st) (b ::bs) st':=fun r=>by
 rw[List.cons_append,HJ h hl,<- List.cons_append,k]
theorem Goes.flt{row:List Int}{st:List It}(h:Goes st0 row st)(hl:st.all loose=true):flt row=none:=by
 have e:=h [];rw[List.append_nil]at e;unfold PG.flt;rw[e];simp[tk,hl]
def txt(ss:List Sg):List Int:=34 ::(inner ss++[34])
theorem B9{st:List It}(ss:List Sg)(h:∀ s∈ss,Sok s)(hc:cnt st<=64):Goes (.value ::st) (txt ss) st:=
 Goes.step (l:=[.text]) rfl rfl hc (uM ss h st hc)
end PG
namespace PG
abbrev isF(b:Int):Prop:=48<=b /\ b<=57
def cX(n:Nat):List Int:=if n<10 then[48+(n:Int)]else cX (n/10)++[48+((n%10:Nat):Int)]
termination_by n
decreasing_by omega
def dz(n:Nat):List Int:=if n=0 then[]else cX n
theorem LP(n:Nat):cX n=dz (n/10)++[48+((n%10:Nat):Int)]:=by
 rw[cX];unfold dz
 by_cases h:n<10
 . rw[if_pos h,if_pos (by omega),Nat.mod_eq_of_lt h];rfl
 . rw[if_neg h,if_neg (by omega)]
theorem zM(n:Nat):∀ b∈cX n,isF b:=by
 induction n using Nat.strongRecOn with
 | _ n ih=>
   intro b hb;rw[cX]at hb;split at hb
   . simp at hb;unfold isF;omega
   . rcases List.mem_append.mp hb with z|z
     . exact ih (n/10) (by omega) b z
     . simp at z;unfold isF;omega
theorem GU(n:Nat):cX n≠[]:=by rw[LP];simp
theorem Dn(n:Nat)(h:0<n):∃ d r,cX n=d ::r /\ 49<=d /\ d<=57 /\ ∀ b∈r,isF b:=by
 induction n using Nat.strongRecOn with
 | _ n ih=>
   rw[cX];split
   . exact⟨48+(n:Int),[],rfl,by omega,by omega,fun b hb=>by cases hb⟩
   . obtain⟨d,r,e,h1,h2,h3⟩:=ih (n/10) (by omega) (by omega);rw[e]
     refine⟨d,r++[48+((n%10:Nat):Int)],rfl,h1,h2,fun b hb=>?_⟩
     rcases List.mem_append.mp hb with z|z
     . exact h3 b z
     . simp at z;unfold isF;omega
theorem Ed:cX 0=[48]:=by rw[cX];rfl
theorem qm(k:Nat):∀ n:Nat,n<10 ^ (k+1)->(cX n).length<=k+1:=by
 induction k with
 |zero=>intro n h;rw[cX,if_pos (by simpa using h)];simp
 | succ k ih=>
   intro n h;rw[cX];split
   . simp
   . have:n/10<10 ^ (k+1):=by rw[Nat.pow_succ]at h;omega
     have:=ih (n/10) this
     simp;omega
def cv(ds:List Int):Int:=ds.foldl (fun n d=>10*n+d - 48) 0
theorem Hd(ds:List Int)(d:Int):cv (ds++[d])=10*cv ds+d - 48:=by simp[cv]
theorem HF(n:Nat):cv (cX n)=n:=by
 induction n using Nat.strongRecOn with
 | _ n ih=>
   rw[cX];split
   . simp[cv];omega
   . rw[Hd,ih (n/10) (by omega)];omega
structure Nm where
 neg:Bool
 ip:List Int
 fr:List Int
 ex:Option (Int×List Int×List Int)
def frB(fr:List Int):List Int:=if fr=[]then[]else 46 ::fr
def exB:Option (Int×List Int×List Int)->List Int
 |none=>[]
 |some (e,s,ds)=>e ::(s++ds)
def nb(m:Nm):List Int:=(if m.neg then[45]else[])++(m.ip++(frB m.fr++exB m.ex))
structure Nok(m:Nm):Prop where
 ip:(m.ip=[48]) \/ ∃ d r,m.ip=d ::r /\ 49<=d /\ d<=57 /\ ∀ b∈r,isF b
 fr:∀ b∈m.fr,isF b
 ex:∀ e s ds,m.ex=some (e,s,ds)->(e=101 \/ e=69) /\ (s=[] \/ s=[43] \/ s=[45]) /\ ds≠[] /\ ∀ b∈ds,isF b
def nl:It->Bool
 |.figures=>true|.fraction=>true|.exponent=>true
 |_=>false
theorem uy{st:List It}(hc:cnt st<=64)(ds:List Int)(h:∀ b∈ds,isF b):Goes (.figures ::st) ds (.figures ::st):=by
 induction ds with
 |nil=>exact .nil _
 | cons d ds ih=>
   refine Goes.step (l:=[.figures]) ?_ rfl hc (ih fun b hb=>h b (List.mem_cons_of_mem _ hb));have:=h d List.mem_cons_self;simp only[bh];rw[if_pos this]
theorem FL{m:Nm}(h:Nok m){st:List It}(hc:cnt st<=64):∃ ls,ls.all nl=true /\ Goes (.value ::st) (nb m) (ls++st):=by
 have n1:∀ it:It,opn it=false->∀ st,cnt st<=64->cnt (it ::st)<=64:=fun it ho st h=>by rw[cnt_cons,ho];simp;omega
 have hlead:∃ ls,(ls=[.fraction,.exponent] \/ ls=[.figures,.fraction,.exponent]) /\ Goes (.lead ::st) m.ip (ls++st) /\ ∀ b r,m.ip=b ::r->bh .value b=bh .lead b:=by
  rcases h.ip with e|⟨d,r,e,h1,h2,h3⟩
  . exact⟨_,.inl rfl,by rw[e];exact Goes.step (l:=[.fraction,.exponent]) rfl rfl hc (.nil _),fun b r e2=>by rw[e]at e2;cases e2;rfl⟩
  . refine⟨_,.inr rfl,?_,fun b r' e2=>?_⟩
    . rw[e];refine Goes.step (l:=[.figures,.fraction,.exponent]) ?_ rfl hc ?_
      . simp only[bh,nN];rw[if_neg (by omega),if_pos (by omega)]
      . exact uy (n1 _ rfl _ (n1 _ rfl _ hc)) r h3
    . rw[e]at e2;cases e2;simp only[bh,lx];rw[if_neg (by omega),if_neg (by omega),if_neg (by omega),if_neg (by omega),if_neg (by omega),if_neg (by omega),if_neg (by omega)]
 obtain⟨ls,hls,g1,g2⟩:=hlead
 have g3:Goes (.value ::st) ((if m.neg then[45]else[])++m.ip) (ls++st):=by
  cases m.neg with
  |true=>exact Goes.step (l:=[.lead]) rfl rfl hc g1
  | false=>
    rw[if_neg (by decide),List.nil_append]
    rcases h.ip with e|⟨d,r,e,_⟩
    . intro q;have e1:=g1 q;have e2:=g2 48 [] e
      rw[e]at e1 ⊢
      rw[<- e1];simp[tk,gon,e2,loose]
    . intro q;have e1:=g1 q;have e2:=g2 d r e
      have ne:∃ l,bh .lead d=some l:=by
       rw[e]at e1
       cases e3:bh .lead d with
       |some l=>exact⟨l,rfl⟩
       |none=>simp[tk,gon,e3,loose]at e1
      obtain⟨l,hl⟩:=ne
      rw[e]at e1 ⊢
      rw[<- e1];simp[tk,gon,e2,hl]
 have g4:∃ ls',(ls'=[.figures,.exponent] \/ ls'=[.fraction,.exponent] \/ ls'=[.figures,.fraction,.exponent]) /\ Goes (ls++st) (frB m.fr) (ls'++st):=by
  unfold frB
  cases e:m.fr with
  | nil=>
    rw[if_pos rfl]
    refine⟨ls,?_,.nil _⟩
    rcases hls with z|z
    . exact .inr (.inl z)
    . exact .inr (.inr z)
  | cons d ds=>
    rw[if_neg (by simp)];have hf:=h.fr;rw[e]at hf
    refine⟨_,.inl rfl,?_⟩
    have base:Goes (.fraction ::.exponent ::st) (46 ::d ::ds) (.figures ::.exponent ::st):=by
     refine Goes.step (l:=[.sp 48 57,.figures]) rfl rfl (n1 _ rfl _ hc) (Goes.step (l:=[]) ?_ rfl (n1 _ rfl _ (n1 _ rfl _ hc)) (uy (n1 _ rfl _ hc) ds fun b hb=>hf b (List.mem_cons_of_mem _ hb)));have:=hf d List.mem_cons_self;simp only[bh];rw[if_pos this]
    rcases hls with z|z
    . subst z;exact base
    . subst z;exact Goes.skip rfl rfl base
 obtain⟨ls',hls',g5⟩:=g4
 have g6:∃ ls2,ls2.all nl=true /\ Goes (ls'++st) (exB m.ex) (ls2++st):=by
  cases e:m.ex with
  | none=>
    refine⟨ls',?_,.nil _⟩
    rcases hls' with z|z|z<;>(subst z;rfl)
  | some x=>
    obtain⟨eb,s,ds⟩:=x;obtain⟨he,hs,hd,hf⟩:=h.ex eb s ds e
    refine⟨[.figures],rfl,?_⟩
    have base:Goes (.exponent ::st) (eb ::(s++ds)) (.figures ::st):=by
     refine Goes.step (l:=[.sign,.sp 48 57,.figures]) (by rcases he with rfl|rfl<;>rfl) rfl hc ?_
     obtain⟨d,r,ed⟩:∃ d r,ds=d ::r:=by
      cases ds with
      |nil=>exact absurd rfl hd
      |cons d r=>exact⟨d,r,rfl⟩
     subst ed;have hd1:=hf d List.mem_cons_self
     have tail:Goes (.sp 48 57 ::.figures ::st) (d ::r) (.figures ::st):=by
      refine Goes.step (l:=[]) ?_ rfl (n1 _ rfl _ hc) (uy hc r fun b hb=>hf b (List.mem_cons_of_mem _ hb));simp only[bh];rw[if_pos hd1]
     rcases hs with rfl|rfl|rfl
     . refine Goes.skip ?_ rfl tail;unfold isF at hd1;simp only[bh];rw[if_neg (by omega)]
     . exact Goes.step (l:=[]) rfl rfl (n1 _ rfl _ (n1 _ rfl _ hc)) tail
     . exact Goes.step (l:=[]) rfl rfl (n1 _ rfl _ (n1 _ rfl _ hc)) tail
    have k1:bh .figures eb=none:=by rcases he with rfl|rfl<;>rfl
    have k2:bh .fraction eb=none:=by rcases he with rfl|rfl<;>rfl
    rcases hls' with z|z|z
    . subst z;exact Goes.skip k1 rfl base
    . subst z;exact Goes.skip k2 rfl base
    . subst z;exact Goes.skip k1 rfl (Goes.skip k2 rfl base)
 obtain⟨ls2,hl2,g7⟩:=g6
 refine⟨ls2,hl2,?_⟩
 have:=g3.trans (g5.trans g7);unfold nb
 simpa using this
theorem D7{ls st st':List It}{b:Int}{bs:List Int}(h:ls.all nl=true)(hb:bh .figures b=none /\ bh .fraction b=none /\ bh .exponent b=none)(k:Goes st (b ::bs) st'):Goes (ls++st) (b ::bs) st':=by
 induction ls with
 |nil=>exact k
 | cons it ls ih=>
   simp only[List.all_cons,Bool.and_eq_true]at h
   cases it with
   |figures=>exact Goes.skip hb.1 rfl (ih h.2)
   |fraction=>exact Goes.skip hb.2.1 rfl (ih h.2)
   |exponent=>exact Goes.skip hb.2.2 rfl (ih h.2)
   |_=>exact absurd h.1 (by simp[nl])
theorem E8{ls:List It}(h:ls.all nl=true):ls.all loose=true:=by
 rw[List.all_eq_true]at h ⊢
 intro it hi;have:=h it hi
 cases it<;>first|rfl|(exact absurd this (by simp[nl]))
def plb(b:Int):Prop:=isF b \/ b=45 \/ b=43 \/ b=46 \/ b=101 \/ b=69
theorem Ap{m:Nm}(h:Nok m):∀ b∈nb m,plb b:=by
 intro b hb;unfold nb at hb
 rcases List.mem_append.mp hb with z|z
 . split at z
   . simp at z;exact .inr (.inl z)
   . cases z
 . rcases List.mem_append.mp z with z|z
   . left
     rcases h.ip with e|⟨d,r,e,h1,h2,h3⟩
     . rw[e]at z;simp at z;unfold isF;omega
     . rw[e]at z
       rcases List.mem_cons.mp z with y|y
       . unfold isF;omega
       . exact h3 b y
   . rcases List.mem_append.mp z with z|z
     . unfold frB at z;split at z
       . cases z
       . rcases List.mem_cons.mp z with y|y
         . exact .inr (.inr (.inr (.inl y)))
         . exact .inl (h.fr b y)
     . cases e:m.ex with
       |none=>rw[e]at z;cases z
       | some x=>
         obtain⟨eb,s,ds⟩:=x;obtain⟨he,hs,hd,hf⟩:=h.ex eb s ds e;rw[e]at z
         rcases List.mem_cons.mp z with y|y
         . subst y;rcases he with y|y
           . exact .inr (.inr (.inr (.inr (.inl y))))
           . exact .inr (.inr (.inr (.inr (.inr y))))
         . rcases List.mem_append.mp y with y|y
           . rcases hs with rfl|rfl|rfl
             . cases y
             . simp at y;exact .inr (.inr (.inl y))
             . simp at y;exact .inr (.inl y)
           . exact .inl (hf b y)
end PG
namespace PG
open L2.P PySem
def out:List Bool->List It
 |[]=>[.br]
 |r ::fs=>.br ::(if r then .mrow else .mfields) ::out fs
def hd(r e:Bool):It:=if r then(if e then .row else .mrow)else(if e then .fields else .mfields)
def stk(r e:Bool)(fs:List Bool):List It:=.br ::hd r e ::out fs
theorem lB:∀ fs:List Bool,cnt (out fs)=fs.length
 |[]=>rfl
 | r ::fs=>by
   show cnt (.br ::(if r then It.mrow else It.mfields) ::out fs)=fs.length+1;rw[cnt_cons,cnt_cons,lB fs]
   cases r<;>simp[opn]<;>omega
def Gs(a:List It)(xs:List Int)(b:List It):Prop:=∃ ls,ls.all nl=true /\ Goes a xs (ls++b)
theorem Gs.of{a b:List It}{xs:List Int}(h:Goes a xs b):Gs a xs b:=⟨[],rfl,h⟩
def Az(b:Int):Prop:=bh .figures b=none /\ bh .fraction b=none /\ bh .exponent b=none
theorem Gs.go{a b c:List It}{xs ys:List Int}{y:Int}(h:Gs a xs b)(hy:Az y)(k:Goes b (y ::ys) c):Goes a (xs++y ::ys) c:=by
 obtain⟨ls,hl,h⟩:=h;exact h.trans (D7 hl hy k)
theorem Eo{b:Int}(h:wht b=true):Az b:=by
 unfold wht at h;simp only[Bool.or_eq_true,decide_eq_true_eq]at h
 refine⟨?_,?_,?_⟩<;>rcases h with h|h|h|h<;>subst h<;>rfl
theorem zG:Az 44:=⟨rfl,rfl,rfl⟩
theorem FQ:Az 93:=⟨rfl,rfl,rfl⟩
theorem Ea:Az 125:=⟨rfl,rfl,rfl⟩
theorem fJ{st:List It}(hc:cnt st<=64):∀ ws:List Int,(∀ b∈ws,wht b=true)->Goes (.br ::st) ws (.br ::st)
 |[],_=>Goes.nil _
 |w ::ws,h=>Goes.step (l:=[.br]) (by simp[bh,h w (List.mem_cons_self)]) rfl hc (fJ hc ws fun b hb=>h b (List.mem_cons_of_mem _ hb))
theorem Gs.br{a st:List It}{xs ws:List Int}(h:Gs a xs (.br ::st))(hc:cnt st<=64)(hw:∀ b∈ws,wht b=true):Gs a (xs++ws) (.br ::st):=by
 cases ws with
 |nil=>rw[List.append_nil];exact h
 |cons w ws=>exact .of (h.go (Eo (hw w List.mem_cons_self)) (fJ hc _ hw))
theorem Goes.past{st st':List It}{b:Int}{bs:List Int}(hb:wht b=false)(k:Goes st (b ::bs) st'):Goes (.br ::st) (b ::bs) st':=
 Goes.skip (by simp[bh,hb]) rfl k
theorem Goes.one{it:It}{st l:List It}{b:Int}(h:bh it b=some l)(hc:cnt (l++st)<=64):Goes (it ::st) [b] (l++st):=fun r=>by
 have:gon (it ::st) b=(l++st,true):=by unfold gon;rw[h];simp[hc]
 show tk (it ::st) (b ::r)=_;rw[MU this];rfl
theorem Gs.DT{a:List It}{xs:List Int}{fs:List Bool}(h:Gs a xs (stk true false fs))(hc:fs.length<64):Goes a (xs++[44]) (.br ::.value ::out (true ::fs)):=by
 refine h.go zG (.past rfl ?_)
 have:=Goes.one (it:=.mrow) (st:=out fs) (b:=44) (l:=[.br,.value,.br,.mrow]) rfl (by
  show cnt (.br ::.value ::out (true ::fs))<=64
  rw[cnt_cons,cnt_cons,lB];simp[opn];omega)
 exact this
theorem Gs.zb{a:List It}{xs:List Int}{fs:List Bool}(h:Gs a xs (stk false false fs))(hc:fs.length<64):Goes a (xs++[44]) (.br ::.name ::.br ::.sp 58 58 ::.br ::.value ::out (false ::fs)):=by
 refine h.go zG (.past rfl ?_)
 have:=Goes.one (it:=.mfields) (st:=out fs) (b:=44) (l:=.br ::.name ::sV) rfl (by
  show cnt (.br ::.name ::.br ::.sp 58 58 ::.br ::.value ::out (false ::fs))<=64
  simp only[cnt_cons,lB];simp[opn];omega)
 exact this
theorem Gs.close{a:List It}{xs:List Int}{fs:List Bool}(r e:Bool)(h:Gs a xs (stk r e fs))(hc:fs.length<=64):Goes a (xs++[if r then 93 else 125]) (out fs):=by
 refine h.go (by cases r;exact Ea;exact FQ) (.past (by cases r<;>rfl) ?_);exact Goes.one (it:=hd r e) (st:=out fs) (l:=[]) (by cases r<;>cases e<;>rfl) (by rw[List.nil_append,lB];exact hc)
theorem DP{fs:List Bool}(r:Bool)(hc:fs.length<64):Goes (.value ::out fs) [if r then 91 else 123] (stk r true fs):=by
 have:=Goes.one (it:=.value) (st:=out fs) (b:=if r then 91 else 123) (l:=[.br,hd r true]) (by cases r<;>rfl) (by
  show cnt (.br ::hd r true ::out fs)<=64
  rw[cnt_cons,cnt_cons,lB];cases r<;>simp[opn,hd]<;>omega)
 exact this
theorem Bn{fs:List Bool}{b:Int}{bs:List Int}{st' l:List It}(hb:lx b=some l)(hn:b≠93)(k:Goes (.value ::out (true ::fs)) (b ::bs) st'):Goes (.row ::out fs) (b ::bs) st':=fun r=>by
 rw[<- k r]
 have e1:bh .row b=some (l++[.br,.mrow]):=by simp[bh,hn,hb]
 have e2:bh .value b=some l:=hb
 have:gon (.row ::out fs) b=gon (.value ::out (true ::fs)) b:=by
  unfold gon;rw[e1,e2];simp[out]
 show tk _ (b ::(bs++r))=tk _ (b ::(bs++r));unfold tk;rw[this]
inductive Wd where|null|tru|fal
def wdb:Wd->List Int
 |.null=>[110,117,108,108]|.tru=>[116,114,117,101]|.fal=>[102,97,108,115,101]
theorem jA{c:Int}{st:List It}(hc:cnt st<=64):Goes (.sp c c ::st) [c] st:=by
 have:=Goes.one (it:=.sp c c) (st:=st) (b:=c) (l:=[]) (by simp[bh]) hc;exact this
theorem Ej{st:List It}(hc:cnt st<=64)(w:Wd):Goes (.value ::st) (wdb w) st:=by
 cases w with
 |null=>exact Goes.step (l:=[.sp 117 117,.sp 108 108,.sp 108 108]) rfl rfl hc (Goes.trans (xs:=[117]) (jA (by simpa [cnt_cons,opn]using hc)) (Goes.trans (xs:=[108]) (jA (by simpa [cnt_cons,opn]using hc)) (jA hc)))
 |tru=>exact Goes.step (l:=[.sp 114 114,.sp 117 117,.sp 101 101]) rfl rfl hc (Goes.trans (xs:=[114]) (jA (by simpa [cnt_cons,opn]using hc)) (Goes.trans (xs:=[117]) (jA (by simpa [cnt_cons,opn]using hc)) (jA hc)))
 |fal=>exact Goes.step (l:=[.sp 97 97,.sp 108 108,.sp 115 115,.sp 101 101]) rfl rfl hc (Goes.trans (xs:=[97]) (jA (by simpa [cnt_cons,opn]using hc)) (Goes.trans (xs:=[108]) (jA (by simpa [cnt_cons,opn]using hc)) (Goes.trans (xs:=[115]) (jA (by simpa [cnt_cons,opn]using hc)) (jA hc))))
inductive Lf where|wd(w:Wd)|nm(m:Nm)|tx(l:List Sg)
def lfb:Lf->List Int
 |.wd w=>wdb w|.nm m=>nb m|.tx l=>txt l
def Lok:Lf->Prop
 |.wd _=>True|.nm m=>Nok m|.tx l=>∀ s∈l,Sok s
theorem GP{st:List It}(hc:cnt st<=64)(x:Lf)(h:Lok x):Gs (.value ::st) (lfb x) st:=by
 cases x with
 |wd w=>exact .of (Ej hc w)
 |nm m=>exact FL h hc
 |tx l=>exact .of (B9 l h hc)
theorem Em{st:List It}(hc:cnt st<=64)(l:List Sg)(h:∀ s∈l,Sok s):Goes (.name ::st) (txt l) st:=
 Goes.step (l:=[.text]) rfl rfl hc (uM l h st hc)
theorem A5{fs:List Bool}(hc:fs.length<64)(l:List Sg)(h:∀ s∈l,Sok s):Goes (.fields ::out fs) (txt l) (.br ::.sp 58 58 ::.br ::.value ::out (false ::fs)):=by
 have hcc:cnt (.br ::.sp 58 58 ::.br ::.value ::out (false ::fs))<=64:=by simp only[cnt_cons,lB];simp[opn];omega
 have h1:=Goes.one (it:=.fields) (st:=out fs) (b:=34) (l:=.text ::sV) rfl (by
  show cnt (.text ::.br ::.sp 58 58 ::.br ::.value ::out (false ::fs))<=64
  rw[cnt_cons];simpa [opn]using hcc)
 exact Goes.trans h1 (uM l h _ hcc)
theorem vV{st:List It}(hc:cnt st<=64){ws:List Int}(hw:∀ b∈ws,wht b=true):Goes (.br ::.sp 58 58 ::.br ::st) (ws++[58]) (.br ::st):=
 (fJ (by simpa [cnt_cons,opn]using hc) ws hw).trans (.past rfl (jA (by simpa [cnt_cons,opn]using hc)))
theorem Gs.flt{row:List Int}(h:Gs st0 row [.br]):flt row=none:=by
 obtain⟨ls,hl,h⟩:=h;refine h.flt ?_;rw[List.all_append,E8 hl];rfl
def tb(b:Int):Prop:=wht b=true \/ isF b \/ b=46 \/ b=101 \/ b=69 \/ b=43 \/ b=45
theorem Goes.whole{a b:List It}{xs:List Int}(h:Goes a xs b):(tk a xs).2=xs.length:=by
 have:=h [];rw[List.append_nil]at this;rw[this];simp[tk]
end PG
namespace L2.P
open PySem
theorem OV.get_nil(t:OV):t.get []=some t:=by unfold OV.get;rfl
theorem OV.lE(t u:OV):t.put [] u=u:=by unfold OV.put;rfl
theorem OV.sA{ts:List OV}{j:Nat}{u:OV}(h:ts[j]?=some u)(π:List Stp):(OV.ol ts).get (.ix j ::π)=u.get π:=by
 rw[OV.get];simp[OV.at1,h]
theorem OV.Bx{ts:List OV}{j:Nat}{u x:OV}(h:ts[j]?=some u)(π:List Stp):(OV.ol ts).put (.ix j ::π) x=.ol (ts.set j (u.put π x)):=by
 rw[OV.put];simp[OV.at1,h,OV.gq]
theorem bN{ρ:ag}{i:Nat}{s:Sl}{t:OV}(h:ρ[i]?=some (some s))(hs:slT s=some t):gp i ρ=some t:=by
 unfold gp;rw[h];exact hs
theorem lF{ρ:ag}{i j:Nat}{ts:List OV}{mk:ag->OE}{r:RV}{k:Int}(h:gp i ρ=some (.ol ts))(hk:mk ρ=.ok r)(hr:r.pv=.int k)(hj:ixP ts.length k=some j):pIx i aI mk ρ=some [.ix j]:=by
 unfold pIx;rw[h];simp[aI,OV.get_nil,hk,hr,hj]
theorem yz{ρ:ag}{i j j2:Nat}{ts us:List OV}{mp:MP}{mk:ag->OE}{r:RV}{k:Int}(h:gp i ρ=some (.ol ts))(hp:mp ρ=some [.ix j])(hu:ts[j]?=some (.ol us))(hk:mk ρ=.ok r)(hr:r.pv=.int k)(hj:ixP us.length k=some j2):pIx i mp mk ρ=some [.ix j,.ix j2]:=by
 unfold pIx;rw[h,hp];simp[OV.sA hu,OV.get_nil,hk,hr,hj]
theorem subAt_one{ρ:ag}{i j:Nat}{ts:List OV}{mp:MP}{u:OV}(h:gp i ρ=some (.ol ts))(hp:mp ρ=some [.ix j])(hu:ts[j]?=some u):subAt i mp ρ=some u:=by
 unfold subAt;rw[h,hp];simp[OV.sA hu,OV.get_nil]
theorem uK{ρ:ag}{i j j2:Nat}{ts us:List OV}{mp:MP}{u:OV}(h:gp i ρ=some (.ol ts))(hp:mp ρ=some [.ix j,.ix j2])(hv:ts[j]?=some (.ol us))(hu:us[j2]?=some u):subAt i mp ρ=some u:=by
 unfold subAt;rw[h,hp];simp[OV.sA hv,OV.sA hu,OV.get_nil]
theorem jq{ρ:ag}{i:Nat}{t:OV}(h:gp i ρ=some t):subAt i aI ρ=some t:=by
 unfold subAt;rw[h];simp[aI,OV.get_nil]
theorem oU{ρ:ag}{i:Nat}{mp:MP}{x:PV}(h:subAt i mp ρ=some (.sh x)):cZ i mp ρ=.ok (.sh x):=by unfold cZ;rw[h]
theorem wa{ρ:ag}{i:Nat}{mp:MP}{ts:List OV}(h:subAt i mp ρ=some (.ol ts)):gF i mp ρ=.ok (.sh (.int ts.length)):=by unfold gF;rw[h]
theorem vZ{ρ:ag}{i:Nat}{mp:MP}{ts:List OV}(h:subAt i mp ρ=some (.ol ts)):dG i mp ρ=.ok (!ts.isEmpty):=by unfold dG;rw[h]
theorem IT{ρ:ag}{i:Nat}{io:Bool}{ts:List OV}{x:OV}(h:ρ[i]?=some (some (.tr io (.ol (ts++[x]))))):m6 i aI ρ=.ok (ρ.set i (some (.tr io (.ol ts)))) (slO x):=by
 unfold m6;rw[h];simp[aI,OV.get_nil,OV.lE]
theorem vA{ρ:ag}{i:Nat}{io:Bool}{ts:List OV}{x:OV}{md:ag->OD}(h:ρ[i]?=some (some (.tr io (.ol ts))))(hd:md ρ=.ok x)(hl:ts.length<lim):bR i aI md ρ=.nx (ρ.set i (some (.tr io (.ol (ts++[x]))))):=by
 unfold bR vd;rw[h];simp only[aI,OV.get_nil,hd,hl,if_true,OV.lE]
theorem CZ{ρ:ag}{i j j2:Nat}{io:Bool}{ts us xs:List OV}{x:OV}{mp:MP}{md:ag->OD}(h:ρ[i]?=some (some (.tr io (.ol ts))))(hp:mp ρ=some [.ix j,.ix j2])(hv:ts[j]?=some (.ol us))(hu:us[j2]?=some (.ol xs))(hd:md ρ=.ok x)(hl:xs.length<lim):
  bR i mp md ρ=.nx (ρ.set i (some (.tr io (.ol (ts.set j (.ol (us.set j2 (.ol (xs++[x]))))))))):=by
 unfold bR vd;rw[h,hp];simp only[OV.sA hv,OV.sA hu,OV.get_nil,hd,hl,if_true,OV.Bx hv,OV.Bx hu,OV.lE]
theorem vF{ρ:ag}{i j j2:Nat}{io:Bool}{ts us:List OV}{x:OV}{mp:MP}{mk:ag->OE}{md:ag->OD}{r:RV}{k:Int}(h:ρ[i]?=some (some (.tr io (.ol ts))))(hp:mp ρ=some [.ix j])(hv:ts[j]?=some (.ol us))(hk:mk ρ=.ok r)(hr:r.pv=.int k)(hj:ixP us.length k=some j2)(hd:md ρ=.ok x):
  pX i mp mk md ρ=.nx (ρ.set i (some (.tr io (.ol (ts.set j (.ol (us.set j2 x))))))):=by
 unfold pX vd;rw[hd];dsimp only;rw[h,hp];simp only[OV.sA hv,OV.get_nil,hk,hU,hr,hj,OV.Bx hv,OV.lE]
theorem Ga{ρ:ag}{i:Nat}{io:Bool}{ts:List OV}{ys:List PV}{me:ag->OE}(h:ρ[i]?=some (some (.tr io (.ol ts))))(he:me ρ=.ok (.fr ys) \/ me ρ=.ok (.sh (.lst ys)))(hl:ts.length+ys.length<=lim):dQ i aI me ρ=.nx (ρ.set i (some (.tr io (.ol (ts++ys.map .sh))))):=by
 unfold dQ vd;rw[h]
 rcases he with he|he<;>simp only[aI,OV.get_nil,he,hU,hl,if_true,OV.lE]
theorem bt{m n:ag->OS}{ρ ρ':ag}(h:m ρ=.nx ρ'):aG m n ρ=n ρ':=by unfold aG;rw[h];rfl
theorem Kd{m n:ag->OS}{ρ ρ':ag}{v:RV}(h:m ρ=.rt ρ' v):aG m n ρ=.rt ρ' v:=by unfold aG;rw[h];rfl
theorem Cz(ρ:ag):aS ρ=.nx ρ:=rfl
theorem N2{c:ag->OT}{a b:ag->OS}{ρ:ag}(h:c ρ=.ok true):bc c a b ρ=a ρ:=by unfold bc;rw[h];rfl
theorem M5{c:ag->OT}{a b:ag->OS}{ρ:ag}(h:c ρ=.ok false):bc c a b ρ=b ρ:=by unfold bc;rw[h];rfl
theorem qY{f:List PV->OE}{x y:PV}{r:RV}(h:f [x,y]=.ok r)(hr:∀ xs,r≠.al xs):bf (bp f (ak (ao 0) (ak (ao 1) aJ))) [some (.sh x),some (.sh y)]=.rt [some (.sh x),some (.sh y)] r:=by
 cases r with
 |al xs=>exact absurd rfl (hr xs)
 |sh z=>simp[h]
 |fr z=>simp[h]
theorem Ec{f:List PV->OE}{x y:PV}{r:RV}(h:f [y]=.ok r)(hr:∀ xs,r≠.al xs):bf (bp f (ak (ao 1) aJ)) [some (.sh x),some (.sh y)]=.rt [some (.sh x),some (.sh y)] r:=by
 cases r with
 |al xs=>exact absurd rfl (hr xs)
 |sh z=>simp[h]
 |fr z=>simp[h]
theorem LD{ρ:ag}{r:RV}(hr:∀ xs,r≠.al xs):fin (.rt ρ r)=.ok r:=by
 cases r with
 |al xs=>exact absurd rfl (hr xs)
 |sh z=>rfl
 |fr z=>rfl
theorem sk{c:ag->OT}{a n:ag->OS}{ρ:ag}(h:c ρ=.ok false):aG (bc c a aS) n ρ=n ρ:=bt (Eq.trans (M5 h) (Cz _))
theorem st{c:ag->OT}{a b n:ag->OS}{ρ ρ':ag}{r:RV}(h:c ρ=.ok true)(k:a ρ=.rt ρ' r):aG (bc c a b) n ρ=.rt ρ' r:=Kd (Eq.trans (N2 h) k)
theorem v7{X:OS}{ρ:ag}{x:PV}(h:X=.rt ρ (.sh x)):fin X=.ok (.sh x):=by rw[h];rfl
end L2.P
namespace L2.plainglass_k11_nodes_told
open PySem L2.P PG
def pI(c:String):Bool:=c == "Walk"
def xf:ag -> OS:=
    (aG (bc (cU (ao 0))
    (bf (mOp gN (ao 0) (mOp cH (ao 1) (mUn mK (ao 0)))))
    aS)
    (bf (mC (.int 0))))
def jb:List PV->OE:=fnP 2 2 xf
def u2:ag -> OS:=
    (bf (mOp cH (mOp dU (mOp AF (mOp dH (ao 2) (mC (.int 64))) (mC (.int 69621))) (ao 2)) (mC (.int 4294967231))))
def u4:ag -> OS:=
    (aG (bq 2 (mOp cH (mOp AF (ao 2) (mC (.int 48271))) (mC (.int 4294967279))))
    u2)
def xI:ag -> OS:=
    (aG (bq 2 (mOp cH (mOp dU (bp jb (ak (ao 0) (ak (ao 1) aJ))) (mOp AF (mC (.int 104729)) (mOp dU (ao 1) (mC (.int 1))))) (mC (.int 4294967291))))
    u4)
def fm:List PV->OE:=fnP 2 3 xI
def ko:ag -> OS:=
    (gj 4)
def nK:ag -> OS:=
    (aG (bc (dG 2 aI)
    (aG (bR 2 (pIx 2 (pIx 2 aI (mUn gU (mC (.int 1)))) (mC (.int 1))) (mD (gH (aB (mOp gEq (cZ 2 (pIx 2 (pIx 2 aI (mUn gU (mC (.int 1)))) (mC (.int 0)))) (mC (.str "row")))) (ao 4) (fh (ak (cZ 3 (pIx 3 aI (mC (.int 3)))) (ak (ao 4) aJ))))))
    (bc (aB (mOp gEq (cZ 2 (pIx 2 (pIx 2 aI (mUn gU (mC (.int 1)))) (mC (.int 0)))) (mC (.str "fields"))))
    (pX 1 (pIx 1 aI (mOp xo (cZ 3 (pIx 3 aI (mC (.int 2)))) (mC (.int 1)))) (mC (.int 3)) (mD (gF 1 aI)))
    aS))
    aS)
    ko)
def kh:ag -> OS:=
    (aG (bq 4 (fh (ak (cZ 3 (pIx 3 aI (mC (.int 0)))) (ak (mUn nG (cZ 3 (pIx 3 aI (mC (.int 1))))) aJ))))
    nK)
def rO:ag -> OS:=
    (aG (pX 1 (pIx 1 aI (cZ 3 (pIx 3 aI (mC (.int 2))))) (mC (.int 3)) (mD (gF 1 aI)))
    kh)
def rR:ag -> OS:=
    (aG (pX 1 (pIx 1 aI (cZ 3 (pIx 3 aI (mC (.int 2))))) (mC (.int 2)) (mD (gF 0 aI)))
    rO)
def rY:ag -> OS:=
    (aG (bR 0 aI (mD (gH (aB (mOp gEq (cZ 3 (pIx 3 aI (mC (.int 0)))) (mC (.str "row")))) (mC (.int 93)) (mC (.int 125)))))
    rR)
def qb:ag -> OS:=
    (aG (iE 3 (m6 2 aI))
    rY)
def cV:List Sl->OI:=fnI 3 5 qb
def ku:ag -> OE:=
    (mOp gN (b5 (ak (mC (.int 32)) (ak (mC (.int 9)) (ak (mC (.int 10)) (ak (mC (.int 13)) aJ))))) (mOp cH (mOp dH (mOp dH (ao 0) (mC (.int 4))) (mOp dU (mC (.int 1)) (mOp AF (mC (.int 3)) (ao 1)))) (mC (.int 4))))
def pO:ag -> OS:=
    (aG (bc (aB (mOp gGt (mOp cH (ao 0) (mC (.int 4))) (mC (.int 0))))
    (bf (b5 aJ))
    aS)
    (bf (wD (mOp dU (mOp cH (mOp dH (ao 0) (mC (.int 64))) (mC (.int 3))) (mC (.int 1))) [0] ku)))
def cI:List PV->OE:=fnP 1 1 pO
def fO:ag -> OS:=
    (bf (mOp dU (mC (.int 65536)) (mOp cH (ao 2) (mC (.int 1048576)))))
def fN:ag -> OS:=
    (aG (bc (aB (mOp gEq (ao 1) (mC (.int 6))))
    (bf (mOp dU (mC (.int 57344)) (mOp cH (ao 2) (mC (.int 8192)))))
    aS)
    fO)
def fI:ag -> OS:=
    (aG (bc (aB (mOp gEq (ao 1) (mC (.int 5))))
    (bf (mOp dU (mC (.int 2048)) (mOp cH (ao 2) (mC (.int 53248)))))
    aS)
    fN)
def fP:ag -> OS:=
    (aG (bc (aB (mOp gEq (ao 1) (mC (.int 4))))
    (bf (mOp dU (mC (.int 128)) (mOp cH (ao 2) (mC (.int 1920)))))
    aS)
    fI)
def fL:ag -> OS:=
    (aG (bc (aB (mOp gLt (ao 1) (mC (.int 4))))
    (bf (mOp gN (b5 (ak (mC (.int 34)) (ak (mC (.int 92)) (ak (mC (.int 47)) (ak (mC (.int 8)) (ak (mC (.int 12)) (ak (mC (.int 10)) (ak (mC (.int 13)) (ak (mC (.int 9)) (ak (mC (.int 0)) (ak (mC (.int 31)) (ak (mC (.int 127)) aJ)))))))))))) (mOp cH (ao 2) (mC (.int 11)))))
    aS)
    fP)
def fG:ag -> OS:=
    (aG (bc (aB (mOp gLt (ao 1) (mC (.int 2))))
    (bf (mOp dU (mC (.int 32)) (mOp cH (ao 2) (mC (.int 95)))))
    aS)
    fL)
def fK:ag -> OS:=
    (aG (bq 2 (mOp dH (ao 0) (mC (.int 8))))
    fG)
def ij:ag -> OS:=
    (aG (bq 1 (mOp cH (ao 0) (mC (.int 8))))
    fK)
def dJ:List PV->OE:=fnP 1 3 ij
def lU:ag -> OE:=
    (bp dJ (ak (bp fm (ak (ao 0) (ak (mOp dU (mOp dU (ao 1) (mC (.int 1))) (ao 2)) aJ))) aJ))
def lX:ag -> OS:=
    (bf (wD (ao 3) [0,1] lU))
def mj:ag -> OS:=
    (aG (bc (aB (mOp gEq (mOp cH (mOp dH (ao 2) (mC (.int 5))) (mC (.int 8))) (mC (.int 3))))
    (bq 3 (mOp cH (mOp dH (ao 2) (mC (.int 40))) (mC (.int 14))))
    aS)
    lX)
def mI:ag -> OS:=
    (aG (bq 3 (mOp cH (ao 2) (mC (.int 5))))
    mj)
def oz:ag -> OS:=
    (aG (bq 2 (bp fm (ak (ao 0) (ak (ao 1) aJ))))
    mI)
def eN:List PV->OE:=fnP 2 4 oz
def sm:ag -> OS:=
    (aG (bc (aB (mOp gEq (mOp cH (ao 1) (mC (.int 2))) (mC (.int 0))))
    (bf (b5 (ak (mOp dU (mC (.int 97)) (mOp cH (mOp dH (ao 1) (mC (.int 2))) (mC (.int 3)))) aJ)))
    aS)
    (bf (bp eN (ak (ao 0) (ak (mOp dU (mC (.int 11)) (mOp cH (mOp dH (ao 1) (mC (.int 2))) (mC (.int 37)))) aJ)))))
def ie:List PV->OE:=fnP 2 2 sm
def iU:ag -> OS:=
    (aG (bq 2 (mOp nu (b5 (ak (mOp dU (mC (.int 128)) (mOp cH (ao 0) (mC (.int 64)))) aJ)) (ao 2)))
    (bq 0 (mOp dH (ao 0) (mC (.int 64)))))
def iT:ag -> OS:=
    (bf (mOp nu (b5 (ak (mOp dU (mOp gN (b5 (ak (mC (.int 192)) (ak (mC (.int 224)) (ak (mC (.int 240)) aJ)))) (mOp xo (ao 1) (mC (.int 1)))) (ao 0)) aJ)) (ao 2)))
def iR:ag -> OS:=
    (aG (tF 3 (ao 1)
    iU)
    iT)
def iS:ag -> OS:=
    (aG (bq 2 (b5 aJ))
    iR)
def iQ:ag -> OS:=
    (aG (bq 1 (mOp dU (mOp dU (mC (.int 1)) (mUn Ax (mOp gGe (ao 0) (mC (.int 2048))))) (mUn Ax (mOp gGe (ao 0) (mC (.int 65536))))))
    iS)
def kF:ag -> OS:=
    (aG (bc (aB (mOp gLt (ao 0) (mC (.int 128))))
    (bf (b5 (ak (ao 0) aJ)))
    aS)
    iQ)
def eP:List PV->OE:=fnP 1 4 kF
def mR:ag -> OS:=
    (aG (bq 4 (mOp cH (ao 0) (mC (.int 16))))
    (aG (bc (aB (mOp gLt (ao 4) (mC (.int 10))))
    (bq 2 (mOp nu (b5 (ak (mOp dU (mC (.int 48)) (ao 4)) aJ)) (ao 2)))
    (bq 2 (mOp nu (b5 (ak (mOp dU (gH (cU (ao 1)) (mC (.int 55)) (mC (.int 87))) (ao 4)) aJ)) (ao 2))))
    (bq 0 (mOp dH (ao 0) (mC (.int 16))))))
def uR:ag -> OS:=
    (bf (mOp nu (b5 (ak (mC (.int 92)) (ak (mC (.int 117)) aJ))) (ao 2)))
def uQ:ag -> OS:=
    (aG (tF 3 (mC (.int 4))
    mR)
    uR)
def xV:ag -> OS:=
    (aG (bq 2 (b5 aJ))
    uQ)
def ik:List PV->OE:=fnP 2 5 xV
def tX:ag -> OS:=
    (bf (mOp nu (bp ik (ak (mOp dU (mC (.int 55296)) (mOp dH (ao 4) (mC (.int 1024)))) (ak (mOp gEq (ao 3) (mC (.int 1))) aJ))) (bp ik (ak (mOp dU (mC (.int 56320)) (mOp cH (ao 4) (mC (.int 1024)))) (ak (mOp gEq (ao 3) (mC (.int 0))) aJ)))))
def tq:ag -> OS:=
    (aG (bq 4 (mOp xo (ao 0) (mC (.int 65536))))
    tX)
def lG:ag -> OS:=
    (aG (bc (aB (mOp gLt (ao 0) (mC (.int 65536))))
    (bf (bp ik (ak (ao 0) (ak (mOp gEq (ao 3) (mC (.int 1))) aJ))))
    aS)
    tq)
def fu:ag -> OS:=
    (aG (bc (fw (aB (mOp gGt (ao 3) (mC (.int 1)))) (fw (aB (mOp gGe (ao 0) (mC (.int 32)))) (fw (aB (mOp gNe (ao 0) (mC (.int 34)))) (aB (mOp gNe (ao 0) (mC (.int 92)))))))
    (bf (bp eP (ak (ao 0) aJ)))
    aS)
    lG)
def n9:ag -> OS:=
    (aG (bc (fw (aB (mOp gEq (ao 3) (mC (.int 0)))) (aB (AU false (ao 0) 2 aI)))
    (bf (b5 (ak (mC (.int 92)) (ak (Cc 2 aI (ao 0)) aJ))))
    aS)
    fu)
def jx:ag -> OS:=
    (aG (bq 3 (mOp cH (ao 1) (mC (.int 5))))
    n9)
def vH:ag -> OS:=
    (aG (lr 2 (Lu [(34,34),(92,92),(47,47),(8,98),(12,102),(10,110),(13,114),(9,116)]))
    jx)
def jd:List PV->OE:=fnP 2 5 vH
def lJ:ag -> OS:=
    (aG (bq 2 (mOp nu (ao 2) (bp jd (ak (ao 4) (ak (mOp dU (mOp dH (ao 1) (mOp dU (mC (.int 1)) (mOp cH (ao 3) (mC (.int 7))))) (ao 3)) aJ)))))
    (bq 3 (mOp dU (ao 3) (mC (.int 1)))))
def tJ:ag -> OS:=
    (bf (mOp nu (ao 2) (b5 (ak (mC (.int 34)) aJ))))
def tN:ag -> OS:=
    (aG (uV 4 (ao 0)
    lJ)
    tJ)
def sZ:ag -> OS:=
    (aG (bq 3 (mC (.int 0)))
    tN)
def wF:ag -> OS:=
    (aG (bq 2 (b5 (ak (mC (.int 34)) aJ)))
    sZ)
def gB:List PV->OE:=fnP 2 5 wF
def nj:ag -> OS:=
    (gj 5)
def m8:ag -> OS:=
    (aG (bc (fw (dG 3 aI) (aB (mOp gEq (cZ 3 (pIx 3 (pIx 3 aI (mUn gU (mC (.int 1)))) (mC (.int 0)))) (mC (.str "fields")))))
    (aG (bq 6 (bp ie (ak (ao 0) (ak (mOp dH (ao 4) (mC (.int 13))) aJ))))
    (aG (bq 5 (mUn nG (ao 6)))
    (aG (bq 7 (gF 1 aI))
    (aG (iB 6 (dQ 1 aI (bp gB (ak (ao 6) (ak (mOp dH (ao 4) (mC (.int 17))) aJ)))))
    (aG (bR 2 aI (mD (b5 (ak (mC (.str "name")) (ak (ao 7) (ak (gF 1 aI) (ak (mC (.int 0)) aJ)))))))
    (aG (dQ 1 aI (bp cI (ak (mOp dH (ao 4) (mC (.int 19))) aJ)))
    (aG (bR 1 aI (mD (mC (.int 58))))
    (dQ 1 aI (bp cI (ak (mOp dH (ao 4) (mC (.int 23))) aJ))))))))))
    aS)
    nj)
def rK:ag -> OS:=
    (aG (bc (fw (dG 3 aI) (cU (cZ 3 (pIx 3 (pIx 3 aI (mUn gU (mC (.int 1)))) (mC (.int 1))))))
    (aG (bR 1 aI (mD (mC (.int 44))))
    (dQ 1 aI (bp cI (ak (mOp dH (ao 4) (mC (.int 11))) aJ))))
    aS)
    m8)
def rG:ag -> OS:=
    (aG (bq 5 (fh aJ))
    rK)
def mV:ag -> OS:=
    (aG (dQ 1 aI (bp cI (ak (mOp dH (ao 4) (mC (.int 3))) aJ)))
    rG)
def fZ:List Sl->OI:=fnI 5 8 mV
def iV:ag -> OT:=
    (aB (mOp gEq (mOp cH (ao 0) (mC (.int 10))) (mC (.int 0))))
def kz:ag -> OS:=
    (aG (bq 0 (mOp dH (ao 0) (mC (.int 10))))
    (bq 1 (mOp dU (ao 1) (mC (.int 1)))))
def sd:ag -> OS:=
    (bf (fh (ak (ao 0) (ak (ao 1) aJ))))
def rL:ag -> OS:=
    (aG (bX iV
    kz fuel)
    sd)
def qI:ag -> OS:=
    (aG (bc (aB (mOp gEq (ao 0) (mC (.int 0))))
    (bf (fh (ak (mC (.int 0)) (ak (mC (.int 0)) aJ))))
    aS)
    rL)
def fz:List PV->OE:=fnP 2 2 qI
def ig:ag -> OE:=
    (mUn CQ (ao 0))
def jH:ag -> OE:=
    (mOp dU (mC (.int 48)) (ao 0))
def fT:ag -> OS:=
    (bq 4 (mOp dU (mOp AF (ao 4) (mC (.int 10))) (ao 5)))
def gZ:ag -> OS:=
    (aG (eE 3 (mOp dU (mC (.int 48)) (ao 5)))
    (aG (bq 4 (mOp dU (mOp AF (ao 4) (mC (.int 10))) (ao 5)))
    (bq 6 (mOp xo (ao 6) (mC (.int 1))))))
def fU:ag -> OE:=
    (mUn F6 (ao 0))
def lb:ag -> OS:=
    (iB 3 (bf (fh (ak (ao 3) (ak (bp fz (ak (ao 4) (ak (ao 6) aJ))) aJ)))))
def p9:ag -> OS:=
    (aG (bc (cU (ao 1))
    (bq 4 (mUn gU (ao 4)))
    aS)
    lb)
def qq:ag -> OS:=
    (aG (bc (aB (mOp gEq (mOp cH (mOp dH (ao 0) (mC (.int 31))) (mC (.int 3))) (mC (.int 1))))
    (aG (bq 7 (mOp cH (mOp dH (ao 0) (mC (.int 37))) (mC (.int 30))))
    (aG (eE 3 (mOp gN (b5 (ak (mC (.int 101)) (ak (mC (.int 69)) aJ))) (mOp cH (mOp dH (ao 0) (mC (.int 41))) (mC (.int 2)))))
    (aG (bq 8 (mOp gEq (mOp cH (mOp dH (ao 0) (mC (.int 43))) (mC (.int 3))) (mC (.int 1))))
    (aG (bc (cU (ao 8))
    (eE 3 (mC (.int 45)))
    (bc (aB (mOp gEq (mOp cH (mOp dH (ao 0) (mC (.int 43))) (mC (.int 3))) (mC (.int 2))))
    (eE 3 (mC (.int 43)))
    aS))
    (aG (bc (aB (mOp gEq (mOp cH (mOp dH (ao 0) (mC (.int 47))) (mC (.int 4))) (mC (.int 1))))
    (eE 3 (mC (.int 48)))
    aS)
    (aG (bq 3 (mOp nu (ao 3) (ql (mUn qL (ao 7)) [] fU)))
    (bq 6 (mOp dU (ao 6) (gH (cU (ao 8)) (mUn gU (ao 7)) (ao 7))))))))))
    aS)
    p9)
def qM:ag -> OS:=
    (aG (bc (aB (mOp gEq (mOp cH (mOp dH (ao 0) (mC (.int 17))) (mC (.int 3))) (mC (.int 1))))
    (aG (eE 3 (mC (.int 46)))
    (uV 5 (HB (b5 (ak (mOp cH (mOp dH (ao 0) (mC (.int 19))) (mC (.int 10))) (ak (mOp cH (mOp dH (ao 0) (mC (.int 23))) (mC (.int 4))) (ak (mC (.int 0)) aJ)))) (mC .non) (CV (mOp dU (mC (.int 1)) (mOp cH (mOp dH (ao 0) (mC (.int 29))) (mC (.int 3))))))
    gZ))
    aS)
    qq)
def qe:ag -> OS:=
    (aG (bq 6 (mC (.int 0)))
    qM)
def qA:ag -> OS:=
    (aG (iB 2 (uV 5 (ao 2)
    fT))
    qe)
def qr:ag -> OS:=
    (aG (bq 4 (mC (.int 0)))
    qA)
def pY:ag -> OS:=
    (aG (bq 3 (mOp nu (ao 3) (ue (ao 2) [] jH)))
    qr)
def qE:ag -> OS:=
    (aG (bq 3 (gH (cU (ao 1)) (b5 (ak (mC (.int 45)) aJ)) (b5 aJ)))
    pY)
def p5:ag -> OS:=
    (aG (bq 2 (ql (mUn qL (mOp cH (mOp dH (ao 0) (mC (.int 3))) (mC (.int 100000)))) [] ig))
    qE)
def tD:ag -> OS:=
    (aG (bq 1 (mOp gEq (mOp cH (ao 0) (mC (.int 3))) (mC (.int 0))))
    p5)
def gy:List PV->OE:=fnP 1 9 tD
def lz:ag -> OS:=
    (bf (fh (ak (mC (.str "number")) (ak (mOp eT (ao 4) (mC (.int 0))) (ak (fh (ak (mC (.str "number")) (ak (mOp eT (mOp eT (ao 4) (mC (.int 1))) (mC (.int 0))) (ak (mOp eT (mOp eT (ao 4) (mC (.int 1))) (mC (.int 1))) aJ)))) aJ)))))
def rm:ag -> OS:=
    (aG (bq 4 (bp gy (ak (mOp dH (ao 1) (mC (.int 7))) aJ)))
    lz)
def rq:ag -> OS:=
    (aG (bc (aB (mOp gEq (ao 2) (mC (.int 3))))
    (aG (bq 3 (bp eN (ak (ao 0) (ak (mOp dU (mC (.int 7)) (mOp cH (ao 1) (mC (.int 41)))) aJ))))
    (iB 3 (bf (fh (ak (mC (.str "text")) (ak (bp gB (ak (ao 3) (ak (mOp dH (ao 1) (mC (.int 30))) aJ))) (ak (fh (ak (mC (.str "text")) (ak (mUn nG (ao 3)) aJ))) aJ)))))))
    aS)
    rm)
def rp:ag -> OS:=
    (aG (bc (aB (mOp gEq (ao 2) (mC (.int 2))))
    (bf (fh (ak (mC (.str "false")) (ak (b5 (ak (mC (.int 102)) (ak (mC (.int 97)) (ak (mC (.int 108)) (ak (mC (.int 115)) (ak (mC (.int 101)) aJ)))))) (ak (mC (.bl false)) aJ)))))
    aS)
    rq)
def rf:ag -> OS:=
    (aG (bc (aB (mOp gEq (ao 2) (mC (.int 1))))
    (bf (fh (ak (mC (.str "true")) (ak (b5 (ak (mC (.int 116)) (ak (mC (.int 114)) (ak (mC (.int 117)) (ak (mC (.int 101)) aJ))))) (ak (mC (.bl true)) aJ)))))
    aS)
    rp)
def lu:ag -> OS:=
    (aG (bc (aB (mOp gEq (ao 2) (mC (.int 0))))
    (bf (fh (ak (mC (.str "null")) (ak (b5 (ak (mC (.int 110)) (ak (mC (.int 117)) (ak (mC (.int 108)) (ak (mC (.int 108)) aJ))))) (ak (mC .non) aJ)))))
    aS)
    rf)
def mN:ag -> OS:=
    (aG (bq 2 (mOp cH (mOp dH (ao 1) (mC (.int 5))) (mC (.int 6))))
    lu)
def cz:List PV->OE:=fnP 2 5 mN
def iY:ag -> OS:=
    (aG (bq 7 (bp fm (ak (ao 0) (ak (ao 6) aJ))))
    (bc (fw (dG 4 aI) (aB (mOp gEq (mOp cH (ao 7) (mC (.int 5))) (mC (.int 1)))))
    (aG (dQ 2 aI (bp cI (ak (mOp dH (ao 7) (mC (.int 3))) aJ)))
    (iE 5 (jw cV [.t 2 aI,.t 3 aI,.t 4 aI])))
    (bc (mL (dG 4 aI) (aB (mOp gEq (ao 6) (mC (.int 0)))))
    (aG (iE 8 (jw fZ [.e (ao 0),.t 2 aI,.t 3 aI,.t 4 aI,.e (ao 7)]))
    (aG (bq 9 (gF 2 aI))
    (bc (mL (aB (mOp gGt (mOp cH (ao 7) (mC (.int 5))) (mC (.int 2)))) (fw (aB (mOp gEq (ao 6) (mC (.int 0)))) (aB (mOp gGt (mOp cH (ao 7) (mC (.int 9))) (mC (.int 0))))))
    (aG (bq 10 (mOp gN (b5 (ak (mC (.str "row")) (ak (mC (.str "fields")) aJ))) (mOp cH (mOp dH (ao 7) (mC (.int 5))) (mC (.int 2)))))
    (aG (bR 2 aI (mD (gH (aB (mOp gEq (ao 10) (mC (.str "row")))) (mC (.int 91)) (mC (.int 123)))))
    (aG (bR 4 aI (mDl (mDc (mD (ao 10)) (mDc (mD (b5 aJ)) (mDc (mD (gF 3 aI)) (mDc (mD (ao 8)) mDn))))))
    (bR 3 aI (mD (b5 (ak (ao 10) (ak (ao 9) (ak (mC (.int 0)) (ak (mC (.int 0)) aJ))))))))))
    (aG (bq 11 (bp cz (ak (ao 0) (ak (ao 7) aJ))))
    (aG (dQ 2 aI (mOp eT (ao 11) (mC (.int 1))))
    (aG (bR 3 aI (mD (b5 (ak (mOp eT (ao 11) (mC (.int 0))) (ak (ao 9) (ak (gF 2 aI) (ak (mOp dU (gF 3 aI) (mC (.int 1))) aJ)))))))
    (aG (bq 5 (mOp eT (ao 11) (mC (.int 2))))
    (bc (fw (dG 4 aI) (aB (mOp gEq (cZ 4 (pIx 4 (pIx 4 aI (mUn gU (mC (.int 1)))) (mC (.int 0)))) (mC (.str "fields")))))
    (aG (pX 3 (pIx 3 aI (mUn gU (mC (.int 2)))) (mC (.int 3)) (mD (gF 3 aI)))
    (bR 4 (pIx 4 (pIx 4 aI (mUn gU (mC (.int 1)))) (mC (.int 1))) (mD (fh (ak (ao 8) (ak (ao 5) aJ))))))
    (bc (dG 4 aI)
    (bR 4 (pIx 4 (pIx 4 aI (mUn gU (mC (.int 1)))) (mC (.int 1))) (mD (ao 5)))
    aS)))))))))
    aS)))
def iW:ag -> OT:=
    (dG 4 aI)
def ky:ag -> OS:=
    (iE 5 (jw cV [.t 2 aI,.t 3 aI,.t 4 aI]))
def nB:ag -> OE:=
    (mUn nG (ao 0))
def rN:ag -> OS:=
    (qC 3 (qC 2 (bf (fh (ak (ao 2) (ak (ue (ao 3) [] nB) (ak (ao 5) aJ)))))))
def nF:ag -> OS:=
    (aG (dQ 2 aI (bp cI (ak (bp fm (ak (ao 0) (ak (mC (.int 61)) aJ))) aJ)))
    rN)
def rV:ag -> OS:=
    (aG (bX iW
    ky fuel)
    nF)
def ng:ag -> OS:=
    (aG (tF 6 (ao 1)
    iY)
    rV)
def r6:ag -> OS:=
    (aG (bq 5 (mC .non))
    ng)
def rJ:ag -> OS:=
    (aG (lr 4 (mD (b5 aJ)))
    r6)
def rM:ag -> OS:=
    (aG (lr 3 (mD (b5 aJ)))
    rJ)
def qa:ag -> OS:=
    (aG (lr 2 (mD (b5 aJ)))
    rM)
def gV:List PV->OE:=fnP 2 12 qa
def vc:ag -> OS:=
    (FZ 0 aI "coming" pI (mD (b5 (ak (mC (.str "white")) (ak (mC (.str "value")) (ak (mC (.str "white")) aJ))))))
def dk:List Sl->OI:=fnI 1 1 vc
def kB:ag -> OS:=
    (bf (mUn (gY [(110,.tup ([117,108,108].map .int)),(116,.tup ([114,117,101].map .int)),(102,.tup ([97,108,115,101].map .int))]) (ao 0)))
def fD:List PV->OE:=fnP 1 1 kB
def uU:ag -> OS:=
    (bf (nz gLe gLe (mC (.int 48)) (ao 0) (mC (.int 57))))
def fB:List PV->OE:=fnP 1 1 uU
def kQ:ag -> OS:=
    (bf (mC .non))
def kY:ag -> OS:=
    (aG (bc (cU (bp fB (ak (ao 0) aJ)))
    (bf (b5 (ak (mC (.str "figures")) (ak (mC (.str "fraction")) (ak (mC (.str "exponent")) aJ)))))
    aS)
    kQ)
def nk:ag -> OS:=
    (aG (bc (aB (mOp gEq (ao 0) (mC (.int 48))))
    (bf (b5 (ak (mC (.str "fraction")) (ak (mC (.str "exponent")) aJ))))
    aS)
    kY)
def dS:List PV->OE:=fnP 1 1 nk
def cP:ag -> OE:=
    (fh (ak (ao 0) (ak (ao 0) aJ)))
def cN:ag -> OS:=
    (bf (bp dS (ak (ao 0) aJ)))
def cS:ag -> OS:=
    (aG (bc (aB (mOp xA (ao 1) (mC .non)))
    (bf (wq (ao 1) [] cP))
    aS)
    cN)
def cM:ag -> OS:=
    (aG (bq 1 (bp fD (ak (ao 0) aJ)))
    cS)
def cO:ag -> OS:=
    (aG (bc (aB (mOp gEq (ao 0) (mC (.int 45))))
    (bf (b5 (ak (mC (.str "lead")) aJ)))
    aS)
    cM)
def cQ:ag -> OS:=
    (aG (bc (aB (mOp gEq (ao 0) (mC (.int 34))))
    (bf (b5 (ak (mC (.str "text")) aJ)))
    aS)
    cO)
def cR:ag -> OS:=
    (aG (bc (aB (mOp gEq (ao 0) (mC (.int 123))))
    (bf (b5 (ak (mC (.str "white")) (ak (mC (.str "fields")) aJ))))
    aS)
    cQ)
def dF:ag -> OS:=
    (aG (bc (aB (mOp gEq (ao 0) (mC (.int 91))))
    (bf (b5 (ak (mC (.str "white")) (ak (mC (.str "row")) aJ))))
    aS)
    cR)
def bS:List PV->OE:=fnP 1 2 dF
def bL:ag -> OS:=
    (bf (gH (aB (mOp gIn (ao 1) (fh (ak (mC (.int 43)) (ak (mC (.int 45)) aJ))))) (b5 aJ) (mC .non)))
def bM:ag -> OS:=
    (aG (bc (aB (mOp gEq (ao 0) (mC (.str "exponent"))))
    (bf (gH (aB (mOp gIn (ao 1) (fh (ak (mC (.int 101)) (ak (mC (.int 69)) aJ))))) (b5 (ak (mC (.str "sign")) (ak (fh (ak (mC (.int 48)) (ak (mC (.int 57)) aJ))) (ak (mC (.str "figures")) aJ)))) (mC .non)))
    aS)
    bL)
def bK:ag -> OS:=
    (aG (bc (aB (mOp gEq (ao 0) (mC (.str "fraction"))))
    (bf (gH (aB (mOp gEq (ao 1) (mC (.int 46)))) (b5 (ak (fh (ak (mC (.int 48)) (ak (mC (.int 57)) aJ))) (ak (mC (.str "figures")) aJ))) (mC .non)))
    aS)
    bM)
def bI:ag -> OS:=
    (aG (bc (aB (mOp gEq (ao 0) (mC (.str "figures"))))
    (bf (gH (cU (bp fB (ak (ao 1) aJ))) (b5 (ak (mC (.str "figures")) aJ)) (mC .non)))
    aS)
    bK)
def b4:ag -> OS:=
    (aG (bc (aB (mOp gEq (ao 0) (mC (.str "lead"))))
    (bf (bp dS (ak (ao 1) aJ)))
    aS)
    bI)
def aZ:List PV->OE:=fnP 2 2 b4
def rW:ag -> OS:=
    (bf (mC .non))
def rX:ag -> OS:=
    (aG (bc (aB (nz gLe gLe (mC (.int 97)) (ao 0) (mC (.int 102))))
    (bf (mOp xo (ao 0) (mC (.int 87))))
    aS)
    rW)
def rD:ag -> OS:=
    (aG (bc (aB (nz gLe gLe (mC (.int 65)) (ao 0) (mC (.int 70))))
    (bf (mOp xo (ao 0) (mC (.int 55))))
    aS)
    rX)
def va:ag -> OS:=
    (aG (bc (cU (bp fB (ak (ao 0) aJ)))
    (bf (mOp xo (ao 0) (mC (.int 48))))
    aS)
    rD)
def fW:List PV->OE:=fnP 1 1 va
def jI:ag -> OS:=
    (bf (mC .non))
def jR:ag -> OS:=
    (aG (bc (aB (mOp gLt (ao 0) (mC (.int 12))))
    (aG (bq 1 (b5 (ak (fh (ak (mC (.int 92)) (ak (mC (.int 92)) aJ))) (ak (fh (ak (mC (.int 117)) (ak (mC (.int 117)) aJ))) (ak (mC (.str "hex d")) (ak (mC (.str "hex c to f")) (ak (mC (.str "hex")) (ak (mC (.str "hex")) aJ))))))))
    (bf (mOp nu (b5 (ak (mC (.str "hex")) (ak (mC (.str "hex")) aJ))) (ao 1))))
    aS)
    jI)
def ll:ag -> OS:=
    (aG (bc (aB (mOp gLt (ao 0) (mC (.int 8))))
    (bf (b5 (ak (mC (.str "hex")) (ak (mC (.str "hex")) aJ))))
    aS)
    jR)
def dI:List PV->OE:=fnP 1 2 ll
def iG:ag -> OS:=
    (bf (mC (.tup ([128,191].map .int))))
def iN:ag -> OS:=
    (aG (bc (aB (mOp gEq (ao 0) (mC (.int 237))))
    (bf (fh (ak (mC (.int 128)) (ak (mC (.int 159)) aJ))))
    aS)
    iG)
def jG:ag -> OS:=
    (aG (bc (aB (mOp gEq (ao 0) (mC (.int 224))))
    (bf (fh (ak (mC (.int 160)) (ak (mC (.int 191)) aJ))))
    aS)
    iN)
def cW:List PV->OE:=fnP 1 1 jG
def jf:ag -> OS:=
    (bf (mC (.tup ([128,191].map .int))))
def ji:ag -> OS:=
    (aG (bc (aB (mOp gEq (ao 0) (mC (.int 244))))
    (bf (fh (ak (mC (.int 128)) (ak (mC (.int 143)) aJ))))
    aS)
    jf)
def jY:ag -> OS:=
    (aG (bc (aB (mOp gEq (ao 0) (mC (.int 240))))
    (bf (fh (ak (mC (.int 144)) (ak (mC (.int 191)) aJ))))
    aS)
    ji)
def dv:List PV->OE:=fnP 1 1 jY
def lN:ag -> OS:=
    (bf (mC .non))
def lK:ag -> OS:=
    (aG (bc (aB (nz gLe gLt (mC (.int 240)) (ao 0) (mC (.int 245))))
    (bf (b5 (ak (bp dv (ak (ao 0) aJ)) (ak (mC (.tup ([128,191].map .int))) (ak (mC (.tup ([128,191].map .int))) aJ)))))
    aS)
    lN)
def lL:ag -> OS:=
    (aG (bc (aB (nz gLe gLt (mC (.int 224)) (ao 0) (mC (.int 240))))
    (bf (b5 (ak (bp cW (ak (ao 0) aJ)) (ak (mC (.tup ([128,191].map .int))) aJ))))
    aS)
    lK)
def lO:ag -> OS:=
    (aG (bc (aB (nz gLe gLt (mC (.int 194)) (ao 0) (mC (.int 224))))
    (bf (b5 (ak (mC (.tup ([128,191].map .int))) aJ)))
    aS)
    lL)
def qU:ag -> OS:=
    (aG (bc (aB (nz gLe gLt (mC (.int 0)) (ao 0) (mC (.int 128))))
    (bf (b5 aJ))
    aS)
    lO)
def jS:List PV->OE:=fnP 1 1 qU
def eB:ag -> OS:=
    (bf (mOp nu (ao 1) (b5 (ak (mC (.str "text")) aJ))))
def dW:ag -> OS:=
    (aG (bc (mL (aB (mOp gLt (ao 0) (mC (.int 32)))) (aB (mOp Ai (ao 1) (mC .non))))
    (bf (mC .non))
    aS)
    eB)
def eh:ag -> OS:=
    (aG (bq 1 (bp jS (ak (ao 0) aJ)))
    dW)
def dX:ag -> OS:=
    (aG (bc (aB (mOp gEq (ao 0) (mC (.int 92))))
    (bf (b5 (ak (mC (.str "escape")) (ak (mC (.str "text")) aJ))))
    aS)
    eh)
def eV:ag -> OS:=
    (aG (bc (aB (mOp gEq (ao 0) (mC (.int 34))))
    (bf (b5 aJ))
    aS)
    dX)
noncomputable def b0:List PV->OE:=fnP 1 2 eV
noncomputable def cY:ag -> OS:=
    (bf (mUn (gY [(34,.int 34),(92,.int 92),(47,.int 47),(98,.int 8),(102,.int 12),(110,.int 10),(114,.int 13),(116,.int 9)]) (ao 0)))
noncomputable def bP:List PV->OE:=fnP 1 1 cY
noncomputable def ja:ag -> OS:=
    (aG (bc (aB (mOp gEq (ao 0) (mC (.int 117))))
    (bf (b5 (ak (mC (.str "code")) aJ)))
    aS)
    (bf (gH (aB (mOp Ai (bp bP (ak (ao 0) aJ)) (mC .non))) (mC .non) (b5 aJ))))
noncomputable def cK:List PV->OE:=fnP 1 1 ja
noncomputable def dm:ag -> OS:=
    (bf (bp dI (ak (ao 2) aJ)))
noncomputable def dq:ag -> OS:=
    (aG (bc (aB (mOp gEq (ao 0) (mC (.str "code"))))
    (bf (gH (aB (mOp gEq (ao 2) (mC (.int 13)))) (b5 (ak (mC (.str "code d")) aJ)) (b5 (ak (mC (.str "hex")) (ak (mC (.str "hex")) (ak (mC (.str "hex")) aJ))))))
    aS)
    dm)
noncomputable def dn:ag -> OS:=
    (aG (bc (aB (mOp Ai (ao 2) (mC .non)))
    (bf (mC .non))
    aS)
    dq)
noncomputable def du:ag -> OS:=
    (aG (bq 2 (bp fW (ak (ao 1) aJ)))
    dn)
noncomputable def dr:ag -> OS:=
    (aG (bc (aB (mOp gEq (ao 0) (mC (.str "escape"))))
    (bf (bp cK (ak (ao 1) aJ)))
    aS)
    du)
noncomputable def dR:ag -> OS:=
    (aG (bc (aB (mOp gEq (ao 0) (mC (.str "text"))))
    (bf (bp b0 (ak (ao 1) aJ)))
    aS)
    dr)
noncomputable def bO:List PV->OE:=fnP 2 3 dR
noncomputable def gX:ag -> OS:=
    (bf (b5 aJ))
noncomputable def g8:ag -> OS:=
    (aG (bc (aB (mOp gEq (ao 0) (mC (.str "hex c to f"))))
    (bf (gH (aB (mOp gGe (ao 2) (mC (.int 12)))) (b5 aJ) (mC .non)))
    aS)
    gX)
noncomputable def ib:ag -> OS:=
    (aG (bc (aB (mOp gEq (ao 0) (mC (.str "hex d"))))
    (bf (gH (aB (mOp gEq (ao 2) (mC (.int 13)))) (b5 aJ) (mC .non)))
    aS)
    g8)
noncomputable def hZ:ag -> OS:=
    (aG (bc (aB (mOp Ai (ao 2) (mC .non)))
    (bf (mC .non))
    aS)
    ib)
noncomputable def jE:ag -> OS:=
    (aG (bq 2 (bp fW (ak (ao 1) aJ)))
    hZ)
noncomputable def dD:List PV->OE:=fnP 2 3 jE
noncomputable def fF:ag -> OS:=
    (bf (gH (aB (mOp Ai (ao 1) (mC .non))) (mC .non) (mOp nu (ao 1) (b5 (ak (mC (.str "white")) (ak (mC (.str "more row")) aJ))))))
noncomputable def fA:ag -> OS:=
    (aG (bq 1 (bp bS (ak (ao 0) aJ)))
    fF)
noncomputable def gz:ag -> OS:=
    (aG (bc (aB (mOp gEq (ao 0) (mC (.int 93))))
    (bf (b5 aJ))
    aS)
    fA)
noncomputable def cj:List PV->OE:=fnP 1 2 gz
noncomputable def rF:ag -> OS:=
    (bf (b5 (ak (mC (.str "white")) (ak (fh (ak (mC (.int 58)) (ak (mC (.int 58)) aJ))) (ak (mC (.str "white")) (ak (mC (.str "value")) (ak (mC (.str "white")) (ak (mC (.str "more fields")) aJ))))))))
noncomputable def eR:List PV->OE:=fnP 0 0 rF
noncomputable def gP:ag -> OS:=
    (aG (bc (aB (mOp gEq (ao 0) (mC (.int 125))))
    (bf (b5 aJ))
    aS)
    (bf (gH (aB (mOp gEq (ao 0) (mC (.int 34)))) (mOp nu (b5 (ak (mC (.str "text")) aJ)) (bp eR aJ)) (mC .non))))
noncomputable def b6:List PV->OE:=fnP 1 1 gP
noncomputable def cg:ag -> OS:=
    (bf (gH (aB (mOp gEq (ao 1) (mC (.int 125)))) (b5 aJ) (mC .non)))
noncomputable def cp:ag -> OS:=
    (aG (bc (aB (mOp gEq (ao 1) (mC (.int 44))))
    (bf (mOp nu (b5 (ak (mC (.str "white")) (ak (mC (.str "name")) aJ))) (bp eR aJ)))
    aS)
    cg)
noncomputable def ck:ag -> OS:=
    (aG (bc (aB (mOp gEq (ao 0) (mC (.str "more row"))))
    (aG (bc (aB (mOp gEq (ao 1) (mC (.int 44))))
    (bf (b5 (ak (mC (.str "white")) (ak (mC (.str "value")) (ak (mC (.str "white")) (ak (mC (.str "more row")) aJ))))))
    aS)
    (bf (gH (aB (mOp gEq (ao 1) (mC (.int 93)))) (b5 aJ) (mC .non))))
    aS)
    cp)
noncomputable def cn:ag -> OS:=
    (aG (bc (aB (mOp gEq (ao 0) (mC (.str "fields"))))
    (bf (bp b6 (ak (ao 1) aJ)))
    aS)
    ck)
noncomputable def cJ:ag -> OS:=
    (aG (bc (aB (mOp gEq (ao 0) (mC (.str "row"))))
    (bf (bp cj (ak (ao 1) aJ)))
    aS)
    cn)
noncomputable def bb:List PV->OE:=fnP 2 2 cJ
noncomputable def wI:ag -> OS:=
    (bf (mOp gIn (ao 0) (mC (.tup ([9,10,13,32].map .int)))))
noncomputable def fM:List PV->OE:=fnP 1 1 wI
noncomputable def wZ:ag -> OS:=
    (bf (bp bS (ak (ao 1) aJ)))
noncomputable def vN:ag -> OS:=
    (aG (bc (aB (mOp gEq (ao 0) (mC (.str "name"))))
    (bf (gH (aB (mOp gEq (ao 1) (mC (.int 34)))) (b5 (ak (mC (.str "text")) aJ)) (mC .non)))
    aS)
    wZ)
noncomputable def v3:ag -> OS:=
    (aG (bc (aB (mOp gEq (ao 0) (mC (.str "white"))))
    (bf (gH (cU (bp fM (ak (ao 1) aJ))) (b5 (ak (mC (.str "white")) aJ)) (mC .non)))
    aS)
    vN)
noncomputable def wG:ag -> OS:=
    (aG (bc (aB (mOp gIn (ao 0) (mC (.tup [.str "row",.str "more row",.str "fields",.str "more fields"]))))
    (bf (bp bb (ak (ao 0) (ak (ao 1) aJ))))
    aS)
    v3)
noncomputable def vL:ag -> OS:=
    (aG (bc (aB (mOp gIn (ao 0) (fh (ak (mC (.str "hex")) (ak (mC (.str "hex d")) (ak (mC (.str "hex c to f")) aJ))))))
    (bf (bp dD (ak (ao 0) (ak (ao 1) aJ))))
    aS)
    wG)
noncomputable def wz:ag -> OS:=
    (aG (bc (aB (mOp gIn (ao 0) (fh (ak (mC (.str "text")) (ak (mC (.str "escape")) (ak (mC (.str "code")) (ak (mC (.str "code d")) aJ)))))))
    (bf (bp bO (ak (ao 0) (ak (ao 1) aJ))))
    aS)
    vL)
noncomputable def vX:ag -> OS:=
    (aG (bc (aB (mOp gIn (ao 0) (fh (ak (mC (.str "lead")) (ak (mC (.str "figures")) (ak (mC (.str "fraction")) (ak (mC (.str "exponent")) (ak (mC (.str "sign")) aJ))))))))
    (bf (bp aZ (ak (ao 0) (ak (ao 1) aJ))))
    aS)
    wz)
noncomputable def vU:ag -> OS:=
    (aG (bc (cU (mIs "tuple" (ao 0)))
    (bf (gH (aB (nz gLe gLe (mOp eT (ao 0) (mC (.int 0))) (ao 1) (mOp eT (ao 0) (mC (.int 1))))) (b5 aJ) (mC .non)))
    aS)
    vX)
noncomputable def kJ:List PV->OE:=fnP 2 2 vU
noncomputable def jy:ag -> OE:=
    (ao 0)
noncomputable def gT:ag -> OT:=
    (aB (mOp gIn (ao 0) (mC (.tup [.str "row",.str "more row",.str "fields",.str "more fields"]))))
noncomputable def pC:ag -> OS:=
    (bf (mUn mK (xg (cZ 0 (pFd 0 aI "coming" pI)) [] gT jy)))
noncomputable def cL:List Sl->OI:=fnI 1 1 pC
noncomputable def iz:ag -> OT:=
    (dG 0 (pFd 0 aI "coming" pI))
noncomputable def iu:ag -> OS:=
    (aG (iE 2 (m6 0 (pFd 0 aI "coming" pI)))
    (aG (bq 3 (bp kJ (ak (ao 2) (ak (ao 1) aJ))))
    (aG (bc (aB (mOp xA (ao 3) (mC .non)))
    (aG (dQ 0 (pFd 0 aI "coming" pI) (GR (ao 3) (mUn gU (mC (.int 1)))))
    (bf (mOp gLe (oW "Walk" "brackets" cL [.b 0 aI]) (mC (.int 64)))))
    aS)
    (bc (aB (mOp oX (ao 2) (mC (.tup [.str "white",.str "figures",.str "fraction",.str "exponent",.str "sign"]))))
    (bf (mC (.bl false)))
    aS))))
noncomputable def jv:ag -> OS:=
    (aG (bX iz
    iu fuel)
    (bf (mC (.bl false))))
noncomputable def eC:List Sl->OI:=fnI 2 4 jv
noncomputable def kq:ag -> OS:=
    (Ht true (qo "Walk" "goes_on" eC [.t 0 aI,.e (ao 3)])
    (gj 2)
    aS)
noncomputable def m4:ag -> OS:=
    (aG (Cb 2 3 (ao 1)
    kq)
    (bf (mUn mK (ao 1))))
noncomputable def fY:List Sl->OI:=fnI 2 4 m4
noncomputable def jP:ag -> OE:=
    (mOp gIn (ao 0) (mC (.tup [.str "white",.str "figures",.str "fraction",.str "exponent",.str "sign"])))
noncomputable def pA:ag -> OS:=
    (bf (mUn IX (ue (cZ 0 (pFd 0 aI "coming" pI)) [] jP)))
noncomputable def dj:List Sl->OI:=fnI 1 1 pA
noncomputable def ud:ag -> OS:=
    (gj 2)
noncomputable def xX:ag -> OS:=
    (aG (bc (fw (aB (mOp gEq (ao 2) (mUn mK (ao 0)))) (cU (oW "Walk" "is_whole" dj [.b 1 aI])))
    (bf (mC .non))
    aS)
    ud)
noncomputable def xO:ag -> OS:=
    (aG (iE 2 (qo "Walk" "take" fY [.t 1 aI,.e (ao 0)]))
    xX)
noncomputable def Cp:ag -> OS:=
    (aG (lr 1 (x9 "Walk" dk))
    xO)
noncomputable def o4:List PV->OE:=fnP 1 3 Cp
noncomputable def mE:ag -> OS:=
    (aG (bq 1 (bp o4 (ak (ao 0) aJ)))
    (bc (aB (mOp xA (ao 1) (mC .non)))
    Bb
    aS))
noncomputable def dY:List PV->OE:=fnP 1 2 mE
noncomputable def kO:ag -> OS:=
    (bf (fh (ak (mOp eT (ao 2) (mC (.int 0))) (ak (mOp eT (ao 2) (mC (.int 1))) (ak (mOp eT (ao 2) (mC (.int 2))) (ak (mOp eT (mOp gN (ao 0) (mOp dU (ao 1) (mC (.int 1)))) (mC (.int 3))) aJ))))))
noncomputable def kP:ag -> OS:=
    (aG (bc (aB (mOp gNe (mOp eT (ao 2) (mC (.int 0))) (mC (.str "name"))))
    (gj 2)
    aS)
    kO)
noncomputable def nJ:ag -> OS:=
    (aG (bq 2 (mOp gN (ao 0) (ao 1)))
    kP)
noncomputable def eQ:List PV->OE:=fnP 2 3 nJ
noncomputable def fq:ag -> OT:=
    (aB (mOp gNe (mOp gN (ao 0) (ao 2)) (mC (.int 34))))
noncomputable def ir:ag -> OS:=
    (xq 2 dU (gH (aB (mOp gEq (mOp gN (ao 0) (ao 2)) (mC (.int 92)))) (mC (.int 2)) (mC (.int 1))))
noncomputable def tP:ag -> OS:=
    (bf (mOp dU (ao 2) (mC (.int 1))))
noncomputable def tK:ag -> OS:=
    (aG (bX fq
    ir fuel)
    tP)
noncomputable def xh:ag -> OS:=
    (aG (bq 2 (mOp dU (ao 1) (mC (.int 1))))
    tK)
noncomputable def jj:List PV->OE:=fnP 2 3 xh
noncomputable def dC:ag -> OT:=
    (fw (aB (mOp gLt (ao 2) (mUn mK (ao 0)))) (fw (pz (cU (bp fM (ak (mOp gN (ao 0) (ao 2)) aJ)))) (aB (mOp oX (mOp gN (ao 0) (ao 2)) (fh (ak (mC (.int 44)) (ak (mC (.int 93)) (ak (mC (.int 125)) aJ))))))))
noncomputable def kl:ag -> OS:=
    (xq 2 dU (mC (.int 1)))
noncomputable def rH:ag -> OS:=
    (gj 2)
noncomputable def r9:ag -> OS:=
    (aG (bX dC
    kl fuel)
    rH)
noncomputable def u1:ag -> OS:=
    (aG (bq 2 (ao 1))
    r9)
noncomputable def g9:List PV->OE:=fnP 2 3 u1
noncomputable def eA:ag -> OT:=
    (fw (aB (mOp gLt (ao 1) (mUn mK (ao 0)))) (cU (bp fM (ak (mOp gN (ao 0) (ao 1)) aJ))))
noncomputable def mT:ag -> OS:=
    (xq 1 dU (mC (.int 1)))
noncomputable def nY:ag -> OS:=
    (aG (bX eA
    mT fuel)
    (bf (xR (mOp gLt (ao 1) (mUn mK (ao 0))) (mOp gEq (mOp gN (ao 0) (ao 1)) (mC (.int 58))))))
noncomputable def fk:List PV->OE:=fnP 2 2 nY
noncomputable def nP:ag -> OS:=
    (bf (fh (ak (gH (cU (bp fk (ak (ao 0) (ak (ao 4) aJ)))) (mC (.str "name")) (mC (.str "text"))) (ak (ao 1) (ak (ao 4) (ak (mOp dU (ao 2) (mC (.int 1))) aJ))))))
noncomputable def nV:ag -> OS:=
    (aG (bq 4 (bp jj (ak (ao 0) (ak (ao 1) aJ))))
    nP)
noncomputable def nT:ag -> OS:=
    (aG (bc (aB (mOp gNe (ao 3) (mC (.str "text"))))
    (bf (fh (ak (ao 3) (ak (ao 1) (ak (bp g9 (ak (ao 0) (ak (ao 1) aJ))) (ak (mOp dU (ao 2) (mC (.int 1))) aJ))))))
    aS)
    nV)
noncomputable def uB:ag -> OS:=
    (aG (bq 3 (zm [(34,.str "text"),(91,.str "row"),(102,.str "false"),(110,.str "null"),(116,.str "true"),(123,.str "fields")] (mOp gN (ao 0) (ao 1)) (mC (.str "number"))))
    nT)
noncomputable def i8:List PV->OE:=fnP 3 5 uB
noncomputable def gM:ag -> OT:=
    (aB (mOp gLt (ao 3) (mUn mK (ao 0))))
noncomputable def cB:ag -> OS:=
    (aG (bq 4 (mOp gN (ao 0) (ao 3)))
    (bc (aB (mOp gIn (ao 4) (fh (ak (mC (.int 91)) (ak (mC (.int 123)) aJ)))))
    (aG (bR 2 aI (mD (mUn mK (ao 1))))
    (aG (eE 1 (fh (ak (mUn (C1 [(34,.str "text"),(91,.str "row"),(102,.str "false"),(110,.str "null"),(116,.str "true"),(123,.str "fields")]) (ao 4)) (ak (ao 3) aJ))))
    (xq 3 dU (mC (.int 1)))))
    (bc (aB (mOp gIn (ao 4) (fh (ak (mC (.int 93)) (ak (mC (.int 125)) aJ)))))
    (aG (xq 3 dU (mC (.int 1)))
    (aG (iE 5 (m6 2 aI))
    (H0 1 (ao 5) (fh (ak (mOp eT (mOp gN (ao 1) (ao 5)) (mC (.int 0))) (ak (mOp eT (mOp gN (ao 1) (ao 5)) (mC (.int 1))) (ak (ao 3) (ak (mUn mK (ao 1)) aJ))))))))
    (bc (mL (cU (bp fM (ak (ao 4) aJ))) (aB (mOp gIn (ao 4) (fh (ak (mC (.int 44)) (ak (mC (.int 58)) aJ))))))
    (xq 3 dU (mC (.int 1)))
    (aG (eE 1 (bp i8 (ak (ao 0) (ak (ao 3) (ak (mUn mK (ao 1)) aJ)))))
    (bq 3 (mOp eT (mOp gN (ao 1) (mUn gU (mC (.int 1)))) (mC (.int 2)))))))))
noncomputable def uf:ag -> OE:=
    (bp eQ (ak (ao 0) (ak (ao 1) aJ)))
noncomputable def uu:ag -> OS:=
    (iB 1 (bf (wD (mUn mK (ao 1)) [1] uf)))
noncomputable def xZ:ag -> OS:=
    (aG (bX gM
    cB fuel)
    uu)
noncomputable def xK:ag -> OS:=
    (aG (bq 3 (mC (.int 0)))
    xZ)
noncomputable def uJ:ag -> OS:=
    (aG (lr 2 (mD (b5 aJ)))
    xK)
noncomputable def xP:ag -> OS:=
    (aG (bq 1 (b5 aJ))
    uJ)
noncomputable def CD:ag -> OS:=
    (aG (Ff (bp dY (ak (ao 0) aJ)))
    xP)
noncomputable def mS:List PV->OE:=fnP 1 6 CD
noncomputable def u7:ag -> OS:=
    (bf (xR (mIs "int" (ao 0)) (Ft (mIs "bool" (ao 0)))))
noncomputable def ft:List PV->OE:=fnP 1 1 u7
noncomputable def vq:ag -> OS:=
    (aG (bq 5 (mOp gN (ao 3) (ao 4)))
    (aG (bc (mL (pz (cU (mIs "tuple" (ao 5)))) (mL (aB (mOp gNe (mUn mK (ao 5)) (mC (.int 4)))) (pz (cU (mIs "str" (mOp eT (ao 5) (mC (.int 0))))))))
    (bf (mC (.bl false)))
    aS)
    (bc (mL (pz (cU (bp ft (ak (mOp eT (ao 5) (mC (.int 1))) aJ)))) (mL (pz (cU (bp ft (ak (mOp eT (ao 5) (mC (.int 2))) aJ)))) (mL (pz (cU (bp ft (ak (mOp eT (ao 5) (mC (.int 3))) aJ)))) (aB (mOp zE (ao 5) (mOp gN (mOp eT (ao 1) (mC (.int 1))) (ao 4)))))))
    (bf (mC (.bl false)))
    aS)))
noncomputable def Cy:ag -> OS:=
    (bf (mC (.bl true)))
noncomputable def CH:ag -> OS:=
    (aG (tF 4 (mUn mK (ao 3))
    vq)
    Cy)
noncomputable def Ce:ag -> OS:=
    (aG (bc (mL (pz (cU (mIs "list" (ao 3)))) (mL (aB (mOp zE (ao 2) (mOp eT (ao 1) (mC (.int 0))))) (aB (mOp gNe (mUn mK (ao 3)) (mUn mK (mOp eT (ao 1) (mC (.int 1))))))))
    (bf (mC (.bl false)))
    aS)
    CH)
noncomputable def Cm:ag -> OS:=
    (aG (iB 2 (bq 3 (bp mS (ak (ao 2) aJ))))
    Ce)
noncomputable def Co:ag -> OS:=
    (aG (bq 2 (mUn sY (mOp eT (ao 1) (mC (.int 0)))))
    Cm)
noncomputable def Je:ag -> OS:=
    (aG (bq 1 (bp gV (ak (ao 0) (ak (mOp dU (mC (.int 1)) (mOp cH (bp fm (ak (ao 0) (ak (mC (.int 62)) aJ))) (mC (.int 11)))) aJ))))
    Co)
noncomputable def xB:List PV->OE:=fnP 1 6 Je
theorem oJ(ns:List Int)(k:Int):jb [.lst (ns.map .int),.int k]=.ok (.sh (.int (PG.cell ns k))):=by
 unfold jb xf PG.cell
 cases ns with
 |nil=>simp
 | cons n r=>
   have hp:(0:Int)<(r.length:Int)+1:=by omega
   have hm:0<=k%((r.length:Int)+1):=Int.emod_nonneg _ (by omega)
   have hm2:k%((r.length:Int)+1)<(r.length:Int)+1:=Int.emod_lt_of_pos _ hp
   have hi:(k%((r.length:Int)+1)).toNat<(n ::r).length:=by rw[List.length_cons];omega
   have ha:atP (PV.int n ::r.map .int) (k%((r.length:Int)+1))=some (.int ((n ::r).getD (k%((r.length:Int)+1)).toNat 0)):=by
    rw[E3 _ _ hm]
    have:(PV.int n ::r.map .int)=(n ::r).map .int:=rfl
    rw[this,List.getElem?_map,List.getElem?_eq_getElem hi,List.getD_eq_getElem?_getD,List.getElem?_eq_getElem hi];rfl
   simp[hp,ha]
theorem eS(ns:List Int)(k:Int):fm [.lst (ns.map .int),.int k]=.ok (.sh (.int (PG.mix ns k))):=by
 unfold PG.mix;simp[u2,u4,xI,fm,oJ]
theorem js(n:Int):ft [.int n]=.ok (.sh (.bl true)):=by
 unfold ft u7;simp
theorem mP(n:Int):dJ [.int n]=.ok (.sh (.int (PG.point n))):=by
 unfold PG.point
 have ha:atP [PV.int 34,.int 92,.int 47,.int 8,.int 12,.int 10,.int 13,.int 9,.int 0,.int 31,.int 127] (n/8%11)=some (.int (PG.menu.getD (n/8%11).toNat 0)):=by
  have h0:0<=n/8%11:=by omega
  have hi:(n/8%11).toNat<PG.menu.length:=by show _<11;omega
  rw[E3 _ _ h0]
  show(PG.menu.map PV.int)[_]?=_
  rw[List.getElem?_map,List.getD_eq_getElem?_getD,List.getElem?_eq_getElem hi];rfl
 by_cases h1:n%8<2
 . simp[fO,fN,fI,fP,fL,fG,fK,ij,dJ,h1]
 . by_cases h2:n%8<4
   . simp[fO,fN,fI,fP,fL,fG,fK,ij,dJ,h1,h2,ha]
   . by_cases h3:n%8=4
     . simp[fO,fN,fI,fP,fL,fG,fK,ij,dJ,h3]
     . by_cases h4:n%8=5
       . simp[fO,fN,fI,fP,fL,fG,fK,ij,dJ,h4]
       . by_cases h5:n%8=6
         . simp[fO,fN,fI,fP,fL,fG,fK,ij,dJ,h5]
         . simp[fO,fN,fI,fP,fL,fG,fK,ij,dJ,h1,h2,h3,h4,h5]
theorem il(ns:List Int)(k:Int):eN [.lst (ns.map .int),.int k]=.ok (.fr ((PG.points ns k).map .int)):=by
 have hs:=zH ns k;have hm:=Bh ns k
 have el:∀ m:Nat,da lU [some (.sh (.lst (ns.map .int))),some (.sh (.int k))] (cT m) =
   .ok ((List.range m).map fun j:Nat=>.int (PG.point (PG.mix ns (k+1+(j:Int))))):=fun m=>by
  unfold cT
  refine jV _ fun j _=>?_
  simp[lU,eS,mP]
 have hp:(PG.points ns k).map PV.int=(List.range (wb ns k).toNat).map fun j:Nat=>.int (PG.point (PG.mix ns (k+1+(j:Int)))):=by
  unfold PG.points;rw[List.map_map];rfl
 rw[hp]
 have hl:(wb ns k).toNat<=lim:=fi (by omega)
 unfold wb at hs hl ⊢
 by_cases h3:PG.mix ns k/5%8=3
 . rw[if_pos h3]at hs hl ⊢
   have h1:-4611686018427387904<=PG.mix ns k/40%14 /\ PG.mix ns k/40%14<4611686018427387904:=by omega
   simp[eN,oz,mI,mj,lX,eS,h3,dw,el,h1];unfold lim;omega
 . rw[if_neg h3]at hs hl ⊢
   have h1:-4611686018427387904<=PG.mix ns k%5 /\ PG.mix ns k%5<4611686018427387904:=by omega
   simp[eN,oz,mI,mj,lX,eS,h3,dw,el,h1];unfold lim;omega
theorem m7(n:Int)(h:nI n=true):eP [.int n]=.ok (.fr ((ba n).map .int)):=by
 have hn:0<=n:=by
  unfold nI at h;simp only[Bool.or_eq_true,Bool.and_eq_true,decide_eq_true_eq]at h;omega
 unfold ba
 by_cases h1:n<128
 . simp[iU,iT,iR,iS,iQ,kF,eP,h1]
 . by_cases h2:n<2048
   . have g2:¬ 2048<=n:=by omega
     have g3:¬ 65536<=n:=by omega
     simp[iU,iT,iR,iS,iQ,kF,eP,h1,h2,g2,g3,cT,List.range_succ]
   . by_cases h3:n<65536
     . have g2:2048<=n:=by omega
       have g3:¬ 65536<=n:=by omega
       have e1:n/64/64=n/4096:=by omega
       simp[iU,iT,iR,iS,iQ,kF,eP,h1,h2,h3,g2,g3,cT,List.range_succ,e1]
     . have g2:2048<=n:=by omega
       have g3:65536<=n:=by omega
       have e1:n/64/64=n/4096:=by omega
       have e2:n/4096/64=n/262144:=by omega
       simp[iU,iT,iR,iS,iQ,kF,eP,h1,h2,h3,g2,g3,cT,List.range_succ,e1,e2]
theorem cq(b:Int):fM [.int b]=.ok (.sh (.bl (wht b))):=by
 simp -implicitDefEqProofs [wI,fM,gIn,kG,dP,fg,wht];simp[Bool.beq_eq_decide_eq]
theorem gc(b:Int):fB [.int b]=.ok (.sh (.bl (fig b))):=by
 by_cases h:48<=b<;>simp -implicitDefEqProofs [uU,fB,fig,h]
theorem jo(b:Int):fW [.int b]=.ok (.sh (match eU b with|some w=>.int w|none=>.non)):=by
 unfold eU
 by_cases h1:48<=b<;>by_cases h2:b<=57<;>by_cases h3:65<=b<;>by_cases h4:b<=70<;>by_cases h5:97<=b<;>by_cases h6:b<=102<;>first|omega|simp -implicitDefEqProofs [rW,rX,rD,va,fW,gc,fig,h1,h2,h3,h4,h5,h6]
theorem FF(b:Int):jS [.int b]=.ok (match tls b with|some l=>.fr (l.map bB)|none=>.sh .non):=by
 have h3:cW [.int b]=.ok (.sh (bB (if b=224 then .sp 160 191 else if b=237 then .sp 128 159 else .sp 128 191))):=by
  by_cases h1:b=224
  . simp[iG,iN,jG,cW,h1,bB]
  . by_cases h2:b=237<;>simp[iG,iN,jG,cW,h1,h2,bB]
 have h4:dv [.int b]=.ok (.sh (bB (if b=240 then .sp 144 191 else if b=244 then .sp 128 143 else .sp 128 191))):=by
  by_cases h1:b=240
  . simp[jf,ji,jY,dv,h1,bB]
  . by_cases h2:b=244<;>simp[jf,ji,jY,dv,h1,h2,bB]
 unfold tls
 by_cases h0:0<=b /\ b<128
 . simp[lN,lK,lL,lO,qU,jS,h0.1,h0.2]
 . by_cases ha:194<=b /\ b<224
   . have:¬ b<128:=by omega
     have z:0<=b:=by omega
     simp[lN,lK,lL,lO,qU,jS,ha.1,ha.2,z,this,bB]
   . by_cases hb:224<=b /\ b<240
     . have z1:¬ b<128:=by omega
       have z2:¬ b<224:=by omega
       have z:0<=b:=by omega
       have z3:194<=b:=by omega
       simp[lN,lK,lL,lO,qU,jS,hb.1,hb.2,z,z1,z2,z3,h3];simp[bB]
     . by_cases hc:240<=b /\ b<245
       . have z1:¬ b<128:=by omega
         have z2:¬ b<224:=by omega
         have z:0<=b:=by omega
         have z3:194<=b:=by omega
         have z4:224<=b:=by omega
         have z5:¬ b<240:=by omega
         simp[lN,lK,lL,lO,qU,jS,hc.1,hc.2,z,z1,z2,z3,z4,z5,h4];simp[bB]
       . simp only[h0,ha,hb,hc,if_false]
         by_cases g0:0<=b<;>by_cases g1:b<128<;>by_cases g2:194<=b<;>by_cases g3:b<224<;>by_cases g4:224<=b<;>by_cases g5:b<240<;>by_cases g6:240<=b<;>by_cases g7:b<245<;>first|omega|simp[lN,lK,lL,lO,qU,jS,g0,g1,g2,g3,g4,g5,g6,g7]
noncomputable def rI:Option (List PG.It)->RV
 |some l=>.fr (l.map bB)
 |none=>.sh .non
theorem gL(b:Int):dS [.int b]=.ok (rI (nN b)):=by
 unfold nN
 by_cases h0:b=48
 . simp[kQ,kY,nk,dS,h0,rI,bB]
 . by_cases h1:48<=b<;>by_cases h2:b<=57<;>simp[kQ,kY,nk,dS,h0,h1,h2,gc,fig,rI,bB]
theorem fS(b:Int):bS [.int b]=.ok (rI (lx b)):=by
 unfold lx
 by_cases h1:b=91
 . simp[cP,cN,cS,cM,cO,cQ,cR,dF,bS,h1,rI,bB]
 by_cases h2:b=123
 . simp[cP,cN,cS,cM,cO,cQ,cR,dF,bS,h2,rI,bB]
 by_cases h3:b=34
 . simp[cP,cN,cS,cM,cO,cQ,cR,dF,bS,h3,rI,bB]
 by_cases h4:b=45
 . simp[cP,cN,cS,cM,cO,cQ,cR,dF,bS,h4,rI,bB]
 by_cases h5:b=110
 . simp[cP,cN,cS,cM,cO,cQ,cR,dF,bS,h5,rI,bB,kB,fD,gY,cF,wq,da,dw,List.lookup]
 by_cases h6:b=116
 . simp[cP,cN,cS,cM,cO,cQ,cR,dF,bS,h6,rI,bB,kB,fD,gY,cF,wq,da,dw,List.lookup]
 by_cases h7:b=102
 . simp[cP,cN,cS,cM,cO,cQ,cR,dF,bS,h7,rI,bB,kB,fD,gY,cF,wq,da,dw,List.lookup]
 have z5:(b==110)=false:=by simpa using h5
 have z6:(b==116)=false:=by simpa using h6
 have z7:(b==102)=false:=by simpa using h7
 simp[cP,cN,cS,cM,cO,cQ,cR,dF,bS,h1,h2,h3,h4,h5,h6,h7,z5,z6,z7,kB,fD,gY,cF,List.lookup,gL]
 cases nN b<;>simp[rI]
theorem dB:eR []=.ok (.fr (sV.map bB)):=by
 simp[rF,eR,sV,bB]
theorem nZ(it:PG.It)(b:Int)(h:it=.lead \/ it=.figures \/ it=.fraction \/ it=.exponent \/ it=.sign):aZ [bB it,.int b]=.ok (rI (bh it b)):=by
 rcases h with rfl|rfl|rfl|rfl|rfl
 . simp[bL,bM,bK,bI,b4,aZ,bB,gEq,eqS,aH,gL]
   cases e:nN b<;>simp[bh,rI,e]
 . by_cases h1:48<=b<;>by_cases h2:b<=57<;>simp[bL,bM,bK,bI,b4,aZ,bB,gEq,eqS,aH,gc,fig,bh,rI,h1,h2]
 . by_cases h1:b=46<;>simp[bL,bM,bK,bI,b4,aZ,bB,gEq,eqS,aH,bh,rI,h1]
 . by_cases h1:b=101
   . simp[bL,bM,bK,bI,b4,aZ,bB,gEq,eqS,aH,bh,rI,h1,gIn,kG,dP,fg]
   . by_cases h2:b=69
     . simp[bL,bM,bK,bI,b4,aZ,bB,gEq,eqS,aH,bh,rI,h2,gIn,kG,dP,fg]
     . have z1:¬ 101=b:=fun z=>h1 z.symm
       have z2:¬ 69=b:=fun z=>h2 z.symm
       simp[bL,bM,bK,bI,b4,aZ,bB,gEq,eqS,aH,bh,rI,h1,h2,z1,z2,gIn,kG,dP,fg]
 . by_cases h1:b=43
   . simp[bL,bM,bK,bI,b4,aZ,bB,gEq,eqS,aH,bh,rI,h1,gIn,kG,dP,fg]
   . by_cases h2:b=45
     . simp[bL,bM,bK,bI,b4,aZ,bB,gEq,eqS,aH,bh,rI,h2,gIn,kG,dP,fg]
     . have z1:¬ 43=b:=fun z=>h1 z.symm
       have z2:¬ 45=b:=fun z=>h2 z.symm
       simp[bL,bM,bK,bI,b4,aZ,bB,gEq,eqS,aH,bh,rI,h1,h2,z1,z2,gIn,kG,dP,fg]
theorem jO(b:Int):∃ x,bP [.int b]=.ok (.sh x) /\ cF x=!y9 b:=by
 unfold y9
 by_cases h1:b=34
 . exact⟨.int 34,by simp[cY,bP,gY,List.lookup,h1],by simp[cF,h1]⟩
 by_cases h2:b=92
 . exact⟨.int 92,by simp[cY,bP,gY,List.lookup,h2],by simp[cF,h2]⟩
 by_cases h3:b=47
 . exact⟨.int 47,by simp[cY,bP,gY,List.lookup,h3],by simp[cF,h3]⟩
 by_cases h4:b=98
 . exact⟨.int 8,by simp[cY,bP,gY,List.lookup,h4],by simp[cF,h4]⟩
 by_cases h5:b=102
 . exact⟨.int 12,by simp[cY,bP,gY,List.lookup,h5],by simp[cF,h5]⟩
 by_cases h6:b=110
 . exact⟨.int 10,by simp[cY,bP,gY,List.lookup,h6],by simp[cF,h6]⟩
 by_cases h7:b=114
 . exact⟨.int 13,by simp[cY,bP,gY,List.lookup,h7],by simp[cF,h7]⟩
 by_cases h8:b=116
 . exact⟨.int 9,by simp[cY,bP,gY,List.lookup,h8],by simp[cF,h8]⟩
 have zz:∀ k:Int,¬ b=k->(b==k)=false:=fun k h=>by simpa using h
 exact⟨.non,by simp[cY,bP,gY,List.lookup,zz _ h1,zz _ h2,zz _ h3,zz _ h4,zz _ h5,zz _ h6,zz _ h7,zz _ h8],by simp[cF,h1,h2,h3,h4,h5,h6,h7,h8]⟩
theorem gA(b:Int):cK [.int b]=.ok (rI (Gz b)):=by
 obtain⟨x,hx,hn⟩:=jO b;unfold Gz
 by_cases h1:b=117
 . simp[ja,cK,h1,rI,bB]
 . cases hs:y9 b<;>rw[hs]at hn<;>simp at hn<;>simp[ja,cK,h1,hx,hn,rI]
theorem IG(b:Int)(l:List PG.It)(h:tls b=some l):l.length<=3:=by
 unfold tls at h
 repeat' split at h
 all_goals(first|(cases h;done)|(injection h with h;subst h;simp))
theorem gu(b:Int):b0 [.int b]=.ok (rI (uA b)):=by
 have ht:=FF b;unfold uA
 by_cases h1:b=34
 . simp[eB,dW,eh,dX,eV,b0,h1,rI]
 by_cases h2:b=92
 . simp[eB,dW,eh,dX,eV,b0,h2,rI,bB]
 cases e:tls b with
 | none=>
   rw[e]at ht
   by_cases h3:b<32<;>simp[eB,dW,eh,dX,eV,b0,h1,h2,h3,rI,ht,cF]
 | some l=>
   rw[e]at ht
   have hl:l.length+1<=lim:=fi (by have:=IG b l e;omega)
   by_cases h3:b<32<;>simp[eB,dW,eh,dX,eV,b0,h1,h2,h3,rI,ht,cF,hl,bB]
theorem i3(w:Int):dI [.int w]=.ok (rI (BN w)):=by
 unfold BN
 by_cases h1:w<8
 . simp[jI,jR,ll,dI,h1,rI,bB]
 . by_cases h2:w<12<;>simp[jI,jR,ll,dI,h1,h2,rI,bB]
theorem vz(it:PG.It)(b:Int)(h:it=.text \/ it=.escape \/ it=.code \/ it=.coded):bO [bB it,.int b]=.ok (rI (bh it b)):=by
 have hw:=jo b
 rcases h with rfl|rfl|rfl|rfl
 . simp[dm,dq,dn,du,dr,dR,bO,bB,gEq,eqS,aH,gu]
   cases e:uA b<;>simp[bh,rI,e]
 . simp[dm,dq,dn,du,dr,dR,bO,bB,gEq,eqS,aH,gA]
   cases e:Gz b<;>simp[bh,rI,e]
 . cases e:eU b with
   | none=>
     rw[e]at hw;simp[dm,dq,dn,du,dr,dR,bO,bB,gEq,eqS,aH,hw,cF,bh,e,rI]
   | some w=>
     rw[e]at hw
     by_cases h13:w=13<;>simp[dm,dq,dn,du,dr,dR,bO,bB,gEq,eqS,aH,hw,cF,bh,e,rI,h13]
 . cases e:eU b with
   | none=>
     rw[e]at hw;simp[dm,dq,dn,du,dr,dR,bO,bB,gEq,eqS,aH,hw,cF,bh,e,rI]
   | some w=>
     rw[e]at hw;simp[dm,dq,dn,du,dr,dR,bO,bB,gEq,eqS,aH,hw,cF,bh,e,i3]
     cases e2:BN w<;>simp[rI]
theorem Bl(it:PG.It)(b:Int)(h:it=.hex \/ it=.hexd \/ it=.hexcf):dD [bB it,.int b]=.ok (rI (bh it b)):=by
 have hw:=jo b
 cases e:eU b with
 | none=>
   rw[e]at hw
   rcases h with rfl|rfl|rfl<;>simp[gX,g8,ib,hZ,jE,dD,bB,gEq,eqS,aH,hw,cF,bh,e,rI]
 | some w=>
   rw[e]at hw
   rcases h with rfl|rfl|rfl
   . simp[gX,g8,ib,hZ,jE,dD,bB,gEq,eqS,aH,hw,cF,bh,e,rI]
   . by_cases h13:w=13<;>simp[gX,g8,ib,hZ,jE,dD,bB,gEq,eqS,aH,hw,cF,bh,e,rI,h13]
   . by_cases h13:12<=w<;>simp[gX,g8,ib,hZ,jE,dD,bB,gEq,eqS,aH,hw,cF,bh,e,rI,h13]
theorem DX(b:Int)(l:List PG.It)(h:lx b=some l):l.length<=5:=by
 unfold lx nN at h
 repeat' split at h
 all_goals(first|(cases h;done)|(injection h with h;subst h;decide))
theorem gC(b:Int):cj [.int b]=.ok (rI (bh .row b)):=by
 have hv:=fS b
 by_cases h1:b=93
 . simp[fF,fA,gz,cj,h1,rI,bh]
 cases e:lx b with
 |none=>rw[e]at hv;simp[fF,fA,gz,cj,h1,hv,rI,bh,e,cF]
 | some l=>
   rw[e]at hv
   have hl:l.length+2<=lim:=fi (by have:=DX b l e;omega)
   simp[fF,fA,gz,cj,h1,hv,rI,bh,e,cF,bB,hl]
theorem fe(b:Int):b6 [.int b]=.ok (rI (bh .fields b)):=by
 by_cases h1:b=125
 . simp[gP,b6,h1,rI,bh]
 by_cases h2:b=34<;>simp[gP,b6,h1,h2,rI,bh,dB,sV,bB]
theorem mU(it:PG.It)(b:Int)(h:it=.row \/ it=.mrow \/ it=.fields \/ it=.mfields):bb [bB it,.int b]=.ok (rI (bh it b)):=by
 rcases h with rfl|rfl|rfl|rfl
 . simp[cg,cp,ck,cn,cJ,bb,bB,gEq,eqS,aH,gC]
   cases e:bh .row b<;>simp[rI]
 . by_cases h1:b=44
   . simp[cg,cp,ck,cn,cJ,bb,bB,gEq,eqS,aH,h1,bh,rI]
   . by_cases h2:b=93<;>simp[cg,cp,ck,cn,cJ,bb,bB,gEq,eqS,aH,h1,h2,bh,rI]
 . simp[cg,cp,ck,cn,cJ,bb,bB,gEq,eqS,aH,fe]
   cases e:bh .fields b<;>simp[rI]
 . by_cases h1:b=44
   . simp[cg,cp,ck,cn,cJ,bb,bB,gEq,eqS,aH,h1,bh,rI,dB,sV]
   . by_cases h2:b=125<;>simp[cg,cp,ck,cn,cJ,bb,bB,gEq,eqS,aH,h1,h2,bh,rI]
theorem yb(o:Option (List PG.It))(xs:List PV):rI o≠.al xs:=by cases o<;>simp[rI]
theorem cw{x:PV}{b:Int}{ρ:ag}{o:Option (List PG.It)}(h:vU [some (.sh x),some (.sh (.int b))]=.rt ρ (rI o)):kJ [x,.int b]=.ok (rI o):=Eq.trans (congrArg fin h) (LD (yb o))
theorem sW(it:PG.It)(b:Int):kJ [bB it,.int b]=.ok (rI (bh it b)):=by
 have t1:∀ it:PG.It,aZ [bB it,.int b]=.ok (rI (bh it b))->_:=fun it h=>qY h (yb _)
 have t2:∀ it:PG.It,bO [bB it,.int b]=.ok (rI (bh it b))->_:=fun it h=>qY h (yb _)
 have t3:∀ it:PG.It,dD [bB it,.int b]=.ok (rI (bh it b))->_:=fun it h=>qY h (yb _)
 have t4:∀ it:PG.It,bb [bB it,.int b]=.ok (rI (bh it b))->_:=fun it h=>qY h (yb _)
 cases it with
 |sp lo hi=>by_cases h1:lo<=b<;>by_cases h2:b<=hi<;>simp[wZ,vN,v3,wG,vL,wz,vX,vU,kJ,bB,isP,h1,h2,bh,rI]
 |br=>exact cw (ρ:=[some (.sh (bB .br)),some (.sh (.int b))]) ((sk (by rfl)).trans ((sk (by rfl)).trans ((sk (by rfl)).trans ((sk (by rfl)).trans ((sk (by rfl)).trans (st (by rfl) (by cases h:wht b<;>simp[gH,cq,h,bh,rI,bB])))))))
 |name=>exact cw (ρ:=[some (.sh (bB .name)),some (.sh (.int b))]) ((sk (by rfl)).trans ((sk (by rfl)).trans ((sk (by rfl)).trans ((sk (by rfl)).trans ((sk (by rfl)).trans ((sk (by rfl)).trans (st (by rfl) (by by_cases h:b=34<;>simp[gH,h,bh,rI,bB]))))))))
 |value=>exact cw ((sk (by rfl)).trans ((sk (by rfl)).trans ((sk (by rfl)).trans ((sk (by rfl)).trans ((sk (by rfl)).trans ((sk (by rfl)).trans ((sk (by rfl)).trans (Ec (fS b) (yb _)))))))))
 |lead=>exact cw ((sk (by rfl)).trans (st (by rfl) (t1 .lead (nZ _ b (by simp)))))
 |figures=>exact cw ((sk (by rfl)).trans (st (by rfl) (t1 .figures (nZ _ b (by simp)))))
 |fraction=>exact cw ((sk (by rfl)).trans (st (by rfl) (t1 .fraction (nZ _ b (by simp)))))
 |exponent=>exact cw ((sk (by rfl)).trans (st (by rfl) (t1 .exponent (nZ _ b (by simp)))))
 |sign=>exact cw ((sk (by rfl)).trans (st (by rfl) (t1 .sign (nZ _ b (by simp)))))
 |text=>exact cw ((sk (by rfl)).trans ((sk (by rfl)).trans (st (by rfl) (t2 .text (vz _ b (by simp))))))
 |escape=>exact cw ((sk (by rfl)).trans ((sk (by rfl)).trans (st (by rfl) (t2 .escape (vz _ b (by simp))))))
 |code=>exact cw ((sk (by rfl)).trans ((sk (by rfl)).trans (st (by rfl) (t2 .code (vz _ b (by simp))))))
 |coded=>exact cw ((sk (by rfl)).trans ((sk (by rfl)).trans (st (by rfl) (t2 .coded (vz _ b (by simp))))))
 |hex=>exact cw ((sk (by rfl)).trans ((sk (by rfl)).trans ((sk (by rfl)).trans (st (by rfl) (t3 .hex (Bl _ b (by simp)))))))
 |hexd=>exact cw ((sk (by rfl)).trans ((sk (by rfl)).trans ((sk (by rfl)).trans (st (by rfl) (t3 .hexd (Bl _ b (by simp)))))))
 |hexcf=>exact cw ((sk (by rfl)).trans ((sk (by rfl)).trans ((sk (by rfl)).trans (st (by rfl) (t3 .hexcf (Bl _ b (by simp)))))))
 |row=>exact cw ((sk (by rfl)).trans ((sk (by rfl)).trans ((sk (by rfl)).trans ((sk (by rfl)).trans (st (by rfl) (t4 .row (mU _ b (by simp))))))))
 |mrow=>exact cw ((sk (by rfl)).trans ((sk (by rfl)).trans ((sk (by rfl)).trans ((sk (by rfl)).trans (st (by rfl) (t4 .mrow (mU _ b (by simp))))))))
 |fields=>exact cw ((sk (by rfl)).trans ((sk (by rfl)).trans ((sk (by rfl)).trans ((sk (by rfl)).trans (st (by rfl) (t4 .fields (mU _ b (by simp))))))))
 |mfields=>exact cw ((sk (by rfl)).trans ((sk (by rfl)).trans ((sk (by rfl)).trans ((sk (by rfl)).trans (st (by rfl) (t4 .mfields (mU _ b (by simp))))))))
noncomputable abbrev cm(st:List PG.It):List PV:=st.reverse.map bB
theorem AO(st:List PG.It):PG.wk st=.ob "Walk" ["coming"] [.ol ((cm st).map .sh)]:=rfl
theorem BV(st:List PG.It):(PG.wk st).get [.fd "coming"]=some (.ol ((cm st).map .sh)):=by
 simp[AO,OV.get,OV.at1,qO]
theorem Gi(st:List PG.It)(t:OV):(PG.wk st).put [.fd "coming"] t=.ob "Walk" ["coming"] [t]:=by
 simp[AO,OV.put,OV.at1,OV.gq,qO,xn]
theorem Bc{ρ:ag}{i:Nat}{s:Sl}{st:List PG.It}(h:ρ[i]?=some (some s))(hs:slT s=some (PG.wk st)):subAt i aI ρ=some (PG.wk st):=by
 unfold subAt gp aI;rw[h];simp[hs]
theorem Bp{ρ:ag}{i:Nat}{s:Sl}{st:List PG.It}(h:ρ[i]?=some (some s))(hs:slT s=some (PG.wk st)):pFd i aI "coming" pI ρ=some [.fd "coming"]:=by
 unfold pFd;rw[Bc h hs,AO];simp[pI,qO,aI]
theorem yL{ρ:ag}{i:Nat}{s:Sl}{st:List PG.It}(h:ρ[i]?=some (some s))(hs:slT s=some (PG.wk st)):subAt i (pFd i aI "coming" pI) ρ=some (.ol ((cm st).map .sh)):=by
 unfold subAt gp;rw[h,Bp h hs];simp[hs,BV]
theorem MI(it:PG.It):gT [some (.sh (bB it))]=.ok (PG.opn it):=by
 cases it<;>simp -implicitDefEqProofs [gT,bB,gIn,kG,dP,PG.opn,fg]
theorem Dy(l:List PG.It):iX gT jy [] (l.map bB)=.ok ((l.filter PG.opn).map bB):=by
 induction l with
 |nil=>rfl
 | cons it l ih=>
   rw[List.map_cons];unfold iX;have h:=MI it
   have he:jy [some (.sh (bB it))]=.ok (.sh (bB it)):=rfl
   cases e:PG.opn it<;>rw[e]at h<;>simp[h,ih,e,he]
theorem Bt(st:List PG.It)(hl:st.length<=100000):cL [.bo (PG.wk st)]=.ok (.int (PG.cnt st)) [none]:=by
 have hp:cZ 0 (pFd 0 aI "coming" pI) [some (.bo (PG.wk st))]=.ok (.al (cm st)):=by
  unfold cZ;rw[yL (s:=.bo (PG.wk st)) rfl rfl];simp only[yc]
 have hc:(st.reverse.filter PG.opn).length=PG.cnt st:=by unfold PG.cnt;rw[List.filter_reverse,List.length_reverse]
 have hn:PG.cnt st<=lim:=fi (by unfold PG.cnt;have:=List.length_filter_le PG.opn st;omega)
 have he:=Dy st.reverse
 simp -implicitDefEqProofs only[cL,pC,fnI,lg,xg,hp,dw,List.map_nil,he,FP,E2,List.map_cons,List.length_cons,List.length_nil,List.replicate,List.append_nil,q9,Gh,Et,List.length_map,hc,hn,if_true,Ma,yZ,hU,GI,Nat.sub_self,uq]
 rfl
theorem G6(it:PG.It):oX (bB it) (.tup [.str "white",.str "figures",.str "fraction",.str "exponent",.str "sign"])=some (.sh (.bl (!PG.loose it))):=by
 cases it<;>simp -implicitDefEqProofs [bB,oX,kG,dP,PG.loose,fg]
theorem Ez(it:PG.It):gIn (bB it) (.tup [.str "white",.str "figures",.str "fraction",.str "exponent",.str "sign"])=some (.sh (.bl (PG.loose it))):=by
 cases it<;>simp -implicitDefEqProofs [bB,gIn,kG,dP,PG.loose,fg]
theorem Mg{ρ:ag}{i:Nat}{io:Bool}{it:PG.It}{st:List PG.It}(h:ρ[i]?=some (some (.tr io (PG.wk (it ::st))))):m6 i (pFd i aI "coming" pI) ρ=.ok (ρ.set i (some (.tr io (PG.wk st)))) (.sh (bB it)):=by
 have hc:(cm (it ::st)).map OV.sh=(cm st).map OV.sh++[.sh (bB it)]:=by simp[cm]
 unfold m6;rw[h,Bp h rfl];simp only[BV,hc,List.getLast?_concat,List.dropLast_concat,Gi];rfl
theorem Ky{ρ:ag}{i:Nat}{io:Bool}{l st:List PG.It}{me:ag->OE}(h:ρ[i]?=some (some (.tr io (PG.wk st))))(he:me ρ=.ok (.fr (l.map bB).reverse))(hl:st.length+l.length<=100000):
  dQ i (pFd i aI "coming" pI) me ρ=.nx (ρ.set i (some (.tr io (PG.wk (l++st))))):=by
 have hc:(cm (l++st)).map OV.sh=(cm st).map OV.sh++(l.map bB).reverse.map .sh:=by simp[cm]
 have hl2:st.length+l.length<=lim:=fi (by omega)
 unfold dQ vd;rw[h,Bp h rfl];simp only[BV,he,hU,List.length_map,List.length_reverse,hl2,if_true,Gi];rw[AO,hc]
theorem As{ρ:ag}{i:Nat}{io:Bool}{st:List PG.It}(h:ρ[i]?=some (some (.tr io (PG.wk st)))):dG i (pFd i aI "coming" pI) ρ=.ok (!st.isEmpty):=by
 unfold dG;rw[yL h rfl]
 cases st<;>simp[cm]
theorem GX{ρ:ag}{i:Nat}{io:Bool}{st:List PG.It}(h:ρ[i]?=some (some (.tr io (PG.wk st))))(hl:st.length<=100000):oW "Walk" "brackets" cL [.b i aI] ρ=.ok (.sh (.int (PG.cnt st))):=by
 have ha:nv (.b i aI) ρ=some (.bo (PG.wk st)):=by
  simp only[nv];rw[Bc h rfl];rfl
 have hr:recv "Walk" "brackets" (some (.bo (PG.wk st)))=true:=by
  rw[AO];simp[recv,aH]
 simp only[oW,ha,hr,if_true,zf,jT,Option.bind_some,Option.map_some,Bt st hl]
theorem DQ(b:Int)(it:PG.It)(st:List PG.It)(io:Bool)(x y:Option Sl)(hl:st.length+8<=100000):iu [some (.tr io (PG.wk (it ::st))),some (.sh (.int b)),x,y] =
  match bh it b with
  |some l=>.rt [some (.tr io (PG.wk (l++st))),some (.sh (.int b)),some (.sh (bB it)),some (.ow (l.map bB))] (.sh (.bl (decide (PG.cnt (l++st)<=64))))
  |none=>if PG.loose it then .nx [some (.tr io (PG.wk st)),some (.sh (.int b)),some (.sh (bB it)),some (.sh .non)]else .rt [some (.tr io (PG.wk st)),some (.sh (.int b)),some (.sh (bB it)),some (.sh .non)] (.sh (.bl false)):=by
 have h1:iE 2 (m6 0 (pFd 0 aI "coming" pI)) [some (.tr io (PG.wk (it ::st))),some (.sh (.int b)),x,y]=.nx [some (.tr io (PG.wk st)),some (.sh (.int b)),some (.sh (bB it)),y]:=by
  unfold iE;rw[Mg (it:=it) (st:=st) (io:=io) rfl];rfl
 have hb:=sW it b;have hlo:=G6 it;unfold iu;simp only[oY,h1,i5]
 cases e:bh it b with
 | none=>
   rw[e]at hb
   cases e2:PG.loose it<;>rw[e2]at hlo<;>simp -implicitDefEqProofs [hb,rI,cF,hlo]
 | some l=>
   rw[e]at hb;have hll:=ES it b l e
   have h2:dQ 0 (pFd 0 aI "coming" pI) (GR (ao 3) (mUn gU (mC (.int 1)))) [some (.tr io (PG.wk st)),some (.sh (.int b)),some (.sh (bB it)),some (.ow (l.map bB))]=.nx [some (.tr io (PG.wk (l++st))),some (.sh (.int b)),some (.sh (bB it)),some (.ow (l.map bB))]:=
    Ky (io:=io) rfl (by simp[GR]) (by omega)
   have h3:oW "Walk" "brackets" cL [.b 0 aI] [some (.tr io (PG.wk (l++st))),some (.sh (.int b)),some (.sh (bB it)),some (.ow (l.map bB))]=.ok (.sh (.int (PG.cnt (l++st)))):=GX (io:=io) rfl (by simp;omega)
   have h4:(decide ((PG.cnt (l++st):Int)<=64))=decide (PG.cnt (l++st)<=64):=by rw[decide_eq_decide];omega
   simp -implicitDefEqProofs [hb,rI,cF,h2,h3,h4]
theorem Dt(b:Int)(io:Bool)(st:List PG.It):∀(n:Nat) (x y:Option Sl),st.length<n->st.length+8<=100000 ->
  ∃ x' y',(bX iz iu n [some (.tr io (PG.wk st)),some (.sh (.int b)),x,y]).andThen (bf (mC (.bl false)))=.rt [some (.tr io (PG.wk (gon st b).1)),some (.sh (.int b)),x',y'] (.sh (.bl (gon st b).2)):=by
 induction st with
 | nil=>
   intro n x y hn hl
   obtain⟨m,rfl⟩:∃ m,n=m+1:=⟨n - 1,by simp at hn;omega⟩
   refine⟨x,y,?_⟩
   have hc:iz [some (.tr io (PG.wk [])),some (.sh (.int b)),x,y]=.ok false:=As (i:=0) (ρ:=[some (.tr io (PG.wk [])),some (.sh (.int b)),x,y]) (io:=io) (st:=[]) rfl
   simp[bX,hc,gon]
 | cons it st ih=>
   intro n x y hn hl
   obtain⟨m,rfl⟩:∃ m,n=m+1:=⟨n - 1,by simp at hn;omega⟩
   have hc:iz [some (.tr io (PG.wk (it ::st))),some (.sh (.int b)),x,y]=.ok true:=As (i:=0) (ρ:=[some (.tr io (PG.wk (it ::st))),some (.sh (.int b)),x,y]) (io:=io) (st:=it ::st) rfl
   have ht:=DQ b it st io x y (by simp at hl;omega);unfold gon
   cases e:bh it b with
   | some l=>
     rw[e]at ht
     exact⟨some (.sh (bB it)),some (.ow (l.map bB)),by simp only[bX,hc,eK,if_true,ht,C9,wH]⟩
   | none=>
     rw[e]at ht
     dsimp only at ht ⊢
     cases e2:PG.loose it with
     | false=>
       rw[e2]at ht
       exact⟨some (.sh (bB it)),some (.sh .non),by simp only[bX,hc,eK,if_true,ht,C9,wH,Bool.false_eq_true,if_false]⟩
     | true=>
       rw[e2]at ht;obtain⟨x',y',h⟩:=ih m (some (.sh (bB it))) (some (.sh .non)) (by simp at hn;omega) (by simp at hl;omega)
       exact⟨x',y',by simp only[bX,hc,eK,if_true,ht,iD,h]⟩
theorem DN(b:Int)(st:List PG.It)(hl:st.length+8<100000):eC [.tr true (PG.wk st),.sh (.int b)]=.ok (.bl (gon st b).2) [some (PG.wk (gon st b).1),none]:=by
 obtain⟨x',y',h⟩:=Dt b true st fuel none none (by unfold fuel;omega) (by omega)
 have e:jv [some (.tr true (PG.wk st)),some (.sh (.int b)),none,none]=_:=h
 show fnI 2 4 jv _=_;unfold fnI;rw[if_pos (by rfl)];show uq 2 (jv [some (.tr true (PG.wk st)),some (.sh (.int b)),none,none])=_;rw[e];rfl
theorem Dg(io:Bool)(rw:PV)(row:List Int):∀(k:Nat) (st:List PG.It) (x y:Option Sl),st.length+8*row.length+8<100000 ->
  ∃ x' y',oR 2 3 kq (u5 k (row.map .int)) [some (.tr io (PG.wk st)),some (.sh rw),x,y]=if(PG.tk st row).2=row.length then .nx [some (.tr io (PG.wk (PG.tk st row).1)),some (.sh rw),x',y']else .rt [some (.tr io (PG.wk (PG.tk st row).1)),some (.sh rw),x',y'] (.sh (.int ((k+(PG.tk st row).2:Nat):Int))):=by
 induction row with
 |nil=>intro k st x y hl;exact⟨x,y,by simp[u5,oR,PG.tk]⟩
 | cons b row ih=>
   intro k st x y hl;simp only[List.length_cons]at hl;have hg:=DN b st (by omega);have hlen:=Cj st b
   have ht:kq [some (.tr io (PG.wk st)),some (.sh rw),some (.sh (.int k)),some (.sh (.int b))]=if(gon st b).2 then .nx [some (.tr io (PG.wk (gon st b).1)),some (.sh rw),some (.sh (.int k)),some (.sh (.int b))]else .rt [some (.tr io (PG.wk (gon st b).1)),some (.sh rw),some (.sh (.int k)),some (.sh (.int b))] (.sh (.int k)):=by
    have ha:nv (.t 0 aI) [some (.tr io (PG.wk st)),some (.sh rw),some (.sh (.int k)),some (.sh (.int b))]=some (.tr true (PG.wk st)):=by simp[nv,aI]
    have ha2:nv (.e (ao 3)) [some (.tr io (PG.wk st)),some (.sh rw),some (.sh (.int k)),some (.sh (.int b))]=some (.sh (.int b)):=by simp[nv]
    have hr:recv "Walk" "goes_on" (some (.tr true (PG.wk st)))=true:=by rw[AO];simp[recv,aH]
    have hx:qo "Walk" "goes_on" eC [.t 0 aI,.e (ao 3)] [some (.tr io (PG.wk st)),some (.sh rw),some (.sh (.int k)),some (.sh (.int b))]=.ok [some (.tr io (PG.wk (gon st b).1)),some (.sh rw),some (.sh (.int k)),some (.sh (.int b))] (.sh (.bl (gon st b).2)):=by
     simp only[qo,ha,hr,if_true,jw,jT,ha2,Option.bind_some,Option.map_some,hg];simp[fQ,kT,aI]
    unfold kq Ht;rw[hx]
    cases(gon st b).2<;>simp
   unfold PG.tk;simp only[List.map_cons,u5,oR,List.set_cons_succ,List.set_cons_zero,ht]
   cases e:(gon st b).2 with
   |false=>exact⟨some (.sh (.int k)),some (.sh (.int b)),by simp⟩
   | true=>
     obtain⟨x',y',h⟩:=ih (k+1) (gon st b).1 (some (.sh (.int k))) (some (.sh (.int b))) (by omega)
     refine⟨x',y',?_⟩
     simp only[if_true,iD,h,List.length_cons,Nat.add_right_cancel_iff]
     have:k+1+(PG.tk (gon st b).1 row).2=k+((PG.tk (gon st b).1 row).2+1):=by omega
     rw[this]
theorem LO(st:List PG.It)(row:List Int)(hl:st.length+8*row.length+8<100000):fY [.tr true (PG.wk st),.sh (.lst (row.map .int))]=.ok (.int (PG.tk st row).2) [some (PG.wk (PG.tk st row).1),none]:=by
 obtain⟨x',y',h⟩:=Dg true (.lst (row.map .int)) row 0 st none none hl;show fnI 2 4 m4 _=_;unfold fnI;rw[if_pos (by rfl)];show uq 2 (m4 [some (.tr true (PG.wk st)),some (.sh (.lst (row.map .int))),none,none])=_;unfold m4 Cb;simp only[oY,BH,List.getElem?_cons_succ,List.getElem?_cons_zero,hU,Kb,h]
 by_cases e:(PG.tk st row).2=row.length
 . simp[e,uq,pN]
 . simp[e,uq,pN]
theorem Bj(st:List PG.It)(hl:st.length<=100000):dj [.bo (PG.wk st)]=.ok (.bl (st.all PG.loose)) [none]:=by
 have hp:cZ 0 (pFd 0 aI "coming" pI) [some (.bo (PG.wk st))]=.ok (.al (cm st)):=by
  unfold cZ;rw[yL (s:=.bo (PG.wk st)) rfl rfl];simp only[yc]
 have hn:st.length<=lim:=fi (by omega)
 have he:da jP [] (cm st)=.ok ((st.reverse.map PG.loose).map .bl):=by
  rw[List.map_map]
  refine jV _ fun it _=>?_
  simp[jP,Ez]
 have hb:IX (.lst ((st.reverse.map PG.loose).map .bl))=some (.sh (.bl (st.all PG.loose))):=by
  simp only[IX,zX,Option.map_some]
  congr 3
  rw[List.all_map,List.all_reverse];rfl
 simp -implicitDefEqProofs only[dj,pA,fnI,lg,E9,hp,dw,List.map_nil,he,FP,E2,List.map_cons,List.length_cons,List.length_nil,List.replicate,List.append_nil,q9,Gh,Et,List.length_map,List.length_reverse,hn,if_true,hb,yZ,hU,GI,Nat.sub_self,uq]
 rfl
theorem Kt:dk [.tr true (.ob "Walk" [] [])]=.ok .non [some (PG.wk st0)]:=by
 rfl
theorem Lz(row:List Int):∀ st,(PG.tk st row).1.length<=st.length+8*row.length+8:=by
 induction row with
 |nil=>intro st;simp[PG.tk]
 | cons b row ih=>
   intro st;have:=Cj st b;have h2:=ih (gon st b).1;unfold PG.tk
   split<;>simp only[List.length_cons]<;>omega
noncomputable def ofO:Option Nat->PV
 |some k=>.int k
 |none=>.non
theorem vo(row:List Int)(hl:8*row.length+20<100000):o4 [.lst (row.map .int)]=.ok (.sh (ofO (PG.flt row))):=by
 have ht:=LO st0 row (by simp[st0];omega);have hlen:=Lz row st0;have hw:=Bj (PG.tk st0 row).1 (by have:st0.length=3:=rfl;omega)
 have h0:x9 "Walk" dk [some (.sh (.lst (row.map .int))),none,none]=.ok (PG.wk st0):=by unfold x9;rw[Kt]
 have h1:iE 2 (qo "Walk" "take" fY [.t 1 aI,.e (ao 0)]) [some (.sh (.lst (row.map .int))),some (.tr false (PG.wk st0)),none]=.nx [some (.sh (.lst (row.map .int))),some (.tr false (PG.wk (PG.tk st0 row).1)),some (.sh (.int (PG.tk st0 row).2))]:=by
  have ha:nv (.t 1 aI) [some (.sh (.lst (row.map .int))),some (.tr false (PG.wk st0)),none]=some (.tr true (PG.wk st0)):=by simp[nv,aI]
  have ha2:nv (.e (ao 0)) [some (.sh (.lst (row.map .int))),some (.tr false (PG.wk st0)),none]=some (.sh (.lst (row.map .int))):=by simp[nv]
  have hr:recv "Walk" "take" (some (.tr true (PG.wk st0)))=true:=by rw[AO];simp[recv,aH]
  unfold iE;simp only[qo,ha,hr,if_true,jw,jT,ha2,Option.bind_some,Option.map_some,ht];simp[fQ,kT,aI,nio]
 have h2:oW "Walk" "is_whole" dj [.b 1 aI] [some (.sh (.lst (row.map .int))),some (.tr false (PG.wk (PG.tk st0 row).1)),some (.sh (.int (PG.tk st0 row).2))]=.ok (.sh (.bl ((PG.tk st0 row).1.all PG.loose))):=by
  have ha:nv (.b 1 aI) [some (.sh (.lst (row.map .int))),some (.tr false (PG.wk (PG.tk st0 row).1)),some (.sh (.int (PG.tk st0 row).2))]=some (.bo (PG.wk (PG.tk st0 row).1)):=by
   simp only[nv];rw[Bc (s:=.tr false (PG.wk (PG.tk st0 row).1)) rfl rfl];rfl
  have hr:recv "Walk" "is_whole" (some (.bo (PG.wk (PG.tk st0 row).1)))=true:=by rw[AO];simp[recv,aH]
  simp only[oW,ha,hr,if_true,zf,jT,Option.bind_some,Option.map_some,hw]
 unfold PG.flt
 have hd:lr 1 (x9 "Walk" dk) [some (.sh (.lst (row.map .int))),none,none]=.nx [some (.sh (.lst (row.map .int))),some (.tr false (PG.wk st0)),none]:=by
  unfold lr;rw[h0];rfl
 simp -implicitDefEqProofs only[o4,CA,tV,Cp,List.map_cons,List.map_nil,List.length_cons,List.length_nil,List.cons_append,List.nil_append,List.replicate,oY,hd,i5,xO,h1,xX,B0,G3,G7,Jy,BH,List.getElem?_cons_succ,List.getElem?_cons_zero,E2,q9,FO,h2]
 by_cases e:(PG.tk st0 row).2=row.length
 . cases e2:(PG.tk st0 row).1.all PG.loose<;>simp[e,ud,ofO]
 . have e3:¬ ((PG.tk st0 row).2:Int)=(row.length:Int):=by omega
   simp[e,e3,ud,ofO]
theorem Fi(row:List Int)(hl:8*row.length+20<100000):dY [.lst (row.map .int)]=match PG.flt row with
  |some _=>.bad
  |none=>.ok (.sh .non):=by
 have h:=vo row hl
 cases e:PG.flt row with
 |none=>rw[e]at h;simp -implicitDefEqProofs [mE,dY,h,ofO,cF]
 |some k=>rw[e]at h;simp -implicitDefEqProofs [mE,dY,h,ofO,cF,Bb,fin]
noncomputable def fgB(big:Bool)(w:Int):Int:=if w<10 then 48+w else(if big then 55 else 87)+w
noncomputable def Cn(n:Int)(big:Bool):Sg:=.hx (fgB big (n/16/16/16%16)) (fgB big (n/16/16%16)) (fgB big (n/16%16)) (fgB big (n%16))
noncomputable def vb:List (Int×Int):=[(34,34),(92,92),(47,47),(8,98),(12,102),(10,110),(13,114),(9,116)]
noncomputable def G5(n m:Int)(b1 b2:Bool):Sg:=.pr (fgB b1 (n/16/16/16%16)) (fgB b1 (n/16/16%16)) (fgB b1 (n/16%16)) (fgB b1 (n%16)) (fgB b2 (m/16/16/16%16)) (fgB b2 (m/16/16%16)) (fgB b2 (m/16%16)) (fgB b2 (m%16))
noncomputable def rQ(p n:Int):Sg:=
 if n%5=0 /\ (vb.lookup p).isSome=true then .sh ((vb.lookup p).getD 0) p
 else if 1<n%5 /\ 32<=p /\ p≠34 /\ p≠92 then .pl p
 else if p<65536 then Cn p (decide (n%5=1))
 else G5 (55296+(p - 65536)/1024) (56320+(p - 65536)%1024) (decide (n%5=1)) (decide (n%5=0))
theorem tw(big:Bool){w:Int}(h:0<=w /\ w<16):eU (fgB big w)=some w:=by
 unfold fgB eU
 by_cases h1:w<10
 . rw[if_pos h1,if_pos (by omega)];congr 1;omega
 . cases big
   . simp only[h1,if_false,Bool.false_eq_true];rw[if_neg (by omega),if_neg (by omega),if_pos (by omega)];congr 1;omega
   . simp only[h1,if_false,if_true];rw[if_neg (by omega),if_pos (by omega)];congr 1;omega
theorem yi{p:Int}(h:(vb.lookup p).isSome=true):((vb.lookup p).getD 0,p)∈shP:=by
 unfold vb at h ⊢
 simp only[List.lookup]at h ⊢
 repeat' split
 all_goals first
  |(rename_i e;have e':=eq_of_beq e;subst e';decide)
  |(simp_all;done)
theorem sX(n:Int)(big:Bool)(h:0<=n /\ n<65536):(eU (fgB big (n/16/16/16%16))=some (n/16/16/16%16) /\ eU (fgB big (n/16/16%16))=some (n/16/16%16) /\ eU (fgB big (n/16%16))=some (n/16%16) /\ eU (fgB big (n%16))=some (n%16)) /\
  cod (fgB big (n/16/16/16%16)) (fgB big (n/16/16%16)) (fgB big (n/16%16)) (fgB big (n%16))=n:=by
 have e1:=tw big (w:=n/16/16/16%16) (by omega);have e2:=tw big (w:=n/16/16%16) (by omega);have e3:=tw big (w:=n/16%16) (by omega);have e4:=tw big (w:=n%16) (by omega)
 refine⟨⟨e1,e2,e3,e4⟩,?_⟩
 simp only[cod,nU e1,nU e2,nU e3,nU e4];omega
theorem ua(p n:Int)(h:nI p=true):Sok (rQ p n) /\ Nk (rQ p n)=p:=by
 have hr:=oo h
 have hs:p<55296 \/ 57343<p:=by
  unfold nI at h;simp only[Bool.or_eq_true,Bool.and_eq_true,decide_eq_true_eq]at h;omega
 unfold rQ;split
 . rename_i c;exact⟨yi c.2,rfl⟩
 . split
   . rename_i c;exact⟨⟨h,c.2.1,c.2.2.1,c.2.2.2⟩,rfl⟩
   . split
     . rename_i c;obtain⟨⟨e1,e2,e3,e4⟩,ec⟩:=sX p (decide (n%5=1)) (by omega)
       exact⟨⟨by rw[e1];rfl,by rw[e2];rfl,by rw[e3];rfl,by rw[e4];rfl,by rw[ec];omega⟩,ec⟩
     . rename_i c;obtain⟨⟨e1,e2,e3,e4⟩,ec⟩:=sX (55296+(p - 65536)/1024) (decide (n%5=1)) (by omega);obtain⟨⟨f1,f2,f3,f4⟩,fc⟩:=sX (56320+(p - 65536)%1024) (decide (n%5=0)) (by omega)
       have g1:(55296+(p - 65536)/1024)/16/16/16%16=13:=by omega
       have g2:(56320+(p - 65536)%1024)/16/16/16%16=13:=by omega
       refine⟨⟨⟨by rw[e1,g1],by rw[nU e2];omega,by rw[nU e2];omega,by rw[e2];rfl,by rw[e3];rfl,by rw[e4];rfl⟩,by rw[f1,g2],by rw[nU f2];omega,by rw[f2];rfl,by rw[f3];rfl,by rw[f4];rfl⟩,?_⟩
       show 65536+1024*(cod _ _ _ _ - 55296)+cod _ _ _ _ - 56320=p;rw[ec,fc];omega
noncomputable def An(n:Int)(big:Bool):List Int:=[92,117,fgB big (n/16/16/16%16),fgB big (n/16/16%16),fgB big (n/16%16),fgB big (n%16)]
theorem tG(n:Int)(big:Bool)(found:List Int)(k:Int)(x:Option Sl)(hl:found.length<=10):mR [some (.sh (.int n)),some (.sh (.bl big)),some (.ow (found.map .int)),some (.sh (.int k)),x]=.nx [some (.sh (.int (n/16))),some (.sh (.bl big)),some (.ow ((fgB big (n%16) ::found).map .int)),some (.sh (.int k)),some (.sh (.int (n%16)))]:=by
 have hlim:1+found.length<=lim:=fi (by omega)
 unfold fgB
 by_cases h:n%16<10
 . simp -implicitDefEqProofs [mR,h,hlim]
 . cases big<;>simp -implicitDefEqProofs [mR,h,hlim]
theorem j7(n:Int)(big:Bool):ik [.int n,.bl big]=.ok (.fr ((An n big).map .int)):=by
 have h1:=tG n big [] 0 none (by simp);have h2:=tG (n/16) big [fgB big (n%16)] 1 (some (.sh (.int (n%16)))) (by simp);have h3:=tG (n/16/16) big [fgB big (n/16%16),fgB big (n%16)] 2 (some (.sh (.int (n/16%16)))) (by simp);have h4:=tG (n/16/16/16) big [fgB big (n/16/16%16),fgB big (n/16%16),fgB big (n%16)] 3 (some (.sh (.int (n/16/16%16)))) (by simp);simp only[List.map_cons,List.map_nil]at h1 h2 h3 h4
 have hr:cT 4=[.int 0,.int 1,.int 2,.int 3]:=rfl
 have hb:(-4611686018427387904:Int)<=4 /\ (4:Int)<4611686018427387904:=by omega
 simp -implicitDefEqProofs [uR,uQ,xV,ik,hr,h1,h2,h3,h4,An]
theorem sQ(n:Int)(big:Bool)(h:0<=n /\ n<65536):nc (Cn n big)=An n big:=by
 obtain⟨⟨e1,e2,e3,e4⟩,_⟩:=sX n big h;obtain⟨g1,g2,g3,g4⟩:=kx (by rw[e1];rfl) (by rw[e2];rfl) (by rw[e3];rfl) (by rw[e4];rfl);show ba 92++(ba 117++(ba _++(ba _++(ba _++(ba _++[])))))=_;rw[g1,g2,g3,g4];rfl
theorem DD(n m:Int)(b1 b2:Bool)(h:0<=n /\ n<65536)(h':0<=m /\ m<65536):nc (G5 n m b1 b2)=An n b1++An m b2:=by
 rw[<- sQ n b1 h,<- sQ m b2 h']
 show([92,117,_,_,_,_,92,117,_,_,_,_]:List Int).flatMap ba=([92,117,_,_,_,_]:List Int).flatMap ba++([92,117,_,_,_,_]:List Int).flatMap ba
 rw[<- List.flatMap_append];rfl
theorem oH(p n:Int)(h:nI p=true):jd [.int p,.int n]=.ok (.fr ((nc (rQ p n)).map .int)):=by
 have hr:=oo h;have h8:=m7 p h
 have hl:(vb.map fun p=>(p.1,PV.int p.2)).lookup p=(vb.lookup p).map .int:=by
  unfold vb;simp only[List.map,List.lookup]
  repeat' split
  all_goals rfl
 obtain⟨kv,hkv⟩:∃ kv,kv=vb.map fun p=>(p.1,PV.int p.2):=⟨_,rfl⟩
 rw[<- hkv]at hl
 have hset:lr 2 (Lu [(34,34),(92,92),(47,47),(8,98),(12,102),(10,110),(13,114),(9,116)]) [some (.sh (.int p)),some (.sh (.int n)),none,none,none]=.nx [some (.sh (.int p)),some (.sh (.int n)),some (.tr false (.di kv)),none,none]:=by rw[hkv];rfl
 have hi:∀ a b c d,subAt 2 aI [a,b,some (.tr false (.di kv)),c,d]=some (.di kv):=fun a b c d=>by simp[subAt,gp,slT,aI]
 clear hkv
 have e1:fin (jx [some (.sh (.int p)),some (.sh (.int n)),some (.tr false (.di kv)),none,none])=.ok (.fr ((nc (rQ p n)).map .int)):=by
  unfold rQ
  by_cases c1:n%5=0 /\ (vb.lookup p).isSome=true
  . rw[if_pos c1];obtain⟨c,hc⟩:=Option.isSome_iff_exists.mp c1.2;have hm:=yi c1.2
    rw[hc]at hm hl ⊢
    have hby:nc (.sh c p)=[92,c]:=by
     simp only[Option.getD_some,shP,List.mem_cons,Prod.mk.injEq,List.not_mem_nil,or_false]at hm
     rcases hm with h|h|h|h|h|h|h|h<;>(obtain⟨rfl,rfl⟩:=h;rfl)
    simp only[Option.map_some]at hl;simp -implicitDefEqProofs [jx,n9,c1.1,AU,Cc,hi,hl,hby]
  . rw[if_neg c1]
    have hg1:∀ x,fw (aB (mOp gEq (ao 3) (mC (.int 0)))) (aB (AU false (ao 0) 2 aI)) [some (.sh (.int p)),some (.sh (.int n)),some (.tr false (.di kv)),some (.sh (.int (n%5))),x]=.ok false:=fun x=>by
     by_cases z:n%5=0
     . have:vb.lookup p = none:=by
        cases e:vb.lookup p with
        |none=>rfl
        |some c=>exact absurd ⟨z,by rw[e];rfl⟩ c1
       rw[this]at hl;simp only[Option.map_none]at hl;simp -implicitDefEqProofs [z,AU,hi,hl]
     . simp -implicitDefEqProofs [z]
    have e2:fin (fu [some (.sh (.int p)),some (.sh (.int n)),some (.tr false (.di kv)),some (.sh (.int (n % 5))),none]) = .ok (.fr ((nc (if 1 < n % 5 /\ 32 <= p /\ p ≠ 34 /\ p ≠ 92 then .pl p
          else if p<65536 then Cn p (decide (n%5=1))else G5 (55296+(p - 65536)/1024) (56320+(p - 65536)%1024) (decide (n%5=1)) (decide (n%5=0)))).map .int)):=by
     have e3:fin (lG [some (.sh (.int p)),some (.sh (.int n)),some (.tr false (.di kv)),some (.sh (.int (n%5))),none])=.ok (.fr ((nc (if p<65536 then Cn p (decide (n%5=1))else G5 (55296+(p - 65536)/1024) (56320+(p - 65536)%1024) (decide (n%5=1)) (decide (n%5=0)))).map .int)):=by
      by_cases c3:p<65536
      . rw[if_pos c3,sQ p _ (by omega)];simp -implicitDefEqProofs [lG,c3,j7]
      . rw[if_neg c3,DD _ _ _ _ (by omega) (by omega)]
        have hlim:(An (55296+(p - 65536)/1024) (decide (n%5=1))).length+(An (56320+(p - 65536)%1024) (decide (n%5=0))).length<=lim:=by simp[An]
        simp -implicitDefEqProofs [lG,c3,tq,tX,j7,hlim]
     by_cases d1:1<n%5
     . by_cases d2:32<=p
       . by_cases d3:p=34
         . rw[if_neg (fun z=>z.2.2.1 d3)];simp -implicitDefEqProofs [fu,d1,d2,d3]
           simpa [d3]using e3
         . by_cases d4:p=92
           . rw[if_neg (fun z=>z.2.2.2 d4)];simp -implicitDefEqProofs [fu,d1,d2,d3,d4]
             simpa [d4]using e3
           . rw[if_pos ⟨d1,d2,d3,d4⟩]
             have hb:nc (.pl p)=ba p:=by show ba p++[]=_;simp
             rw[hb];simp -implicitDefEqProofs [fu,d1,d2,d3,d4,h8]
       . rw[if_neg (fun z=>d2 z.2.1)];simp -implicitDefEqProofs [fu,d1,d2];exact e3
     . rw[if_neg (fun z=>d1 z.1)];simp -implicitDefEqProofs [fu,d1];exact e3
    have hs:jx [some (.sh (.int p)),some (.sh (.int n)),some (.tr false (.di kv)),none,none]=fu [some (.sh (.int p)),some (.sh (.int n)),some (.tr false (.di kv)),some (.sh (.int (n%5))),none]:=by
     have h3:bq 3 (mOp cH (ao 1) (mC (.int 5))) [some (.sh (.int p)),some (.sh (.int n)),some (.tr false (.di kv)),none,none]=.nx [some (.sh (.int p)),some (.sh (.int n)),some (.tr false (.di kv)),some (.sh (.int (n%5))),none]:=by simp -implicitDefEqProofs
     simp only[jx,oY,h3,i5,n9,B0,hg1,eK,Bool.false_eq_true,if_false,Hf]
    rw[hs];exact e2
 simp -implicitDefEqProofs only[jd,vH,CA,tV,List.map_cons,List.map_nil,List.length_cons,List.length_nil,List.replicate,List.cons_append,List.nil_append,oY,hset,i5]
 exact e1
noncomputable def lts:List Int->Int->Nat->List Sg
 |[],_,_=>[]
 |p ::l,n,k=>rQ p (n/(1+(k:Int)%7)+k) ::lts l n (k+1)
theorem Nn(l:List Int):∀ n k,l.all nI=true->(lts l n k).map Nk=l:=by
 induction l with
 |nil=>intro n k _;rfl
 | cons p l ih=>
   intro n k h;simp only[List.all_cons,Bool.and_eq_true]at h;simp only[lts,List.map_cons,ih n (k+1) h.2,(ua p _ h.1).2]
theorem FN(l:List Int):∀ n k,l.all nI=true->∀ s∈lts l n k,Sok s:=by
 induction l with
 |nil=>intro n k _ s hs;cases hs
 | cons p l ih=>
   intro n k h s hs;simp only[List.all_cons,Bool.and_eq_true]at h
   rcases List.mem_cons.mp hs with z|z
   . subst z;exact(ua p _ h.1).1
   . exact ih n (k+1) h.2 s z
theorem Fu(s:Sg)(h:Sok s):(nc s).length<=12:=by
 cases s with
 | pl p=>
   show(ba p++[]).length<=12
   rw[List.append_nil];unfold ba
   repeat' split
   all_goals simp
 | sh c p=>
   simp only[Sok,shP,List.mem_cons,Prod.mk.injEq,List.not_mem_nil,or_false]at h
   rcases h with h|h|h|h|h|h|h|h<;>(obtain⟨rfl,rfl⟩:=h;decide)
 | hx a b c d=>
   obtain⟨ha,hb,hc,hd,_⟩:=h;obtain⟨e1,e2,e3,e4⟩:=kx ha hb hc hd
   show(ba 92++(ba 117++(ba a++(ba b++(ba c++(ba d++[])))))).length<=12
   rw[e1,e2,e3,e4,show ba 92=[92] from rfl,show ba 117=[117] from rfl];simp
 | pr a b c d e f g h'=>
   obtain⟨⟨f1,_,_,hb,hcc,hd⟩,f5,_,hf,hg,hh⟩:=h;obtain⟨e1,e2,e3,e4⟩:=kx (by rw[f1];rfl) hb hcc hd;obtain⟨e5,e6,e7,e8⟩:=kx (by rw[f5];rfl) hf hg hh
   show(ba 92++(ba 117++(ba a++(ba b++(ba c++(ba d++(ba 92++(ba 117++(ba e++(ba f++(ba g++(ba h'++[])))))))))))).length<=12
   rw[e1,e2,e3,e4,e5,e6,e7,e8,show ba 92=[92] from rfl,show ba 117=[117] from rfl];simp
theorem D9(l:List Int)(n:Int)(a:Option Sl):∀(k:Nat) (found:List Int) (x:Option Sl),l.all nI=true->found.length+12*l.length<=100000->∃ x',jB 4 lJ (l.map .int) [a,some (.sh (.int n)),some (.ow (found.map .int)),some (.sh (.int (k:Int))),x]=.nx [a,some (.sh (.int n)),some (.ow ((found++PG.inner (lts l n k)).map .int)),some (.sh (.int ((k+l.length:Nat):Int))),x']:=by
 induction l with
 |nil=>intro k found x _ _;exact⟨x,by simp[lts,PG.inner]⟩
 | cons p l ih=>
   intro k found x hp hl;simp only[List.all_cons,Bool.and_eq_true]at hp;simp only[List.length_cons]at hl;have hs:=oH p (n/(1+(k:Int)%7)+k) hp.1;have h12:=Fu _ (ua p (n/(1+(k:Int)%7)+k) hp.1).1
   have hlim:found.length+(nc (rQ p (n/(1+(k:Int)%7)+k))).length<=lim:=fi (by omega)
   obtain⟨x',h⟩:=ih (k+1) (found++nc (rQ p (n/(1+(k:Int)%7)+k))) (some (.sh (.int p))) hp.2 (by simp;omega)
   refine⟨x',?_⟩
   have hd:(0:Int)<1+(k:Int)%7:=by omega
   have hd2:1+(k:Int)%7<1073741824:=by omega
   have ht:lJ [a,some (.sh (.int n)),some (.ow (found.map .int)),some (.sh (.int (k:Int))),some (.sh (.int p))]=.nx [a,some (.sh (.int n)),some (.ow ((found++nc (rQ p (n/(1+(k:Int)%7)+k))).map .int)),some (.sh (.int ((k+1:Nat):Int))),some (.sh (.int p))]:=by
    simp -implicitDefEqProofs [lJ,hd,hd2,hs,hlim]
   rw[List.map_cons,j8];simp only[List.set_cons_succ,List.set_cons_zero,ht,iD,h]
   have e:k+1+l.length=k+(l.length+1):=by omega
   simp[lts,PG.inner,e]
theorem Ci(l:List Int):∀ n k,(PG.inner (lts l n k)).length<=12*l.length \/ l.all nI=false:=by
 induction l with
 |nil=>intro n k;left;simp[lts,PG.inner]
 | cons p l ih=>
   intro n k
   by_cases h1:nI p=true
   . rcases ih n (k+1)with h|h
     . left;have h12:=Fu _ (ua p (n/(1+(k:Int)%7)+k) h1).1
       show(nc _++PG.inner (lts l n (k+1))).length<=_
       rw[List.length_append,List.length_cons];omega
     . right;simp[h]
   . right;simp[h1]
theorem j6(l:List Int)(n:Int)(h:l.all nI=true)(hl:l.length<=1000):gB [.lst (l.map .int),.int n]=.ok (.fr ((PG.txt (lts l n 0)).map .int)):=by
 obtain⟨x',h1⟩:=D9 l n (some (.sh (.lst (l.map .int)))) 0 [34] none h (by simp;omega)
 have hlen:(PG.inner (lts l n 0)).length<=12*l.length:=by
  rcases Ci l n 0 with z|z
  . exact z
  . rw[h]at z;cases z
 have hlim:(PG.inner (lts l n 0)).length+1+1<=lim:=fi (by omega)
 simp only[List.map_cons,List.map_nil,Int.ofNat_zero,Int.cast_ofNat_Int]at h1
 simp -implicitDefEqProofs only[gB,wF,CA,tV,List.map_cons,List.map_nil,List.length_cons,List.length_nil,List.replicate,List.cons_append,List.nil_append,oY]
 simp -implicitDefEqProofs [sZ,tN,h1,tJ,hlim,PG.txt]
noncomputable def low:Nat->Int->Int×Nat
 |0,n=>(n,0)
 |k+1,n=>if n%10=0 then((low k (n/10)).1,(low k (n/10)).2+1)else(n,0)
noncomputable def sv(s ds:List Int):Int:=if s=[45]then -cv ds else cv ds
noncomputable def exV:Option (Int×List Int×List Int)->Int
 |none=>0
 |some (_,s,ds)=>sv s ds
noncomputable def mwV(m:Nm):Int:=if m.neg then -cv (m.ip++m.fr)else cv (m.ip++m.fr)
noncomputable def dN(m:Nat):List Nat:=(Nat.toDigits 10 m).map Char.toNat
theorem Hu(m:Nat):(Str.ofString (toString ((m:Nat):Int))).cps.toList=dN m:=by
 rw[Str.ofString_eq_toList]
 have:(toString ((m:Nat):Int)).toList=Nat.toDigits 10 m:=by
  show(Nat.repr m).toList=_
  simp[Nat.repr]
 rw[this];rfl
theorem Fp(m:Nat):zi (Str.ofString (toString ((m:Nat):Int)))=(dN m).map fun c=>PV.str ⟨#[c]⟩:=by
 unfold zi;rw[Hu]
theorem F8:∀ d:Nat,d<10->(Nat.digitChar d).toNat=48+d:=by decide
theorem vt(m:Nat):(dN m).map (fun c:Nat=>(c:Int))=cX m:=by
 induction m using Nat.strongRecOn with
 | _ m ih=>
   rw[cX]
   by_cases h:m<10
   . rw[if_pos h];unfold dN;rw[Nat.toDigits_of_lt_base h];simp[F8 m h]
   . rw[if_neg h,<- ih (m/10) (by omega)];unfold dN;rw[Nat.toDigits_of_base_le (by decide) (by omega)];simp[F8 (m%10) (by omega)]
theorem Mm(m:Nat):∀ c∈dN m,48<=c /\ c<=57:=by
 intro c hc
 have h1:(c:Int)∈cX m:=by rw[<- vt];exact List.mem_map.mpr ⟨c,hc,rfl⟩
 have:=zM m _ h1;unfold isF at this;omega
theorem Mc(m:Nat):(dN m).length=(cX m).length:=by rw[<- vt];simp
theorem Hi(m:Nat)(h:m<100000):((m:Nat):Int).natAbs.log2<1920:=by
 have e:((m:Nat):Int).natAbs=m:=by omega
 rw[e]
 by_cases h0:m=0
 . subst h0;decide
 . have:=(Nat.log2_lt h0 (k:=17)).mpr (by omega);omega
theorem AR{me:ag->OE}{f:Nat->PV}(m:Nat)(h:m<100000)(hme:∀ c∈dN m,me ([]++[some (.sh (.str ⟨#[c]⟩))])=.ok (.sh (f c)))(ma:ag->OE)(ρ:ag)(ha:ma ρ=.ok (.sh (.int (m:Int)))):
  ql (mUn qL ma) [] me ρ=.ok (.fr ((dN m).map f)):=by
 have h2:(dN m).length<=lim:=by
  rw[Mc];have:=qm 4 m (by omega);exact fi (by omega)
 have e1:(mUn qL ma) ρ=.ok (.sh (.str (Str.ofString (toString (m:Int))))):=by
  have:qL (.int m)=some (.sh (.str (Str.ofString (toString (m:Int))))):=if_pos (Hi m h)
  simp[ha,this]
 have hel:da me [] ((dN m).map fun c=>PV.str ⟨#[c]⟩)=.ok ((dN m).map f):=jV _ hme
 rw[FW,e1];simp only[OE.bind,RV.pv,Fp,dw,List.map_nil,hel];simp[noX,h2]
theorem M8(c:Nat)(h:48<=c /\ c<=57):ig ([]++[some (.sh (.str ⟨#[c]⟩))])=.ok (.sh (.int ((c:Int) - 48))):=by
 have:CQ (.str ⟨#[c]⟩)=some (.sh (.int ((c:Int) - 48))):=if_pos h
 simp[ig,this]
theorem LB(c:Nat):fU ([]++[some (.sh (.str ⟨#[c]⟩))])=.ok (.sh (.int (c:Int))):=by
 have:F6 (.str ⟨#[c]⟩)=some (.sh (.int ((⟨#[c]⟩:Str).cps.getD 0 0:Nat))):=rfl
 simp[fU,this]
noncomputable def ws(ds:List Int):List Int:=ds.map (· - 48)
theorem wl1(l:List Int):∀(w:Int) (a b c d x e f g:Option Sl),∃ x',jB 5 fT (l.map .int) [a,b,c,d,some (.sh (.int w)),x,e,f,g]=.nx [a,b,c,d,some (.sh (.int (l.foldl (fun n d=>n*10+d) w))),x',e,f,g]:=by
 induction l with
 |nil=>intro w a b c d x e f g;exact⟨x,rfl⟩
 | cons y l ih=>
   intro w a b c d x e f g;obtain⟨x',h⟩:=ih (w*10+y) a b c d (some (.sh (.int y))) e f g
   refine⟨x',?_⟩
   have ht:fT [a,b,c,d,some (.sh (.int w)),some (.sh (.int y)),e,f,g]=.nx [a,b,c,d,some (.sh (.int (w*10+y))),some (.sh (.int y)),e,f,g]:=by simp -implicitDefEqProofs [fT]
   rw[List.map_cons,j8];simp only[List.set_cons_succ,List.set_cons_zero,ht,iD,h,List.foldl_cons]
theorem wl2(l:List Int):∀(row:List Int) (w p:Int) (a b c x f g:Option Sl),row.length+l.length<=1000->∃ x',jB 5 gZ (l.map .int) [a,b,c,some (.ow (row.map .int)),some (.sh (.int w)),x,some (.sh (.int p)),f,g]=.nx [a,b,c,some (.ow ((row++l.map (48+·)).map .int)),some (.sh (.int (l.foldl (fun n d=>n*10+d) w))),x',some (.sh (.int (p - l.length))),f,g]:=by
 induction l with
 |nil=>intro row w p a b c x f g _;exact⟨x,by simp⟩
 | cons y l ih=>
   intro row w p a b c x f g hl;simp only[List.length_cons]at hl;obtain⟨x',h⟩:=ih (row++[48+y]) (w*10+y) (p - 1) a b c (some (.sh (.int y))) f g (by simp;omega)
   refine⟨x',?_⟩
   have hlim:row.length<lim:=o3 (by omega)
   have ht:gZ [a,b,c,some (.ow (row.map .int)),some (.sh (.int w)),some (.sh (.int y)),some (.sh (.int p)),f,g]=.nx [a,b,c,some (.ow ((row++[48+y]).map .int)),some (.sh (.int (w*10+y))),some (.sh (.int y)),some (.sh (.int (p - 1))),f,g]:=by simp -implicitDefEqProofs [gZ,hlim]
   rw[List.map_cons,j8];simp only[List.set_cons_succ,List.set_cons_zero,ht,iD,h,List.foldl_cons]
   have e1:p - 1 - (l.length:Int)=p - ((l.length:Int)+1):=by omega
   simp[e1]
theorem Dc(ds:List Int):∀ w,(ws ds).foldl (fun n d=>n*10+d) w=ds.foldl (fun n d=>10*n+d - 48) w:=by
 induction ds with
 |nil=>intro w;rfl
 | cons d ds ih=>
   intro w
   simp only[ws,List.map_cons,List.foldl_cons]at ih ⊢
   have:w*10+(d - 48)=10*w+d - 48:=by omega
   rw[this];exact ih _
theorem Mp(ds:List Int):(ws ds).map (48+·)=ds:=by
 unfold ws;rw[List.map_map]
 conv=>rhs;rw[<- List.map_id ds]
 refine List.map_congr_left fun x _=>?_
 show 48+(x - 48)=x;omega
theorem EJ(xs ys:List Int):cv (xs++ys)=ys.foldl (fun n d=>10*n+d - 48) (cv xs):=by
 unfold cv;rw[List.foldl_append]
noncomputable def bY(n:Int):List Int:=if n/17%3=1 then([48+n/19%10,48+n/23%4,48]:List Int).take (1+n/29%3).toNat else[]
noncomputable def gG(n:Int):Option (Int×List Int×List Int):=if n/31%3=1 then some (if n/41%2=0 then 101 else 69,if n/43%3=1 then[45]else if n/43%3=2 then[43]else[],(if n/47%4=1 then[48]else[])++cX (n/37%30).toNat)else none
noncomputable def eO(n:Int):Nm:=⟨decide (n%3=0),cX (n/3%100000).toNat,bY n,gG n⟩
theorem Aw(n:Int):Nok (eO n) where
 ip:=by
  by_cases h:(n/3%100000).toNat=0
  . left;show cX _=_;rw[h,Ed]
  . right;exact Dn _ (by omega)
 fr:=fun b hb=>by
  have hb':b∈bY n:=hb
  unfold bY at hb';split at hb'
  . have:=List.mem_of_mem_take hb';simp at this;unfold isF;omega
  . cases hb'
 ex:=fun e s ds h=>by
  have h':gG n=some (e,s,ds):=h
  unfold gG at h';split at h'
  . injection h' with h'
    injection h' with h1 h'
    injection h' with h2 h3
    refine⟨?_,?_,?_,?_⟩
    . rw[<- h1];split<;>simp
    . rw[<- h2];split
      . simp
      . split<;>simp
    . rw[<- h3];intro z;exact GU _ (List.append_eq_nil_iff.mp z).2
    . rw[<- h3];intro b hb
      rcases List.mem_append.mp hb with z|z
      . split at z
        . simp at z;subst z;decide
        . cases z
      . exact zM _ b z
  . cases h'
noncomputable abbrev nE(n:Int)(a b c d e f g:Option Sl):ag:=[some (.sh (.int n)),some (.sh (.bl (decide (n%3=0)))),a,b,c,d,e,f,g]
theorem Ba(k:Nat):∀(n p:Int) (F:Nat),n≠0->n.natAbs<10 ^ k->k<F->bX iV kz F [some (.sh (.int n)),some (.sh (.int p))]=.nx [some (.sh (.int (low k n).1)),some (.sh (.int (p+(low k n).2)))]:=by
 induction k with
 |zero=>intro n p F h0 h _;simp at h;omega
 | succ k ih=>
   intro n p F h0 h hF
   obtain⟨F,rfl⟩:∃ G,F=G+1:=⟨F - 1,by omega⟩
   unfold bX low
   by_cases hm:n%10=0
   . rw[Nat.pow_succ]at h
     have h1:n/10≠0:=by omega
     have h2:(n/10).natAbs<10 ^ k:=by generalize 10 ^ k=z at h;omega
     have:=ih (n/10) (p+1) F h1 h2 (by omega)
     have hc:iV [some (.sh (.int n)),some (.sh (.int p))]=.ok true:=by simp[iV,hm]
     have hb:kz [some (.sh (.int n)),some (.sh (.int p))]=.nx [some (.sh (.int (n/10))),some (.sh (.int (p+1)))]:=by simp[kz]
     simp[hc,hb,hm,this,Int.add_assoc,Int.add_comm 1]
   . simp[iV,hm]
noncomputable def pairOf(k:Nat)(n p:Int):PV:=if n=0 then .tup [.int 0,.int 0]else .tup [.int (low k n).1,.int (p+(low k n).2)]
theorem E5(k:Nat)(n p:Int)(h:n.natAbs<10 ^ k)(hk:k<=90000):fz [.int n,.int p]=.ok (.sh (pairOf k n p)):=by
 unfold pairOf
 by_cases h0:n=0
 . rw[if_pos h0,h0];simp -implicitDefEqProofs [fz,qI]
 . rw[if_neg h0];have:=Ba k n p fuel h0 h (by unfold fuel;omega);simp -implicitDefEqProofs [fz,qI,rL,sd,h0,this]
theorem F0(ds:List Int)(h:∀ b∈ds,isF b):0<=cv ds /\ cv ds<10 ^ ds.length:=by
 have key:∀(ds:List Int) (w:Int) (k:Nat),(∀ b∈ds,isF b)->0<=w /\ w<10 ^ k->0<=ds.foldl (fun n d=>10*n+d - 48) w /\ ds.foldl (fun n d=>10*n+d - 48) w<10 ^ (k+ds.length):=by
  intro ds
  induction ds with
  |nil=>intro w k _ hw;simpa using hw
  | cons d ds ih=>
    intro w k hd hw;have h1:=hd d List.mem_cons_self;unfold isF at h1
    have h2:(10:Int) ^ (k+1)=10 ^ k*10:=Int.pow_succ 10 k
    have:=ih (10*w+d - 48) (k+1) (fun b hb=>hd b (List.mem_cons_of_mem _ hb)) ⟨by omega,by rw[h2];omega⟩;rw[List.foldl_cons,List.length_cons];rw[show k+1+ds.length=k+(ds.length+1) by omega]at this;exact this
 have:=key ds 0 0 h (by simp);rw[Nat.zero_add]at this;exact this
theorem FV(m:Nm)(h:Nok m)(k:Nat)(hk:(m.ip++m.fr).length<=k):(mwV m).natAbs<10 ^ k:=by
 have hip:∀ b∈m.ip++m.fr,isF b:=by
  intro b hb
  rcases List.mem_append.mp hb with z|z
  . rcases h.ip with e|⟨d,r,e,h1,h2,h3⟩
    . rw[e]at z;simp at z;subst z;decide
    . rw[e]at z
      rcases List.mem_cons.mp z with y|y
      . unfold isF;omega
      . exact h3 b y
  . exact h.fr b z
 obtain⟨b1,b2⟩:=F0 _ hip
 have b3:(10:Int) ^ (m.ip++m.fr).length<=10 ^ k:=by
  have:=Nat.pow_le_pow_right (n:=10) (by decide) hk
  have e1:((10 ^ (m.ip++m.fr).length:Nat):Int)=(10:Int) ^ (m.ip++m.fr).length:=by norm_cast
  have e2:((10 ^ k:Nat):Int)=(10:Int) ^ k:=by norm_cast
  omega
 have e2:((10 ^ k:Nat):Int)=(10:Int) ^ k:=by norm_cast
 unfold mwV
 split<;>omega
theorem lH(n:Int)(hn:0<=n):gy [.int n]=.ok (.sh (.tup [.lst ((PG.nb (eO n)).map .int),pairOf 20 (mwV (eO n)) (exV (eO n).ex - (eO n).fr.length)])):=by
 obtain⟨K,hK⟩:∃ K:Nat,K=(n/3%100000).toNat:=⟨_,rfl⟩
 have hK1:n/3%100000=(K:Int):=by omega
 have hK2:K<100000:=by omega
 have hdl:=qm 4 K (by omega)
 obtain⟨sg,hsg⟩:∃ sg:List Int,sg=if n%3=0 then[45]else[]:=⟨_,rfl⟩
 have hsl:sg.length<=1:=by rw[hsg];split<;>simp
 have ok:=Aw n
 have hfl:(bY n).length<=3:=by unfold bY;split<;>simp;omega
 have hb20:=FV (eO n) ok 20 (by show(cX (n/3%100000).toNat++bY n).length<=20;rw[<- hK];simp;omega);have hpl:=E5 20 (mwV (eO n)) (exV (eO n).ex - (eO n).fr.length) hb20 (by decide)
 have c1:bq 2 (ql (mUn qL (mOp cH (mOp dH (ao 0) (mC (.int 3))) (mC (.int 100000)))) [] ig) (nE n none none none none none none none)=.nx (nE n (some (.ow ((ws (cX K)).map .int))) none none none none none none):=by
  have:=AR (me:=ig) (f:=fun c=>.int ((c:Int) - 48)) K hK2 (fun c hc=>M8 c (Mm K c hc)) (mOp cH (mOp dH (ao 0) (mC (.int 3))) (mC (.int 100000))) (nE n none none none none none none none) (by simp -implicitDefEqProofs [hK1]);rw[BQ,this]
  have e:(dN K).map (fun c:Nat=>PV.int ((c:Int) - 48))=(ws (cX K)).map .int:=by
   rw[<- vt];simp[ws,List.map_map,Function.comp_def]
  rw[e];rfl
 have c2:bq 3 (gH (cU (ao 1)) (b5 (ak (mC (.int 45)) aJ)) (b5 aJ)) (nE n (some (.ow ((ws (cX K)).map .int))) none none none none none none)=.nx (nE n (some (.ow ((ws (cX K)).map .int))) (some (.ow (sg.map .int))) none none none none none):=by
  rw[hsg]
  by_cases h:n%3=0<;>simp -implicitDefEqProofs [h]
 have hel:da jH [] ((ws (cX K)).map .int)=.ok ((cX K).map .int):=by
  have:(cX K).map PV.int=(ws (cX K)).map fun x=>.int (48+x):=by
   conv=>lhs;rw[<- Mp (cX K)]
   rw[List.map_map];rfl
  rw[this]
  exact jV _ fun x _=>by simp -implicitDefEqProofs [jH]
 have hdlim:(cX K).length<=lim:=fi (by omega)
 have hslim:sg.length+(cX K).length<=lim:=fi (by omega)
 have c3:bq 3 (mOp nu (ao 3) (ue (ao 2) [] jH)) (nE n (some (.ow ((ws (cX K)).map .int))) (some (.ow (sg.map .int))) none none none none none)=.nx (nE n (some (.ow ((ws (cX K)).map .int))) (some (.ow ((sg++cX K).map .int))) none none none none none):=by
  simp -implicitDefEqProofs [dw,hel,hdlim,hslim]
 obtain⟨x1,w1⟩:=wl1 (ws (cX K)) 0 (some (.sh (.int n))) (some (.sh (.bl (decide (n%3=0))))) (some (.sh (.lst ((ws (cX K)).map .int)))) (some (.ow ((sg++cX K).map .int))) none none none none;rw[Dc]at w1
 have w1':jB 5 fT ((ws (cX K)).map .int) (nE n (some (.sh (.lst ((ws (cX K)).map .int)))) (some (.ow ((sg++cX K).map .int))) (some (.sh (.int 0))) none none none none)=.nx (nE n (some (.sh (.lst ((ws (cX K)).map .int)))) (some (.ow ((sg++cX K).map .int))) (some (.sh (.int (cv (cX K))))) x1 none none none):=w1
 obtain⟨W,hW⟩:∃ W,W=ws (cX K):=⟨_,rfl⟩
 obtain⟨R1,hR1⟩:∃ R1,R1=sg++cX K:=⟨_,rfl⟩
 have hR1l:R1.length<=6:=by rw[hR1];simp;omega
 obtain⟨V1,hV1⟩:∃ V1,V1=cv (cX K):=⟨_,rfl⟩
 rw[<- hW,<- hR1,<- hV1]at w1';rw[<- hW]at c1 c2;rw[<- hW,<- hR1]at c3
 have c4:∃ x2,bc (aB (mOp gEq (mOp cH (mOp dH (ao 0) (mC (.int 17))) (mC (.int 3))) (mC (.int 1)))) (aG (eE 3 (mC (.int 46))) (uV 5 (HB (b5 (ak (mOp cH (mOp dH (ao 0) (mC (.int 19))) (mC (.int 10))) (ak (mOp cH (mOp dH (ao 0) (mC (.int 23))) (mC (.int 4))) (ak (mC (.int 0)) aJ)))) (mC .non) (CV (mOp dU (mC (.int 1)) (mOp cH (mOp dH (ao 0) (mC (.int 29))) (mC (.int 3)))))) gZ)) aS
   (nE n (some (.sh (.lst (W.map .int)))) (some (.ow (R1.map .int))) (some (.sh (.int V1))) x1 (some (.sh (.int 0))) none none) =
   .nx (nE n (some (.sh (.lst (W.map .int)))) (some (.ow ((R1++frB (bY n)).map .int))) (some (.sh (.int ((bY n).foldl (fun n d=>10*n+d - 48) V1)))) x2 (some (.sh (.int (-((bY n).length:Int))))) none none):=by
  by_cases h17:n/17%3=1
  . obtain⟨L,hL⟩:∃ L:List Int,L=([n/19%10,n/23%4,0]:List Int).take (1+n/29%3).toNat:=⟨_,rfl⟩
    have hLf:bY n=L.map (48+·):=by
     unfold bY;rw[if_pos h17,hL,List.map_take];simp
    have hLl:L.length=(1+n/29%3).toNat:=by rw[hL];simp;omega
    have hcut:EC [PV.int (n/19%10),.int (n/23%4),.int 0] none (some (1+n/29%3))=L.map .int:=by
     have e1:BM 3 3 (some (1+n/29%3))=(1+n/29%3).toNat:=by
      unfold BM;dsimp only;rw[if_neg (by omega)];omega
     show([PV.int (n/19%10),.int (n/23%4),.int 0].drop 0).take (BM 3 3 (some (1+n/29%3)) - 0)=_
     rw[e1,hL,List.map_take];rfl
    obtain⟨x2,w2⟩:=wl2 L (R1++[46]) V1 0 (some (.sh (.int n))) (some (.sh (.bl (decide (n%3=0))))) (some (.sh (.lst (W.map .int)))) x1 none none (by simp;omega)
    refine⟨x2,?_⟩
    have hne:bY n≠[]:=by
     rw[hLf];intro z;have:=congrArg List.length z;simp[hLl]at this;omega
    have hfold:L.foldl (fun n d=>n*10+d) V1=(bY n).foldl (fun n d=>10*n+d - 48) V1:=by
     have:=Dc (bY n) V1;rw[<- this,hLf]
     congr 1
     unfold ws;rw[List.map_map]
     conv=>lhs;rw[<- List.map_id L]
     refine List.map_congr_left fun x _=>?_
     show x=48+x - 48;omega
    have hrow:R1++[46]++L.map (48+·)=R1++frB (bY n):=by
     unfold frB;rw[if_neg hne,hLf];simp
    rw[hfold,hrow]at w2
    have hlen:(0:Int) - (L.length:Int)=-((bY n).length:Int):=by rw[hLf];simp
    rw[hlen]at w2
    have hl1:R1.length<lim:=o3 (by omega)
    have w2':=w2
    simp only[List.map_append,List.map_cons,List.map_nil]at w2';simp -implicitDefEqProofs [h17,hl1,hcut,w2']
  . refine⟨x1,?_⟩
    have hf:bY n=[]:=by unfold bY;rw[if_neg h17]
    rw[hf];simp -implicitDefEqProofs [h17,frB]
 obtain⟨x2,c4⟩:=c4
 obtain⟨R2,hR2⟩:∃ R2,R2=R1++frB (bY n):=⟨_,rfl⟩
 have hR2l:R2.length<=10:=by
  rw[hR2];unfold frB
  split<;>simp<;>omega
 have hV2:(bY n).foldl (fun n d=>10*n+d - 48) V1=cv (cX K++bY n):=by rw[EJ,hV1]
 rw[hV2,<- hR2]at c4
 obtain⟨V2,hV2e⟩:∃ V2,V2=cv (cX K++bY n):=⟨_,rfl⟩
 rw[<- hV2e]at c4
 have c5:∃ y z,bc (aB (mOp gEq (mOp cH (mOp dH (ao 0) (mC (.int 31))) (mC (.int 3))) (mC (.int 1)))) (aG (bq 7 (mOp cH (mOp dH (ao 0) (mC (.int 37))) (mC (.int 30)))) (aG (eE 3 (mOp gN (b5 (ak (mC (.int 101)) (ak (mC (.int 69)) aJ))) (mOp cH (mOp dH (ao 0) (mC (.int 41))) (mC (.int 2))))) (aG (bq 8 (mOp gEq (mOp cH (mOp dH (ao 0) (mC (.int 43))) (mC (.int 3))) (mC (.int 1)))) (aG (bc (cU (ao 8)) (eE 3 (mC (.int 45))) (bc (aB (mOp gEq (mOp cH (mOp dH (ao 0) (mC (.int 43))) (mC (.int 3))) (mC (.int 2)))) (eE 3 (mC (.int 43))) aS)) (aG (bc (aB (mOp gEq (mOp cH (mOp dH (ao 0) (mC (.int 47))) (mC (.int 4))) (mC (.int 1)))) (eE 3 (mC (.int 48))) aS) (aG (bq 3 (mOp nu (ao 3) (ql (mUn qL (ao 7)) [] fU))) (bq 6 (mOp dU (ao 6) (gH (cU (ao 8)) (mUn gU (ao 7)) (ao 7)))))))))) aS
   (nE n (some (.sh (.lst (W.map .int)))) (some (.ow (R2.map .int))) (some (.sh (.int V2))) x2 (some (.sh (.int (-((bY n).length:Int))))) none none) =
   .nx (nE n (some (.sh (.lst (W.map .int)))) (some (.ow ((R2++exB (gG n)).map .int))) (some (.sh (.int V2))) x2 (some (.sh (.int (exV (gG n) - (bY n).length)))) y z):=by
  by_cases h31:n/31%3=1
  . obtain⟨M,hM⟩:∃ M:Nat,M=(n/37%30).toNat:=⟨_,rfl⟩
    have hM1:n/37%30=(M:Int):=by omega
    refine⟨some (.sh (.int (M:Int))),some (.sh (.bl (decide (n/43%3=1)))),?_⟩
    obtain⟨eb,heb⟩:∃ eb:Int,eb=if n/41%2=0 then 101 else 69:=⟨_,rfl⟩
    obtain⟨sx,hsx⟩:∃ sx:List Int,sx=if n/43%3=1 then[45]else if n/43%3=2 then[43]else[]:=⟨_,rfl⟩
    obtain⟨zx,hzx⟩:∃ zx:List Int,zx=if n/47%4=1 then[48]else[]:=⟨_,rfl⟩
    have hex:gG n=some (eb,sx,zx++cX M):=by unfold gG;rw[if_pos h31,heb,hsx,hzx,hM]
    have hsxl:sx.length <= 1:=by rw [hsx]; split
                                 . simp
                                 . split<;>simp
    have hzxl:zx.length<=1:=by rw[hzx];split<;>simp
    have hml:=qm 4 M (by omega)
    have hat:atP [PV.int 101,.int 69] (n/41%2)=some (.int eb):=by
     have:n/41%2=0 \/ n/41%2=1:=by omega
     rw[heb]
     rcases this with h|h<;>rw[h]<;>rfl
    have hcvz:cv (zx++cX M)=(M:Int):=by
     have:cv (cX M)=M:=HF M
     rw[hzx];split
     . rw[EJ];exact this
     . exact this
    have hexv:exV (gG n)=if n/43%3=1 then -(M:Int)else(M:Int):=by
     rw[hex];show sv sx (zx++cX M)=_;unfold sv;rw[hcvz,hsx]
     by_cases h1:n/43%3=1
     . simp[h1]
     . by_cases h2:n/43%3=2<;>simp[h1,h2]
    have l1:R2.length<lim:=o3 (by omega)
    have l2:R2.length+1<lim:=o3 (by omega)
    obtain⟨R3,hR3⟩:∃ R3,R3=R2++[eb]:=⟨_,rfl⟩
    have g1:eE 3 (mOp gN (b5 (ak (mC (.int 101)) (ak (mC (.int 69)) aJ))) (mOp cH (mOp dH (ao 0) (mC (.int 41))) (mC (.int 2)))) (nE n (some (.sh (.lst (W.map .int)))) (some (.ow (R2.map .int))) (some (.sh (.int V2))) x2 (some (.sh (.int (-((bY n).length:Int))))) (some (.sh (.int (M:Int)))) none)=.nx (nE n (some (.sh (.lst (W.map .int)))) (some (.ow (R3.map .int))) (some (.sh (.int V2))) x2 (some (.sh (.int (-((bY n).length:Int))))) (some (.sh (.int (M:Int)))) none):=by
     rw[hR3];simp -implicitDefEqProofs [hat,l1]
    have hR3l:R3.length<=11:=by rw[hR3];simp;omega
    have l3:R3.length<lim:=o3 (by omega)
    obtain⟨R4,hR4⟩:∃ R4,R4=R3++sx:=⟨_,rfl⟩
    have g2:bc (cU (ao 8)) (eE 3 (mC (.int 45))) (bc (aB (mOp gEq (mOp cH (mOp dH (ao 0) (mC (.int 43))) (mC (.int 3))) (mC (.int 2)))) (eE 3 (mC (.int 43))) aS) (nE n (some (.sh (.lst (W.map .int)))) (some (.ow (R3.map .int))) (some (.sh (.int V2))) x2 (some (.sh (.int (-((bY n).length:Int))))) (some (.sh (.int (M:Int)))) (some (.sh (.bl (decide (n/43%3=1))))))=.nx (nE n (some (.sh (.lst (W.map .int)))) (some (.ow (R4.map .int))) (some (.sh (.int V2))) x2 (some (.sh (.int (-((bY n).length:Int))))) (some (.sh (.int (M:Int)))) (some (.sh (.bl (decide (n/43%3=1)))))):=by
     rw[hR4,hsx]
     by_cases h1:n/43%3=1
     . simp -implicitDefEqProofs [h1,l3]
     . by_cases h2:n/43%3=2<;>simp -implicitDefEqProofs [h1,h2,l3]
    have hR4l:R4.length<=12:=by rw[hR4];simp;omega
    have l4:R4.length<lim:=o3 (by omega)
    obtain⟨R5,hR5⟩:∃ R5,R5=R4++zx:=⟨_,rfl⟩
    have g3:bc (aB (mOp gEq (mOp cH (mOp dH (ao 0) (mC (.int 47))) (mC (.int 4))) (mC (.int 1)))) (eE 3 (mC (.int 48))) aS (nE n (some (.sh (.lst (W.map .int)))) (some (.ow (R4.map .int))) (some (.sh (.int V2))) x2 (some (.sh (.int (-((bY n).length:Int))))) (some (.sh (.int (M:Int)))) (some (.sh (.bl (decide (n/43%3=1))))))=.nx (nE n (some (.sh (.lst (W.map .int)))) (some (.ow (R5.map .int))) (some (.sh (.int V2))) x2 (some (.sh (.int (-((bY n).length:Int))))) (some (.sh (.int (M:Int)))) (some (.sh (.bl (decide (n/43%3=1)))))):=by
     rw[hR5,hzx]
     by_cases h1:n/47%4=1<;>simp -implicitDefEqProofs [h1,l4]
    have hR5l:R5.length<=13:=by rw[hR5];simp;omega
    have l5:R5.length+(cX M).length<=lim:=fi (by omega)
    have hcs:=AR (me:=fU) (f:=fun c=>.int (c:Int)) M (by omega) (fun c _=>LB c) (ao 7) (nE n (some (.sh (.lst (W.map .int)))) (some (.ow (R5.map .int))) (some (.sh (.int V2))) x2 (some (.sh (.int (-((bY n).length:Int))))) (some (.sh (.int (M:Int)))) (some (.sh (.bl (decide (n/43%3=1)))))) (by simp)
    have hdd:(dN M).map (fun c:Nat=>PV.int (c:Int))=(cX M).map .int:=by rw[<- vt,List.map_map];rfl
    rw[hdd]at hcs
    have g4:bq 3 (mOp nu (ao 3) (ql (mUn qL (ao 7)) [] fU)) (nE n (some (.sh (.lst (W.map .int)))) (some (.ow (R5.map .int))) (some (.sh (.int V2))) x2 (some (.sh (.int (-((bY n).length:Int))))) (some (.sh (.int (M:Int)))) (some (.sh (.bl (decide (n/43%3=1))))))=.nx (nE n (some (.sh (.lst (W.map .int)))) (some (.ow ((R5++cX M).map .int))) (some (.sh (.int V2))) x2 (some (.sh (.int (-((bY n).length:Int))))) (some (.sh (.int (M:Int)))) (some (.sh (.bl (decide (n/43%3=1)))))):=by
     simp -implicitDefEqProofs only[BQ,Jy,hcs,BH,List.getElem?_cons_succ,List.getElem?_cons_zero,q9,Gh,GI,Mr,List.length_map,l5,if_true,yZ,hU,G0,List.set_cons_succ,List.set_cons_zero,List.map_append]
    have hRex:R5++cX M=R2++exB (gG n):=by
     rw[hex,hR5,hR4,hR3];show _=R2++(eb ::(sx++(zx++cX M)));simp
    rw[hRex]at g4
    have g5:bq 6 (mOp dU (ao 6) (gH (cU (ao 8)) (mUn gU (ao 7)) (ao 7))) (nE n (some (.sh (.lst (W.map .int)))) (some (.ow ((R2++exB (gG n)).map .int))) (some (.sh (.int V2))) x2 (some (.sh (.int (-((bY n).length:Int))))) (some (.sh (.int (M:Int)))) (some (.sh (.bl (decide (n/43%3=1))))))=.nx (nE n (some (.sh (.lst (W.map .int)))) (some (.ow ((R2++exB (gG n)).map .int))) (some (.sh (.int V2))) x2 (some (.sh (.int (exV (gG n) - (bY n).length)))) (some (.sh (.int (M:Int)))) (some (.sh (.bl (decide (n/43%3=1)))))):=by
     rw[hexv];generalize (R2++exB (gG n)).map PV.int=RR
     by_cases h1:n/43%3=1
     . have e:-((bY n).length:Int) + -(M:Int)=-(M:Int) - (bY n).length:=by omega
       simp -implicitDefEqProofs [h1,e]
     . have e:-((bY n).length:Int)+(M:Int)=(M:Int) - (bY n).length:=by omega
       simp -implicitDefEqProofs [h1,e]
    have g0:bq 7 (mOp cH (mOp dH (ao 0) (mC (.int 37))) (mC (.int 30))) (nE n (some (.sh (.lst (W.map .int)))) (some (.ow (R2.map .int))) (some (.sh (.int V2))) x2 (some (.sh (.int (-((bY n).length:Int))))) none none)=.nx (nE n (some (.sh (.lst (W.map .int)))) (some (.ow (R2.map .int))) (some (.sh (.int V2))) x2 (some (.sh (.int (-((bY n).length:Int))))) (some (.sh (.int (M:Int)))) none):=by
     simp -implicitDefEqProofs [hM1]
    have g1b:bq 8 (mOp gEq (mOp cH (mOp dH (ao 0) (mC (.int 43))) (mC (.int 3))) (mC (.int 1))) (nE n (some (.sh (.lst (W.map .int)))) (some (.ow (R3.map .int))) (some (.sh (.int V2))) x2 (some (.sh (.int (-((bY n).length:Int))))) (some (.sh (.int (M:Int)))) none)=.nx (nE n (some (.sh (.lst (W.map .int)))) (some (.ow (R3.map .int))) (some (.sh (.int V2))) x2 (some (.sh (.int (-((bY n).length:Int))))) (some (.sh (.int (M:Int)))) (some (.sh (.bl (decide (n/43%3=1)))))):=by
     simp -implicitDefEqProofs
    have gt:aB (mOp gEq (mOp cH (mOp dH (ao 0) (mC (.int 31))) (mC (.int 3))) (mC (.int 1))) (nE n (some (.sh (.lst (W.map .int)))) (some (.ow (R2.map .int))) (some (.sh (.int V2))) x2 (some (.sh (.int (-((bY n).length:Int))))) none none)=.ok true:=by
     simp -implicitDefEqProofs [h31]
    rw[B0,gt];simp only[eK,if_true,oY,g0,i5,g1,g1b,g2,g3,g4,g5]
  . refine⟨none,none,?_⟩
    have hex:gG n=none:=by unfold gG;rw[if_neg h31]
    rw[hex]
    have e:(0:Int) - ((bY n).length:Int)=-((bY n).length:Int):=by omega
    simp -implicitDefEqProofs [h31,exB,exV,e]
 obtain⟨y,z,c5⟩:=c5
 have hnb:R2++exB (gG n)=PG.nb (eO n):=by
  rw[hR2,hR1,hsg];show _=(if(decide (n%3=0))=true then[45]else[])++(cX (n/3%100000).toNat++(frB (bY n)++exB (gG n)));rw[<- hK];simp
 rw[hnb]at c5
 have hmw:(if n%3=0 then -V2 else V2)=mwV (eO n):=by
  rw[hV2e];show _=(if decide (n%3=0)=true then -cv (cX (n/3%100000).toNat++bY n)else cv (cX (n/3%100000).toNat++bY n));rw[<- hK];simp
 have c6:bc (cU (ao 1)) (bq 4 (mUn gU (ao 4))) aS (nE n (some (.sh (.lst (W.map .int)))) (some (.ow ((PG.nb (eO n)).map .int))) (some (.sh (.int V2))) x2 (some (.sh (.int (exV (gG n) - (bY n).length)))) y z)=.nx (nE n (some (.sh (.lst (W.map .int)))) (some (.ow ((PG.nb (eO n)).map .int))) (some (.sh (.int (mwV (eO n))))) x2 (some (.sh (.int (exV (gG n) - (bY n).length)))) y z):=by
  rw[<- hmw]
  by_cases h:n%3=0<;>simp -implicitDefEqProofs [h]
 have hpl':fz [.int (mwV (eO n)),.int (exV (gG n) - (bY n).length)]=.ok (.sh (pairOf 20 (mwV (eO n)) (exV (gG n) - (bY n).length))):=hpl
 have c7:fin (lb (nE n (some (.sh (.lst (W.map .int)))) (some (.ow ((PG.nb (eO n)).map .int))) (some (.sh (.int (mwV (eO n))))) x2 (some (.sh (.int (exV (gG n) - (bY n).length)))) y z))=.ok (.sh (.tup [.lst ((PG.nb (eO n)).map .int),pairOf 20 (mwV (eO n)) (exV (gG n) - (bY n).length)])):=by
  generalize PG.nb (eO n)=RR;simp -implicitDefEqProofs [lb,lD,hpl']
 have c0:bq 1 (mOp gEq (mOp cH (ao 0) (mC (.int 3))) (mC (.int 0))) [some (.sh (.int n)),none,none,none,none,none,none,none,none]=.nx (nE n none none none none none none none):=by
  simp -implicitDefEqProofs
 have c3b:bq 4 (mC (.int 0)) (nE n (some (.ow (W.map .int))) (some (.ow (R1.map .int))) none none none none none)=.nx (nE n (some (.ow (W.map .int))) (some (.ow (R1.map .int))) (some (.sh (.int 0))) none none none none):=by simp -implicitDefEqProofs
 have c3c:iB 2 (uV 5 (ao 2) fT) (nE n (some (.ow (W.map .int))) (some (.ow (R1.map .int))) (some (.sh (.int 0))) none none none none)=.nx (nE n (some (.sh (.lst (W.map .int)))) (some (.ow (R1.map .int))) (some (.sh (.int V1))) x1 none none none):=by
  simp -implicitDefEqProofs [lD,w1']
 have c3d:bq 6 (mC (.int 0)) (nE n (some (.sh (.lst (W.map .int)))) (some (.ow (R1.map .int))) (some (.sh (.int V1))) x1 none none none)=.nx (nE n (some (.sh (.lst (W.map .int)))) (some (.ow (R1.map .int))) (some (.sh (.int V1))) x1 (some (.sh (.int 0))) none none):=by simp -implicitDefEqProofs
 simp -implicitDefEqProofs only[gy,tD,CA,tV,List.map_cons,List.map_nil,List.length_cons,List.length_nil,List.replicate,List.cons_append,List.nil_append,oY,c0,i5,p5,c1,qE,c2,pY,c3,qr,c3b,qA,c3c,qe,c3d,qM,c4,qq,c5,p9,c6]
 exact c7
noncomputable def wc(j:Int):Int:=if j=0 then 32 else if j=1 then 9 else if j=2 then 10 else 13
noncomputable def lwh(n:Int):List Int:=if 0<n%4 then[]else(List.range (n/64%3+1).toNat).map fun k:Nat=>wc (n/4/(1+3*(k:Int))%4)
theorem Lk(j:Int):wht (wc j)=true:=by
 unfold wc;split
 . rfl
 . split
   . rfl
   . split<;>rfl
theorem dE(n:Int):∀ b∈lwh n,wht b=true:=by
 unfold lwh;split
 . simp
 . intro b hb;obtain⟨k,_,rfl⟩:=List.mem_map.mp hb;exact Lk _
theorem gg(n:Int):(lwh n).length<=3:=by
 unfold lwh;split
 . simp
 . simp;omega
theorem DK(n:Int)(j:Nat)(hj:j<3):ku [some (.sh (.int n)),some (.sh (.int j))]=.ok (.sh (.int (wc (n/4/(1+3*(j:Int))%4)))):=by
 have h:¬ (1+3*(j:Int))=0:=by omega
 obtain⟨r,hr⟩:∃ r,r=n/4/(1+3*(j:Int))%4:=⟨_,rfl⟩
 have h4:r=0 \/ r=1 \/ r=2 \/ r=3:=by omega
 rw[<- hr]
 have h5:0<(1+3*(j:Int)):=by omega
 have h6:(1+3*(j:Int))<1073741824:=by omega
 simp -implicitDefEqProofs [ku,h,h5,h6,<- hr]
 rcases h4 with h|h|h|h<;>rw[h]<;>rfl
theorem ee(n:Int):cI [.int n]=.ok (.fr ((lwh n).map .int)):=by
 have el:∀ m:Nat,m<=3->da ku [some (.sh (.int n))] (cT m)=.ok ((List.range m).map fun j:Nat=>.int (wc (n/4/(1+3*(j:Int))%4))):=fun m hm=>by
  unfold cT
  refine jV _ fun j hj=>?_
  exact DK n j (by have:=List.mem_range.mp hj;omega)
 have h1:-4611686018427387904<=n/64%3+1 /\ n/64%3+1<4611686018427387904:=by omega
 by_cases h:0<n%4
 . simp[cI,pO,h,lwh]
 . have hp:(lwh n).map PV.int = (List.range (n / 64 % 3 + 1).toNat).map fun j:Nat=>.int (wc (n / 4 / (1 + 3 * (j:Int)) % 4)):=by
    unfold lwh;rw[if_neg h,List.map_map];rfl
   rw[hp];have h2:=el (n/64%3+1).toNat (by omega);simp -implicitDefEqProofs [cI,pO,h,dw,h2,h1];unfold lim;omega
noncomputable def lnm(ns:List Int)(n:Int):List Int:=if n%2=0 then[97+n/2%3]else PG.points ns (11+n/2%37)
theorem wX(ns:List Int)(n:Int):(lnm ns n).all nI=true /\ (lnm ns n).length<14:=by
 unfold lnm;split
 . refine⟨?_,by simp⟩
   have h:n/2%3=0 \/ n/2%3=1 \/ n/2%3=2:=by omega
   rcases h with h|h|h<;>rw[h]<;>decide
 . exact⟨qZ _ _,sf _ _⟩
theorem ox(ns:List Int)(n:Int):ie [.lst (ns.map .int),.int n]=.ok (.fr ((lnm ns n).map .int)):=by
 unfold lnm
 by_cases h:n%2=0
 . simp[ie,sm,h]
 . simp[ie,sm,h,il]
noncomputable def gi(ns:List Int)(n:Int):Lf:=
 if n/5%6=0 then .wd .null else if n/5%6=1 then .wd .tru else if n/5%6=2 then .wd .fal
 else if n/5%6=3 then .tx (lts (PG.points ns (7+n%41)) (n/30) 0)else .nm (eO (n/7))
noncomputable def lfK:Lf->String
 |.wd .null=>"null" | .wd .tru=>"true" | .wd .fal=>"false" | .tx _=>"text" | .nm _=>"number"
theorem yn(ns:List Int)(n:Int):Lok (gi ns n):=by
 unfold gi;split
 . trivial
 . split
   . trivial
   . split
     . trivial
     . split
       . exact FN _ _ _ (qZ _ _)
       . exact Aw _
theorem ze(k:Nat)(n p:Int):∃ a b,pairOf k n p=.tup [.int a,.int b]:=by
 unfold pairOf;split
 . exact⟨_,_,rfl⟩
 . exact⟨_,_,rfl⟩
noncomputable def eL(row:List Int):OV:=.ol (row.map fun b=>.sh (.int b))
noncomputable def kS(k:Bool):PV:=.str (if k then "row" else "fields")
noncomputable def frO(k:Bool)(items:List PV)(i:Nat)(nm:List Int):OV:=.ol [.sh (kS k),.ol (items.map .sh),.sh (.int i),.sh (.tup (nm.map .int))]
noncomputable def ndO(s:PV)(a b c:Int):OV:=.ol [.sh s,.sh (.int a),.sh (.int b),.sh (.int c)]
noncomputable def brk(k:Bool):Int:=if k then 93 else 125
theorem Aa(xs:List PV):w9 (xs.map .sh)=some xs:=by
 induction xs with
 |nil=>rfl
 |cons x xs ih=>simp[w9,ih]
noncomputable abbrev cE(r:OV)(ns fs:List OV)(a b:Option Sl):ag:=[some (.tr true r),some (.tr true (.ol ns)),some (.tr true (.ol fs)),a,b]
theorem xU(row:List Int)(nodes fs:List OV)(k:Bool)(items:List PV)(i:Nat)(nm:List Int)(s:PV)(a b c:Int)(hi:nodes[i]?=some (ndO s a b c))(hr:row.length<100000)(hn:nodes.length<100000):
  qb (cE (eL row) nodes (fs++[frO k items i nm]) none none) =
   kh (cE (eL (row++[brk k])) (nodes.set i (ndO s a (row.length+1) nodes.length)) fs (some (.tr false (frO k items i nm))) none):=by
 have hil:i<nodes.length:=by
  rcases Nat.lt_or_ge i nodes.length with z|z
  . exact z
  . rw[List.getElem?_eq_none z]at hi;cases hi
 have e0:iE 3 (m6 2 aI) (cE (eL row) nodes (fs++[frO k items i nm]) none none) =
   .nx (cE (eL row) nodes fs (some (.tr false (frO k items i nm))) none):=by
  unfold iE;rw[IT (ts:=fs) (x:=frO k items i nm) rfl];simp[frO,slO,nio]
 have p3:∀(x y z u:Option Sl) (ix:ag->OE) (j:Nat) (v:OV),ix [x,y,z,some (.tr false (frO k items i nm)),u]=.ok (.sh (.int j))->j<4->[OV.sh (kS k),.ol (items.map .sh),.sh (.int i),.sh (.tup (nm.map .int))][j]?=some v->subAt 3 (pIx 3 aI ix) [x,y,z,some (.tr false (frO k items i nm)),u]=some v:=fun x y z u ix j v h1 h2 h3=>
  subAt_one (bN rfl rfl) (lF (bN rfl rfl) h1 rfl (by simp[ixP];omega)) h3
 unfold qb;rw[bt e0];unfold rY
 have hd:∀(x y z u:Option Sl),mD (gH (aB (mOp gEq (cZ 3 (pIx 3 aI (mC (.int 0)))) (mC (.str "row")))) (mC (.int 93)) (mC (.int 125))) [x,y,z,some (.tr false (frO k items i nm)),u]=.ok (.sh (.int (brk k))):=fun x y z u=>by
  have:=oU (p3 x y z u (mC (.int 0)) 0 (.sh (kS k)) rfl (by omega) rfl)
  cases k<;>simp -implicitDefEqProofs [mD,gH,aB,this,kS,brk,gEq,eqS,aH]
 have e1:bR 0 aI (mD (gH (aB (mOp gEq (cZ 3 (pIx 3 aI (mC (.int 0)))) (mC (.str "row")))) (mC (.int 93)) (mC (.int 125)))) (cE (eL row) nodes fs (some (.tr false (frO k items i nm))) none) =
   .nx (cE (eL (row++[brk k])) nodes fs (some (.tr false (frO k items i nm))) none):=by
  rw[vA (ts:=row.map fun b=>.sh (.int b)) rfl (hd _ _ _ _) (by rw[List.length_map];exact fi (n:=row.length+1) (by omega))];simp[eL]
 rw[bt e1]
 have px:∀(x z u:Option Sl) (ns:List OV),ns.length=nodes.length->pIx 1 aI (cZ 3 (pIx 3 aI (mC (.int 2)))) [x,some (.tr true (.ol ns)),z,some (.tr false (frO k items i nm)),u]=some [.ix i]:=fun x z u ns hns=>
  lF (bN rfl rfl) (oU (p3 x _ z u (mC (.int 2)) 2 (.sh (.int i)) rfl (by omega) rfl)) rfl (by simp[ixP];omega)
 unfold rR
 have e2:pX 1 (pIx 1 aI (cZ 3 (pIx 3 aI (mC (.int 2))))) (mC (.int 2)) (mD (gF 0 aI)) (cE (eL (row++[brk k])) nodes fs (some (.tr false (frO k items i nm))) none) =
   .nx (cE (eL (row++[brk k])) (nodes.set i (ndO s a (row.length+1) c)) fs (some (.tr false (frO k items i nm))) none):=by
  have hl:=wa (jq (ρ:=(cE (eL (row++[brk k])) nodes fs (some (.tr false (frO k items i nm))) none)) (i:=0) (bN rfl rfl));rw[vF (j2:=2) rfl (px _ _ _ nodes rfl) hi rfl rfl rfl (x:=.sh (.int (row.length+1))) (by unfold mD;rw[hl];simp)];rfl
 rw[bt e2];unfold rO
 have e3:pX 1 (pIx 1 aI (cZ 3 (pIx 3 aI (mC (.int 2))))) (mC (.int 3)) (mD (gF 1 aI)) (cE (eL (row++[brk k])) (nodes.set i (ndO s a (row.length+1) c)) fs (some (.tr false (frO k items i nm))) none) =
   .nx (cE (eL (row++[brk k])) (nodes.set i (ndO s a (row.length+1) nodes.length)) fs (some (.tr false (frO k items i nm))) none):=by
  have hl:=wa (jq (ρ:=(cE (eL (row++[brk k])) (nodes.set i (ndO s a (row.length+1) c)) fs (some (.tr false (frO k items i nm))) none)) (i:=1) (bN rfl rfl))
  have hi2:(nodes.set i (ndO s a (row.length+1) c))[i]?=some (ndO s a (row.length+1) c):=by simp[hil]
  rw[vF (j2:=3) rfl (px _ _ _ _ (by simp)) hi2 rfl rfl rfl (x:=.sh (.int nodes.length)) (by unfold mD;rw[hl];simp)];simp[ndO]
 rw[bt e3]
theorem xY(x y z:Option Sl)(k:Bool)(items:List PV)(i:Nat)(nm:List Int)(hit:items.length<100000):
  bq 4 (fh (ak (cZ 3 (pIx 3 aI (mC (.int 0)))) (ak (mUn nG (cZ 3 (pIx 3 aI (mC (.int 1))))) aJ))) [x,y,z,some (.tr false (frO k items i nm)),none] =
   .nx [x,y,z,some (.tr false (frO k items i nm)),some (.sh (.tup [kS k,.tup items]))]:=by
 have p3:∀(ix:ag->OE) (j:Nat) (v:OV),ix [x,y,z,some (.tr false (frO k items i nm)),none]=.ok (.sh (.int j))->j<4->[OV.sh (kS k),.ol (items.map .sh),.sh (.int i),.sh (.tup (nm.map .int))][j]?=some v->subAt 3 (pIx 3 aI ix) [x,y,z,some (.tr false (frO k items i nm)),none]=some v:=fun ix j v h1 h2 h3=>
  subAt_one (bN rfl rfl) (lF (bN rfl rfl) h1 rfl (by simp[ixP];omega)) h3
 have h0:=oU (p3 (mC (.int 0)) 0 (.sh (kS k)) rfl (by omega) rfl)
 have h1:cZ 3 (pIx 3 aI (mC (.int 1))) [x,y,z,some (.tr false (frO k items i nm)),none]=.ok (.al items):=by
  unfold cZ;rw[p3 (mC (.int 1)) 1 (.ol (items.map .sh)) rfl (by omega) rfl];simp only[Aa]
 simp -implicitDefEqProofs [bq,h0,h1,nG]
theorem BR(row:List Int)(nodes:List OV)(k:Bool)(items:List PV)(i:Nat)(nm:List Int)(s:PV)(a b c:Int)(hi:nodes[i]?=some (ndO s a b c))(hr:row.length<100000)(hn:nodes.length<100000)(hit:items.length<100000):
  cV [.tr true (eL row),.tr true (.ol nodes),.tr true (.ol [frO k items i nm])] =
   .ok (.tup [kS k,.tup items]) [some (eL (row++[brk k])),some (.ol (nodes.set i (ndO s a (row.length+1) nodes.length))),some (.ol [])]:=by
 unfold cV fnI;have e:=xU row nodes [] k items i nm s a b c hi hr hn;rw[List.nil_append]at e
 have e0:lg 5 [.tr true (eL row),.tr true (.ol nodes),.tr true (.ol [frO k items i nm])]=(cE (eL row) nodes [frO k items i nm] none none):=rfl
 rw[if_pos (show List.length [Sl.tr true (eL row),Sl.tr true (.ol nodes),Sl.tr true (.ol [frO k items i nm])]=3 from rfl),e0,e];unfold kh;rw[bt (xY _ _ _ k items i nm hit)];unfold nK;have h:=vZ (jq (ρ:=(cE (eL (row++[brk k])) (nodes.set i (ndO s a (row.length+1) nodes.length)) [] (some (.tr false (frO k items i nm))) (some (.sh (.tup [kS k,.tup items]))))) (i:=2) (bN rfl rfl));simp -implicitDefEqProofs [bc,h,ko,gj,uq,pN]
theorem BE(row:List Int)(nodes gs:List OV)(k k':Bool)(items items':List PV)(i i':Nat)(nm nm':List Int)(s s2:PV)(a b c a2 b2 c2:Int)(hi:nodes[i]?=some (ndO s a b c))(hr:row.length<100000)(hn:nodes.length<100000)(hit:items.length<100000)(hit':items'.length<100000)
  (h2:k'=false->1<=i /\ nodes[i - 1]?=some (ndO s2 a2 b2 c2)):
  cV [.tr true (eL row),.tr true (.ol nodes),.tr true (.ol (gs++[frO k' items' i' nm']++[frO k items i nm]))] =
   .ok (.tup [kS k,.tup items]) [some (eL (row++[brk k])),some (.ol (if k' then nodes.set i (ndO s a (row.length+1) nodes.length)else(nodes.set i (ndO s a (row.length+1) nodes.length)).set (i - 1) (ndO s2 a2 b2 nodes.length))),
    some (.ol (gs++[frO k' (items'++[if k' then .tup [kS k,.tup items]else .tup [.tup (nm.map .int),.tup [kS k,.tup items]]]) i' nm']))]:=by
 have hil:i<nodes.length:=by
  rcases Nat.lt_or_ge i nodes.length with z|z
  . exact z
  . rw[List.getElem?_eq_none z]at hi;cases hi
 unfold cV fnI;have e:=xU row nodes (gs++[frO k' items' i' nm']) k items i nm s a b c hi hr hn
 have e0:lg 5 [.tr true (eL row),.tr true (.ol nodes),.tr true (.ol (gs++[frO k' items' i' nm']++[frO k items i nm]))]=(cE (eL row) nodes (gs++[frO k' items' i' nm']++[frO k items i nm]) none none):=rfl
 rw[if_pos (show List.length [Sl.tr true (eL row),Sl.tr true (.ol nodes),Sl.tr true (.ol (gs++[frO k' items' i' nm']++[frO k items i nm]))]=3 from rfl),e0,e];unfold kh;rw[bt (xY _ _ _ k items i nm hit)];unfold nK;generalize hN:nodes.set i (ndO s a (row.length+1) nodes.length)=N
 have hNl:N.length=nodes.length:=by rw[<- hN];simp
 generalize hv:PV.tup [kS k,.tup items]=val;generalize hR:eL (row++[brk k])=R;have h:=vZ (jq (ρ:=(cE R N (gs++[frO k' items' i' nm']) (some (.tr false (frO k items i nm))) (some (.sh val)))) (i:=2) (bN rfl rfl))
 have hg:∀ u:OV,(gs++[u])[gs.length]?=some u:=fun u=>by simp
 have px:∀(x y w v:Option Sl) (u:OV),pIx 2 aI (mUn gU (mC (.int 1))) [x,y,some (.tr true (.ol (gs++[u]))),w,v]=some [.ix gs.length]:=fun x y w v u=>
  lF (bN rfl rfl) (r:=.sh (.int (-1))) (by simp) rfl (by simp[ixP];omega)
 have p0:∀(x y w v:Option Sl) (its:List PV),cZ 2 (pIx 2 (pIx 2 aI (mUn gU (mC (.int 1)))) (mC (.int 0))) [x,y,some (.tr true (.ol (gs++[frO k' its i' nm']))),w,v]=.ok (.sh (kS k')):=fun x y w v its=>
  oU (uK (bN rfl rfl) (yz (bN rfl rfl) (px _ _ _ _ _) (hg _) (k:=0) (j2:=0) rfl rfl rfl) (hg _) rfl)
 have e1:bR 2 (pIx 2 (pIx 2 aI (mUn gU (mC (.int 1)))) (mC (.int 1))) (mD (gH (aB (mOp gEq (cZ 2 (pIx 2 (pIx 2 aI (mUn gU (mC (.int 1)))) (mC (.int 0)))) (mC (.str "row")))) (ao 4) (fh (ak (cZ 3 (pIx 3 aI (mC (.int 3)))) (ak (ao 4) aJ)))))
   (cE R N (gs++[frO k' items' i' nm']) (some (.tr false (frO k items i nm))) (some (.sh val))) =
   .nx (cE R N (gs++[frO k' (items'++[if k' then val else .tup [.tup (nm.map .int),val]]) i' nm']) (some (.tr false (frO k items i nm))) (some (.sh val))):=by
  have p3:cZ 3 (pIx 3 aI (mC (.int 3))) (cE R N (gs++[frO k' items' i' nm']) (some (.tr false (frO k items i nm))) (some (.sh val)))=.ok (.sh (.tup (nm.map .int))):=
   oU (subAt_one (bN rfl rfl) (lF (bN rfl rfl) (k:=3) (j:=3) rfl rfl rfl) rfl)
  have hd:mD (gH (aB (mOp gEq (cZ 2 (pIx 2 (pIx 2 aI (mUn gU (mC (.int 1)))) (mC (.int 0)))) (mC (.str "row")))) (ao 4) (fh (ak (cZ 3 (pIx 3 aI (mC (.int 3)))) (ak (ao 4) aJ))))
    (cE R N (gs++[frO k' items' i' nm']) (some (.tr false (frO k items i nm))) (some (.sh val)))=.ok (.sh (if k' then val else .tup [.tup (nm.map .int),val])):=by
   have q0:=p0 (some (.tr true R)) (some (.tr true (.ol N))) (some (.tr false (frO k items i nm))) (some (.sh val)) items'
   cases k'<;>simp -implicitDefEqProofs [mD,gH,aB,q0,p3,kS,gEq,eqS,aH]
  rw[CZ (j:=gs.length) (j2:=1) rfl (yz (bN rfl rfl) (px _ _ _ _ _) (hg _) (k:=1) (j2:=1) rfl rfl rfl) (hg _) (xs:=items'.map .sh) rfl hd (by rw[List.length_map];exact fi (n:=items'.length+1) (by omega))];simp[frO]
 cases k' with
 | true=>
   have q0:=p0 (some (.tr true R)) (some (.tr true (.ol N))) (some (.tr false (frO k items i nm))) (some (.sh val)) (items'++[val]);rw[if_pos rfl]at e1
   have hb:(!(gs++[frO true items' i' nm']).isEmpty)=true:=by simp
   rw[hb]at h;refine Eq.trans (congrArg _ (bt (ρ':=(cE R N (gs++[frO true (items'++[val]) i' nm']) (some (.tr false (frO k items i nm))) (some (.sh val)))) ?_)) ?_
   . unfold bc;rw[h];refine Eq.trans (bt e1) ?_;simp -implicitDefEqProofs [bc,aB,q0,kS,gEq,eqS,aH]
   . simp -implicitDefEqProofs [ko,gj,uq,pN]
 | false=>
   obtain⟨h1,h3⟩:=h2 rfl;have q0:=p0 (some (.tr true R)) (some (.tr true (.ol N))) (some (.tr false (frO k items i nm))) (some (.sh val)) (items'++[.tup [.tup (nm.map .int),val]]);rw[if_neg (by simp)]at e1
   have hb:(!(gs++[frO false items' i' nm']).isEmpty)=true:=by simp
   rw[hb]at h
   have hN1:N[i - 1]?=some (ndO s2 a2 b2 c2):=by rw[<- hN,List.getElem?_set_ne (by omega)];exact h3
   have hp2:mOp xo (cZ 3 (pIx 3 aI (mC (.int 2)))) (mC (.int 1)) (cE R N (gs++[frO false (items'++[.tup [.tup (nm.map .int),val]]) i' nm']) (some (.tr false (frO k items i nm))) (some (.sh val)))=.ok (.sh (.int (i - 1:Int))):=by
    have q2:=oU (ρ:=(cE R N (gs++[frO false (items'++[.tup [.tup (nm.map .int),val]]) i' nm']) (some (.tr false (frO k items i nm))) (some (.sh val)))) (i:=3) (mp:=pIx 3 aI (mC (.int 2))) (x:=.int i) (subAt_one (bN rfl rfl) (lF (bN rfl rfl) (k:=2) (j:=2) rfl rfl rfl) rfl);simp[q2]
   have hl:=wa (jq (ρ:=(cE R N (gs++[frO false (items'++[.tup [.tup (nm.map .int),val]]) i' nm']) (some (.tr false (frO k items i nm))) (some (.sh val)))) (i:=1) (bN rfl rfl))
   have e3:=vF (ρ:=(cE R N (gs++[frO false (items'++[.tup [.tup (nm.map .int),val]]) i' nm']) (some (.tr false (frO k items i nm))) (some (.sh val)))) (i:=1) (io:=true) (ts:=N) (j:=i - 1) (j2:=3) (mk:=mC (.int 3)) (md:=mD (gF 1 aI)) (x:=.sh (.int N.length)) rfl
    (lF (i:=1) (ts:=N) (bN (s:=.tr true (.ol N)) rfl rfl) hp2 rfl (by rw[show((i:Int) - 1)=((i - 1:Nat):Int) by omega];unfold ixP;rw[if_pos (by omega),if_pos (by omega)];simp)) hN1 rfl rfl rfl (by unfold mD;rw[hl])
   refine Eq.trans (congrArg _ (bt (ρ':=(cE R (N.set (i - 1) (ndO s2 a2 b2 N.length)) (gs++[frO false (items'++[.tup [.tup (nm.map .int),val]]) i' nm']) (some (.tr false (frO k items i nm))) (some (.sh val)))) ?_)) ?_
   . unfold bc;rw[h];refine Eq.trans (bt e1) ?_;simp -implicitDefEqProofs [bc,aB,q0,kS,gEq,eqS,aH];exact e3
   . rw[hNl];simp -implicitDefEqProofs [ko,gj,uq,pN]
structure Fr where
 k:Bool
 items:List PV
 i:Nat
 nm:List Int
structure Nd where
 s:String
 a:Int
 b:Int
 c:Int
structure Bd where
 row:List Int
 nodes:List Nd
 frs:List Fr
 val:PV
noncomputable def Fr.o(f:Fr):OV:=frO f.k f.items f.i f.nm
noncomputable def Nd.o(d:Nd):OV:=ndO (.str d.s) d.a d.b d.c
noncomputable def kI(fs:List Fr):OV:=.ol (fs.reverse.map Fr.o)
noncomputable def lW(ns:List Nd):OV:=.ol (ns.map Nd.o)
theorem lM(f:Fr)(fs:List Fr):kI (f ::fs)=.ol (fs.reverse.map Fr.o++[f.o]):=by simp[kI]
noncomputable def full:List Fr->Bool
 |f ::_=>!f.items.isEmpty
 |[]=>false
noncomputable def inF:List Fr->Bool
 |f ::_=>!f.k
 |[]=>false
theorem rZ{ρ:ag}{i:Nat}{io:Bool}{fs:List Fr}(h:ρ[i]?=some (some (.tr io (kI fs)))):dG i aI ρ=.ok (!fs.isEmpty):=by
 rw[vZ (jq (bN h rfl))]
 cases fs<;>simp
theorem IU{ρ:ag}{i:Nat}{io:Bool}{f:Fr}{fs:List Fr}(h:ρ[i]?=some (some (.tr io (kI (f ::fs))))):pIx i aI (mUn gU (mC (.int 1))) ρ=some [.ix fs.length]:=by
 rw[lM]at h;exact lF (bN h rfl) (r:=.sh (.int (-1))) (by simp) rfl (by simp[ixP];omega)
theorem vv(f:Fr)(fs:List Fr):(fs.reverse.map Fr.o++[f.o])[fs.length]?=some f.o:=by simp
theorem wt{ρ:ag}{i:Nat}{io:Bool}{f:Fr}{fs:List Fr}(k:Int)(j:Nat)(hk:k=j)(hj:j<4)(h:ρ[i]?=some (some (.tr io (kI (f ::fs))))):pIx i (pIx i aI (mUn gU (mC (.int 1)))) (mC (.int k)) ρ=some [.ix fs.length,.ix j]:=by
 have h1:=IU h;rw[lM]at h;subst hk;refine yz (bN h rfl) h1 (vv f fs) (k:=j) rfl rfl ?_;simp[ixP];omega
theorem Fz{ρ:ag}{i:Nat}{io:Bool}{fs:List Fr}(h:ρ[i]?=some (some (.tr io (kI fs)))):
  fw (dG i aI) (aB (mOp gEq (cZ i (pIx i (pIx i aI (mUn gU (mC (.int 1)))) (mC (.int 0)))) (mC (.str "fields")))) ρ=.ok (inF fs):=by
 cases fs with
 |nil=>simp[fw,rZ h,inF]
 | cons f fs=>
   have hi:=wt 0 0 rfl (by omega) h
   have h':=h
   rw[lM]at h';have hp:=oU (uK (bN h' rfl) hi (vv f fs) rfl)
   cases hk:f.k<;>simp -implicitDefEqProofs [fw,rZ h,inF,aB,hp,hk,kS,gEq,eqS,aH]
theorem KJ{ρ:ag}{i:Nat}{io:Bool}{fs:List Fr}(h:ρ[i]?=some (some (.tr io (kI fs)))):
  fw (dG i aI) (cU (cZ i (pIx i (pIx i aI (mUn gU (mC (.int 1)))) (mC (.int 1))))) ρ=.ok (full fs):=by
 cases fs with
 |nil=>simp[fw,rZ h,full]
 | cons f fs=>
   have hi:=wt 1 1 rfl (by omega) h
   have h':=h
   rw[lM]at h'
   have hp:cZ i (pIx i (pIx i aI (mUn gU (mC (.int 1)))) (mC (.int 1))) ρ=.ok (.al f.items):=by
    unfold cZ;rw[uK (bN h' rfl) hi (vv f fs) (u:=.ol (f.items.map .sh)) rfl];simp only[Aa]
   simp -implicitDefEqProofs [fw,rZ h,full,cU,hp,vj]
noncomputable def dy(fs:List Fr)(row:List Int)(n:Int):List Int:=row++lwh (n/3)++(if full fs then 44 ::lwh (n/11)else[])
noncomputable def iF(ns:List Int)(n:Int):List Sg:=lts (lnm ns (n/13)) (n/17) 0
noncomputable def oV(ns:List Int)(n:Int):List Int:=lwh (n/19)++58 ::lwh (n/23)
noncomputable def bu(ns:List Int)(B:Bd)(n:Int):List Int:=if inF B.frs then dy B.frs B.row n++PG.txt (iF ns n)++oV ns n else dy B.frs B.row n
noncomputable def aP(ns:List Int)(B:Bd)(n:Int):List Nd:=if inF B.frs then B.nodes++[⟨"name",(dy B.frs B.row n).length,(dy B.frs B.row n++PG.txt (iF ns n)).length,0⟩]else B.nodes
noncomputable def eM(ns:List Int)(B:Bd)(n:Int):List Int:=if inF B.frs then lnm ns (n/13)else[]
theorem xj(fs:List Fr)(row:List Int)(n:Int):(dy fs row n).length<=row.length+7:=by
 unfold dy;have h1:=gg (n/3);have h2:=gg (n/11)
 cases full fs<;>simp<;>omega
theorem Cr(l:List Int)(n:Int)(h:l.all nI=true)(h2:l.length<14):(PG.txt (lts l n 0)).length<=158:=by
 rcases Ci l n 0 with z|z
 . simp[PG.txt];omega
 . rw[h]at z;cases z
theorem xN(ns:List Int)(n:Int):(PG.txt (iF ns n)).length<=158:=Cr _ _ (wX ns _).1 (wX ns _).2
theorem qV(ns:List Int)(B:Bd)(n:Int):(bu ns B n).length<=B.row.length+180:=by
 unfold bu oV;have h1:=xj B.frs B.row n;have h2:=xN ns n;have h3:=gg (n/19);have h4:=gg (n/23)
 cases inF B.frs<;>simp<;>omega
theorem mY{ρ:ag}{i:Nat}{io:Bool}{row ys:List Int}{me:ag->OE}(h:ρ[i]?=some (some (.tr io (eL row))))(he:me ρ=.ok (.fr (ys.map .int)) \/ me ρ=.ok (.sh (.lst (ys.map .int))))(hl:row.length+ys.length<=1000000):dQ i aI me ρ=.nx (ρ.set i (some (.tr io (eL (row++ys))))):=by
 rw[Ga (ts:=row.map fun b=>.sh (.int b)) h he (by rw[List.length_map,List.length_map];exact fi hl)];simp[eL,Function.comp_def]
theorem yG{ρ:ag}{i:Nat}{io:Bool}{row:List Int}{b:Int}{md:ag->OD}(h:ρ[i]?=some (some (.tr io (eL row))))(hd:md ρ=.ok (.sh (.int b)))(hl:row.length<1000000):bR i aI md ρ=.nx (ρ.set i (some (.tr io (eL (row++[b]))))):=by
 rw[vA (ts:=row.map fun b=>.sh (.int b)) h hd (by rw[List.length_map];exact fi (n:=row.length+1) (by omega))];simp[eL]
theorem y8{ρ:ag}{i:Nat}{io:Bool}{nds:List Nd}{d:Nd}{md:ag->OD}(h:ρ[i]?=some (some (.tr io (lW nds))))(hd:md ρ=.ok d.o)(hl:nds.length<1000000):bR i aI md ρ=.nx (ρ.set i (some (.tr io (lW (nds++[d]))))):=by
 rw[vA (ts:=nds.map Nd.o) h hd (by rw[List.length_map];exact fi (n:=nds.length+1) (by omega))];simp[lW]
theorem vG{ρ:ag}{i:Nat}{io:Bool}{row:List Int}(h:ρ[i]?=some (some (.tr io (eL row)))):gF i aI ρ=.ok (.sh (.int row.length)):=by
 rw[wa (jq (bN h rfl)),List.length_map]
theorem yX{ρ:ag}{i:Nat}{io:Bool}{nds:List Nd}(h:ρ[i]?=some (some (.tr io (lW nds)))):gF i aI ρ=.ok (.sh (.int nds.length)):=by
 rw[wa (jq (bN h rfl)),List.length_map]
noncomputable abbrev gE(ns row:List Int)(ds:List Nd)(fs:List Fr)(n:Int)(a b c:Option Sl):ag:=[some (.sh (.lst (ns.map .int))),some (.tr true (eL row)),some (.tr true (lW ds)),some (.tr true (kI fs)),some (.sh (.int n)),a,b,c]
theorem Hb(ns:List Int)(B:Bd)(n:Int)(hr:B.row.length<100000)(hn:B.nodes.length<100000):
  fZ [.sh (.lst (ns.map .int)),.tr true (eL B.row),.tr true (lW B.nodes),.tr true (kI B.frs),.sh (.int n)] =
   .ok (.tup ((eM ns B n).map .int)) [none,some (eL (bu ns B n)),some (lW (aP ns B n)),some (kI B.frs),none]:=by
 have hw:∀(ρ:ag) (d:Int),ρ[4]?=some (some (.sh (.int n)))->0<d->d<1000->bp cI (ak (mOp dH (ao 4) (mC (.int d))) aJ) ρ=.ok (.fr ((lwh (n/d)).map .int)):=fun ρ d h h1 h2=>by
  have h3:¬ d=0:=by omega
  have h4:d<1073741824:=by omega
  simp[h,h1,h3,h4,ee]
 have hbl:=xj B.frs B.row n
 have e0:mV (gE ns B.row B.nodes B.frs n none none none) =
   m8 (gE ns (dy B.frs B.row n) B.nodes B.frs n (some (.sh (.tup []))) none none):=by
  unfold mV;rw[bt (mY rfl (.inl (hw _ 3 rfl (by omega) (by omega))) (by have:=gg (n/3);omega))];unfold rG;rw[bt (ρ':=(gE ns (B.row++lwh (n/3)) B.nodes B.frs n (some (.sh (.tup []))) none none)) (by simp[bq])];unfold rK;refine bt ?_;unfold bc;rw[KJ (fs:=B.frs) rfl];have h3:=gg (n/3);have h11:=gg (n/11)
  cases hf:full B.frs with
  |false=>simp[dy,hf,aS]
  | true=>
    refine Eq.trans (bt (yG (row:=B.row++lwh (n/3)) rfl rfl (by simp;omega))) ?_;refine Eq.trans (mY rfl (.inl (hw _ 11 rfl (by omega) (by omega))) (by simp;omega)) ?_;simp[dy,hf]
 unfold fZ fnI;rw[if_pos (show List.length [Sl.sh (.lst (ns.map .int)),.tr true (eL B.row),.tr true (lW B.nodes),.tr true (kI B.frs),.sh (.int n)]=5 from rfl)];show uq 5 (mV _)=_;rw[show lg 8 [.sh (.lst (ns.map .int)),.tr true (eL B.row),.tr true (lW B.nodes),.tr true (kI B.frs),.sh (.int n)]=(gE ns B.row B.nodes B.frs n none none none) from rfl,e0];unfold m8
 cases hf:inF B.frs with
 | false=>
   rw[bt (ρ':=(gE ns (dy B.frs B.row n) B.nodes B.frs n (some (.sh (.tup []))) none none)) (by
    unfold bc;rw[Fz (fs:=B.frs) rfl,hf]
    rfl)]
   simp[eM,bu,aP,hf,nj,gj,uq,pN]
 | true=>
   generalize hrow:dy B.frs B.row n=row;rw[hrow]at hbl;have ht:=xN ns n;have h19:=gg (n/19);have h23:=gg (n/23);have hnm:=ox ns (n/13);have htx:=j6 (lnm ns (n/13)) (n/17) (wX ns _).1 (by have:=(wX ns (n/13)).2;omega)
   change gB _=.ok (.fr ((PG.txt (iF ns n)).map .int))at htx
   rw[bt (ρ':=(gE ns (bu ns B n) (aP ns B n) B.frs n (some (.sh (.tup ((eM ns B n).map .int)))) (some (.sh (.lst ((lnm ns (n/13)).map .int)))) (some (.sh (.int row.length))))) (by
    unfold bc;rw[Fz (fs:=B.frs) rfl,hf];show aG _ _ _=_;rw[bt (ρ':=(gE ns row B.nodes B.frs n (some (.sh (.tup []))) (some (.ow ((lnm ns (n/13)).map .int))) none)) (by simp[bq,hnm])];rw[bt (ρ':=(gE ns row B.nodes B.frs n (some (.sh (.tup ((eM ns B n).map .int)))) (some (.ow ((lnm ns (n/13)).map .int))) none)) (by simp[bq,nG,eM,hf])];rw[bt (ρ':=(gE ns row B.nodes B.frs n (some (.sh (.tup ((eM ns B n).map .int)))) (some (.ow ((lnm ns (n/13)).map .int))) (some (.sh (.int row.length))))) (by unfold bq;rw[vG (row:=row) rfl];simp)]
    rw[bt (ρ':=(gE ns (row++PG.txt (iF ns n)) B.nodes B.frs n (some (.sh (.tup ((eM ns B n).map .int)))) (some (.sh (.lst ((lnm ns (n/13)).map .int)))) (some (.sh (.int row.length))))) (by
     unfold iB
     exact mY (row:=row) rfl (.inl (by simp[lD,htx])) (by omega))]
    rw[bt (y8 (nds:=B.nodes) (d:=⟨"name",row.length,(row++PG.txt (iF ns n)).length,0⟩) rfl (by
     have:=vG (ρ:=(gE ns (row++PG.txt (iF ns n)) B.nodes B.frs n (some (.sh (.tup ((eM ns B n).map .int)))) (some (.sh (.lst ((lnm ns (n/13)).map .int)))) (some (.sh (.int row.length))))) (i:=1) (row:=row++PG.txt (iF ns n)) rfl
     simp[mD,this,Nd.o,ndO]) (by omega))]
    rw[bt (mY (row:=row++PG.txt (iF ns n)) rfl (.inl (hw _ 19 rfl (by omega) (by omega))) (by simp;omega))];rw[bt (yG (row:=row++PG.txt (iF ns n)++lwh (n/19)) rfl rfl (by simp;omega))];rw[mY (row:=row++PG.txt (iF ns n)++lwh (n/19)++[58]) rfl (.inl (hw _ 23 rfl (by omega) (by omega))) (by simp;omega)]
    simp[bu,aP,hf,hrow,oV])]
   simp[nj,gj,uq,pN]
noncomputable def lfV(ns:List Int)(n:Int):PV:=
 if n/5%6=0 then .non else if n/5%6=1 then .bl true else if n/5%6=2 then .bl false
 else if n/5%6=3 then .tup [.str "text",.tup ((PG.points ns (7+n%41)).map .int)]
 else match pairOf 20 (mwV (eO (n/7))) (exV (eO (n/7)).ex - (eO (n/7)).fr.length)with
  |.tup [.int a,.int b]=>.tup [.str "number",.int a,.int b]
  |_=>.non
theorem HP(ns:List Int)(n:Int)(hn:0<=n):cz [.lst (ns.map .int),.int n]=.ok (.sh (.tup [.str (lfK (gi ns n)),.lst ((lfb (gi ns n)).map .int),lfV ns n])):=by
 have e1:=il ns (7+n%41);have e2:=j6 (PG.points ns (7+n%41)) (n/30) (qZ _ _) (by have:=sf ns (7+n%41);omega);have e3:=lH (n/7) (by omega)
 have e0:cz [.lst (ns.map .int),.int n]=fin (lu [some (.sh (.lst (ns.map .int))),some (.sh (.int n)),some (.sh (.int (n/5%6))),none,none]):=by
  unfold cz fnP;rw[if_pos (show List.length [PV.lst (ns.map .int),.int n]=2 from rfl),show mq 5 [PV.lst (ns.map .int),.int n]=[some (.sh (.lst (ns.map .int))),some (.sh (.int n)),none,none,none] from rfl];unfold mN;rw[bt (ρ':=[some (.sh (.lst (ns.map .int))),some (.sh (.int n)),some (.sh (.int (n/5%6))),none,none]) (by simp[bq])]
 rw[e0]
 have no:∀ i:Int,¬ n/5%6=i->aB (mOp gEq (ao 2) (mC (.int i))) [some (.sh (.lst (ns.map .int))),some (.sh (.int n)),some (.sh (.int (n/5%6))),none,none]=.ok false:=fun i h=>by simp[aB,h]
 have yes:∀ i:Int,n/5%6=i->aB (mOp gEq (ao 2) (mC (.int i))) [some (.sh (.lst (ns.map .int))),some (.sh (.int n)),some (.sh (.int (n/5%6))),none,none]=.ok true:=fun i h=>by simp[aB,h]
 unfold gi lfV
 by_cases h0:n/5%6=0
 . rw[if_pos h0,if_pos h0];exact v7 (ρ:=[some (.sh (.lst (ns.map .int))),some (.sh (.int n)),some (.sh (.int (n/5%6))),none,none]) (st (yes 0 h0) (by simp[lfK,lfb,wdb]))
 rw[if_neg h0,if_neg h0]
 by_cases h1:n/5%6=1
 . rw[if_pos h1,if_pos h1];exact v7 (ρ:=[some (.sh (.lst (ns.map .int))),some (.sh (.int n)),some (.sh (.int (n/5%6))),none,none]) ((sk (no 0 h0)).trans (st (yes 1 h1) (by simp[lfK,lfb,wdb])))
 rw[if_neg h1,if_neg h1]
 by_cases h2:n/5%6=2
 . rw[if_pos h2,if_pos h2];exact v7 (ρ:=[some (.sh (.lst (ns.map .int))),some (.sh (.int n)),some (.sh (.int (n/5%6))),none,none]) ((sk (no 0 h0)).trans ((sk (no 1 h1)).trans (st (yes 2 h2) (by simp[lfK,lfb,wdb]))))
 rw[if_neg h2,if_neg h2]
 by_cases h3:n/5%6=3
 . rw[if_pos h3,if_pos h3];exact v7 (ρ:=[some (.sh (.lst (ns.map .int))),some (.sh (.int n)),some (.sh (.int (n/5%6))),some (.sh (.lst ((PG.points ns (7+n%41)).map .int))),none]) ((sk (no 0 h0)).trans ((sk (no 1 h1)).trans ((sk (no 2 h2)).trans (st (yes 3 h3) ((bt (ρ':=[some (.sh (.lst (ns.map .int))),some (.sh (.int n)),some (.sh (.int (n/5%6))),some (.ow ((PG.points ns (7+n%41)).map .int)),none]) (by simp[bq,e1])).trans (by simp[iB,lD,e2,nG,lfK,lfb]))))))
 rw[if_neg h3,if_neg h3];obtain⟨a,b,hab⟩:=ze 20 (mwV (eO (n/7))) (exV (eO (n/7)).ex - (eO (n/7)).fr.length)
 rw[hab]at e3 ⊢
 exact v7 (ρ:=[some (.sh (.lst (ns.map .int))),some (.sh (.int n)),some (.sh (.int (n/5%6))),none,some (.sh (.tup [.lst ((PG.nb (eO (n/7))).map .int),.tup [.int a,.int b]]))]) ((sk (no 0 h0)).trans ((sk (no 1 h1)).trans ((sk (no 2 h2)).trans ((sk (no 3 h3)).trans ((bt (ρ':=[some (.sh (.lst (ns.map .int))),some (.sh (.int n)),some (.sh (.int (n/5%6))),none,some (.sh (.tup [.lst ((PG.nb (eO (n/7))).map .int),.tup [.int a,.int b]]))]) (by simp[bq,e3])).trans (by simp[lz,eT,atP,ixP,lfK,lfb]))))))
theorem DM(n:Int):(PG.nb (eO n)).length<=30:=by
 have h1:(cX (n/3%100000).toNat).length<=5:=qm 4 _ (by omega)
 have h2:(cX (n/37%30).toNat).length<=2:=qm 1 _ (by omega)
 have h3:(frB (bY n)).length<=4:=by
  have:(bY n).length<=3:=by unfold bY;split<;>simp;omega
  unfold frB
  split<;>simp;omega
 have h4:(exB (gG n)).length<=6:=by
  unfold gG;split
  . have hs:(if n/43%3=1 then[45]else if n/43%3=2 then[43]else[]:List Int).length<=1:=by split;simp;split<;>simp
    have ht:(if n/47%4=1 then[48]else[]:List Int).length<=1:=by split<;>simp
    simp only[exB,List.length_append,List.length_cons];omega
  . simp[exB]
 unfold PG.nb eO;simp only[List.length_append]
 split<;>simp<;>omega
theorem Df(ns:List Int)(n:Int):(lfb (gi ns n)).length<=160:=by
 unfold gi;split
 . simp[lfb,wdb]
 . split
   . simp[lfb,wdb]
   . split
     . simp[lfb,wdb]
     . split
       . have:=Cr (PG.points ns (7+n%41)) (n/30) (qZ _ _) (sf _ _);simp only[lfb];omega
       . have:=DM (n/7);simp only[lfb];omega
noncomputable def gq(nm:List Int)(v:PV):List Fr->List Fr
 |[]=>[]
 |g ::gs=>{ g with items:=g.items++[if g.k then v else .tup [.tup (nm.map .int),v]] } ::gs
noncomputable def Bd.close(B:Bd):Bd:=match B.frs with
 |[]=>B
 | f ::fs=>⟨B.row ++ [brk f.k],
     let ns:=B.nodes.modify f.i fun d=>{ d with b:=B.row.length+1,c:=B.nodes.length }
     if inF fs then ns.modify (f.i - 1) fun d=>{ d with c:=B.nodes.length } else ns,
     gq f.nm (.tup [kS f.k,.tup f.items]) fs,.tup [kS f.k,.tup f.items]⟩
noncomputable def kN(k:Bool):String:=if k then "row" else "fields"
noncomputable def Bd.opn(ns:List Int)(B:Bd)(n:Int):Bd:=
 ⟨bu ns B n++[if n/5%2=0 then 91 else 123],aP ns B n++[⟨kN (n/5%2=0),(bu ns B n).length,0,0⟩],⟨n/5%2=0,[],(aP ns B n).length,eM ns B n⟩ ::B.frs,B.val⟩
noncomputable def Bd.leaf(ns:List Int)(B:Bd)(n:Int):Bd:=
 ⟨bu ns B n++lfb (gi ns n),
   let ds:=aP ns B n++[⟨lfK (gi ns n),(bu ns B n).length,(bu ns B n++lfb (gi ns n)).length,(aP ns B n).length+1⟩]
   if inF B.frs then ds.modify (ds.length - 2) fun d=>{ d with c:=ds.length } else ds,
   gq (eM ns B n) (lfV ns n) B.frs,lfV ns n⟩
noncomputable def Bd.step(ns:List Int)(B:Bd)(k:Nat):Bd:=
 if B.frs.isEmpty=false /\ PG.mix ns k%5=1 then Bd.close { B with row:=B.row++lwh (PG.mix ns k/3) }
 else if B.frs.isEmpty=false \/ k=0 then
  if PG.mix ns k%5>2 \/ (k=0 /\ PG.mix ns k%9>0)then B.opn ns (PG.mix ns k)else B.leaf ns (PG.mix ns k)
 else B
noncomputable def FOk(N K:Nat):List Fr->Prop
 |[]=>True
 |f ::fs=>f.i<N /\ f.items.length<=K /\ (fs≠[]->1<=f.i) /\ FOk N K fs
theorem FOk.mono{N K N' K':Nat}(h1:N<=N')(h2:K<=K'):∀{fs:List Fr},FOk N K fs->FOk N' K' fs
 |[],_=>trivial
 |_ ::_,h=>⟨Nat.lt_of_lt_of_le h.1 h1,Nat.le_trans h.2.1 h2,h.2.2.1,FOk.mono h1 h2 h.2.2.2⟩
theorem FOk.gq{N K:Nat}(nm:List Int)(v:PV){fs:List Fr}(h:FOk N K fs):FOk N (K+1) (gq nm v fs):=by
 cases fs with
 |nil=>trivial
 |cons g gs=>exact⟨h.1,by simp;exact h.2.1,h.2.2.1,FOk.mono (Nat.le_refl _) (Nat.le_succ _) h.2.2.2⟩
structure Bok(B:Bd)(k:Nat):Prop where
 row:B.row.length<=400*k
 nodes:B.nodes.length<=2*k
 frs:FOk B.nodes.length k B.frs
 dep:B.frs.length<=k
theorem vK(nm:List Int)(v:PV)(fs:List Fr):(gq nm v fs).length=fs.length:=by cases fs<;>simp[gq]
theorem gb(ns:List Int)(B:Bd)(n:Int):(aP ns B n).length=B.nodes.length+(if inF B.frs then 1 else 0):=by
 unfold aP;cases inF B.frs<;>simp
theorem Bok.close{B:Bd}{k:Nat}(h:Bok B k)(ws:List Int)(hw:ws.length<=3):Bok (Bd.close { B with row:=B.row++ws }) (k+1):=by
 have h1:=h.row;have h2:=h.nodes;have h3:=h.frs;have h4:=h.dep;unfold Bd.close
 cases e:B.frs with
 |nil=>rw[e]at h3 h4;exact⟨by simp;omega,by simp;omega,by simp[e];trivial,by simp[e]⟩
 | cons f fs=>
   rw[e]at h3 h4;simp only[List.length_cons]at h4
   refine⟨by simp;omega,?_,?_,?_⟩
   . simp only;split<;>simp<;>omega
   . have:FOk B.nodes.length (k+1) (gq f.nm (.tup [kS f.k,.tup f.items]) fs):=FOk.gq _ _ h3.2.2.2
     simp only;split<;>simpa using this
   . simp only[vK];omega
theorem Bok.opn{B:Bd}{k:Nat}(h:Bok B k)(ns:List Int)(n:Int):Bok (B.opn ns n) (k+1):=by
 have h1:=h.row;have h2:=h.nodes;have h3:=h.frs;have h4:=h.dep;have hb:=qV ns B n;have hl:=gb ns B n;unfold Bd.opn
 refine⟨by simp;omega,?_,?_,by simp;omega⟩
 . simp only[List.length_append,List.length_singleton]
   split at hl<;>omega
 . simp only[List.length_append,List.length_singleton]
   refine⟨by simp,by simp,?_,FOk.mono (by omega) (by omega) h3⟩
   intro hf
   simp only
   cases e:B.frs with
   |nil=>exact absurd e hf
   |cons g gs=>rw[e]at h3;have:=h3.1;omega
theorem Bok.leaf{B:Bd}{k:Nat}(h:Bok B k)(ns:List Int)(n:Int):Bok (B.leaf ns n) (k+1):=by
 have h1:=h.row;have h2:=h.nodes;have h3:=h.frs;have h4:=h.dep;have hb:=qV ns B n;have hf:=Df ns n;have hl:=gb ns B n
 have hN:(B.leaf ns n).nodes.length=(aP ns B n).length+1:=by unfold Bd.leaf;simp only;split<;>simp
 refine⟨by unfold Bd.leaf;simp;omega,by rw[hN];split at hl<;>omega,?_,by unfold Bd.leaf;simp only[vK];omega⟩
 rw[hN];exact FOk.mono (by omega) (Nat.le_refl _) (FOk.gq _ _ h3)
theorem Bok.mono{B:Bd}{k k':Nat}(h:Bok B k)(hk:k<=k'):Bok B k':=
 ⟨by have:=h.row;omega,by have:=h.nodes;omega,FOk.mono (Nat.le_refl _) hk h.frs,by have:=h.dep;omega⟩
theorem Bok.step{B:Bd}{k:Nat}(h:Bok B k)(ns:List Int):Bok (B.step ns k) (k+1):=by
 unfold Bd.step;split
 . exact h.close _ (gg _)
 . split
   . split
     . exact h.opn ns _
     . exact h.leaf ns _
   . exact h.mono (by omega)
theorem tR(g:Nd->Nd):∀(nodes:List Nd) (i:Nat) (d:Nd),nodes[i]?=some d->(nodes.map Nd.o).set i (g d).o=(nodes.modify i g).map Nd.o
 |[],i,d,h=>by simp at h
 |x ::xs,0,d,h=>by simp at h;subst h;simp
 | x ::xs,i+1,d,h=>by
   simp at h;simp[tR g xs i d h]
theorem Bq{nodes:List Nd}{i:Nat}(h:i<nodes.length):∃ d,nodes[i]?=some d:=⟨nodes[i],by simp[h]⟩
theorem CK{nodes:List Nd}{i:Nat}{d:Nd}(h:nodes[i]?=some d):(nodes.map Nd.o)[i]?=some (ndO (.str d.s) d.a d.b d.c):=by
 rw[List.getElem?_map,h];rfl
theorem HZ(B:Bd)(k:Nat)(h:Bok B k)(hk:k<=100)(hf:B.frs≠[]):
  cV [.tr true (eL B.row),.tr true (lW B.nodes),.tr true (kI B.frs)]=.ok B.close.val [some (eL B.close.row),some (lW B.close.nodes),some (kI B.close.frs)]:=by
 have h1:=h.row;have h2:=h.nodes;have h3:=h.frs;unfold Bd.close
 cases e:B.frs with
 |nil=>exact absurd e hf
 | cons f fs=>
   rw[e]at h3;obtain⟨d,hd⟩:=Bq h3.1;have hit:=h3.2.1
   cases e2:fs with
   | nil=>
     have:=BR B.row (B.nodes.map Nd.o) f.k f.items f.i f.nm (.str d.s) d.a d.b d.c (CK hd) (by omega) (by rw[List.length_map];omega) (by omega);refine Eq.trans this ?_;have hs:=tR (fun d=>{ d with b:=B.row.length+1,c:=B.nodes.length }) B.nodes f.i d hd;simp only[inF,gq,kI,lW,List.length_map,Bool.false_eq_true,if_false,<- hs];rfl
   | cons g gs=>
     rw[e2]at h3;have h1i:=h3.2.2.1 (by simp)
     have hit':=h3.2.2.2.2.1
     obtain⟨d2,hd2⟩:=Bq (nodes:=B.nodes) (i:=f.i - 1) (by have:=h3.1;omega);have:=BE B.row (B.nodes.map Nd.o) (gs.reverse.map Fr.o) f.k g.k f.items g.items f.i g.i f.nm g.nm (.str d.s) (.str d2.s) d.a d.b d.c d2.a d2.b d2.c (CK hd) (by omega) (by rw[List.length_map];omega) (by omega) (by omega) (fun _=>⟨h1i,CK hd2⟩);have hs:=tR (fun d=>{ d with b:=B.row.length+1,c:=B.nodes.length }) B.nodes f.i d hd
     have hd2':(B.nodes.modify f.i fun d=>{ d with b:=B.row.length+1,c:=B.nodes.length })[f.i - 1]?=some d2:=by
      rw[List.getElem?_modify,hd2];simp;intro z;omega
     have hs2:=tR (fun d=>{ d with c:=B.nodes.length }) _ (f.i - 1) d2 hd2';rw[<- hs]at hs2;refine Eq.trans (congrArg cV ?_) (Eq.trans this ?_)
     . simp[kI,lW,Fr.o]
     . cases hg:g.k
       . simp only[inF,gq,kI,lW,List.length_map,hg,Bool.not_false,Bool.false_eq_true,if_true,if_false,<- hs2];simp[Nd.o,Fr.o]
       . simp only[inF,gq,kI,lW,List.length_map,hg,Bool.not_true,Bool.false_eq_true,if_true,if_false,<- hs];simp[Nd.o,Fr.o]
noncomputable def bE(ns:List Int)(m:Int)(B:Bd)(a b c d e f:Option Sl):ag:=[some (.sh (.lst (ns.map .int))),some (.sh (.int m)),some (.tr false (eL B.row)),some (.tr false (lW B.nodes)),some (.tr false (kI B.frs)),some (.sh B.val),a,b,c,d,e,f]
theorem vO(ns:List Int)(m:Int)(B:Bd)(k:Nat)(h:Bok B k)(hk:k<=100)(hf:B.frs≠[])(a b c d e f:Option Sl):
  iE 5 (jw cV [.t 2 aI,.t 3 aI,.t 4 aI]) (bE ns m B a b c d e f)=.nx (bE ns m B.close a b c d e f):=by
 have e1:jT [.t 2 aI,.t 3 aI,.t 4 aI] (bE ns m B a b c d e f)=some [.tr true (eL B.row),.tr true (lW B.nodes),.tr true (kI B.frs)]:=by
  simp[jT,nv,bE,aI,OV.get_nil]
 unfold iE jw;rw[e1];simp only[HZ B k h hk hf];simp[fQ,kT,bE,aI,OV.lE,nio]
theorem BU(ns:List Int)(m:Int)(B:Bd)(k:Nat)(h:Bok B k)(hk:k<=100)(a:Option Sl)(n:Int)(c d e f:Option Sl):
  iE 8 (jw fZ [.e (ao 0),.t 2 aI,.t 3 aI,.t 4 aI,.e (ao 7)]) (bE ns m B a (some (.sh (.int n))) c d e f) =
   .nx (bE ns m ⟨bu ns B n,aP ns B n,B.frs,B.val⟩ a (some (.sh (.int n))) (some (.sh (.tup ((eM ns B n).map .int)))) d e f):=by
 have h1:=h.row;have h2:=h.nodes
 have e1:jT [.e (ao 0),.t 2 aI,.t 3 aI,.t 4 aI,.e (ao 7)] (bE ns m B a (some (.sh (.int n))) c d e f)=some [.sh (.lst (ns.map .int)),.tr true (eL B.row),.tr true (lW B.nodes),.tr true (kI B.frs),.sh (.int n)]:=by
  simp[jT,nv,bE,aI,OV.get_nil,mM]
 unfold iE jw;rw[e1];simp only[Hb ns B n (by omega) (by omega)];simp[fQ,kT,bE,aI,OV.lE,nio]
noncomputable abbrev bF(ns:List Int)(m:Int)(C B:Bd)(n:Int)(a e f:Option Sl):ag:=bE ns m C a (some (.sh (.int n))) (some (.sh (.tup ((eM ns B n).map .int)))) (some (.sh (.int (bu ns B n).length))) e f
noncomputable abbrev bG(ns:List Int)(m:Int)(B:Bd)(n:Int)(a e f:Option Sl):ag:=bF ns m ⟨bu ns B n,aP ns B n,B.frs,B.val⟩ B n a e f
theorem MS(k:Bool):kS k=.str (kN k):=by cases k<;>rfl
theorem Ef(ns:List Int)(m:Int)(B:Bd)(k:Nat)(h:Bok B k)(hk:k<=100)(a:Option Sl)(n:Int)(e f:Option Sl):∃ e',
  (aG (bq 10 (mOp gN (b5 (ak (mC (.str "row")) (ak (mC (.str "fields")) aJ))) (mOp cH (mOp dH (ao 7) (mC (.int 5))) (mC (.int 2)))))
  (aG (bR 2 aI (mD (gH (aB (mOp gEq (ao 10) (mC (.str "row")))) (mC (.int 91)) (mC (.int 123)))))
  (aG (bR 4 aI (mDl (mDc (mD (ao 10)) (mDc (mD (b5 aJ)) (mDc (mD (gF 3 aI)) (mDc (mD (ao 8)) mDn))))))
  (bR 3 aI (mD (b5 (ak (ao 10) (ak (ao 9) (ak (mC (.int 0)) (ak (mC (.int 0)) aJ))))))))))
  (bG ns m B n a e f) =
  .nx (bF ns m (B.opn ns n) B n a e' f):=by
 have h1:=h.row;have h2:=h.nodes;have h4:=h.dep;have hb:=qV ns B n;have hl:=gb ns B n
 have hl':(aP ns B n).length<=B.nodes.length+1:=by split at hl<;>omega
 refine⟨some (.sh (kS (n/5%2=0))),?_⟩
 have hz:n/5%2=0 \/ n/5%2=1:=by omega
 rw[bt (ρ':=bG ns m B n a (some (.sh (kS (n/5%2=0)))) f) (by
  rcases hz with z|z<;>simp[bq,bE,z,gN,atP,ixP,kS])]
 rw[bt (yG (row:=bu ns B n) (b:=if n/5%2=0 then 91 else 123) rfl (by
  rcases hz with z|z<;>simp -implicitDefEqProofs [mD,gH,aB,bE,z,kS,gEq,eqS,aH]) (by omega))]
 rw[bt (vA (ts:=B.frs.reverse.map Fr.o) (x:=Fr.o ⟨n/5%2=0,[],(aP ns B n).length,eM ns B n⟩) rfl (by
  have:=yX (ρ:=(bG ns m B n a (some (.sh (kS (n/5%2=0)))) f).set 2 (some (.tr false (eL (bu ns B n++[if n/5%2=0 then 91 else 123]))))) (i:=3) (nds:=aP ns B n) rfl;simp only[mDl,mDc,mD,this]
  simp[mDn,bE,Fr.o,frO,mDl]) (by simp;exact fi (n:=B.frs.length+1) (by omega)))]
 rw[y8 (nds:=aP ns B n) (d:=⟨kN (n/5%2=0),(bu ns B n).length,0,0⟩) rfl (by
  simp[mD,bE,Nd.o,ndO,MS]) (by omega)]
 simp[bE,Bd.opn,kI]
theorem Pd(n:Int):(if n/5%2=0 then true else false)=decide (n/5%2=0):=by simp
theorem C8{ρ:ag}{i:Nat}{io:Bool}{g:Fr}{gs:List Fr}{x:PV}{md:ag->OD}(h:ρ[i]?=some (some (.tr io (kI (g ::gs)))))(hd:md ρ=.ok (.sh x))(hl:g.items.length<1000):
  bR i (pIx i (pIx i aI (mUn gU (mC (.int 1)))) (mC (.int 1))) md ρ=.nx (ρ.set i (some (.tr io (kI ({ g with items:=g.items++[x] } ::gs))))):=by
 have hi:=wt 1 1 rfl (by omega) h;rw[lM]at h;rw[CZ h hi (vv g gs) (xs:=g.items.map .sh) rfl hd (by rw[List.length_map];exact fi (n:=g.items.length+1) (by omega))];rw[lM];simp[Fr.o,frO,List.set_append_right]
theorem Dl(ns:List Int)(m:Int)(B:Bd)(k:Nat)(h:Bok B k)(hk:k<=100)(a:Option Sl)(n:Int)(hn:0<=n)(e f:Option Sl):∃ f',
  (aG (bq 11 (bp cz (ak (ao 0) (ak (ao 7) aJ))))
  (aG (dQ 2 aI (mOp eT (ao 11) (mC (.int 1))))
  (aG (bR 3 aI (mD (b5 (ak (mOp eT (ao 11) (mC (.int 0))) (ak (ao 9) (ak (gF 2 aI) (ak (mOp dU (gF 3 aI) (mC (.int 1))) aJ)))))))
  (aG (bq 5 (mOp eT (ao 11) (mC (.int 2))))
  (bc (fw (dG 4 aI) (aB (mOp gEq (cZ 4 (pIx 4 (pIx 4 aI (mUn gU (mC (.int 1)))) (mC (.int 0)))) (mC (.str "fields")))))
  (aG (pX 3 (pIx 3 aI (mUn gU (mC (.int 2)))) (mC (.int 3)) (mD (gF 3 aI)))
  (bR 4 (pIx 4 (pIx 4 aI (mUn gU (mC (.int 1)))) (mC (.int 1))) (mD (fh (ak (ao 8) (ak (ao 5) aJ))))))
  (bc (dG 4 aI)
  (bR 4 (pIx 4 (pIx 4 aI (mUn gU (mC (.int 1)))) (mC (.int 1))) (mD (ao 5)))
  aS))))))
  (bG ns m B n a e f) =
  .nx (bF ns m (B.leaf ns n) B n a e f'):=by
 have h1:=h.row;have h2:=h.nodes;have h3:=h.frs;have h4:=h.dep;have hb:=qV ns B n;have hf:=Df ns n;have hl:=gb ns B n
 have hl':(aP ns B n).length<=B.nodes.length+1:=by split at hl<;>omega
 generalize hF:PV.tup [.str (lfK (gi ns n)),.lst ((lfb (gi ns n)).map .int),lfV ns n]=F
 refine⟨some (.sh F),?_⟩
 generalize hv:lfV ns n=v
 have hi0:atP [PV.str (lfK (gi ns n)),.lst ((lfb (gi ns n)).map .int),v] 0=some (PV.str (lfK (gi ns n))):=by simp[atP,ixP]
 rw[bt (ρ':=bG ns m B n a e (some (.sh F))) (by
  have:=HP ns n hn;rw[hF]at this
  simp[bq,bE,this])]
 rw[bt (mY (row:=bu ns B n) (ys:=lfb (gi ns n)) rfl (.inr (by simp[bE,<- hF,eT,atP,ixP])) (by omega))]
 rw[bt (y8 (nds:=aP ns B n) (d:=⟨lfK (gi ns n),(bu ns B n).length,(bu ns B n++lfb (gi ns n)).length,(aP ns B n).length+1⟩) rfl (by
  have hx:=yX (ρ:=(bG ns m B n a e (some (.sh F))).set 2 (some (.tr false (eL (bu ns B n++lfb (gi ns n)))))) (i:=3) (nds:=aP ns B n) rfl;have hy:=vG (ρ:=(bG ns m B n a e (some (.sh F))).set 2 (some (.tr false (eL (bu ns B n++lfb (gi ns n)))))) (i:=2) (row:=bu ns B n++lfb (gi ns n)) rfl;simp only[mD,b5,ak,hx,hy,mOp]
  simp[bE,<- hF,eT,atP,ixP,Nd.o,ndO]) (by omega))]
 generalize hR:bu ns B n++lfb (gi ns n)=R;generalize hD:aP ns B n++[⟨lfK (gi ns n),(bu ns B n).length,R.length,(aP ns B n).length+1⟩]=D
 have hDl:D.length=(aP ns B n).length+1:=by rw[<- hD];simp
 rw[bt (ρ':=bF ns m ⟨R,D,B.frs,v⟩ B n a e (some (.sh F))) (by
  simp[bq,bE,<- hF,eT,atP,ixP,hv])]
 unfold bc;rw[Fz (fs:=B.frs) rfl];unfold Bd.leaf;rw[hR];simp only[hD,hv]
 cases hg:B.frs with
 | nil=>
   have:=rZ (ρ:=bF ns m ⟨R,D,[],v⟩ B n a e (some (.sh F))) (i:=4) (fs:=[]) rfl;simp[inF,gq,this,aS]
 | cons g gs=>
   rw[hg]at h3;have hit:=h3.2.1;have ht:=rZ (ρ:=bF ns m ⟨R,D,g ::gs,v⟩ B n a e (some (.sh F))) (i:=4) (fs:=g ::gs) rfl
   cases hgk:g.k with
   | true=>
     have hp:=C8 (ρ:=bF ns m ⟨R,D,g ::gs,v⟩ B n a e (some (.sh F))) (i:=4) (g:=g) (gs:=gs) (x:=v) (md:=mD (ao 5)) rfl (by simp[mD,bE]) (by omega);simp[inF,gq,ht,hgk,hp];simp[bE]
   | false=>
     have h2l:2<=D.length:=by
      have hq:inF B.frs=true:=by rw[hg];simp[inF,hgk]
      rw[hq]at hl;simp at hl;omega
     obtain⟨d2,hd2⟩:=Bq (nodes:=D) (i:=D.length - 2) (by omega);have hs:=tR (fun d=>{ d with c:=D.length }) D (D.length - 2) d2 hd2
     have hput:=vF (ρ:=bF ns m ⟨R,D,g ::gs,v⟩ B n a e (some (.sh F))) (i:=3) (io:=false) (ts:=D.map Nd.o) (j:=D.length - 2) (j2:=3) (mk:=mC (.int 3)) (md:=mD (gF 3 aI)) (x:=.sh (.int D.length)) (mp:=pIx 3 aI (mUn gU (mC (.int 2)))) rfl
      (lF (i:=3) (ts:=D.map Nd.o) (bN (s:=.tr false (lW D)) rfl rfl) (r:=.sh (.int (-2))) (k:=-2) (by simp) rfl (by rw[List.length_map];unfold ixP;rw[if_neg (by omega),if_pos (by omega)];congr 1;omega)) (CK hd2) rfl rfl rfl (by unfold mD;rw[yX (nds:=D) rfl])
     have e3:(D.map Nd.o).set (D.length - 2) (.ol ([.sh (.str d2.s),.sh (.int d2.a),.sh (.int d2.b),.sh (.int d2.c)].set 3 (.sh (.int D.length))))=(D.modify (D.length - 2) fun d=>{ d with c:=D.length }).map Nd.o:=hs
     rw[e3]at hput;have hp:=C8 (ρ:=bF ns m ⟨R,D.modify (D.length - 2) fun d=>{ d with c:=D.length },g ::gs,v⟩ B n a e (some (.sh F))) (i:=4) (g:=g) (gs:=gs) (x:=.tup [.tup ((eM ns B n).map .int),v]) (md:=mD (fh (ak (ao 8) (ak (ao 5) aJ)))) rfl (by simp[mD,bE]) (by omega)
     have:inF (g ::gs)=true:=by simp[inF,hgk]
     rw[this];refine Eq.trans (bt hput) ?_;refine Eq.trans hp ?_;simp[gq,hgk,bE]
theorem Lw(ns:List Int)(m:Int)(B:Bd)(k:Nat)(h:Bok B k)(hk:k<=90)(b c d e f:Option Sl):∃ b' c' d' e' f',
  iY (bE ns m B (some (.sh (.int k))) b c d e f)=.nx (bE ns m (B.step ns k) (some (.sh (.int k))) b' c' d' e' f'):=by
 have hm:0<=PG.mix ns k:=(Bh ns k).1
 have h1:=h.row;unfold iY;rw[bt (ρ':=bE ns m B (some (.sh (.int k))) (some (.sh (.int (PG.mix ns k)))) c d e f) (by simp[bq,bE,eS])];unfold Bd.step
 generalize PG.mix ns k=n at hm ⊢
 have c1:fw (dG 4 aI) (aB (mOp gEq (mOp cH (ao 7) (mC (.int 5))) (mC (.int 1)))) (bE ns m B (some (.sh (.int k))) (some (.sh (.int n))) c d e f)=.ok (decide (B.frs.isEmpty=false /\ n%5=1)):=by
  have:=rZ (ρ:=bE ns m B (some (.sh (.int k))) (some (.sh (.int n))) c d e f) (i:=4) (fs:=B.frs) rfl
  unfold bE at this ⊢
  cases hf:B.frs.isEmpty<;>simp[fw,this,hf,aB]
 unfold bc;rw[c1]
 by_cases hc1:B.frs.isEmpty=false /\ n%5=1
 . rw[if_pos hc1,decide_eq_true hc1]
   refine⟨some (.sh (.int n)),c,d,e,f,Eq.trans (bt (ρ':=bE ns m { B with row:=B.row++lwh (n/3) } (some (.sh (.int k))) (some (.sh (.int n))) c d e f) ?_) ?_⟩
   . exact mY (row:=B.row) rfl (.inl (by simp[bE,ee])) (by have:=gg (n/3);omega)
   . refine vO ns m { B with row:=B.row++lwh (n/3) } (k+1) ⟨?_,?_,?_,?_⟩ (by omega) ?_ _ _ _ _ _ _
     . have:=gg (n/3);simp;omega
     . have:=h.nodes;simp;omega
     . exact FOk.mono (Nat.le_refl _) (Nat.le_succ _) h.frs
     . have:=h.dep;simp;omega
     . simp only;intro z;rw[z]at hc1;exact absurd hc1.1 (by simp)
 . rw[if_neg hc1,decide_eq_false hc1]
   have c2:mL (dG 4 aI) (aB (mOp gEq (ao 6) (mC (.int 0)))) (bE ns m B (some (.sh (.int k))) (some (.sh (.int n))) c d e f)=.ok (decide (B.frs.isEmpty=false \/ k=0)):=by
    have:=rZ (ρ:=bE ns m B (some (.sh (.int k))) (some (.sh (.int n))) c d e f) (i:=4) (fs:=B.frs) rfl
    unfold bE at this ⊢
    cases hf:B.frs.isEmpty<;>simp[mL,this,hf,aB]
   show ∃ b' c' d' e' f',OT.cy _ _ _=_
   rw[c2]
   by_cases hc2:B.frs.isEmpty=false \/ k=0
   . rw[if_pos hc2,decide_eq_true hc2];have hb:=BU ns m B k h (by omega) (some (.sh (.int k))) n c d e f
     have hs9:bq 9 (gF 2 aI) (bE ns m ⟨bu ns B n,aP ns B n,B.frs,B.val⟩ (some (.sh (.int k))) (some (.sh (.int n))) (some (.sh (.tup ((eM ns B n).map .int)))) d e f)=.nx (bE ns m ⟨bu ns B n,aP ns B n,B.frs,B.val⟩ (some (.sh (.int k))) (some (.sh (.int n))) (some (.sh (.tup ((eM ns B n).map .int)))) (some (.sh (.int (bu ns B n).length))) e f):=by
      unfold bq;rw[vG (row:=bu ns B n) rfl];simp[bE]
     have c3:mL (aB (mOp gGt (mOp cH (ao 7) (mC (.int 5))) (mC (.int 2)))) (fw (aB (mOp gEq (ao 6) (mC (.int 0)))) (aB (mOp gGt (mOp cH (ao 7) (mC (.int 9))) (mC (.int 0))))) (bE ns m ⟨bu ns B n,aP ns B n,B.frs,B.val⟩ (some (.sh (.int k))) (some (.sh (.int n))) (some (.sh (.tup ((eM ns B n).map .int)))) (some (.sh (.int (bu ns B n).length))) e f)=.ok (decide (n%5>2 \/ (k=0 /\ n%9>0))):=by
      by_cases h5:2<n%5
      . simp[mL,fw,aB,bE,h5]
      . by_cases h0:k=0
        . by_cases h9:0<n%9<;>simp[mL,fw,aB,bE,h5,h0,h9]
        . simp[mL,fw,aB,bE,h5,h0]
     by_cases hc3:n%5>2 \/ (k=0 /\ n%9>0)
     . rw[if_pos hc3];obtain⟨e',he⟩:=Ef ns m B k h (by omega) (some (.sh (.int k))) n e f
       refine⟨some (.sh (.int n)),some (.sh (.tup ((eM ns B n).map .int))),some (.sh (.int (bu ns B n).length)),e',f,Eq.trans (bt hb) (Eq.trans (bt hs9) ?_)⟩
       rw[c3,decide_eq_true hc3];exact he
     . rw[if_neg hc3];obtain⟨f',he⟩:=Dl ns m B k h (by omega) (some (.sh (.int k))) n hm e f
       refine⟨some (.sh (.int n)),some (.sh (.tup ((eM ns B n).map .int))),some (.sh (.int (bu ns B n).length)),e,f',Eq.trans (bt hb) (Eq.trans (bt hs9) ?_)⟩
       rw[c3,decide_eq_false hc3];exact he
   . rw[if_neg hc2,decide_eq_false hc2]
     exact⟨_,_,_,_,_,rfl⟩
noncomputable def bld(ns:List Int)(B:Bd)(i:Nat):Nat->Bd
 |0=>B
 |j+1=>bld ns (B.step ns i) (i+1) j
theorem yx(ns:List Int):∀(j i:Nat) (B:Bd),Bok B i->Bok (bld ns B i j) (i+j)
 |0,i,B,h=>h
 | j+1,i,B,h=>by
   have:=yx ns j (i+1) _ (h.step ns);rw[show i+(j+1)=i+1+j by omega];exact this
theorem v5(ns:List Int)(m:Int):∀(j i:Nat) (B:Bd) (a b c d e f:Option Sl),Bok B i->i+j<=90->∃ a' b' c' d' e' f',
  jB 6 iY ((List.range' i j).map fun k:Nat=>.int k) (bE ns m B a b c d e f)=.nx (bE ns m (bld ns B i j) a' b' c' d' e' f')
 |0,i,B,a,b,c,d,e,f,_,_=>⟨_,_,_,_,_,_,rfl⟩
 | j+1,i,B,a,b,c,d,e,f,h,hij=>by
   obtain⟨b',c',d',e',f',hs⟩:=Lw ns m B i h (by omega) b c d e f;obtain⟨a2,b2,c2,d2,e2,f2,hl⟩:=v5 ns m j (i+1) (B.step ns i) (some (.sh (.int i))) b' c' d' e' f' (h.step ns) (by omega)
   refine⟨a2,b2,c2,d2,e2,f2,?_⟩
   rw[List.range'_succ,List.map_cons,j8];rw[show(bE ns m B a b c d e f).set 6 (some (.sh (.int i)))=bE ns m B (some (.sh (.int i))) b c d e f from rfl,hs,iD];exact hl
noncomputable def cls(B:Bd):Nat->Bd
 |0=>B
 |j+1=>cls B.close j
theorem uz(B:Bd):B.close.frs.length=B.frs.length - 1:=by
 unfold Bd.close
 cases h:B.frs with
 |nil=>simp[h]
 |cons f fs=>simp[vK]
theorem uW(ns:List Int)(m:Int):∀(j:Nat) (B:Bd) (k:Nat) (a b c d e f:Option Sl) (F:Nat),Bok B k->k+j<=100->B.frs.length=j->j<F ->
  bX iW ky F (bE ns m B a b c d e f)=.nx (bE ns m (cls B j) a b c d e f)
 | 0,B,k,a,b,c,d,e,f,F,h,hk,hj,hF=>by
   obtain⟨F,rfl⟩:∃ G,F=G+1:=⟨F - 1,by omega⟩
   have ht:=rZ (ρ:=bE ns m B a b c d e f) (i:=4) (fs:=B.frs) rfl
   have:B.frs=[]:=List.length_eq_zero_iff.mp hj
   unfold bX iW;rw[ht,this];rfl
 | j+1,B,k,a,b,c,d,e,f,F,h,hk,hj,hF=>by
   obtain⟨F,rfl⟩:∃ G,F=G+1:=⟨F - 1,by omega⟩
   have ht:=rZ (ρ:=bE ns m B a b c d e f) (i:=4) (fs:=B.frs) rfl
   have hne:B.frs≠[]:=by intro z;rw[z]at hj;simp at hj
   have hcl:=vO ns m B k h (by omega) hne a b c d e f;have hb:=h.close [] (by simp);rw[show({ B with row:=B.row++[] }:Bd)=B by cases B;simp]at hb;unfold bX;rw[show iW=dG 4 aI from rfl,ht]
   have he:B.frs.isEmpty=false:=by cases q:B.frs with|nil=>exact absurd q hne|cons _ _=>rfl
   rw[he];show OS.turn _ _=_;rw[show ky=iE 5 (jw cV [.t 2 aI,.t 3 aI,.t 4 aI]) from rfl,hcl,iD];exact uW ns m j B.close (k+1) a b c d e f F hb (by omega) (by rw[uz];omega) (by omega)
noncomputable def bd0:Bd:=⟨[],[],[],.non⟩
noncomputable def ndP(d:Nd):PV:=.tup [.str d.s,.int d.a,.int d.b,.int d.c]
noncomputable def gW(ns:List Int)(m:Nat):Bd:=
 let B:=bld ns bd0 0 m
 let C:=cls B B.frs.length
 { C with row:=C.row++lwh (PG.mix ns 61) }
theorem zy:∀(j:Nat) (B:Bd) (k:Nat),Bok B k->Bok (cls B j) (k+j)
 |0,B,k,h=>h
 | j+1,B,k,h=>by
   have hb:=h.close [] (by simp);rw[show({ B with row:=B.row++[] }:Bd)=B by cases B;simp]at hb;have:=zy j B.close (k+1) hb;rw[show k+(j+1)=k+1+j by omega];exact this
theorem qy:Bok bd0 0:=⟨by simp[bd0],by simp[bd0],trivial,by simp[bd0]⟩
theorem Ay:∀ row:List Int,wR (row.map fun b=>.sh (.int b))=some (row.map .int)
 |[]=>by simp[wR]
 |b ::row=>by simp[wR,pvO,Ay row]
theorem A4:∀ ds:List Nd,wR (ds.map Nd.o)=some (ds.map fun d=>.lst [.str d.s,.int d.a,.int d.b,.int d.c])
 |[]=>by simp[wR]
 |d ::ds=>by simp[wR,pvO,A4 ds,Nd.o,ndO]
theorem Cf{ρ:ag}{i:Nat}{me:ag->OE}{P:ag->OS}{j:Int}(h1:me ρ=.ok (.sh (.int j)))(hi:-4611686018427387904<=j /\ j<4611686018427387904):tF i me P ρ=jB i P (cT j.toNat) ρ:=by
 simp -implicitDefEqProofs [tF,h1,hi]
theorem D4(ns:List Int)(m:Nat)(hm:m<=20):∃ a b c d e f,tF 6 (ao 1) iY (bE ns m bd0 none none none none none none)=.nx (bE ns m (bld ns bd0 0 m) a b c d e f):=by
 obtain⟨a,b,c,d,e,f,hl⟩:=v5 ns m m 0 bd0 none none none none none none qy (by omega)
 refine⟨a,b,c,d,e,f,?_⟩
 have hr:cT (Int.toNat (m:Int))=(List.range' 0 m).map fun k:Nat=>.int k:=by simp[cT,List.range_eq_range']
 have h1:ao 1 (bE ns m bd0 none none none none none none)=.ok (.sh (.int m)):=by simp[bE]
 rw[Cf h1 (by omega),hr];exact hl
theorem El(ns:List Int)(m:Int)(C:Bd)(hC:C.nodes.length<=1000)(hR:C.row.length<=100000)(a b c d e f:Option Sl):
  ∃ ρ,nF (bE ns m C a b c d e f)=.rt ρ (.sh (.tup [.lst ((C.row++lwh (PG.mix ns 61)).map .int),.lst (C.nodes.map ndP),C.val])):=by
 have e3:dQ 2 aI (bp cI (ak (bp fm (ak (ao 0) (ak (mC (.int 61)) aJ))) aJ)) (bE ns m C a b c d e f)=.nx (bE ns m { C with row:=C.row++lwh (PG.mix ns 61) } a b c d e f):=
  mY (row:=C.row) rfl (.inl (by simp[bE,eS,ee])) (by have:=gg (PG.mix ns 61);omega)
 refine⟨((bE ns m { C with row:=C.row++lwh (PG.mix ns 61) } a b c d e f).set 3 (some (.sh (.lst (C.nodes.map fun d=>.lst [.str d.s,.int d.a,.int d.b,.int d.c]))))).set 2 (some (.sh (.lst ((C.row++lwh (PG.mix ns 61)).map .int)))),?_⟩
 unfold nF;rw[bt e3];unfold rN qC
 have z1:qS 3 (bE ns m { C with row:=C.row++lwh (PG.mix ns 61) } a b c d e f)=(bE ns m { C with row:=C.row++lwh (PG.mix ns 61) } a b c d e f).set 3 (some (.sh (.lst (C.nodes.map fun d=>.lst [.str d.s,.int d.a,.int d.b,.int d.c])))):=by
  simp[qS,bE,lW,pvO,A4]
 have z2:qS 2 ((bE ns m { C with row:=C.row++lwh (PG.mix ns 61) } a b c d e f).set 3 (some (.sh (.lst (C.nodes.map fun d=>.lst [.str d.s,.int d.a,.int d.b,.int d.c])))))=((bE ns m { C with row:=C.row++lwh (PG.mix ns 61) } a b c d e f).set 3 (some (.sh (.lst (C.nodes.map fun d=>.lst [.str d.s,.int d.a,.int d.b,.int d.c]))))).set 2 (some (.sh (.lst ((C.row++lwh (PG.mix ns 61)).map .int)))):=by
  have:=Ay (C.row++lwh (PG.mix ns 61));unfold qS bE eL;simp only[List.set_cons_succ,List.set_cons_zero,List.getElem?_cons_succ,List.getElem?_cons_zero,pvO,this,Option.map_some]
 rw[z1,z2]
 have hel:da nB [] (C.nodes.map fun d=>.lst [.str d.s,.int d.a,.int d.b,.int d.c])=.ok (C.nodes.map ndP):=
  jV _ fun d _=>by simp[nB,nG,ndP]
 simp[bE,hel,dw];exact fi (by omega)
theorem HA(ns:List Int)(m:Nat)(hm:m<=20):gV [.lst (ns.map .int),.int m]=.ok (.sh (.tup [.lst ((gW ns m).row.map .int),.lst ((gW ns m).nodes.map ndP),(gW ns m).val])):=by
 have hok:=yx ns m 0 bd0 qy;rw[Nat.zero_add]at hok;obtain⟨a,b,c,d,e,f,e2⟩:=D4 ns m hm;have hdep:=hok.dep;have hcok:=zy (bld ns bd0 0 m).frs.length _ m hok;have hcr:=hcok.row;have hcn:=hcok.nodes
 have e1:qa [some (.sh (.lst (ns.map .int))),some (.sh (.int m)),none,none,none,none,none,none,none,none,none,none]=ng (bE ns m bd0 none none none none none none):=by
  unfold qa;rw[bt (ρ':=[some (.sh (.lst (ns.map .int))),some (.sh (.int m)),some (.tr false (eL [])),none,none,none,none,none,none,none,none,none]) (by simp[lr,mD,eL])];unfold rM;rw[bt (ρ':=[some (.sh (.lst (ns.map .int))),some (.sh (.int m)),some (.tr false (eL [])),some (.tr false (lW [])),none,none,none,none,none,none,none,none]) (by simp[lr,mD,lW])];unfold rJ;rw[bt (ρ':=[some (.sh (.lst (ns.map .int))),some (.sh (.int m)),some (.tr false (eL [])),some (.tr false (lW [])),some (.tr false (kI [])),none,none,none,none,none,none,none]) (by simp[lr,mD,kI])];unfold r6;rw[bt (ρ':=bE ns m bd0 none none none none none none) (by simp[bq,bE,bd0])]
 obtain⟨ρ,e4⟩:=El ns m _ (Nat.le_trans hcn (by omega)) (Nat.le_trans hcr (by omega)) a b c d e f
 have hw:∀ F,(bld ns bd0 0 m).frs.length<F->bX iW ky F (bE ns m (bld ns bd0 0 m) a b c d e f)=.nx (bE ns m (cls (bld ns bd0 0 m) (bld ns bd0 0 m).frs.length) a b c d e f):=fun F hF=>uW ns m _ (bld ns bd0 0 m) m a b c d e f F hok (by omega) rfl hF
 unfold gV fnP;rw[if_pos (show List.length [PV.lst (ns.map .int),.int m]=2 from rfl),show mq 12 [PV.lst (ns.map .int),.int m]=[some (.sh (.lst (ns.map .int))),some (.sh (.int m)),none,none,none,none,none,none,none,none,none,none] from rfl,e1];unfold ng;rw[bt e2]
 have hF:(bld ns bd0 0 m).frs.length<fuel:=by unfold fuel;omega
 unfold rV;rw[bt (hw fuel hF),e4];rfl
theorem xW{st c:List PG.It}{b:Int}{bs:List Int}(h:PG.Goes (.value ::st) (b ::bs) c):∃ l,lx b=some l:=by
 have hw:=h.whole
 cases e:lx b with
 |some l=>exact⟨l,rfl⟩
 | none=>
   unfold PG.tk at hw
   have:gon (.value ::st) b=(st,false):=by
    unfold gon;rw[show bh .value b=none from e];rfl
   rw[this]at hw;simp at hw
theorem Be{b:Int}{l:List PG.It}(h:lx b=some l):wht b=false /\ b≠93:=by
 have h1:∀ c:Int,(c=32 \/ c=9 \/ c=10 \/ c=13 \/ c=93)->lx c=none:=by
  intro c hc
  rcases hc with z|z|z|z|z<;>subst z<;>rfl
 refine⟨?_,fun z=>by rw[h1 b (by omega)]at h;cases h⟩
 cases hw:wht b with
 |false=>rfl
 | true=>
   unfold wht at hw;simp only[Bool.or_eq_true,decide_eq_true_eq]at hw;rw[h1 b (by omega)]at h;cases h
noncomputable def Rdy(row:List Int)(ks:List Bool):Prop:=∀ b bs c,PG.Goes (.value ::PG.out ks) (b ::bs) c->PG.Goes st0 (row++b ::bs) c
theorem yt{row:List Int}{ks:List Bool}(h:PG.Goes st0 row (.br ::.value ::PG.out ks)):Rdy row ks:=fun b bs c k=>by
 obtain⟨l,hl⟩:=xW k;exact h.trans (.past (Be hl).1 k)
theorem HG{row:List Int}{ks:List Bool}(h:PG.Goes st0 row (.br ::.row ::PG.out ks)):Rdy row (true ::ks):=fun b bs c k=>by
 obtain⟨l,hl⟩:=xW k;exact h.trans (.past (Be hl).1 (Bn hl (Be hl).2 k))
noncomputable def ks(fs:List Fr):List Bool:=fs.map Fr.k
noncomputable def Jn(B:Bd):Prop:=match B.frs with
 |[]=>Gs st0 B.row [.br]
 |f ::fs=>Gs st0 B.row (PG.stk f.k f.items.isEmpty (ks fs)) /\ (f.items=[]->PG.Goes st0 B.row (PG.stk f.k true (ks fs)))
theorem yD(r e:Bool)(fs:List Bool)(h:fs.length<64):PG.cnt (PG.hd r e ::PG.out fs)<=64:=by
 rw[PG.cnt_cons,lB]
 split<;>omega
theorem xb(ns:List Int)(n:Int):∀ s∈iF ns n,Sok s:=FN _ _ _ (wX ns _).1
theorem Au{st c:List PG.It}{l:List Sg}(k:PG.Goes st (PG.txt l) c):PG.Goes (.br ::st) (PG.txt l) c:=.past rfl k
theorem LX(ns:List Int)(B:Bd)(n:Int)(hd:B.frs.length<=60)(hj:Jn B)(hne:B.frs≠[]):Rdy (bu ns B n) (ks B.frs):=by
 unfold Jn at hj;unfold bu dy oV
 cases e:B.frs with
 |nil=>exact absurd e hne
 | cons f fs=>
   rw[e]at hj hd;simp only[List.length_cons]at hd;obtain⟨h1,h2⟩:=hj
   have hks:(ks fs).length<64:=by unfold ks;rw[List.length_map];omega
   have hks2:(ks (f ::fs)).length<=64:=by unfold ks;rw[List.length_map,List.length_cons];omega
   have hcv:PG.cnt (.value ::PG.out (ks (f ::fs)))<=64:=by rw[PG.cnt_cons,lB];simp[PG.opn];exact hks2
   have hcs:PG.cnt (.sp 58 58 ::.br ::.value ::PG.out (ks (f ::fs)))<=64:=by rw[PG.cnt_cons,PG.cnt_cons];simpa [PG.opn]using hcv
   have hcn:PG.cnt (.name ::.br ::.sp 58 58 ::.br ::.value ::PG.out (ks (f ::fs)))<=64:=by rw[PG.cnt_cons,PG.cnt_cons];simpa [PG.opn]using hcs
   simp only[full,inF]
   by_cases hi:f.items=[]
   . have hie:f.items.isEmpty=true:=by rw[hi];rfl
     simp only[hie,Bool.not_true,Bool.false_eq_true,if_false,List.append_nil];have h3:=(h2 hi).trans (fJ (yD f.k true (ks fs) hks) (lwh (n/3)) (dE _))
     cases hk:f.k with
     | true=>
       simp only[Bool.not_true,Bool.false_eq_true,if_false];rw[hk]at h3
       have:ks (f ::fs)=true ::ks fs:=by simp[ks,hk]
       rw[this];exact HG h3
     | false=>
       simp only[Bool.not_false,if_true];rw[hk]at h3
       have hke:ks (f ::fs)=false ::ks fs:=by simp[ks,hk]
       rw[hke]at hcv hcs hcn ⊢
       refine yt ?_;have h4:=h3.trans (Au (A5 hks (iF ns n) (xb ns n)));have h5:=h4.trans (vV hcv (dE (n/19)));have h6:=h5.trans (fJ hcv (lwh (n/23)) (dE _))
       simpa using h6
   . have hie:f.items.isEmpty = false:=by
      cases q:f.items with
      |nil=>exact absurd q hi
      |cons _ _=>rfl
     simp only[hie,Bool.not_false,if_true];rw[hie]at h1;have h3:=h1.br (yD f.k false (ks fs) hks) (dE (n/3))
     cases hk:f.k with
     | true=>
       simp only[Bool.not_true,Bool.false_eq_true,if_false];rw[hk]at h3
       have hke:ks (f ::fs)=true ::ks fs:=by simp[ks,hk]
       rw[hke]at hcv hcs hcn ⊢
       refine yt ?_;have h4:=(Gs.DT h3 hks).trans (fJ hcv (lwh (n/11)) (dE _))
       simpa using h4
     | false=>
       simp only[Bool.not_false,if_true];rw[hk]at h3
       have hke:ks (f ::fs)=false ::ks fs:=by simp[ks,hk]
       rw[hke]at hcv hcs hcn ⊢
       refine yt ?_;have h4:=(Gs.zb h3 hks).trans (fJ hcn (lwh (n/11)) (dE _));have h5:=h4.trans (Au (Em (by rw[PG.cnt_cons];simpa [PG.opn]using hcs) (iF ns n) (xb ns n)));have h6:=h5.trans (vV hcv (dE (n/19)));have h7:=h6.trans (fJ hcv (lwh (n/23)) (dE _))
       simpa using h7
theorem ID(ns:List Int)(B:Bd)(n:Int)(h0:B.frs=[])(hr:B.row=[]):Rdy (bu ns B n) (ks B.frs):=by
 rw[h0];refine yt ?_;unfold bu dy;rw[h0,hr];simp only[inF,full,Bool.false_eq_true,if_false,List.append_nil,List.nil_append];exact fJ (by decide) _ (dE _)
theorem IA(x:Lf)(hx:Lok x):∃ b bs,lfb x=b ::bs:=by
 cases x with
 |wd w=>cases w<;>exact⟨_,_,rfl⟩
 |tx l=>exact⟨_,_,rfl⟩
 | nm m=>
   have h:m.ip≠[]:=by
    rcases hx.ip with z|⟨d,r,z,_⟩<;>rw[z]<;>simp
   cases q:lfb (.nm m)with
   |cons b bs=>exact⟨b,bs,rfl⟩
   | nil=>
     have q':PG.nb m=[]:=q
     unfold PG.nb at q';simp at q';exact absurd q'.2.1 h
theorem Jn.close{B:Bd}(h:Jn B)(hne:B.frs≠[])(hd:B.frs.length<=60):Jn B.close:=by
 unfold Jn at h;unfold Bd.close
 cases e:B.frs with
 |nil=>exact absurd e hne
 | cons f fs=>
   rw[e]at h hd;simp only[List.length_cons]at hd;have h1:=Gs.close f.k f.items.isEmpty h.1 (by unfold ks;rw[List.length_map];omega)
   cases fs with
   |nil=>exact .of h1
   | cons g gs=>
     refine⟨?_,fun z=>by simp[gq]at z⟩
     have:({ g with items:=g.items++[if g.k then PV.tup [kS f.k,.tup f.items]else .tup [.tup (f.nm.map .int),.tup [kS f.k,.tup f.items]]] }:Fr).items.isEmpty=false:=by simp
     rw[this];exact .of h1
theorem Jn.br{B:Bd}(h:Jn B)(hd:B.frs.length<=60)(ws:List Int)(hw:∀ b∈ws,wht b=true):Jn { B with row:=B.row++ws }:=by
 unfold Jn at h ⊢
 cases e:B.frs with
 |nil=>rw[e]at h;exact h.br (by decide) hw
 | cons f fs=>
   rw[e]at h hd;simp only[List.length_cons]at hd
   have hks:(ks fs).length<64:=by unfold ks;rw[List.length_map];omega
   exact⟨h.1.br (yD _ _ _ hks) hw,fun z=>(h.2 z).trans (fJ (yD _ _ _ hks) ws hw)⟩
theorem E0{ns:List Int}{B:Bd}{n:Int}(h:Rdy (bu ns B n) (ks B.frs))(hd:B.frs.length<=60):Jn (B.opn ns n):=by
 have h1:=DP (fs:=ks B.frs) (decide (n/5%2=0)) (by unfold ks;rw[List.length_map];omega);have h2:=h _ _ _ h1;simp only[decide_eq_true_eq]at h2
 exact⟨.of h2,fun _=>h2⟩
theorem Ct{ns:List Int}{B:Bd}{n:Int}(h:Rdy (bu ns B n) (ks B.frs))(hd:B.frs.length<=60):Jn (B.leaf ns n):=by
 obtain⟨b,bs,hb⟩:=IA (gi ns n) (yn ns n)
 have hc:PG.cnt (PG.out (ks B.frs))<=64:=by rw[lB];unfold ks;rw[List.length_map];omega
 obtain⟨ls,hl,h1⟩:=GP hc (gi ns n) (yn ns n);rw[hb]at h1;have h2:=h _ _ _ h1;rw[<- hb]at h2;unfold Bd.leaf Jn
 simp only
 cases e:B.frs with
 | nil=>
   rw[e]at h2
   exact⟨ls,hl,h2⟩
 | cons g gs=>
   rw[e]at h2
   refine⟨⟨ls,hl,?_⟩,fun z=>by simp at z⟩
   have:(g.items++[if g.k=true then lfV ns n else PV.tup [PV.tup (List.map PV.int (eM ns B n)),lfV ns n]]).isEmpty=false:=by simp
   rw[this];exact h2
noncomputable def xl:List Fr->Prop
 |[]=>True
 |[f]=>f.i=0
 |_ ::fs=>xl fs
structure OL(ns:List Int)(B:Bd):Prop where
 nd:∃ d ds,B.nodes=d ::ds /\ d.b=B.row.length /\ ((∃ r k,B.row=r++[brk k]) \/ ∃ ws n,(∀ b∈ws,wht b=true) /\ B.row=ws++lfb (gi ns n) /\ d.a=ws.length /\ d.s=lfK (gi ns n))
structure pK(ns:List Int)(B:Bd):Prop where
 jn:Jn B
 lo:xl B.frs
 fin:B.frs=[]->OL ns B
theorem AW(nm:List Int)(v:PV)(fs:List Fr)(h:xl fs):xl (gq nm v fs):=by
 cases fs with
 |nil=>trivial
 | cons g gs=>cases gs with
   |nil=>exact h
   |cons _ _=>exact h
theorem Ds{f:Fr}{fs:List Fr}(h:xl (f ::fs)):xl fs:=by
 cases fs with
 |nil=>trivial
 |cons g gs=>exact h
theorem Dp{f:Fr}{fs:List Fr}(h:xl fs)(hn:fs≠[]):xl (f ::fs):=by
 cases fs with
 |nil=>exact absurd rfl hn
 |cons g gs=>exact h
theorem pK.close{ns:List Int}{B:Bd}{k:Nat}(h:pK ns B)(hk:Bok B k)(hne:B.frs≠[])(hd:k<=60):pK ns B.close:=by
 have hdep:=hk.dep
 refine⟨h.jn.close hne (by omega),?_,?_⟩
 . have:=h.lo;unfold Bd.close
   cases e:B.frs with
   |nil=>exact absurd e hne
   |cons f fs=>rw[e]at this;exact AW _ _ _ (Ds this)
 . have hlo:=h.lo;have hfr:=hk.frs;unfold Bd.close
   cases e:B.frs with
   |nil=>exact absurd e hne
   | cons f fs=>
     rw[e]at hlo hfr
     cases fs with
     |cons g gs=>intro z;simp[gq]at z
     | nil=>
       intro _
       have h0:f.i=0:=hlo
       have hl:=hfr.1
       cases hn:B.nodes with
       |nil=>rw[hn]at hl;simp at hl
       | cons d ds=>
         refine⟨⟨{ d with b:=B.row.length+1,c:=(d ::ds).length },ds,?_,?_,.inl ⟨B.row,f.k,rfl⟩⟩⟩
         . simp[inF,h0]
         . simp
theorem pK.step{ns:List Int}{B:Bd}{k:Nat}(h:pK ns B)(hk:Bok B k)(hd:k<=50)(h0:k≠0):pK ns (B.step ns k):=by
 have hdep:=hk.dep;unfold Bd.step;split
 . rename_i hc
   have hne:B.frs≠[]:=by intro z;rw[z]at hc;simp at hc
   refine pK.close (k:=k+1) (B:={ B with row:=B.row++lwh (PG.mix ns k/3) }) ⟨h.jn.br (by omega) _ (dE _),h.lo,fun z=>absurd z hne⟩ ⟨?_,?_,?_,?_⟩ hne (by omega)
   . have:=gg (PG.mix ns k/3);have:=hk.row;simp;omega
   . have:=hk.nodes;simp;omega
   . exact FOk.mono (Nat.le_refl _) (Nat.le_succ _) hk.frs
   . simp;omega
 . split
   . rename_i hc
     have hne:B.frs≠[]:=by
      intro z;rw[z]at hc;simp at hc;exact h0 hc
     have hr:=LX ns B (PG.mix ns k) (by omega) h.jn hne;split
     . refine⟨E0 hr (by omega),?_,fun z=>by simp[Bd.opn]at z⟩
       exact Dp h.lo hne
     . refine⟨Ct hr (by omega),AW _ _ _ h.lo,fun z=>?_⟩
       unfold Bd.leaf at z;simp only at z
       cases e:B.frs with
       |nil=>exact absurd e hne
       |cons g gs=>rw[e]at z;simp[gq]at z
   . exact h
theorem pK.first(ns:List Int):pK ns (bd0.step ns 0):=by
 have hr:=ID ns bd0 (PG.mix ns 0) rfl rfl
 have hd:bd0.frs.length<=60:=by simp[bd0]
 unfold Bd.step;rw[if_neg (by simp[bd0]),if_pos (.inr rfl)];split
 . exact⟨E0 hr hd,rfl,fun z=>by simp[Bd.opn]at z⟩
 . refine⟨Ct hr hd,trivial,fun _=>⟨⟨⟨lfK (gi ns (PG.mix ns 0)),(bu ns bd0 (PG.mix ns 0)).length,(bu ns bd0 (PG.mix ns 0)++lfb (gi ns (PG.mix ns 0))).length,(aP ns bd0 (PG.mix ns 0)).length+1⟩,[],rfl,rfl,.inr ⟨bu ns bd0 (PG.mix ns 0),PG.mix ns 0,?_,rfl,rfl,rfl⟩⟩⟩⟩
   intro b hb
   have:bu ns bd0 (PG.mix ns 0)=lwh (PG.mix ns 0/3):=by simp[bu,dy,bd0,inF,full]
   rw[this]at hb;exact dE _ b hb
theorem zp(ns:List Int):∀(j i:Nat) (B:Bd),pK ns B->Bok B i->i≠0->i+j<=50->pK ns (bld ns B i j)
 |0,_,_,h,_,_,_=>h
 |j+1,i,B,h,hk,h0,hj=>zp ns j (i+1) _ (h.step hk (by omega) h0) (hk.step ns) (by omega) (by omega)
theorem Cd(ns:List Int):∀(j:Nat) (B:Bd) (k:Nat),pK ns B->Bok B k->k+j<=60->B.frs.length=j->pK ns (cls B j) /\ (cls B j).frs=[]
 |0,B,k,h,_,_,hj=>⟨h,List.length_eq_zero_iff.mp hj⟩
 | j+1,B,k,h,hk,hkj,hj=>by
   have hne:B.frs≠[]:=by intro z;rw[z]at hj;simp at hj
   have hb:=hk.close [] (by simp);rw[show({ B with row:=B.row++[] }:Bd)=B by cases B;simp]at hb;exact Cd ns j B.close (k+1) (h.close hk hne (by omega)) hb (by omega) (by rw[uz];omega)
theorem En(ns:List Int)(m:Nat)(h1:1<=m)(hm:m<=20):∃ C,pK ns C /\ C.frs=[] /\ gW ns m={ C with row:=C.row++lwh (PG.mix ns 61) } /\ C.row.length<=800*m:=by
 obtain⟨m,rfl⟩:∃ j,m=j+1:=⟨m - 1,by omega⟩
 have hok:=yx ns (m+1) 0 bd0 qy;have h:=zp ns m 1 (bd0.step ns 0) (pK.first ns) (qy.step ns) (by omega) (by omega);have hd:=hok.dep;have hc:=Cd ns (bld ns bd0 0 (m+1)).frs.length (bld ns bd0 0 (m+1)) (0+(m+1)) h hok (by omega) rfl;have hr:=(zy (bld ns bd0 0 (m+1)).frs.length _ _ hok).row
 exact⟨_,hc.1,hc.2,rfl,Nat.le_trans hr (by omega)⟩
theorem jK{l:List Int}{xs ys:List Int}{x:Int}(h:l=xs++x ::ys){i:Int}(hi:i=xs.length):atP (l.map PV.int) i=some (.int x):=by
 rw[hi,kn,List.getElem?_map,h];simp
theorem Ad{m:Nat}(h:m<=90000):m<fuel:=by unfold fuel;omega
theorem Ii(row:List Int)(a:Option Sl){body:List Int}(hb:Skp body):∀(pre post:List Int) (n:Nat),row=pre++(body++34 ::post)->body.length<n ->
  bX fq ir n [some (.sh (.lst (row.map .int))),a,some (.sh (.int (pre.length:Int)))]=.nx [some (.sh (.lst (row.map .int))),a,some (.sh (.int ((pre.length:Int)+body.length)))]:=by
 induction hb with
 | nil=>
   intro pre post n hr hn
   obtain⟨m,rfl⟩:∃ m,n=m+1:=⟨n - 1,by simp at hn;omega⟩
   have ha:atP (row.map PV.int) (pre.length:Int)=some (.int 34):=jK (xs:=pre) (ys:=post) hr rfl
   have hc:fq [some (.sh (.lst (row.map .int))),a,some (.sh (.int (pre.length:Int)))]=.ok false:=by simp[fq,ha]
   simp[bX,hc]
 | @one b r h1 h2 _ ih=>
   intro pre post n hr hn
   obtain⟨m,rfl⟩:∃ m,n=m+1:=⟨n - 1,by simp at hn;omega⟩
   have ha:atP (row.map PV.int) (pre.length:Int)=some (.int b):=jK (xs:=pre) (ys:=r++34 ::post) (by rw[hr];simp) rfl
   have hc:fq [some (.sh (.lst (row.map .int))),a,some (.sh (.int (pre.length:Int)))]=.ok true:=by simp[fq,ha,h1]
   have hb:ir [some (.sh (.lst (row.map .int))),a,some (.sh (.int (pre.length:Int)))]=.nx [some (.sh (.lst (row.map .int))),a,some (.sh (.int ((pre++[b]).length:Int)))]:=by simp[ir,ha,h2]
   have:=ih (pre++[b]) post m (by rw[hr];simp) (by simp at hn;omega);simp only[bX,hc,eK,if_true,hb,iD,this]
   congr 6
   simp;omega
 | @two c r _ ih=>
   intro pre post n hr hn
   obtain⟨m,rfl⟩:∃ m,n=m+1:=⟨n - 1,by simp at hn;omega⟩
   have ha:atP (row.map PV.int) (pre.length:Int)=some (.int 92):=jK (xs:=pre) (ys:=c ::(r++34 ::post)) (by rw[hr];simp) rfl
   have hc:fq [some (.sh (.lst (row.map .int))),a,some (.sh (.int (pre.length:Int)))]=.ok true:=by simp[fq,ha]
   have hb:ir [some (.sh (.lst (row.map .int))),a,some (.sh (.int (pre.length:Int)))]=.nx [some (.sh (.lst (row.map .int))),a,some (.sh (.int ((pre++[92,c]).length:Int)))]:=by simp[ir,ha]
   have:=ih (pre++[92,c]) post m (by rw[hr];simp) (by simp at hn;omega);simp only[bX,hc,eK,if_true,hb,iD,this]
   congr 6
   simp;omega
theorem DR(row pre post body:List Int)(hb:Skp body)(hr:row=pre++34 ::(body++34 ::post))(hl:row.length<=90000):jj [.lst (row.map .int),.int pre.length]=.ok (.sh (.int ((pre.length:Int)+body.length+2))):=by
 have h:=Ii row (some (.sh (.int pre.length))) hb (pre++[34]) post fuel (by rw[hr];simp) (Ad (by rw[hr]at hl;simp at hl;omega))
 have e1:((pre++[34]:List Int).length:Int)=(pre.length:Int)+1:=by simp
 rw[e1]at h
 have e2:(pre.length:Int)+1+(body.length:Int)+1=(pre.length:Int)+body.length+2:=by omega
 simp -implicitDefEqProofs [tP,tK,xh,jj,h,e2]
theorem GN(row:List Int):fk [.lst (row.map .int),.int (row.length:Int)]=.ok (.sh (.bl false)):=by
 have hc:eA [some (.sh (.lst (row.map .int))),some (.sh (.int (row.length:Int)))]=.ok false:=by simp[eA]
 obtain⟨n,hn⟩:∃ n,fuel=n+1:=⟨99999,rfl⟩
 simp -implicitDefEqProofs [nY,fk,hn,bX,hc]
theorem GV(row pre post:List Int)(b:Int)(hr:row=pre++b ::post)(hw:wht b=false):fk [.lst (row.map .int),.int (pre.length:Int)]=.ok (.sh (.bl (decide (b=58)))):=by
 have ha:atP (row.map PV.int) (pre.length:Int)=some (.int b):=jK (xs:=pre) (ys:=post) hr rfl
 have hl:pre.length<row.length:=by rw[hr];simp
 have hc:eA [some (.sh (.lst (row.map .int))),some (.sh (.int (pre.length:Int)))]=.ok false:=by simp[eA,ha,cq,hw]
 obtain⟨n,hn⟩:∃ n,fuel=n+1:=⟨99999,rfl⟩
 simp -implicitDefEqProofs [nY,fk,hn,bX,hc,ha,hl]
theorem u6(row pre post:List Int)(ss:List Sg)(hok:∀ s∈ss,Sok s)(i:Int)(nm:Bool)(hr:row=pre++(PG.txt ss++post))(hl:row.length<=90000)
  (hn:fk [.lst (row.map .int),.int ((pre.length:Int)+(PG.inner ss).length+2)]=.ok (.sh (.bl nm))):i8 [.lst (row.map .int),.int pre.length,.int i]=.ok (.sh (.tup [.str (if nm then "name" else "text"),.int pre.length,.int ((pre.length:Int)+(PG.inner ss).length+2),.int (i+1)])):=by
 have hr':row=pre++34 ::(PG.inner ss++34 ::post):=by rw[hr];simp[PG.txt]
 have ha:atP (row.map PV.int) (pre.length:Int)=some (.int 34):=jK (xs:=pre) (ys:=PG.inner ss++34 ::post) hr' rfl
 have hte:=DR row pre post (PG.inner ss) (Ee ss hok) hr' hl
 cases nm<;>simp -implicitDefEqProofs [nP,nV,nT,uB,i8,ha,jt,List.lookup,gNe,eqS,hte,hn]
theorem EN{xs:List PV}{x:PV}:atP (xs++[x]) (-1)=some x:=by
 unfold atP;rw[show(xs++[x]).length=xs.length+1 by simp,K7];simp
noncomputable abbrev NS0(row:List Int)(tree:List PV)(un:List OV)(p:Int)(b i:Option Sl):ag:=[some (.sh (.lst (row.map .int))),some (.ow tree),some (.tr false (.ol un)),some (.sh (.int p)),b,i]
theorem xS{row:List Int}{tree:List PV}{un:List OV}{p e n:Int}{b:Int}{x y:Option Sl}{nm:Str}(ha:atP (row.map PV.int) p=some (.int b))(h1:b≠91)(h2:b≠123)(h3:b≠93)(h4:b≠125)(h5:wht b=false)(h6:b≠44)(h7:b≠58)(ht:tree.length<=90000)
  (hleaf:i8 [.lst (row.map .int),.int p,.int tree.length]=.ok (.sh (.tup [.str nm,.int p,.int e,.int n]))):
  cB (NS0 row tree un p x y)=.nx (NS0 row (tree++[.tup [.str nm,.int p,.int e,.int n]]) un e (some (.sh (.int b))) y):=by
 have hl:tree.length<lim:=o3 (by omega)
 have z:∀ k:Int,b≠k->(k==b)=false:=fun k h=>by simpa using fun q=>h q.symm
 have hlast:=EN (xs:=tree) (x:=.tup [.str nm,.int p,.int e,.int n]);simp -implicitDefEqProofs [cB,ha,gIn,kG,dP,fg,z _ h1,z _ h2,z _ h3,z _ h4,z _ h6,z _ h7,cq,h5,hleaf,hl,hlast]
theorem zO(row:List Int)(tree:List PV)(un:List OV)(p:Int)(b i:Option Sl):gM (NS0 row tree un p b i)=.ok (decide (p<row.length)):=by
 simp[gM]
theorem Du(row:List Int)(tree:List PV)(p:Int)(b i:Option Sl)(ys:List PV)(hf:PG.flt row=none)(hl:8*row.length+20<100000)(ht:tree.length<=90000)
  (hw:bX gM cB fuel (NS0 row [] [] 0 none none)=.nx (NS0 row tree [] p b i)) (hy:da uf [some (.sh (.lst tree))] (cT tree.length)=.ok ys) (hyl:ys.length=tree.length):mS [.lst (row.map .int)]=.ok (.fr ys):=by
 have hr:=Fi row hl;rw[hf]at hr
 have hlim:tree.length<=lim:=fi (by omega)
 have hb:-4611686018427387904<=(tree.length:Int) /\ (tree.length:Int)<4611686018427387904:=by omega
 have e5:uu (NS0 row tree [] p b i)=.rt [some (.sh (.lst (row.map .int))),some (.sh (.lst tree)),some (.tr false (.ol [])),some (.sh (.int p)),b,i] (.fr ys):=by
  have hfz:lD 1 (NS0 row tree [] p b i)=[some (.sh (.lst (row.map .int))),some (.sh (.lst tree)),some (.tr false (.ol [])),some (.sh (.int p)),b,i]:=rfl
  simp -implicitDefEqProofs [uu,hfz,dw,hb,hy,hyl,hlim]
 have e2:uJ [some (.sh (.lst (row.map .int))),some (.ow []),none,none,none,none]=.rt [some (.sh (.lst (row.map .int))),some (.sh (.lst tree)),some (.tr false (.ol [])),some (.sh (.int p)),b,i] (.fr ys):=by
  have hsd:lr 2 (mD (b5 aJ)) [some (.sh (.lst (row.map .int))),some (.ow []),none,none,none,none]=.nx [some (.sh (.lst (row.map .int))),some (.ow []),some (.tr false (.ol [])),none,none,none]:=by simp[lr,mD]
  simp -implicitDefEqProofs only[uJ,oY,hsd,i5,xK,BQ,N7,hU,Ih,List.set_cons_succ,List.set_cons_zero,xZ,hw,e5]
 simp -implicitDefEqProofs [mS,CD,hr,xP,e2]
theorem Bz{row:List Int}{tree:List PV}{un:List OV}{p:Int}{x y:Option Sl}(k:Bool)(ha:atP (row.map PV.int) p=some (.int (if k then 123 else 91)))(ht:tree.length<=90000)(hu:un.length<=90000):
  cB (NS0 row tree un p x y)=.nx (NS0 row (tree++[.tup [.str (if k then "fields" else "row"),.int p]]) (un++[.sh (.int (tree.length:Int))]) (p+1) (some (.sh (.int (if k then 123 else 91)))) y):=by
 have h1:bR 2 aI (mD (mUn mK (ao 1))) [some (.sh (.lst (row.map .int))),some (.ow tree),some (.tr false (.ol un)),some (.sh (.int p)),some (.sh (.int (if k then 123 else 91))),y]=.nx [some (.sh (.lst (row.map .int))),some (.ow tree),some (.tr false (.ol (un++[.sh (.int (tree.length:Int))]))),some (.sh (.int p)),some (.sh (.int (if k then 123 else 91))),y]:=by
  refine AA (ts:=un) (io:=false) rfl ?_ (o3 (by omega));simp[mD]
 have hl:tree.length<lim:=o3 (by omega)
 cases k<;>simp only[if_true,Bool.false_eq_true,if_false]at ha h1 ⊢ <;>
  simp -implicitDefEqProofs [cB,ha,gIn,kG,dP,fg,h1,C1,List.lookup,hl]
theorem BA{row:List Int}{tree:List PV}{un:List OV}{p b:Int}{x y:Option Sl}(ha:atP (row.map PV.int) p=some (.int b))(hb:wht b=true \/ b=44 \/ b=58):
  cB (NS0 row tree un p x y)=.nx (NS0 row tree un (p+1) (some (.sh (.int b))) y):=by
 rcases hb with h|rfl|rfl
 . have hc:b = 9 \/ b = 10 \/ b = 13 \/ b = 32:=by
    unfold wht at h;simp only[Bool.or_eq_true,decide_eq_true_eq]at h;omega
   rcases hc with rfl|rfl|rfl|rfl<;>simp -implicitDefEqProofs [cB,ha,gIn,kG,dP,fg,cq,wht]
 . have hw:wht 44=false:=rfl
   simp -implicitDefEqProofs [cB,ha,gIn,kG,dP,fg,cq,hw]
 . have hw:wht 58=false:=rfl
   simp -implicitDefEqProofs [cB,ha,gIn,kG,dP,fg,cq,hw]
theorem Ao{row:List Int}{tree:List PV}{un:List OV}{p a:Int}{j:Nat}{x y:Option Sl}{nm:Str}{rest:List PV}(k:Bool)(ha:atP (row.map PV.int) p=some (.int (if k then 125 else 93)))(he:tree[j]?=some (.tup (.str nm ::.int a ::rest))):
  cB (NS0 row tree (un++[.sh (.int (j:Int))]) p x y)=.nx (NS0 row (tree.set j (.tup [.str nm,.int a,.int (p+1),.int (tree.length:Int)])) un (p+1) (some (.sh (.int (if k then 125 else 93)))) (some (.sh (.int (j:Int))))):=by
 have h1:∀ u v z w,iE 5 (m6 2 aI) [u,v,some (.tr false (.ol (un++[.sh (.int (j:Int))]))),z,w,y]=.nx [u,v,some (.tr false (.ol un)),z,w,some (.sh (.int (j:Int)))]:=by
  intro u v z w;unfold iE;rw[FC (ts:=un) (x:=.sh (.int (j:Int))) (io:=false) rfl];rfl
 have hj:j<tree.length:=(List.getElem?_eq_some_iff.mp he).1
 have hat:atP tree (j:Int)=some (.tup (.str nm ::.int a ::rest)):=by rw[kn,he]
 have hix:ixP tree.length (j:Int)=some j:=Hs _ _ hj
 cases k<;>simp only[if_true,Bool.false_eq_true,if_false]at ha ⊢ <;>
  simp -implicitDefEqProofs [cB,ha,gIn,kG,dP,fg,h1,hat,hix]
theorem Kp{row:List Int}{tree:List PV}{un:List OV}{p:Int}{x y:Option Sl}{n:Nat}{s:ag}(h:p<row.length)(ht:cB (NS0 row tree un p x y)=.nx s):bX gM cB (n+1) (NS0 row tree un p x y)=bX gM cB n s:=by
 have hc:=zO row tree un p x y;rw[show decide (p<(row.length:Int))=true by simpa using h]at hc;simp only[bX,hc,eK,if_true,ht,iD]
theorem M1{row:List Int}{tree:List PV}{un:List OV}{p:Int}{x y:Option Sl}{n:Nat}(h:¬ p<row.length):bX gM cB (n+1) (NS0 row tree un p x y)=.nx (NS0 row tree un p x y):=by
 have hc:=zO row tree un p x y;rw[show decide (p<(row.length:Int))=false by simpa using h]at hc;simp only[bX,hc,eK,Bool.false_eq_true,if_false]
theorem Gx{b:Int}(h:plb b):wht b=false /\ b≠44 /\ b≠93 /\ b≠125 /\ b≠91 /\ b≠123 /\ b≠58 /\ b≠34:=by
 unfold plb isF at h
 refine⟨?_,by omega,by omega,by omega,by omega,by omega,by omega,by omega⟩
 unfold wht;simp only[Bool.or_eq_false_iff,decide_eq_false_iff_not];omega
theorem Bm(row:List Int)(a:Option Sl):∀(body pre post:List Int) (n:Nat),row=pre++(body++post)->(∀ b∈body,wht b=false /\ b≠44 /\ b≠93 /\ b≠125)->(post=[] \/ ∃ y r,post=y ::r /\ (wht y=true \/ y=44 \/ y=93 \/ y=125))->body.length<n ->
  bX dC kl n [some (.sh (.lst (row.map .int))),a,some (.sh (.int (pre.length:Int)))]=.nx [some (.sh (.lst (row.map .int))),a,some (.sh (.int ((pre.length+body.length:Nat):Int)))]:=by
 intro body
 induction body with
 | nil=>
   intro pre post n hr _ hp hn
   obtain⟨m,rfl⟩:∃ m,n=m+1:=⟨n - 1,by simp at hn;omega⟩
   have hc:dC [some (.sh (.lst (row.map .int))),a,some (.sh (.int (pre.length:Int)))]=.ok false:=by
    rcases hp with rfl|⟨y,r,rfl,hy⟩
    . have:row=pre:=by simpa using hr
      subst this;simp[dC]
    . have ha:atP (row.map PV.int) (pre.length:Int)=some (.int y):=jK (xs:=pre) (ys:=r) hr rfl
      have hl:pre.length<row.length:=by rw[hr];simp
      cases hw:wht y with
      |true=>simp[dC,ha,cq,hw,hl]
      | false=>
        rw[hw]at hy
        rcases hy with z|rfl|rfl|rfl
        . cases z
        . simp[dC,ha,cq,hw,hl,oX,kG,dP,fg]
        . simp[dC,ha,cq,hw,hl,oX,kG,dP,fg]
        . simp[dC,ha,cq,hw,hl,oX,kG,dP,fg]
   simp[bX,hc]
 | cons b body ih=>
   intro pre post n hr hb hp hn
   obtain⟨m,rfl⟩:∃ m,n=m+1:=⟨n - 1,by simp at hn;omega⟩
   have ha:atP (row.map PV.int) (pre.length:Int)=some (.int b):=jK (xs:=pre) (ys:=body++post) hr rfl
   have hl:pre.length<row.length:=by rw[hr];simp
   obtain⟨h1,h2,h3,h4⟩:=hb b List.mem_cons_self
   have z:∀ k:Int,b≠k->¬ k=b:=fun k h q=>h q.symm
   have hc:dC [some (.sh (.lst (row.map .int))),a,some (.sh (.int (pre.length:Int)))]=.ok true:=by
    simp[dC,ha,cq,h1,hl,oX,kG,dP,fg,z _ h2,z _ h3,z _ h4]
   have hb2:kl [some (.sh (.lst (row.map .int))),a,some (.sh (.int (pre.length:Int)))]=.nx [some (.sh (.lst (row.map .int))),a,some (.sh (.int ((pre++[b]).length:Int)))]:=by simp[kl]
   have:=ih (pre++[b]) post m (by rw[hr];simp) (fun x hx=>hb x (List.mem_cons_of_mem _ hx)) hp (by simp at hn;omega);simp only[bX,hc,eK,if_true,hb2,iD,this]
   have e:(pre++[b]).length+body.length=pre.length+(b ::body).length:=by simp;omega
   rw[e]
theorem wQ(row pre body post:List Int)(hr:row=pre++(body++post))(hb:∀ b∈body,wht b=false /\ b≠44 /\ b≠93 /\ b≠125)(hp:post=[] \/ ∃ y r,post=y ::r /\ (wht y=true \/ y=44 \/ y=93 \/ y=125))(hl:row.length<=90000):g9 [.lst (row.map .int),.int pre.length]=.ok (.sh (.int ((pre.length:Int)+body.length))):=by
 have h:=Bm row (some (.sh (.int pre.length))) body pre post fuel hr hb hp (by unfold fuel;rw[hr]at hl;simp at hl;omega)
 have e:((pre.length+body.length:Nat):Int)=(pre.length:Int)+body.length:=by omega
 rw[e]at h;simp -implicitDefEqProofs [rH,r9,u1,g9,h]
theorem zN{m:Nm}(h:Nok m):∃ b r,PG.nb m=b ::r /\ (isF b \/ b=45):=by
 unfold PG.nb
 cases m.neg with
 |true=>exact⟨45,_,rfl,.inr rfl⟩
 | false=>
   rcases h.ip with e|⟨d,r,e,h1,h2,h3⟩
   . rw[e];exact⟨48,_,rfl,.inl (by decide)⟩
   . rw[e];exact⟨d,_,rfl,.inl (by unfold isF;omega)⟩
theorem BZ(row pre post:List Int)(m:Nm)(h:Nok m)(i:Int)(hr:row=pre++(PG.nb m++post))(hp:post=[] \/ ∃ y r,post=y ::r /\ (wht y=true \/ y=44 \/ y=93 \/ y=125))(hl:row.length<=90000):
  i8 [.lst (row.map .int),.int pre.length,.int i]=.ok (.sh (.tup [.str "number",.int pre.length,.int ((pre.length:Int)+(PG.nb m).length),.int (i+1)])):=by
 obtain⟨b,r,e,hb⟩:=zN h
 have ha:atP (row.map PV.int) (pre.length:Int)=some (.int b):=jK (xs:=pre) (ys:=r++post) (by rw[hr,e];simp) rfl
 have hpe:=wQ row pre (PG.nb m) post hr (fun x hx=>by have:=Gx (Ap h x hx);exact⟨this.1,this.2.1,this.2.2.1,this.2.2.2.1⟩) hp hl
 have z:∀ k:Int,(k=34 \/ k=91 \/ k=102 \/ k=110 \/ k=116 \/ k=123)->(b==k)=false:=fun k hk=>by
  unfold isF at hb;simp only[beq_eq_false_iff_ne,ne_eq];omega
 simp -implicitDefEqProofs [nP,nV,nT,uB,i8,ha,jt,List.lookup,z 34 (by simp),z 91 (by simp),z 102 (by simp),z 110 (by simp),z 116 (by simp),z 123 (by simp),gNe,eqS,aH,hpe]
noncomputable def RA(W:List Int)(tree:List PV)(un:List OV)(P:List Int):Prop:=∃(k:Nat) (x y:Option Sl),k<=P.length /\ ∀ n,bX gM cB (n+k) (NS0 W [] [] 0 none none)=bX gM cB n (NS0 W tree un P.length x y)
theorem RA.nil(W:List Int):RA W [] [] []:=⟨0,none,none,by simp,fun n=>rfl⟩
theorem RA.go{W:List Int}{tree tree':List PV}{un un':List OV}{P Q:List Int}(h:RA W tree un P)(hP:P.length<W.length)(hQ:P.length<Q.length)(ht:∀ x y,∃ x' y',cB (NS0 W tree un P.length x y)=.nx (NS0 W tree' un' Q.length x' y')):RA W tree' un' Q:=by
 obtain⟨k,x,y,hk,h⟩:=h;obtain⟨x',y',ht⟩:=ht x y
 refine⟨k+1,x',y',by omega,fun n=>?_⟩
 rw[show n+(k+1)=(n+1)+k by omega,h (n+1),Kp (by omega) ht]
theorem RA.skip{W:List Int}{tree:List PV}{un:List OV}{P X:List Int}{b:Int}(h:RA W tree un P)(hW:W=P++b ::X)(hb:wht b=true \/ b=44 \/ b=58):RA W tree un (P++[b]):=by
 refine h.go (by rw[hW];simp) (by simp) fun x y=>?_
 have:=BA (tree:=tree) (un:=un) (x:=x) (y:=y) (jK hW rfl) hb;rw[show((P.length:Int)+1)=((P++[b]).length:Int) by simp]at this
 exact⟨_,_,this⟩
theorem RA.br{W:List Int}{tree:List PV}{un:List OV}:∀{ws P X:List Int},RA W tree un P->W=P++(ws++X)->(∀ b∈ws,wht b=true)->RA W tree un (P++ws)
 |[],P,X,h,_,_=>by rw[List.append_nil];exact h
 | w ::ws,P,X,h,hW,hw=>by
   have h1:=h.skip (b:=w) (X:=ws++X) (by rw[hW];simp) (.inl (hw w List.mem_cons_self));have h2:=RA.br (ws:=ws) (X:=X) h1 (by rw[hW];simp) (fun b hb=>hw b (List.mem_cons_of_mem _ hb));rw[show P++w ::ws=P++[w]++ws by simp];exact h2
theorem RA.opn{W:List Int}{tree:List PV}{un:List OV}{P X:List Int}(k:Bool)(h:RA W tree un P)(hW:W=P++(if k then 91 else 123) ::X)(ht:tree.length<=90000)(hu:un.length<=90000):
  RA W (tree++[.tup [.str (kN k),.int P.length]]) (un++[.sh (.int (tree.length:Int))]) (P++[if k then 91 else 123]):=by
 refine h.go (by rw[hW];simp) (by simp) fun x y=>?_
 have:=Bz (row:=W) (tree:=tree) (un:=un) (p:=P.length) (x:=x) (y:=y) (!k) (jK (xs:=P) (ys:=X) (by rw[hW];cases k<;>rfl) rfl) ht hu;rw[show((P.length:Int)+1)=((P++[if k then 91 else 123]).length:Int) by simp]at this
 refine⟨some (.sh (.int (if(!k)then 123 else 91))),y,this.trans ?_⟩
 cases k<;>rfl
theorem RA.close{W:List Int}{tree:List PV}{un:List OV}{P X:List Int}{j:Nat}{nm:Str}{a:Int}{rest:List PV}(k:Bool)(h:RA W tree (un++[.sh (.int (j:Int))]) P)(hW:W=P++brk k ::X)(he:tree[j]?=some (.tup (.str nm ::.int a ::rest))):
  RA W (tree.set j (.tup [.str nm,.int a,.int (P.length+1),.int (tree.length:Int)])) un (P++[brk k]):=by
 refine h.go (by rw[hW];simp) (by simp) fun x y=>?_
 have:=Ao (row:=W) (tree:=tree) (un:=un) (p:=P.length) (x:=x) (y:=y) (!k) (jK (xs:=P) (ys:=X) (by rw[hW];cases k<;>rfl) rfl) he;rw[show NS0 W (tree.set j (.tup [.str nm,.int a,.int ((P.length:Int)+1),.int (tree.length:Int)])) un ((P.length:Int)+1)=NS0 W (tree.set j (.tup [.str nm,.int a,.int ((P.length:Int)+1),.int (tree.length:Int)])) un ((P++[brk k]).length:Int) by simp]at this
 exact⟨_,_,this⟩
noncomputable def Fw(X:List Int):Prop:=∃ ws r,(∀ b∈ws,wht b=true) /\ X=ws++r /\ (r=[] \/ ∃ y r',r=y ::r' /\ (y=44 \/ y=93 \/ y=125))
theorem Fw.num{X:List Int}(h:Fw X):X=[] \/ ∃ y r,X=y ::r /\ (wht y=true \/ y=44 \/ y=93 \/ y=125):=by
 obtain⟨ws,r,hw,rfl,hr⟩:=h
 cases ws with
 | nil=>
   rcases hr with z|⟨y,r',rfl,hy⟩
   . left;simpa using z
   . right;exact⟨y,r',rfl,.inr hy⟩
 |cons w ws=>right;exact⟨w,ws++r,rfl,.inl (hw w List.mem_cons_self)⟩
theorem C6(row:List Int):∀(ws pre post:List Int) (n:Nat),row=pre++(ws++post)->(∀ b∈ws,wht b=true)->(post=[] \/ ∃ y r,post=y ::r /\ wht y=false)->ws.length<n ->
  bX eA mT n [some (.sh (.lst (row.map .int))),some (.sh (.int pre.length))]=.nx [some (.sh (.lst (row.map .int))),some (.sh (.int (pre++ws).length))]
 | [],pre,post,n,hr,_,hp,hn=>by
   obtain⟨n,rfl⟩:∃ m,n=m+1:=⟨n - 1,by simp at hn;omega⟩
   have hc:eA [some (.sh (.lst (row.map .int))),some (.sh (.int pre.length))]=.ok false:=by
    rcases hp with z|⟨y,r,z,hy⟩
    . have:row.length=pre.length:=by rw[hr,z];simp
      simp[eA,this]
    . have ha:atP (row.map PV.int) (pre.length:Int)=some (.int y):=jK (xs:=pre) (ys:=r) (by rw[hr,z];rfl) rfl
      simp[eA,ha,cq,hy]
   simp only[bX,hc,eK,Bool.false_eq_true,if_false,List.append_nil]
 | w ::ws,pre,post,n,hr,hw,hp,hn=>by
   obtain⟨n,rfl⟩:∃ m,n=m+1:=⟨n - 1,by simp at hn;omega⟩
   have ha:atP (row.map PV.int) (pre.length:Int)=some (.int w):=jK (xs:=pre) (ys:=ws++post) (by rw[hr];rfl) rfl
   have hl:pre.length<row.length:=by rw[hr];simp
   have hc:eA [some (.sh (.lst (row.map .int))),some (.sh (.int pre.length))]=.ok true:=by
    simp[eA,ha,cq,hw w List.mem_cons_self,hl]
   have hb:mT [some (.sh (.lst (row.map .int))),some (.sh (.int pre.length))]=.nx [some (.sh (.lst (row.map .int))),some (.sh (.int (pre++[w]).length))]:=by
    simp[mT]
   have ih:=C6 row ws (pre++[w]) post n (by rw[hr];simp) (fun b hb=>hw b (List.mem_cons_of_mem _ hb)) hp (by simp at hn;omega);simp only[bX,hc,eK,if_true,hb,iD,ih];simp
theorem tL(row pre ws post:List Int)(hr:row=pre++(ws++post))(hw:∀ b∈ws,wht b=true)(hp:post=[] \/ ∃ y r,post=y ::r /\ wht y=false)(hl:row.length<=90000):
  fk [.lst (row.map .int),.int pre.length]=.ok (.sh (.bl (decide (post.head?=some 58)))):=by
 have hlp:=C6 row ws pre post fuel hr hw hp (Ad (by rw[hr]at hl;simp at hl;omega))
 have e0:fk [.lst (row.map .int),.int pre.length]=fin (nY [some (.sh (.lst (row.map .int))),some (.sh (.int pre.length))]):=rfl
 rw[e0];unfold nY;rw[bt hlp]
 rcases hp with z|⟨y,r,z,hy⟩
 . have hlen:row.length=(pre++ws).length:=by rw[hr,z];simp
   rw[z];simp -implicitDefEqProofs [xR,hlen]
 . have ha:atP (row.map PV.int) ((pre++ws).length:Int)=some (.int y):=jK (xs:=pre++ws) (ys:=r) (by rw[hr,z];simp) rfl
   have hlt:(pre++ws).length<row.length:=by rw[hr,z];simp
   rw[z];generalize (pre++ws).length=q at *;simp -implicitDefEqProofs [xR,hlt,gN,ha]
theorem Af(row pre post:List Int)(w:Wd)(i:Int)(hr:row=pre++(wdb w++post))(hp:post=[] \/ ∃ y r,post=y ::r /\ (wht y=true \/ y=44 \/ y=93 \/ y=125))(hl:row.length<=90000):
  i8 [.lst (row.map .int),.int pre.length,.int i]=.ok (.sh (.tup [.str (lfK (.wd w)),.int pre.length,.int ((pre.length:Int)+(wdb w).length),.int (i+1)])):=by
 have hpe:=wQ row pre (wdb w) post hr (fun x hx=>by
  have:x=110 \/ x=117 \/ x=108 \/ x=116 \/ x=114 \/ x=101 \/ x=102 \/ x=97 \/ x=115:=by cases w<;>simp[wdb]at hx<;>omega
  rcases this with z|z|z|z|z|z|z|z|z<;>subst z<;>decide) hp hl
 cases w with
 | null=>
   have ha:atP (row.map PV.int) (pre.length:Int)=some (.int 110):=jK (xs:=pre) (ys:=[117,108,108]++post) (by rw[hr];rfl) rfl
   simp -implicitDefEqProofs [nP,nV,nT,uB,i8,ha,jt,List.lookup,gNe,eqS,aH,hpe,lfK]
 | tru=>
   have ha:atP (row.map PV.int) (pre.length:Int)=some (.int 116):=jK (xs:=pre) (ys:=[114,117,101]++post) (by rw[hr];rfl) rfl
   simp -implicitDefEqProofs [nP,nV,nT,uB,i8,ha,jt,List.lookup,gNe,eqS,aH,hpe,lfK]
 | fal=>
   have ha:atP (row.map PV.int) (pre.length:Int)=some (.int 102):=jK (xs:=pre) (ys:=[97,108,115,101]++post) (by rw[hr];rfl) rfl
   simp -implicitDefEqProofs [nP,nV,nT,uB,i8,ha,jt,List.lookup,gNe,eqS,aH,hpe,lfK]
theorem Eh(row pre post:List Int)(x:Lf)(hx:Lok x)(i:Int)(hr:row=pre++(lfb x++post))(hp:Fw post)(hl:row.length<=90000):
  i8 [.lst (row.map .int),.int pre.length,.int i]=.ok (.sh (.tup [.str (lfK x),.int pre.length,.int ((pre++lfb x).length:Int),.int (i+1)])):=by
 cases x with
 |wd w=>rw[Af row pre post w i hr hp.num hl];simp[lfb]
 |nm m=>rw[BZ row pre post m hx i hr hp.num hl];simp[lfb,lfK]
 | tx l=>
   obtain⟨ws,r,hw,rfl,hr2⟩:=hp
   have hn:=tL row (pre++PG.txt l) ws r (by rw[hr];simp[lfb]) hw (by
    rcases hr2 with z|⟨y,r',z,hy⟩
    . exact .inl z
    . refine .inr ⟨y,r',z,?_⟩
      rcases hy with z|z|z<;>subst z<;>rfl) hl
   have hd:decide (r.head?=some 58)=false:=by
    rcases hr2 with z|⟨y,r',z,hy⟩
    . rw[z];rfl
    . rw[z];simp;omega
   rw[hd]at hn
   have hlen:((pre++PG.txt l).length:Int)=(pre.length:Int)+(PG.inner l).length+2:=by simp[PG.txt];omega
   rw[hlen]at hn;have:=u6 row pre (ws++r) l hx i false hr hl hn;rw[this];show _=OE.ok (.sh (.tup [.str "text",.int pre.length,.int ((pre++PG.txt l).length:Int),.int (i+1)]));rw[hlen];simp
theorem GQ(x:Lf)(hx:Lok x):∃ b bs,lfb x=b ::bs /\ b≠91 /\ b≠123 /\ b≠93 /\ b≠125 /\ wht b=false /\ b≠44 /\ b≠58:=by
 cases x with
 |wd w=>cases w<;>exact⟨_,_,rfl,by decide,by decide,by decide,by decide,rfl,by decide,by decide⟩
 |tx l=>exact⟨34,_,rfl,by decide,by decide,by decide,by decide,rfl,by decide,by decide⟩
 | nm m=>
   obtain⟨b,r,e,hb⟩:=zN hx
   refine⟨b,r,e,?_⟩
   have hp:=Gx (Ap hx b (by rw[e];simp))
   exact⟨hp.2.2.2.2.1,hp.2.2.2.2.2.1,hp.2.2.1,hp.2.2.2.1,hp.1,hp.2.1,hp.2.2.2.2.2.2.1⟩
theorem RA.leaf{W:List Int}{tree:List PV}{un:List OV}{P X:List Int}(h:RA W tree un P)(x:Lf)(hx:Lok x)(hW:W=P++(lfb x++X))(hX:Fw X)(hl:W.length<=90000)(ht:tree.length<=90000):
  RA W (tree++[.tup [.str (lfK x),.int P.length,.int ((P++lfb x).length:Int),.int ((tree.length:Int)+1)]]) un (P++lfb x):=by
 obtain⟨b,bs,e,h1,h2,h3,h4,h5,h6,h7⟩:=GQ x hx
 refine h.go (by rw[hW,e];simp) (by rw[e];simp) fun y z=>?_
 have:=xS (row:=W) (tree:=tree) (un:=un) (p:=P.length) (x:=y) (y:=z) (jK (xs:=P) (ys:=bs++X) (by rw[hW,e];rfl) rfl) h1 h2 h3 h4 h5 h6 h7 ht (Eh W P X x hx tree.length hW hX hl)
 exact⟨_,_,this⟩
theorem RA.name{W:List Int}{tree:List PV}{un:List OV}{P ws X:List Int}(h:RA W tree un P)(l:List Sg)(hx:∀ s∈l,Sok s)(hW:W=P++(PG.txt l++(ws++58 ::X)))(hw:∀ b∈ws,wht b=true)(hl:W.length<=90000)(ht:tree.length<=90000):
  RA W (tree++[.tup [.str "name",.int P.length,.int ((P++PG.txt l).length:Int),.int ((tree.length:Int)+1)]]) un (P++PG.txt l):=by
 have hn:=tL W (P++PG.txt l) ws (58 ::X) (by rw[hW];simp) hw (.inr ⟨58,X,rfl,rfl⟩) hl
 have hlen:((P++PG.txt l).length:Int)=(P.length:Int)+(PG.inner l).length+2:=by simp[PG.txt];omega
 rw[hlen]at hn;have hleaf:=u6 W P (ws++58 ::X) l hx tree.length true hW hl hn
 refine h.go (by rw[hW];simp[PG.txt]) (by simp[PG.txt]) fun y z=>?_
 have:=xS (row:=W) (tree:=tree) (un:=un) (p:=P.length) (b:=34) (x:=y) (y:=z) (jK (xs:=P) (ys:=PG.inner l++[34]++(ws++58 ::X)) (by rw[hW];simp[PG.txt]) rfl) (by decide) (by decide) (by decide) (by decide) rfl (by decide) (by decide) ht hleaf;rw[<- hlen]at this
 exact⟨_,_,this⟩
theorem RA.done{W:List Int}{tree:List PV}(h:RA W tree [] W)(hl:W.length<=90000):∃ x y,bX gM cB fuel (NS0 W [] [] 0 none none)=.nx (NS0 W tree [] W.length x y):=by
 obtain⟨k,x,y,hk,h⟩:=h
 refine⟨x,y,?_⟩
 obtain⟨n,hn⟩:∃ n,fuel=n+1+k:=⟨fuel - 1 - k,by unfold fuel;omega⟩
 rw[hn,h (n+1),M1 (by omega)]
theorem tm{f:Fr}{nm:List Int}{v:PV}:∀{fs:List Fr},f∈fs->∃ g∈gq nm v fs,g.i=f.i
 |[],h=>absurd h (by simp)
 | g ::gs,h=>by
   rcases List.mem_cons.mp h with z|z
   . exact⟨_,List.mem_cons_self,by rw[z]⟩
   . exact⟨f,List.mem_cons_of_mem _ z,rfl⟩
noncomputable def unO(fs:List Fr):List OV:=fs.reverse.map fun f=>.sh (.int f.i)
theorem zD(f:Fr)(fs:List Fr):unO (f ::fs)=unO fs++[.sh (.int f.i)]:=by simp[unO]
theorem CO(nm:List Int)(v:PV)(fs:List Fr):unO (gq nm v fs)=unO fs:=by cases fs<;>simp[unO,gq]
structure Sim(W:List Int)(B:Bd)(tree:List PV):Prop where
 ra:RA W tree (unO B.frs) B.row
 len:tree.length=B.nodes.length
 nam:∀(j:Nat) d,B.nodes[j]?=some d->d.s = "name" -> tree[j]?=some (.tup [.str "name",.int d.a,.int d.b,.int ((j:Int)+1)])
 opn:∀ f∈B.frs,∃ d,B.nodes[f.i]?=some d /\ d.s=kN f.k /\ tree[f.i]?=some (.tup [.str d.s,.int d.a])
 don:∀(j:Nat) d,B.nodes[j]?=some d->d.s ≠ "name" -> (∀ f∈B.frs,f.i≠j)->tree[j]?=some (.tup [.str d.s,.int d.a,.int d.b,.int d.c])
noncomputable def Dec:List Fr->Prop:=List.Pairwise fun f g=>g.i<f.i
theorem CB{nm:List Int}{v:PV}{fs:List Fr}(h:Dec fs):Dec (gq nm v fs):=by
 cases fs with
 |nil=>exact h
 | cons g gs=>
   unfold Dec at h ⊢
   rw[List.pairwise_cons]at h;exact List.pairwise_cons.mpr h
theorem qT(k:Bool):kN k ≠ "name":=by cases k<;>decide
theorem tu(x:Lf):lfK x ≠ "name":=by
 cases x with
 |wd w=>cases w<;>decide
 |nm _=>show "number" ≠ "name";decide
 |tx _=>show "text" ≠ "name";decide
theorem vC{nm:List Int}{v:PV}{g:Fr}:∀{fs:List Fr},g∈gq nm v fs->∃ f∈fs,f.i=g.i /\ f.k=g.k
 |[],h=>absurd h (by simp[gq])
 | f ::fs,h=>by
   rcases List.mem_cons.mp h with z|z
   . exact⟨f,List.mem_cons_self,by rw[z],by rw[z]⟩
   . exact⟨g,List.mem_cons_of_mem _ z,rfl,rfl⟩
theorem n5{B:Bd}{f:Fr}{fs:List Fr}(e:B.frs=f ::fs)(h1:inF fs=true->1<=f.i)(j:Nat):
  B.close.nodes[j]?=(B.nodes[j]?).map fun d=>⟨d.s,d.a,if j=f.i then B.row.length+1 else d.b,if j=f.i \/ (inF fs=true /\ j+1=f.i)then B.nodes.length else d.c⟩:=by
 unfold Bd.close;rw[e]
 simp only
 cases hF:inF fs with
 | false=>
   simp only[Bool.false_eq_true,if_false,false_and,or_false];rw[List.getElem?_modify]
   cases B.nodes[j]? with
   |none=>rfl
   | some d=>
     by_cases hj:j=f.i
     . simp[hj]
     . have:¬ f.i=j:=fun z=>hj z.symm
       simp[hj,this]
 | true=>
   have hi:=h1 hF;simp only[if_true,true_and];rw[List.getElem?_modify,List.getElem?_modify]
   cases B.nodes[j]? with
   |none=>rfl
   | some d=>
     by_cases hj:j=f.i
     . have:¬ f.i - 1=j:=by omega
       simp[hj]
     . have h2:¬ f.i=j:=fun z=>hj z.symm
       by_cases hk:j+1=f.i
       . have:f.i - 1=j:=by omega
         simp[hj,h2,hk,this]
       . have:¬ f.i - 1=j:=by omega
         simp[hj,h2,hk,this]
theorem kA{B:Bd}{f:Fr}{fs:List Fr}(e:B.frs=f ::fs):B.close.row=B.row++[brk f.k] /\ B.close.frs=gq f.nm (.tup [kS f.k,.tup f.items]) fs:=by
 unfold Bd.close;rw[e];exact⟨rfl,rfl⟩
noncomputable def lR(nds:List Nd):List Fr->Prop
 |f ::g ::fs=>(∀ d,nds[f.i - 1]?=some d->(d.s = "name" ↔ g.k=false)) /\ lR nds (g ::fs)
 |_=>True
theorem Sim.close{W X:List Int}{B:Bd}{tree:List PV}{f:Fr}{fs:List Fr}(h:Sim W B tree)(e:B.frs=f ::fs)(hW:W=B.close.row++X)(h1:inF fs=true->1<=f.i)(hd:Dec B.frs)(hp:lR B.nodes B.frs):
  ∃ tree',Sim W B.close tree':=by
 obtain⟨er,ef⟩:=kA e;obtain⟨d,hd1,hd2,hd3⟩:=h.opn f (by rw[e];exact List.mem_cons_self);have ra:=h.ra;rw[e,zD]at ra;rw[e]at hd hp;have hdec:=(List.pairwise_cons.mp hd).1;rw[er,List.append_assoc]at hW
 have hlt:f.i<tree.length:=(List.getElem?_eq_some_iff.mp hd3).1
 refine⟨tree.set f.i (.tup [.str d.s,.int d.a,.int (B.row.length+1),.int (tree.length:Int)]),?_,?_,?_,?_,?_⟩
 . rw[er,ef,CO];exact RA.close f.k ra hW hd3
 . rw[List.length_set,h.len];unfold Bd.close;rw[e]
   simp only
   split<;>simp
 . intro j d' hj hs;rw[n5 e h1]at hj
   cases q:B.nodes[j]? with
   |none=>rw[q]at hj;simp at hj
   | some d0=>
     rw[q]at hj;simp at hj
     have hne:j≠f.i:=by
      intro z;rw[z,hd1]at q;cases q;rw[<- hj]at hs;exact qT _ (hd2.symm.trans hs)
     rw[List.getElem?_set_ne (fun z=>hne z.symm)]
     rw[<- hj]at hs ⊢
     simp only[hne,if_false];exact h.nam j d0 q hs
 . intro g hg;rw[ef]at hg;obtain⟨g',hg1,hg2,hg3⟩:=vC hg;obtain⟨d0,k1,k2,k3⟩:=h.opn g' (by rw[e];exact List.mem_cons_of_mem _ hg1)
   have hne:g.i≠f.i:=by have:=hdec g' hg1;omega
   rw[hg2]at k1 k3
   refine⟨_,by rw[n5 e h1,k1];rfl,by simp only;rw[k2,hg3],?_⟩
   rw[List.getElem?_set_ne (fun z=>hne z.symm)];exact k3
 . intro j d' hj hs ho;rw[n5 e h1]at hj
   cases q:B.nodes[j]? with
   |none=>rw[q]at hj;simp at hj
   | some d0=>
     rw[q]at hj;simp at hj
     by_cases hji:j=f.i
     . rw[hji]at q hj ⊢
       rw[hd1]at q;cases q;rw[<- hj,List.getElem?_set_self hlt];simp[h.len]
     . rw[List.getElem?_set_ne (fun z=>hji z.symm)]
       rw[<- hj]at hs ⊢
       have hnp:¬ (inF fs=true /\ j+1=f.i):=by
        intro z
        cases fs with
        |nil=>simp[inF]at z
        | cons g gs=>
          have hk:g.k=false:=by simpa [inF]using z.1
          have:=(hp.1 d0 (by rw[show f.i - 1=j by omega];exact q)).mpr hk;exact hs this
       simp only[hji,hnp,or_self,if_false];refine h.don j d0 q hs ?_;intro g hg;rw[e]at hg
       rcases List.mem_cons.mp hg with z|z
       . rw[z];exact fun y=>hji y.symm
       . obtain⟨g',k1,k2⟩:=tm (nm:=f.nm) (v:=.tup [kS f.k,.tup f.items]) z;rw[<- k2];exact ho g' (by rw[ef];exact k1)
theorem iw{α:Type}{l:List α}{x d:α}{j:Nat}(h:(l++[x])[j]?=some d):(l[j]?=some d /\ j<l.length) \/ (j=l.length /\ d=x):=by
 by_cases hlt:j<l.length
 . rw[List.getElem?_append_left hlt]at h;exact .inl ⟨h,hlt⟩
 . rw[List.getElem?_append_right (by omega)]at h
   have hz:j - l.length=0:=by
    rcases Nat.eq_zero_or_pos (j - l.length)with z|z
    . exact z
    . rw[List.getElem?_eq_none (by simp;omega)]at h;cases h
   rw[hz]at h;simp at h;exact .inr ⟨by omega,h.symm⟩
theorem fo{α:Type}{l:List α}{x d:α}{j:Nat}(h:l[j]?=some d):(l++[x])[j]?=some d:=by
 rw[List.getElem?_append_left (List.getElem?_eq_some_iff.mp h).1];exact h
theorem oF{α:Type}(l:List α)(x:α):(l++[x])[l.length]?=some x:=by simp
theorem F3{W Y:List Int}{tree:List PV}{un:List OV}{fs:List Fr}{row:List Int}{n:Int}(h:RA W tree un row)(hW:W=dy fs row n++Y):RA W tree un (dy fs row n):=by
 unfold dy at hW ⊢
 cases hf:full fs with
 | false=>
   rw[hf]at hW
   simp only[Bool.false_eq_true,if_false,List.append_nil]at hW ⊢
   exact h.br (X:=Y) (by rw[hW];simp) (dE _)
 | true=>
   rw[hf]at hW
   simp only[if_true]at hW ⊢
   have h1:=h.br (ws:=lwh (n/3)) (X:=44 ::(lwh (n/11)++Y)) (by rw[hW];simp) (dE _);have h2:=h1.skip (b:=44) (X:=lwh (n/11)++Y) (by rw[hW];simp) (.inr (.inl rfl));have h3:=h2.br (ws:=lwh (n/11)) (X:=Y) (by rw[hW];simp) (dE _)
   simpa using h3
theorem Sim.beg{W Y:List Int}{B:Bd}{tree:List PV}(ns:List Int)(n:Int)(h:Sim W B tree)(hW:W=bu ns B n++Y)(hl:W.length<=90000)(hn:B.nodes.length<=9000):
  ∃ tree',Sim W ⟨bu ns B n,aP ns B n,B.frs,B.val⟩ tree':=by
 cases hF:inF B.frs with
 | false=>
   have er:bu ns B n=dy B.frs B.row n:=by unfold bu;rw[if_neg (by rw[hF];simp)]
   have en:aP ns B n=B.nodes:=by unfold aP;rw[if_neg (by rw[hF];simp)]
   rw[er]at hW ⊢
   rw[en]
   exact⟨tree,F3 h.ra hW,h.len,h.nam,h.opn,h.don⟩
 | true=>
   have er:bu ns B n=dy B.frs B.row n++PG.txt (iF ns n)++oV ns n:=by unfold bu;rw[if_pos hF]
   have en:aP ns B n=B.nodes++[⟨"name",(dy B.frs B.row n).length,(dy B.frs B.row n++PG.txt (iF ns n)).length,0⟩]:=by unfold aP;rw[if_pos hF]
   rw[er]at hW ⊢
   rw[en];have htl:=h.len;have h1:=F3 (fs:=B.frs) (n:=n) (Y:=PG.txt (iF ns n)++oV ns n++Y) h.ra (by rw[hW];simp);generalize dy B.frs B.row n=P at *
   unfold oV at hW ⊢
   have h2:=h1.name (ws:=lwh (n/19)) (X:=lwh (n/23)++Y) (iF ns n) (xb ns n) (by rw[hW];simp) (dE _) hl (by omega);have h3:=h2.br (ws:=lwh (n/19)) (X:=58 ::(lwh (n/23)++Y)) (by rw[hW];simp) (dE _);have h4:=h3.skip (b:=58) (X:=lwh (n/23)++Y) (by rw[hW];simp) (.inr (.inr rfl));have h5:=h4.br (ws:=lwh (n/23)) (X:=Y) (by rw[hW];simp) (dE _)
   refine⟨tree++[.tup [.str "name",.int P.length,.int ((P++PG.txt (iF ns n)).length:Int),.int ((tree.length:Int)+1)]],?_,by simp[htl],?_,?_,?_⟩
   . simpa using h5
   . intro j d hj hs
     rcases iw hj with⟨q,_⟩|⟨q1,q2⟩
     . exact fo (h.nam j d q hs)
     . rw[q1,q2,<- htl];exact oF _ _
   . intro f hf;obtain⟨d,k1,k2,k3⟩:=h.opn f hf
     exact⟨d,fo k1,k2,fo k3⟩
   . intro j d hj hs ho
     rcases iw hj with⟨q,_⟩|⟨q1,q2⟩
     . exact fo (h.don j d q hs ho)
     . rw[q2]at hs;exact absurd rfl hs
theorem Sim.open{W X:List Int}{B:Bd}{tree:List PV}(ns:List Int)(n:Int)(h:Sim W ⟨bu ns B n,aP ns B n,B.frs,B.val⟩ tree)(hW:W=(B.opn ns n).row++X)(hn:tree.length<=9000)(hd:B.frs.length<=9000)(hF:∀ f∈B.frs,f.i<(aP ns B n).length):
  ∃ tree',Sim W (B.opn ns n) tree':=by
 have htl:=h.len;simp only at htl
 unfold Bd.opn at hW ⊢
 simp only at hW;have hr:=RA.opn (decide (n/5%2=0)) (X:=X) h.ra (by rw[hW];simp) (by omega) (by unfold unO;simp;omega);simp only[decide_eq_true_eq]at hr
 refine⟨tree++[.tup [.str (kN (n/5%2=0)),.int ((bu ns B n).length:Int)]],?_,?_,?_,?_,?_⟩
 . rw[zD]
   simp only
   rw[<- htl];exact hr
 . simp[htl]
 . intro j d hj hs
   rcases iw hj with⟨q,_⟩|⟨q1,q2⟩
   . exact fo (h.nam j d q hs)
   . rw[q2]at hs;exact absurd hs (qT _)
 . intro f hf
   rcases List.mem_cons.mp hf with z|z
   . subst z
     refine⟨_,oF _ _,rfl,?_⟩
     simp only
     rw[<- htl];exact oF _ _
   . obtain⟨d,k1,k2,k3⟩:=h.opn f z
     exact⟨d,fo k1,k2,fo k3⟩
 . intro j d hj hs ho
   rcases iw hj with⟨q,_⟩|⟨q1,q2⟩
   . exact fo (h.don j d q hs fun f hf=>ho f (List.mem_cons_of_mem _ hf))
   . exact absurd q1.symm (ho _ List.mem_cons_self)
theorem AK{α:Type}(g:α->α):∀(l:List α) (x y:α),(l++[x]++[y]).modify ((l++[x]++[y]).length - 2) g=l++[g x]++[y]
 |[],x,y=>rfl
 | a ::l,x,y=>by
   have:=AK g l x y
   have e:(a ::l++[x]++[y]).length - 2=(l++[x]++[y]).length - 2+1:=by simp
   rw[e];simp only[List.cons_append,List.modify_succ_cons,this]
theorem sG(ns:List Int)(B:Bd)(n:Int):(B.leaf ns n).nodes=(if inF B.frs then B.nodes++[⟨"name",(dy B.frs B.row n).length,(dy B.frs B.row n++PG.txt (iF ns n)).length,(B.nodes.length+2:Int)⟩]else B.nodes)++[⟨lfK (gi ns n),(bu ns B n).length,(bu ns B n++lfb (gi ns n)).length,(aP ns B n).length+1⟩]:=by
 unfold Bd.leaf
 cases hF:inF B.frs with
 |false=>simp[aP,hF]
 | true=>
   have en:aP ns B n=B.nodes++[⟨"name",(dy B.frs B.row n).length,(dy B.frs B.row n++PG.txt (iF ns n)).length,0⟩]:=by unfold aP;rw[if_pos hF]
   simp only[if_true,en];rw[AK];simp
theorem Sim.leaf{W X:List Int}{B:Bd}{tree:List PV}(ns:List Int)(n:Int)(h:Sim W ⟨bu ns B n,aP ns B n,B.frs,B.val⟩ tree)(hW:W=(B.leaf ns n).row++X)(hX:Fw X)(hl:W.length<=90000)(hn:tree.length<=9000)(hF:∀ f∈B.frs,f.i<(aP ns B n).length):
  ∃ tree',Sim W (B.leaf ns n) tree':=by
 have htl:=h.len;simp only at htl
 have er:(B.leaf ns n).row=bu ns B n++lfb (gi ns n):=rfl
 have ef:(B.leaf ns n).frs=gq (eM ns B n) (lfV ns n) B.frs:=rfl
 rw[er]at hW;have hr:=h.ra.leaf (X:=X) (gi ns n) (yn ns n) (by rw[hW];simp) hX hl (by omega)
 have hget:∀(j:Nat) d,(B.leaf ns n).nodes[j]?=some d->(∃ d0,(aP ns B n)[j]?=some d0 /\ d.s=d0.s /\ d.a=d0.a /\ d.b=d0.b /\ (d.s ≠ "name" -> d.c=d0.c)) \/ (j=(aP ns B n).length /\ d=⟨lfK (gi ns n),(bu ns B n).length,(bu ns B n++lfb (gi ns n)).length,(aP ns B n).length+1⟩):=by
  intro j d hj;rw[sG]at hj
  cases hF:inF B.frs with
  | false=>
    have en:aP ns B n=B.nodes:=by unfold aP;rw[if_neg (by rw[hF];simp)]
    rw[hF]at hj;simp only[Bool.false_eq_true,if_false]at hj
    rcases iw hj with⟨q,_⟩|⟨q1,q2⟩
    . exact .inl ⟨d,by rw[en];exact q,rfl,rfl,rfl,fun _=>rfl⟩
    . exact .inr ⟨by rw[en];exact q1,q2⟩
  | true=>
    have en:aP ns B n=B.nodes++[⟨"name",(dy B.frs B.row n).length,(dy B.frs B.row n++PG.txt (iF ns n)).length,0⟩]:=by unfold aP;rw[if_pos hF]
    rw[hF]at hj;simp only[if_true]at hj
    rcases iw hj with⟨q,_⟩|⟨q1,q2⟩
    . left
      rcases iw q with⟨y,_⟩|⟨y1,y2⟩
      . exact⟨d,by rw[en];exact fo y,rfl,rfl,rfl,fun _=>rfl⟩
      . refine⟨_,by rw[en,y1];exact oF _ _,by rw[y2],by rw[y2],by rw[y2],fun z=>?_⟩
        rw[y2]at z;exact absurd rfl z
    . exact .inr ⟨by rw[en,q1];simp,q2⟩
 have hput:∀(j:Nat) d0,(aP ns B n)[j]?=some d0->∃ d,(B.leaf ns n).nodes[j]?=some d /\ d.s=d0.s /\ d.a=d0.a:=by
  intro j d0 hj
  have hlen:(B.leaf ns n).nodes.length=(aP ns B n).length+1:=by unfold Bd.leaf;simp only;split<;>simp
  have hlt:j<(B.leaf ns n).nodes.length:=by have:=(List.getElem?_eq_some_iff.mp hj).1;omega
  have hq:(B.leaf ns n).nodes[j]?=some ((B.leaf ns n).nodes[j]):=List.getElem?_eq_getElem hlt
  rcases hget j _ hq with⟨d1,k1,k2,k3,_⟩|⟨k1,_⟩
  . rw[hj]at k1;cases k1;exact⟨_,hq,k2,k3⟩
  . have:=(List.getElem?_eq_some_iff.mp hj).1;omega
 refine⟨tree++[.tup [.str (lfK (gi ns n)),.int ((bu ns B n).length:Int),.int ((bu ns B n++lfb (gi ns n)).length:Int),.int ((tree.length:Int)+1)]],?_,?_,?_,?_,?_⟩
 . rw[ef,CO,er];exact hr
 . have hlen:(B.leaf ns n).nodes.length=(aP ns B n).length+1:=by unfold Bd.leaf;simp only;split<;>simp
   rw[hlen];simp[htl]
 . intro j d hj hs
   rcases hget j d hj with⟨d0,k1,k2,k3,k4,_⟩|⟨_,k2⟩
   . rw[k2]at hs;rw[k3,k4];exact fo (h.nam j d0 k1 hs)
   . rw[k2]at hs;exact absurd hs (tu _)
 . intro g hg;rw[ef]at hg;obtain⟨g',hg1,hg2,hg3⟩:=vC hg;obtain⟨d0,k1,k2,k3⟩:=h.opn g' hg1;rw[hg2]at k1 k3;obtain⟨d,m1,m2,m3⟩:=hput _ d0 k1
   refine⟨d,m1,by rw[m2,k2,hg3],?_⟩
   rw[m2,m3];exact fo k3
 . intro j d hj hs ho
   rcases hget j d hj with⟨d0,k1,k2,k3,k4,k5⟩|⟨k1,k2⟩
   . rw[k5 hs,k2,k3,k4];refine fo (h.don j d0 k1 (by rw[<- k2];exact hs) ?_);intro g hg;obtain⟨g',q1,q2⟩:=tm (nm:=eM ns B n) (v:=lfV ns n) hg;rw[<- q2];exact ho g' (by rw[ef];exact q1)
   . rw[k1,k2,<- htl];exact oF _ _
structure NmI(B:Bd):Prop where
 dec:Dec B.frs
 prev:lR B.nodes B.frs
 last:∀(j:Nat) d,B.nodes[j]?=some d->j+1=B.nodes.length->d.s ≠ "name"
 nxt:∀(j:Nat) d,B.nodes[j]?=some d->d.s = "name" -> ∃ e,B.nodes[j+1]?=some e /\ e.s ≠ "name" /\ ((∃ f∈B.frs,f.i=j+1) \/ e.c=d.c)
 opk:∀ f∈B.frs,∃ d,B.nodes[f.i]?=some d /\ d.s=kN f.k
theorem A7{nds:List Nd}{nm:List Int}{v:PV}{fs:List Fr}(h:lR nds fs):lR nds (gq nm v fs):=by
 cases fs with
 |nil=>trivial
 | cons f fs=>cases fs with
   |nil=>trivial
   |cons g gs=>exact h
theorem Eg{nds:List Nd}{f:Fr}{fs:List Fr}(h:lR nds (f ::fs)):lR nds fs:=by
 cases fs with
 |nil=>trivial
 |cons g gs=>exact h.2
theorem oA{nds nds':List Nd}:∀{fs:List Fr},(∀ f∈fs,∀ d',nds'[f.i - 1]?=some d'->∃ d,nds[f.i - 1]?=some d /\ d.s=d'.s)->lR nds fs->lR nds' fs
 |[],_,_=>trivial
 |[_],_,_=>trivial
 | f ::g ::fs,hc,h=>by
   refine⟨fun d' hd'=>?_,oA (fun f' hf'=>hc f' (List.mem_cons_of_mem _ hf')) h.2⟩
   obtain⟨d,h1,h2⟩:=hc f List.mem_cons_self d' hd';rw[<- h2];exact h.1 d h1
theorem NmI.close{B:Bd}{f:Fr}{fs:List Fr}(h:NmI B)(e:B.frs=f ::fs)(h1:inF fs=true->1<=f.i)(hlo:xl B.frs):NmI B.close:=by
 obtain⟨er,ef⟩:=kA e
 have hlen:B.close.nodes.length=B.nodes.length:=by unfold Bd.close;rw[e];simp only;split<;>simp
 have hdec:=h.dec;have hprev:=h.prev;rw[e]at hdec hprev hlo;obtain⟨df,hf1,hf2⟩:=h.opk f (by rw[e];exact List.mem_cons_self)
 have back:∀(j:Nat) d',B.close.nodes[j]?=some d'->∃ d,B.nodes[j]?=some d /\ d.s=d'.s /\ d'=⟨d.s,d.a,if j=f.i then B.row.length+1 else d.b,if j=f.i \/ (inF fs=true /\ j+1=f.i)then B.nodes.length else d.c⟩:=by
  intro j d' hj;rw[n5 e h1]at hj
  cases q:B.nodes[j]? with
  |none=>rw[q]at hj;simp at hj
  | some d0=>
    rw[q]at hj;simp only[Option.map_some,Option.some.injEq]at hj
    exact⟨d0,rfl,by rw[<- hj],hj.symm⟩
 have fwd:∀(j:Nat) d,B.nodes[j]?=some d->B.close.nodes[j]?=some ⟨d.s,d.a,if j=f.i then B.row.length+1 else d.b,if j=f.i \/ (inF fs=true /\ j+1=f.i)then B.nodes.length else d.c⟩:=by
  intro j d hj;rw[n5 e h1,hj];rfl
 have nameprev:∀ d,B.nodes[f.i - 1]?=some d->inF fs=true->d.s = "name":=by
  intro d hd hF
  cases fs with
  |nil=>simp[inF]at hF
  |cons g gs=>exact(hprev.1 d hd).mpr (by simpa [inF]using hF)
 refine⟨?_,?_,?_,?_,?_⟩
 . rw[ef];exact CB (List.pairwise_cons.mp hdec).2
 . rw[ef];refine A7 (oA (fun g _ d' hd'=>?_) (Eg hprev));obtain⟨d,k1,k2,_⟩:=back _ d' hd'
   exact⟨d,k1,k2⟩
 . intro j d' hj hl;obtain⟨d,k1,k2,_⟩:=back j d' hj;rw[<- k2];exact h.last j d k1 (by rw[<- hlen];exact hl)
 . intro j d' hj hs;obtain⟨d,k1,k2,k3⟩:=back j d' hj;obtain⟨e0,m1,m2,m3⟩:=h.nxt j d k1 (by rw[k2];exact hs)
   have hjf:j≠f.i:=by
    intro z;rw[z,hf1]at k1;cases k1;rw[<- k2,hf2]at hs;exact qT _ hs
   refine⟨_,fwd _ e0 m1,m2,?_⟩
   by_cases hjn:j+1=f.i
   . right
     have hF:inF fs=true:=by
      cases fs with
      |nil=>have:f.i=0:=hlo;omega
      | cons g gs=>
        have:=(hprev.1 d (by rw[show f.i - 1=j by omega];exact k1)).mp (by rw[k2];exact hs);simp[inF,this]
     rw[k3];simp[hjn,hF]
   . have hn2:¬ (inF fs = true /\ j + 1 + 1 = f.i):=by
      intro z;exact m2 (nameprev e0 (by rw[show f.i - 1=j+1 by omega];exact m1) z.1)
     rcases m3 with⟨g,hg,hgi⟩|hc
     . left;rw[e]at hg
       rcases List.mem_cons.mp hg with z|z
       . rw[z]at hgi;exact absurd hgi.symm hjn
       . obtain⟨g',q1,q2⟩:=tm (nm:=f.nm) (v:=.tup [kS f.k,.tup f.items]) z
         exact⟨g',by rw[ef];exact q1,by rw[q2,hgi]⟩
     . right;rw[k3];simp only[hjf,hjn,hn2,and_false,or_self,if_false];exact hc
 . intro g hg;rw[ef]at hg;obtain⟨g',q1,q2,q3⟩:=vC hg;obtain⟨d,m1,m2⟩:=h.opk g' (by rw[e];exact List.mem_cons_of_mem _ q1);rw[q2]at m1
   exact⟨_,fwd _ d m1,by simp only;rw[m2,q3]⟩
theorem y6{ns:List Int}{B:Bd}{n:Int}{j:Nat}{d:Nd}(h:(aP ns B n)[j]?=some d):(B.nodes[j]?=some d /\ j<B.nodes.length) \/ (inF B.frs=true /\ j=B.nodes.length /\ d.s = "name"):=by
 unfold aP at h;split at h
 . rename_i hF
   rcases iw h with z|⟨z1,z2⟩
   . exact .inl z
   . exact .inr ⟨hF,z1,by rw[z2]⟩
 . exact .inl ⟨h,(List.getElem?_eq_some_iff.mp h).1⟩
theorem Cu{ns:List Int}{B:Bd}{n:Int}{j:Nat}{d:Nd}(h:B.nodes[j]?=some d):(aP ns B n)[j]?=some d:=by
 unfold aP;split
 . exact fo h
 . exact h
theorem NmI.opn{ns:List Int}{B:Bd}{n:Int}(h:NmI B)(hlt:∀ f∈B.frs,f.i<B.nodes.length):NmI (B.opn ns n):=by
 have hlb:=gb ns B n
 have hle:B.nodes.length<=(aP ns B n).length:=by omega
 refine⟨?_,?_,?_,?_,?_⟩
 . exact List.pairwise_cons.mpr ⟨fun g hg=>Nat.lt_of_lt_of_le (hlt g hg) hle,h.dec⟩
 . show lR (aP ns B n++[_]) (⟨_,[],(aP ns B n).length,_⟩ ::B.frs)
   have rest:lR (aP ns B n++[⟨kN (n/5%2=0),(bu ns B n).length,0,0⟩]) B.frs:=by
    refine oA (fun f hf d' hd'=>?_) h.prev;have:=hlt f hf;rw[List.getElem?_append_left (by omega)]at hd'
    rcases y6 hd' with z|⟨_,z,_⟩
    . exact⟨d',z.1,rfl⟩
    . omega
   cases e:B.frs with
   |nil=>trivial
   | cons g gs=>
     rw[e]at rest hlt hlb
     refine⟨fun d hd=>?_,rest⟩
     have hg:=hlt g List.mem_cons_self
     replace hd:(aP ns B n++[⟨kN (n/5%2=0),(bu ns B n).length,0,0⟩])[(aP ns B n).length - 1]?=some d:=hd
     rw[List.getElem?_append_left (by omega)]at hd
     rcases y6 hd with⟨z,z2⟩|⟨z1,z2,z3⟩
     . have hk:inF (g ::gs) = false:=by
        cases q:inF (g ::gs)with
        |false=>rfl
        |true=>rw[q]at hlb;simp at hlb;omega
       rw[hk]at hlb;simp at hlb
       have:d.s ≠ "name":=h.last _ d z (by omega)
       simp only[inF]at hk;constructor
       . intro y;exact absurd y this
       . intro y;rw[y]at hk;simp at hk
     . rw[e]at z1
       have hk:g.k=false:=by simpa [inF]using z1
       exact⟨fun _=>hk,fun _=>z3⟩
 . intro j d hj hl
   rcases iw hj with⟨_,z⟩|⟨_,z⟩
   . have hl2:(B.opn ns n).nodes.length=(aP ns B n).length+1:=by simp[Bd.opn]
     omega
   . rw[z];exact qT _
 . intro j d hj hs
   rcases iw hj with⟨z,_⟩|⟨_,z⟩
   . rcases y6 z with⟨y,_⟩|⟨y1,y2,y3⟩
     . obtain⟨e,m1,m2,m3⟩:=h.nxt j d y hs
       refine⟨e,fo (Cu m1),m2,?_⟩
       rcases m3 with⟨f,q1,q2⟩|q
       . exact .inl ⟨f,List.mem_cons_of_mem _ q1,q2⟩
       . exact .inr q
     . rw[y1]at hlb;simp at hlb
       refine⟨⟨kN (n/5%2=0),(bu ns B n).length,0,0⟩,?_,qT _,.inl ⟨_,List.mem_cons_self,by simp only;omega⟩⟩
       rw[show j+1=(aP ns B n).length by omega];exact oF _ _
   . rw[z]at hs;exact absurd hs (qT _)
 . intro f hf
   rcases List.mem_cons.mp hf with z|z
   . subst z
     exact⟨_,oF _ _,rfl⟩
   . obtain⟨d,m1,m2⟩:=h.opk f z
     exact⟨d,fo (Cu m1),m2⟩
theorem qX{ns:List Int}{B:Bd}{n:Int}{j:Nat}{d:Nd}(h:(B.leaf ns n).nodes[j]?=some d):(B.nodes[j]?=some d /\ j<B.nodes.length) \/ (inF B.frs=true /\ j=B.nodes.length /\ d.s = "name" /\ d.c=(B.nodes.length:Int)+2) \/ (j+1=(B.leaf ns n).nodes.length /\ d.s=lfK (gi ns n) /\ d.c=(j:Int)+1):=by
 have hlen:(B.leaf ns n).nodes.length=(aP ns B n).length+1:=by unfold Bd.leaf;simp only;split<;>simp
 have hlb:=gb ns B n;rw[sG]at h
 cases hF:inF B.frs with
 | false=>
   rw[hF]at h hlb;simp only[Bool.false_eq_true,if_false,Nat.add_zero]at h hlb
   rcases iw h with z|⟨z1,z2⟩
   . exact .inl z
   . exact .inr (.inr ⟨by omega,by rw[z2],by rw[z2,z1,hlb]⟩)
 | true=>
   rw[hF]at h hlb;simp only[if_true]at h hlb
   rcases iw h with⟨z,_⟩|⟨z1,z2⟩
   . rcases iw z with y|⟨y1,y2⟩
     . exact .inl y
     . exact .inr (.inl ⟨rfl,y1,by rw[y2],by rw[y2]⟩)
   . refine .inr (.inr ⟨?_,by rw[z2],?_⟩)
     . simp at z1;omega
     . rw[z2,z1,hlb];simp
theorem yd{ns:List Int}{B:Bd}{n:Int}{j:Nat}{d:Nd}(h:B.nodes[j]?=some d):(B.leaf ns n).nodes[j]?=some d:=by
 rw[sG];refine fo ?_;split
 . exact fo h
 . exact h
theorem NmI.leaf{ns:List Int}{B:Bd}{n:Int}(h:NmI B)(hlt:∀ f∈B.frs,f.i<B.nodes.length):NmI (B.leaf ns n):=by
 have ef:(B.leaf ns n).frs=gq (eM ns B n) (lfV ns n) B.frs:=rfl
 have hlen:(B.leaf ns n).nodes.length=(aP ns B n).length+1:=by unfold Bd.leaf;simp only;split<;>simp
 have hlb:=gb ns B n
 refine⟨?_,?_,?_,?_,?_⟩
 . rw[ef];exact CB h.dec
 . rw[ef];refine A7 (oA (fun f hf d' hd'=>?_) h.prev);have:=hlt f hf
   rcases qX hd' with z|⟨_,z,_⟩|⟨z,_⟩
   . exact⟨d',z.1,rfl⟩
   . omega
   . rw[hlen]at z;omega
 . intro j d hj hl
   rcases qX hj with⟨_,z⟩|⟨z1,z2,_⟩|⟨_,z,_⟩
   . omega
   . rw[z1]at hlb;simp at hlb;omega
   . rw[z];exact tu _
 . intro j d hj hs
   rcases qX hj with⟨z,_⟩|⟨z1,z2,z3,z4⟩|⟨_,z,_⟩
   . obtain⟨e,m1,m2,m3⟩:=h.nxt j d z hs
     refine⟨e,yd m1,m2,?_⟩
     rcases m3 with⟨f,q1,q2⟩|q
     . obtain⟨g',y1,y2⟩:=tm (nm:=eM ns B n) (v:=lfV ns n) q1;exact .inl ⟨g',by rw[ef];exact y1,by rw[y2,q2]⟩
     . exact .inr q
   . rw[z1]at hlb;simp at hlb
     have hlt2:j+1<(B.leaf ns n).nodes.length:=by omega
     have hq:(B.leaf ns n).nodes[j+1]?=some ((B.leaf ns n).nodes[j+1]):=List.getElem?_eq_getElem hlt2
     refine⟨_,hq,?_⟩
     rcases qX hq with⟨_,y⟩|⟨_,y,_⟩|⟨_,y1,y2⟩
     . omega
     . omega
     . refine⟨by rw[y1];exact tu _,.inr ?_⟩
       rw[y2,z4,z2];omega
   . rw[z]at hs;exact absurd hs (tu _)
 . intro g hg;rw[ef]at hg;obtain⟨g',q1,q2,q3⟩:=vC hg;obtain⟨d,m1,m2⟩:=h.opk g' q1;rw[q2]at m1
   exact⟨d,yd m1,by rw[m2,q3]⟩
noncomputable def jZ(ns:List Int)(B:Bd):List Int:=(cls B B.frs.length).row++lwh (PG.mix ns 61)
noncomputable def Vd(B:Bd):Prop:=∀ f fs,B.frs=f ::fs->f.items≠[]
theorem yh(B:Bd):∃ x,B.close.row=B.row++x:=by
 unfold Bd.close
 cases B.frs with
 |nil=>exact⟨[],by simp⟩
 |cons f fs=>exact⟨_,rfl⟩
theorem vB:∀(j:Nat) (B:Bd),∃ x,(cls B j).row=B.row++x
 |0,B=>⟨[],by simp[cls]⟩
 | j+1,B=>by
   obtain⟨x,hx⟩:=yh B;obtain⟨y,hy⟩:=vB j B.close
   exact⟨x++y,by show(cls B.close j).row=_;rw[hy,hx,List.append_assoc]⟩
theorem G8(ns:List Int)(B:Bd):∃ x,jZ ns B=B.row++x:=by
 obtain⟨x,hx⟩:=vB B.frs.length B
 exact⟨x++lwh (PG.mix ns 61),by unfold jZ;rw[hx,List.append_assoc]⟩
theorem Me(ns:List Int)(B:Bd)(n:Int):∃ x,bu ns B n=B.row++x:=by
 unfold bu dy;split
 . exact⟨_,by simp only[List.append_assoc];rfl⟩
 . exact⟨_,by simp only[List.append_assoc];rfl⟩
theorem Ex(ns:List Int)(B:Bd)(k:Nat):∃ x,(B.step ns k).row=B.row++x:=by
 unfold Bd.step;split
 . obtain⟨x,hx⟩:=yh { B with row:=B.row++lwh (PG.mix ns k/3) }
   exact⟨lwh (PG.mix ns k/3)++x,by rw[hx];simp⟩
 . split
   . obtain⟨x,hx⟩:=Me ns B (PG.mix ns k);split
     . exact⟨x++_,by show bu ns B _++_=_;rw[hx,List.append_assoc]⟩
     . exact⟨x++_,by show bu ns B _++_=_;rw[hx,List.append_assoc]⟩
   . exact⟨[],by simp⟩
theorem vp(ns:List Int):∀(j k:Nat) (B:Bd),∃ x,jZ ns (bld ns B k j)=B.row++x
 |0,k,B=>G8 ns B
 | j+1,k,B=>by
   obtain⟨x,hx⟩:=Ex ns B k;obtain⟨y,hy⟩:=vp ns j (k+1) (B.step ns k)
   exact⟨x++y,by show jZ ns (bld ns (B.step ns k) (k+1) j)=_;rw[hy,hx,List.append_assoc]⟩
theorem EK(ws:List Int)(hw:∀ b∈ws,wht b=true)(k:Bool)(r:List Int):Fw (ws++brk k ::r):=⟨ws,brk k ::r,hw,rfl,.inr ⟨_,_,rfl,by cases k<;>simp[brk]⟩⟩
theorem later(ns:List Int):∀(j k:Nat) (B:Bd),k≠0->Vd B->∃ X,jZ ns (bld ns B k j)=B.row++X /\ Fw X
 | 0,k,B,_,_=>by
   show ∃ X,jZ ns B=B.row++X /\ Fw X
   cases e:B.frs with
   | nil=>
     refine⟨lwh (PG.mix ns 61),?_,lwh (PG.mix ns 61),[],dE _,by simp,.inl rfl⟩
     unfold jZ;rw[e];rfl
   | cons f fs=>
     obtain⟨x,hx⟩:=vB fs.length B.close
     refine⟨brk f.k ::(x++lwh (PG.mix ns 61)),?_,EK [] (by simp) f.k _⟩
     unfold jZ;rw[e]
     show(cls B.close fs.length).row++_=_
     rw[hx,(kA e).1];simp
 | j+1,k,B,hk,hV=>by
   show ∃ X,jZ ns (bld ns (B.step ns k) (k+1) j)=B.row++X /\ Fw X
   obtain⟨y,hy⟩:=vp ns j (k+1) (B.step ns k)
   by_cases hc:B.frs.isEmpty=false /\ PG.mix ns k%5=1
   . have es:B.step ns k=Bd.close { B with row:=B.row++lwh (PG.mix ns k/3) }:=by unfold Bd.step;rw[if_pos hc]
     rw[es]at hy ⊢
     obtain⟨f,fs,e⟩:∃ f fs,B.frs=f ::fs:=by
      cases e:B.frs with
      |nil=>rw[e]at hc;simp at hc
      |cons f fs=>exact⟨f,fs,rfl⟩
     . rw[(kA (B:={ B with row:=B.row++lwh (PG.mix ns k/3) }) e).1]at hy
       exact⟨lwh (PG.mix ns k/3)++brk f.k ::y,by rw[hy];simp,EK _ (dE _) f.k y⟩
   . by_cases hc2:B.frs.isEmpty=false \/ k=0
     . cases e:B.frs with
       |nil=>rw[e]at hc2;simp at hc2;exact absurd hc2 hk
       | cons f fs=>
         have hi:=hV f fs e
         have hfull:full B.frs=true:=by
          rw[e]
          cases q:f.items with
          |nil=>exact absurd q hi
          |cons _ _=>simp[full,q]
         have hb:∃ x,bu ns B (PG.mix ns k)=B.row++(lwh (PG.mix ns k/3)++44 ::x):=by
          unfold bu dy;rw[hfull];split
          . exact⟨_,by simp only[if_true,List.append_assoc,List.cons_append];rfl⟩
          . exact⟨_,by simp only[if_true,List.append_assoc];rfl⟩
         obtain⟨x,hx⟩:=hb
         have hs:∃ z,(B.step ns k).row=bu ns B (PG.mix ns k)++z:=by
          unfold Bd.step;rw[if_neg hc,if_pos hc2];split
          . exact⟨_,rfl⟩
          . exact⟨_,rfl⟩
         obtain⟨z,hz⟩:=hs;rw[hz,hx]at hy
         exact⟨lwh (PG.mix ns k/3)++44 ::(x++(z++y)),by rw[hy];simp,_,_,dE _,rfl,.inr ⟨_,_,rfl,.inl rfl⟩⟩
     . have es:B.step ns k=B:=by unfold Bd.step;rw[if_neg hc,if_neg hc2]
       rw[es];exact later ns j (k+1) B (by omega) hV
theorem KO{row:List Int}{nds:List Nd}{nm:List Int}{v v':PV}{fs:List Fr}:Vd ⟨row,nds,gq nm v fs,v'⟩:=by
 intro f fs' h
 cases fs with
 |nil=>simp[gq]at h
 | cons g gs=>
   simp only[gq,List.cons.injEq]at h;rw[<- h.1];simp
theorem Sim.step{ns W X:List Int}{B:Bd}{k:Nat}{tree:List PV}(h:Sim W B tree)(hN:NmI B)(hb:Bok B k)(hlo:xl B.frs)(hk:k<=50)(hW:W=(B.step ns k).row++X)(hX:Vd (B.step ns k)->Fw X)(hl:W.length<=90000):∃ tree',Sim W (B.step ns k) tree' /\ NmI (B.step ns k):=by
 have hnl:=hb.nodes;have hfr:=hb.frs;have hdp:=hb.dep
 have hlt:∀ f∈B.frs,f.i<B.nodes.length:=by
  revert hfr;generalize B.nodes.length=N;generalize B.frs=fs
  induction fs with
  |nil=>intro _ f hf;cases hf
  | cons g gs ih=>
    intro h f hf
    rcases List.mem_cons.mp hf with z|z
    . rw[z];exact h.1
    . exact ih h.2.2.2 f z
 have hlb:=gb ns B (PG.mix ns k)
 have hlt2:∀ f∈B.frs,f.i<(aP ns B (PG.mix ns k)).length:=fun f hf=>by have:=hlt f hf;omega
 by_cases hc:B.frs.isEmpty=false /\ PG.mix ns k%5=1
 . have es:B.step ns k=Bd.close { B with row:=B.row++lwh (PG.mix ns k/3) }:=by unfold Bd.step;rw[if_pos hc]
   rw[es]at hW ⊢
   obtain⟨f,fs,e⟩:∃ f fs,B.frs=f ::fs:=by
    cases e:B.frs with
    |nil=>rw[e]at hc;simp at hc
    |cons f fs=>exact⟨f,fs,rfl⟩
   have e':({ B with row:=B.row++lwh (PG.mix ns k/3) }:Bd).frs=f ::fs:=e
   have h1:inF fs=true->1<=f.i:=by
    intro z;rw[e]at hfr;exact hfr.2.2.1 (by intro y;rw[y]at z;simp[inF]at z)
   have hN':NmI { B with row:=B.row++lwh (PG.mix ns k/3) }:=⟨hN.dec,hN.prev,hN.last,hN.nxt,hN.opk⟩
   have hr:(Bd.close { B with row:=B.row++lwh (PG.mix ns k/3) }).row=B.row++lwh (PG.mix ns k/3)++[brk f.k]:=(kA e').1
   have hS:Sim W { B with row:=B.row++lwh (PG.mix ns k/3) } tree:=⟨h.ra.br (X:=[brk f.k]++X) (by rw[hW,hr];simp) (dE _),h.len,h.nam,h.opn,h.don⟩
   obtain⟨tree',ht⟩:=hS.close e' hW h1 hN.dec hN.prev
   exact⟨tree',ht,hN'.close e' h1 hlo⟩
 . by_cases hc2:B.frs.isEmpty=false \/ k=0
   . by_cases hc3:PG.mix ns k%5>2 \/ (k=0 /\ PG.mix ns k%9>0)
     . have es:B.step ns k=B.opn ns (PG.mix ns k):=by unfold Bd.step;rw[if_neg hc,if_pos hc2,if_pos hc3]
       rw[es]at hW ⊢
       obtain⟨t1,h1⟩:=h.beg ns (PG.mix ns k) (Y:=[if PG.mix ns k/5%2=0 then 91 else 123]++X) (by rw[hW];simp[Bd.opn]) hl (by omega);have h1l:=h1.len;simp only at h1l;obtain⟨t2,h2⟩:=Sim.open ns (PG.mix ns k) h1 hW (by rw[h1l];split at hlb<;>omega) (by omega) hlt2
       exact⟨t2,h2,hN.opn hlt⟩
     . have es:B.step ns k=B.leaf ns (PG.mix ns k):=by unfold Bd.step;rw[if_neg hc,if_pos hc2,if_neg hc3]
       rw[es]at hW hX ⊢
       obtain⟨t1,h1⟩:=h.beg ns (PG.mix ns k) (Y:=lfb (gi ns (PG.mix ns k))++X) (by rw[hW];simp[Bd.leaf]) hl (by omega);have h1l:=h1.len;simp only at h1l;obtain⟨t2,h2⟩:=Sim.leaf ns (PG.mix ns k) h1 hW (hX KO) hl (by rw[h1l];split at hlb<;>omega) hlt2
       exact⟨t2,h2,hN.leaf hlt⟩
   . have es:B.step ns k=B:=by unfold Bd.step;rw[if_neg hc,if_neg hc2]
     rw[es]
     exact⟨tree,h,hN⟩
theorem CT{ns W:List Int}(hl:W.length<=90000):∀(j k:Nat) (B:Bd) (tree:List PV),Sim W B tree->NmI B->pK ns B->Bok B k->k≠0->k+j<=50->W=jZ ns (bld ns B k j)->∃ tree',Sim W (bld ns B k j) tree' /\ NmI (bld ns B k j)
 |0,k,B,tree,h,hN,_,_,_,_,_=>⟨tree,h,hN⟩
 | j+1,k,B,tree,h,hN,hI,hb,h0,hj,hW=>by
   have hW':W=jZ ns (bld ns (B.step ns k) (k+1) j):=hW
   obtain⟨X,hX⟩:=vp ns j (k+1) (B.step ns k)
   obtain⟨t1,h1,hN1⟩:=h.step (ns:=ns) (X:=X) hN hb hI.lo (by omega) (by rw[hW',hX]) (fun hV=>by
    obtain⟨Y,hY,hF⟩:=later ns j (k+1) (B.step ns k) (by omega) hV
    have:X=Y:=List.append_cancel_left (hX.symm.trans hY)
    rw[this];exact hF) hl
   exact CT hl j (k+1) (B.step ns k) t1 h1 hN1 (hI.step hb (by omega) h0) (hb.step ns) (by omega) (by omega) hW'
theorem Dd{ns W:List Int}:∀(j:Nat) (B:Bd) (k:Nat) (tree:List PV) (Y:List Int),Sim W B tree->NmI B->pK ns B->Bok B k->k+j<=60->B.frs.length=j->W=(cls B j).row++Y->∃ tree',Sim W (cls B j) tree' /\ NmI (cls B j) /\ (cls B j).frs=[]
 |0,B,k,tree,Y,h,hN,_,_,_,hj,_=>⟨tree,h,hN,List.length_eq_zero_iff.mp hj⟩
 | j+1,B,k,tree,Y,h,hN,hI,hb,hkj,hj,hW=>by
   obtain⟨f,fs,e⟩:∃ f fs,B.frs=f ::fs:=by
    cases e:B.frs with
    |nil=>rw[e]at hj;simp at hj
    |cons f fs=>exact⟨f,fs,rfl⟩
   have hne:B.frs≠[]:=by rw[e];simp
   have hfr:=hb.frs
   have h1:inF fs=true->1<=f.i:=by
    intro z;rw[e]at hfr;exact hfr.2.2.1 (by intro y;rw[y]at z;simp[inF]at z)
   have hb2:=hb.close [] (by simp);rw[show({ B with row:=B.row++[] }:Bd)=B by cases B;simp]at hb2;obtain⟨x,hx⟩:=vB j B.close
   have hW':W=(cls B.close j).row++Y:=hW
   obtain⟨t1,ht1⟩:=h.close (X:=x++Y) e (by rw[hW',hx,List.append_assoc]) h1 hN.dec hN.prev;exact Dd j B.close (k+1) t1 Y ht1 (hN.close e h1 hI.lo) (hI.close hb hne (by omega)) hb2 (by omega) (by rw[uz];omega) hW'
theorem Fb(W:List Int):Sim W bd0 [] /\ NmI bd0:=by
 refine⟨⟨RA.nil W,rfl,?_,?_,?_⟩,⟨List.Pairwise.nil,trivial,?_,?_,?_⟩⟩<;>simp[bd0]
theorem Dv(ns:List Int)(m:Nat)(h1:1<=m)(hm:m<=12):∃ tree,Sim (gW ns m).row (gW ns m) tree /\ NmI (gW ns m) /\ (gW ns m).frs=[] /\ (gW ns m).row.length<=800*m+3 /\ (gW ns m).nodes.length<=4*m:=by
 obtain⟨m,rfl⟩:∃ j,m=j+1:=⟨m - 1,by omega⟩
 have hok:=yx ns (m+1) 0 bd0 qy;have hd:=hok.dep;have hcok:=zy (bld ns bd0 0 (m+1)).frs.length _ _ hok;have hr:=hcok.row;have hn:=hcok.nodes;have hw:=gg (PG.mix ns 61)
 have eW:(gW ns (m+1)).row=jZ ns (bld ns (bd0.step ns 0) 1 m):=rfl
 have hlen:(gW ns (m+1)).row.length<=800*(m+1)+3:=by
  unfold gW;simp only[List.length_append];omega
 generalize hWd:(gW ns (m+1)).row=W at *;obtain⟨hS0,hN0⟩:=Fb W;obtain⟨X,hX⟩:=vp ns m 1 (bd0.step ns 0)
 obtain⟨t1,hS1,hN1⟩:=hS0.step (ns:=ns) (k:=0) (X:=X) hN0 qy trivial (by omega) (by rw[eW,hX]) (fun hV=>by
  obtain⟨Y,hY,hF⟩:=later ns m 1 (bd0.step ns 0) (by omega) hV
  have:X=Y:=List.append_cancel_left (hX.symm.trans hY)
  rw[this];exact hF) (by omega)
 have hI1:=pK.first ns;obtain⟨t2,hS2,hN2⟩:=CT (ns:=ns) (by omega) m 1 (bd0.step ns 0) t1 hS1 hN1 hI1 (qy.step ns) (by omega) (by omega) eW;have hI2:=zp ns m 1 (bd0.step ns 0) hI1 (qy.step ns) (by omega) (by omega);obtain⟨t3,hS3,hN3,hf⟩:=Dd (ns:=ns) (bld ns bd0 0 (m+1)).frs.length (bld ns bd0 0 (m+1)) (0+(m+1)) t2 (lwh (PG.mix ns 61)) hS2 hN2 hI2 hok (by omega) rfl eW
 refine⟨t3,?_,?_,hf,hlen,Nat.le_trans hn (by omega)⟩
 . refine⟨?_,hS3.len,hS3.nam,hS3.opn,hS3.don⟩
   exact hS3.ra.br (X:=[]) (by rw[eW];simp[jZ];rfl) (dE _)
 . exact⟨hN3.dec,hN3.prev,hN3.last,hN3.nxt,hN3.opk⟩
theorem AM{me:ag->OE}{ρ:ag}{ys:List PV}(h:∀(j:Nat) y,ys[j]?=some y->me (ρ++[some (.sh (.int j))])=.ok (.sh y)):da me ρ (cT ys.length)=.ok ys:=by
 unfold cT
 have:=jV (me:=me) (ρ:=ρ) (g:=fun j:Nat=>PV.int j) (f:=fun j:Nat=>(ys[j]?).getD .non) (List.range ys.length) (fun j hj=>by
  have hj':=List.mem_range.mp hj
  have hq:ys[j]?=some ys[j]:=List.getElem?_eq_getElem hj'
  rw[h j _ hq,hq];rfl)
 rw[this]
 congr 1
 refine List.ext_getElem (by simp) fun j h1 h2=>?_
 have hq:ys[j]?=some ys[j]:=List.getElem?_eq_getElem h2
 simp[hq]
theorem GD(a b c e:PV):atP [a,b,c,e] 0=some a:=rfl
theorem Ew(a b c e:PV):atP [a,b,c,e] 1=some b:=rfl
theorem Gr(a b c e:PV):atP [a,b,c,e] 2=some c:=rfl
theorem GA(a b c e:PV):atP [a,b,c,e] 3=some e:=rfl
theorem F5{tree:List PV}{nds:List Nd}(hn:∀(j:Nat) d,nds[j]?=some d->d.s = "name" -> tree[j]?=some (.tup [.str "name",.int d.a,.int d.b,.int ((j:Int)+1)]) /\ ∃ e:Nd,tree[j+1]?=some (.tup [.str e.s,.int e.a,.int e.b,.int e.c]) /\ e.c=d.c)
  (hd:∀(j:Nat) d,nds[j]?=some d->d.s ≠ "name" -> tree[j]?=some (ndP d)) (j:Nat) (d:Nd) (h:nds[j]?=some d):
  eQ [.lst tree,.int j]=.ok (.sh (ndP d)):=by
 by_cases hs:d.s = "name"
 . obtain⟨h1,e,h2,h3⟩:=hn j d h hs
   have a1:atP tree (j:Int)=some (.tup [.str "name",.int d.a,.int d.b,.int ((j:Int)+1)]):=by rw[kn,h1]
   have a2:atP tree ((j:Int)+1)=some (.tup [.str e.s,.int e.a,.int e.b,.int e.c]):=by
    rw[show((j:Int)+1)=((j+1:Nat):Int) by omega,kn,h2]
   simp -implicitDefEqProofs [kO,kP,nJ,eQ,gN,a1,a2,eT,GD,Ew,Gr,GA,gNe,eqS,aH,ndP,hs,h3]
 . have a1:atP tree (j:Int)=some (ndP d):=by rw[kn,hd j d h hs]
   unfold ndP at a1;simp -implicitDefEqProofs [kO,kP,nJ,eQ,gN,a1,eT,GD,Ew,Gr,GA,gNe,eqS,aH,ndP,hs,gj]
theorem xm(ns:List Int)(m:Nat)(h1:1<=m)(hm:m<=12):mS [.lst ((gW ns m).row.map .int)]=.ok (.fr ((gW ns m).nodes.map ndP)) /\ (gW ns m).row.length<=9700 /\ (gW ns m).nodes.length<=48:=by
 obtain⟨tree,hS,hN,hf,hl,hnl⟩:=Dv ns m h1 hm;obtain⟨C,hI,hCf,hB,_⟩:=En ns m h1 (by omega);have hw:=dE (PG.mix ns 61)
 have hflt:PG.flt (gW ns m).row=none:=by
  have hjn:=hI.jn;unfold Jn at hjn;rw[hCf]at hjn;have:=(hjn.br (by decide) hw).flt;rw[hB];exact this
 generalize gW ns m=B at *
 refine⟨?_,by omega,by omega⟩
 have ra:=hS.ra;rw[hf]at ra;obtain⟨x,y,hwh⟩:=RA.done ra (by omega);have htl:=hS.len
 have hdon:∀(j:Nat) d,B.nodes[j]?=some d->d.s ≠ "name" -> tree[j]?=some (ndP d):=fun j d h hs=>hS.don j d h hs (by rw[hf];simp)
 have hmem:=F5 (tree:=tree) (nds:=B.nodes) (fun j d h hs=>by
  refine⟨hS.nam j d h hs,?_⟩
  obtain⟨e,m1,m2,m3⟩:=hN.nxt j d h hs
  rcases m3 with⟨f,hff,_⟩|hc
  . rw[hf]at hff;cases hff
  . exact⟨e,hdon _ e m1 m2,hc⟩) hdon
 refine Du B.row tree B.row.length x y (B.nodes.map ndP) hflt (by omega) (by omega) hwh ?_ (by simp[htl])
 have hlen:tree.length=(B.nodes.map ndP).length:=by rw[List.length_map,htl]
 rw[hlen]
 refine AM fun j z hz=>?_
 rw[List.getElem?_map]at hz
 cases q:B.nodes[j]? with
 |none=>rw[q]at hz;simp at hz
 | some d=>
   rw[q]at hz;simp only[Option.map_some,Option.some.injEq]at hz;rw[<- hz];have:=hmem j d q;simp -implicitDefEqProofs [uf,this]
theorem Md(d:Nd):qH (ndP d) 64=true /\ fg (ndP d) (ndP d)=true:=by
 constructor
 . simp[ndP,qH,tW]
 . simp[ndP,fg,qQ]
theorem GK(ns:List Int)(V:PV)(val:PV)(row:List Int)(nds:List Nd)(hV:V=.tup [.lst (row.map .int),.lst (nds.map ndP),val])(x2 x5:Option Sl)(j:Nat)(d:Nd)(h:nds[j]?=some d):∃ y5,
  vq [some (.sh (.lst (ns.map .int))),some (.sh V),x2,some (.ow (nds.map ndP)),some (.sh (.int j)),x5]=.nx [some (.sh (.lst (ns.map .int))),some (.sh V),x2,some (.ow (nds.map ndP)),some (.sh (.int j)),y5]:=by
 have ha:atP (nds.map ndP) (j:Int)=some (ndP d):=by rw[kn,List.getElem?_map,h];rfl
 have h1:mOp gN (mOp eT (ao 1) (mC (.int 1))) (ao 4) [some (.sh (.lst (ns.map .int))),some (.sh V),x2,some (.ow (nds.map ndP)),some (.sh (.int j)),some (.sh (ndP d))]=.ok (.sh (ndP d)):=by
  rw[hV]
  have:atP [PV.lst (row.map .int),.lst (nds.map ndP),val] 1=some (.lst (nds.map ndP)):=rfl
  simp -implicitDefEqProofs [eT,gN,this,ha]
 have h2:aB (mOp zE (ao 5) (mOp gN (mOp eT (ao 1) (mC (.int 1))) (ao 4))) [some (.sh (.lst (ns.map .int))),some (.sh V),x2,some (.ow (nds.map ndP)),some (.sh (.int j)),some (.sh (ndP d))]=.ok false:=by
  obtain⟨o1,o2⟩:=Md d;revert h1;generalize mOp gN (mOp eT (ao 1) (mC (.int 1))) (ao 4)=E;intro h1;simp -implicitDefEqProofs [aB,h1,zE,o1,o2]
 refine⟨some (.sh (ndP d)),?_⟩
 unfold vq;rw[bt (ρ':=[some (.sh (.lst (ns.map .int))),some (.sh V),x2,some (.ow (nds.map ndP)),some (.sh (.int j)),some (.sh (ndP d))]) (by simp -implicitDefEqProofs [bq,gN,ha])]
 refine(sk ?_).trans ((M5 ?_).trans (Cz _))
 . simp -implicitDefEqProofs [mL,pz,aB,mIs,isP,ndP,eT,GD]
 . revert h2;generalize aB (mOp zE (ao 5) (mOp gN (mOp eT (ao 1) (mC (.int 1))) (ao 4)))=E;intro h2
   unfold ndP at h2 ⊢
   simp -implicitDefEqProofs [mL,pz,eT,Ew,Gr,GA,js,h2]
theorem zQ(ns:List Int)(V:PV)(val:PV)(row:List Int)(nds:List Nd)(hV:V=.tup [.lst (row.map .int),.lst (nds.map ndP),val])(x2:Option Sl):∀(k i:Nat) (x4 x5:Option Sl),i+k<=nds.length->∃ y4 y5,
  jB 4 vq ((List.range' i k).map fun j:Nat=>.int j) [some (.sh (.lst (ns.map .int))),some (.sh V),x2,some (.ow (nds.map ndP)),x4,x5]=.nx [some (.sh (.lst (ns.map .int))),some (.sh V),x2,some (.ow (nds.map ndP)),y4,y5]
 |0,i,x4,x5,_=>⟨x4,x5,rfl⟩
 | k+1,i,x4,x5,hk=>by
   have hlt:i<nds.length:=by omega
   obtain⟨y5,ht⟩:=GK ns V val row nds hV x2 x5 i nds[i] (List.getElem?_eq_getElem hlt);obtain⟨z4,z5,hl⟩:=zQ ns V val row nds hV x2 k (i+1) (some (.sh (.int i))) y5 (by omega)
   refine⟨z4,z5,?_⟩
   rw[List.range'_succ,List.map_cons,j8];simp only[List.set_cons_succ,List.set_cons_zero,ht,iD];exact hl
theorem F9(ns:List Int)(_:ns.length<=63):xB [.lst (ns.map .int)]=.ok (.sh (.bl true)):=by
 obtain⟨m,hm⟩:∃ m:Nat,(m:Int)=1+PG.mix ns 62%11:=⟨(1+PG.mix ns 62%11).toNat,by omega⟩
 have hm1:1<=m:=by omega
 have hm2:m<=11:=by omega
 have hb:=HA ns m (by omega);obtain⟨hn,hrl,hnl⟩:=xm ns m hm1 (by omega);generalize (gW ns m).row=row at *;generalize (gW ns m).nodes=nds at *;generalize (gW ns m).val=val at *;generalize hV:PV.tup [.lst (row.map .int),.lst (nds.map ndP),val]=V at hb
 have i0:∀ a b c:PV,atP [a,b,c] 0=some a:=fun _ _ _=>rfl
 have i1:∀ a b c:PV,atP [a,b,c] 1=some b:=fun _ _ _=>rfl
 unfold xB fnP;rw[if_pos (show List.length [PV.lst (ns.map .int)]=1 from rfl),show mq 6 [PV.lst (ns.map .int)]=[some (.sh (.lst (ns.map .int))),none,none,none,none,none] from rfl];unfold Je
 rw[bt (ρ':=[some (.sh (.lst (ns.map .int))),some (.sh V),none,none,none,none]) (by
  rw[hm]at hb
  simp[bq,eS,hb])]
 unfold Co
 rw[bt (ρ':=[some (.sh (.lst (ns.map .int))),some (.sh V),some (.ow (row.map .int)),none,none,none]) (by
  rw[<- hV];simp -implicitDefEqProofs [bq,eT,i0,sY])]
 unfold Cm
 rw[bt (ρ':=[some (.sh (.lst (ns.map .int))),some (.sh V),some (.sh (.lst (row.map .int))),some (.ow (nds.map ndP)),none,none]) (by
  simp -implicitDefEqProofs [iB,lD,bq,hn])]
 unfold Ce
 rw[sk (by
  rw[<- hV]
  simp -implicitDefEqProofs [mL,pz,aB,mIs,isP,eT,i0,i1,zE,qH,BK,fg,BP])]
 unfold CH;obtain⟨y4,y5,hl⟩:=zQ ns V val row nds hV.symm (some (.sh (.lst (row.map .int)))) nds.length 0 none none (by omega)
 rw[bt (ρ':=[some (.sh (.lst (ns.map .int))),some (.sh V),some (.sh (.lst (row.map .int))),some (.ow (nds.map ndP)),y4,y5]) (by
  have h1:mUn mK (ao 3) [some (.sh (.lst (ns.map .int))),some (.sh V),some (.sh (.lst (row.map .int))),some (.ow (nds.map ndP)),none,none]=.ok (.sh (.int nds.length)):=by simp[mK]
  rw[Cf h1 (by omega),show cT (Int.toNat (nds.length:Int))=(List.range' 0 nds.length).map fun k:Nat=>.int k by simp[cT,List.range_eq_range']]
  exact hl)]
 simp[Cy]
end L2.plainglass_k11_nodes_told
namespace L2.plainglass_k11_nodes_told
open PySem PySem.Spec PyProof.Rows L2.E L2.P PG
def top(i:Nat):Stmt:=PySem.Challenge.pw_plainglass_k11_nodes_told.main.body.getD i (.Pass ⟨0,0,0,0⟩)
abbrev zw:Stmt:=top 6
abbrev vS:List Str:=["byte"]
theorem FJ:aU ["byte"] vS (aA zw):=eD
abbrev jQ:Stmt:=top 7
abbrev jh:List Str:=["byte"]
theorem sI:aU ["byte"] jh (aA jQ):=eD
abbrev j0:Stmt:=top 8
abbrev jF:List Str:=["byte"]
theorem ub:aU ["byte"] jF (aA j0):=eD
abbrev sy:Stmt:=top 30
abbrev p7:List Str:=["byte"]
theorem zJ:aU ["byte"] p7 (aA sy):=eD
abbrev qh:Stmt:=top 31
abbrev pd:List Str:=["byte"]
theorem y0:aU ["byte"] pd (aA qh):=eD
abbrev pQ:Stmt:=top 32
abbrev pk:List Str:=["byte"]
theorem yy:aU ["byte"] pk (aA pQ):=eD
abbrev qt:Stmt:=top 33
abbrev ou:List Str:=["byte"]
theorem yj:aU ["byte"] ou (aA qt):=eD
abbrev lY:Stmt:=top 34
abbrev kZ:List Str:=["byte"]
theorem ve:aU ["byte"] kZ (aA lY):=eD
abbrev wO:Stmt:=top 40
abbrev uo:List Str:=["item","byte"]
theorem D2:aU ["item","byte"] uo (aA wO):=eD
abbrev mi:Stmt:=top 41
abbrev kU:List Str:=["byte"]
theorem pq:aU ["byte","rest"] kU (aA mi):=eD
abbrev nM:Stmt:=top 42
abbrev mz:List Str:=["byte"]
theorem wC:aU ["byte"] mz (aA nM):=eD
abbrev i7:Stmt:=top 43
abbrev iL:List Str:=["item","byte"]
theorem rh:aU ["item","byte"] iL (aA i7):=eD
abbrev ka:Stmt:=top 44
abbrev jJ:List Str:=["item","byte"]
theorem m5:aU ["item","byte","worth"] jJ (aA ka):=eD
abbrev je:Stmt:=top 45
abbrev iK:List Str:=["byte"]
theorem lA:aU ["byte","spans"] iK (aA je):=eD
abbrev jk:Stmt:=top 46
abbrev iO:List Str:=["byte"]
theorem rj:aU ["byte"] iO (aA jk):=eD
abbrev kW:Stmt:=top 47
abbrev j9:List Str:=["worth"]
theorem n8:aU ["worth","second"] j9 (aA kW):=eD
abbrev oM:Stmt:=top 48
abbrev nL:List Str:=["item","byte"]
theorem rE:aU ["item","byte","worth"] nL (aA oM):=eD
abbrev ia:Stmt:=top 49
abbrev gO:List Str:=["item","byte"]
theorem pH:aU ["item","byte"] gO (aA ia):=eD
abbrev jg:Stmt:=top 50
abbrev iH:List Str:=["byte"]
theorem lq:aU ["byte","items"] iH (aA jg):=eD
abbrev gQ:Stmt:=top 51
abbrev gd:List Str:=["byte"]
theorem pb:aU ["byte"] gd (aA gQ):=eD
abbrev nC:Stmt:=top 52
abbrev my:List Str:=[]
theorem vQ:aU [] my (aA nC):=eD
abbrev zh:Stmt:=top 54
abbrev vR:List Str:=["row"]
theorem xc:aU ["row","walk","at"] vR (aA zh):=eD
abbrev mJ:Stmt:=top 55
abbrev kX:List Str:=["row"]
theorem pD:aU ["row","at"] kX (aA mJ):=eD
abbrev zr:Stmt:=top 58
abbrev xi:List Str:=["row"]
theorem iP:aU ["row","tree","unended","at","byte","i"] xi (aA zr):=eD
abbrev BG:Stmt:=top 59
abbrev yP:List Str:=["row","at","i"]
theorem yH:aU ["row","at","i","kind","end"] yP (aA BG):=eD
abbrev qF:Stmt:=top 60
abbrev oB:List Str:=["row","at"]
theorem oN:aU ["row","at","end"] oB (aA qF):=eD
abbrev sN:Stmt:=top 61
abbrev qf:List Str:=["row","at"]
theorem qw:aU ["row","at","end"] qf (aA sN):=eD
abbrev ug:Stmt:=top 62
abbrev sO:List Str:=["row","end"]
theorem vW:aU ["row","end"] sO (aA ug):=eD
abbrev nh:Stmt:=top 63
abbrev mm:List Str:=["tree","i"]
theorem qg:aU ["tree","i","node"] mm (aA nh):=eD
abbrev so:Stmt:=top 65
abbrev qk:List Str:=["_law_script","_law_k"]
theorem A3:aU ["_law_script","_law_k"] qk (aA so):=eD
abbrev uH:Stmt:=top 66
abbrev sq:List Str:=["_law_script","_law_k"]
theorem sT:aU ["_law_script","_law_k","_law_number_here"] sq (aA uH):=eD
abbrev pS:Stmt:=top 67
abbrev oZ:List Str:=["_law_found"]
theorem yO:aU ["_law_found"] oZ (aA pS):=eD
abbrev pV:Stmt:=top 69
abbrev pe:List Str:=["_law_number_here"]
theorem ot:aU ["_law_number_here","_law_kind","_law_rest"] pe (aA pV):=eD
abbrev om:Stmt:=top 70
abbrev ny:List Str:=["_law_script","_law_k"]
theorem km:aU ["_law_script","_law_k","_law_number_here","_law_size_here"] ny (aA om):=eD
abbrev qD:Stmt:=top 71
abbrev pj:List Str:=["_law_point_here"]
theorem iy:aU ["_law_point_here","_law_many_here","_law_found","_law_k"] pj (aA qD):=eD
abbrev uh:Stmt:=top 72
abbrev sC:List Str:=["_law_number_here","_law_big"]
theorem i9:aU ["_law_number_here","_law_big","_law_found","_law_k","_law_worth"] sC (aA uh):=eD
abbrev sR:Stmt:=top 73
abbrev pP:List Str:=["_law_point_here","_law_number_here"]
theorem mQ:aU ["_law_point_here","_law_number_here","_law_short","_law_way","_law_rest"] pP (aA sR):=eD
abbrev su:Stmt:=top 74
abbrev qN:List Str:=["_law_points_here","_law_number_here"]
theorem jr:aU ["_law_points_here","_law_number_here","_law_found","_law_at","_law_point_here"] qN (aA su):=eD
abbrev oj:Stmt:=top 75
abbrev nA:List Str:=["_law_number_here"]
theorem bH:aU ["_law_number_here","_law_below","_law_figures_here","_law_row","_law_worth","_law_figure","_law_power","_law_more","_law_down"] nA (aA oj):=eD
abbrev qG:Stmt:=top 76
abbrev oO:List Str:=["_law_worth","_law_power"]
theorem oG:aU ["_law_worth","_law_power"] oO (aA qG):=eD
abbrev qd:Stmt:=top 77
abbrev oq:List Str:=["_law_number_here"]
theorem zk:aU ["_law_number_here"] oq (aA qd):=eD
abbrev ju:Stmt:=top 78
abbrev jc:List Str:=["_law_script","_law_number_here"]
theorem gm:aU ["_law_script","_law_number_here","_law_kind","_law_points_here","_law_found"] jc (aA ju):=eD
abbrev sL:Stmt:=top 79
abbrev qc:List Str:=["_law_script","_law_number_here"]
theorem Ah:aU ["_law_script","_law_number_here"] qc (aA sL):=eD
abbrev qK:Stmt:=top 80
abbrev oe:List Str:=["_law_row","_law_nodes_here","_law_frames"]
theorem oi:aU ["_law_row","_law_nodes_here","_law_frames","_law_frame","_law_value_here"] oe (aA qK):=eD
abbrev pW:Stmt:=top 81
abbrev ph:List Str:=["_law_script","_law_row","_law_nodes_here","_law_frames","_law_number_here"]
theorem jz:aU ["_law_script","_law_row","_law_nodes_here","_law_frames","_law_number_here","_law_name_here","_law_points_here","_law_at"] ph (aA pW):=eD
abbrev pR:Stmt:=top 82
abbrev oa:List Str:=["_law_script","_law_many_here"]
theorem cA:aU ["_law_script","_law_many_here","_law_row","_law_nodes_here","_law_frames","_law_value_here","_law_k","_law_number_here","_law_name_here","_law_at","_law_kind","_law_found"] oa (aA pR):=eD
abbrev AB:Stmt:=top 83
abbrev BO:List Str:=["_law_script"]
theorem uw:aU ["_law_script","_law_built_here","_law_handed","_law_found","_law_k","_law_node"] BO (aA AB):=eD
abbrev eG:Stmt:=inClass (top 39) 0
abbrev kd:List Str:=["self"]
theorem ux:aU ["self"] kd (aA eG):=eD
abbrev hJ:Stmt:=inClass (top 39) 1
abbrev oP:List Str:=["self","row"]
theorem oQ:aU ["self","row","at","byte"] oP (aA hJ):=eD
abbrev eY:Stmt:=inClass (top 39) 2
abbrev la:List Str:=["self","byte"]
theorem lh:aU ["self","byte","item","items"] la (aA eY):=eD
abbrev eH:Stmt:=inClass (top 39) 3
abbrev jX:List Str:=["self"]
theorem uL:aU ["self"] jX (aA eH):=eD
abbrev eJ:Stmt:=inClass (top 39) 5
abbrev j4:List Str:=["self"]
theorem uD:aU ["self"] j4 (aA eJ):=eD
set_option genInjectivity false in
set_option genSizeOf false in
structure Adr where
 jS:Addr
 d_tails:FuncData
 cW:Addr
 d_second_of_three:FuncData
 dv:Addr
 d_second_of_four:FuncData
 fM:Addr
 d_is_white:FuncData
 fB:Addr
 d_is_figure:FuncData
 fW:Addr
 d_hex_worth:FuncData
 fD:Addr
 d_word_rest:FuncData
 bP:Addr
 d_short_escape:FuncData
 kJ:Addr
 d_behind:FuncData
 bS:Addr
 d_behind_value:FuncData
 dS:Addr
 d_behind_lead:FuncData
 aZ:Addr
 d_behind_in_number:FuncData
 bO:Addr
 d_behind_in_text:FuncData
 b0:Addr
 d_behind_character:FuncData
 cK:Addr
 d_behind_backslash:FuncData
 dI:Addr
 d_behind_code_d:FuncData
 dD:Addr
 d_behind_hex:FuncData
 bb:Addr
 d_behind_in_brackets:FuncData
 cj:Addr
 d_behind_row_begin:FuncData
 b6:Addr
 d_behind_fields_begin:FuncData
 eR:Addr
 d_member_rest:FuncData
 o4:Addr
 d_fault:FuncData
 dY:Addr
 d_refuse_fault:FuncData
 mS:Addr
 d_nodes:FuncData
 i8:Addr
 d_leaf:FuncData
 g9:Addr
 d_plain_end:FuncData
 jj:Addr
 d_text_end:FuncData
 fk:Addr
 d_is_name:FuncData
 eQ:Addr
 d_with_member:FuncData
 jb:Addr
 d_law_cell:FuncData
 fm:Addr
 d_law_mix:FuncData
 ft:Addr
 d_law_whole:FuncData
 dJ:Addr
 d_law_point:FuncData
 eN:Addr
 d_law_points:FuncData
 eP:Addr
 d_law_eight:FuncData
 ik:Addr
 d_law_hex:FuncData
 jd:Addr
 d_law_sign:FuncData
 gB:Addr
 d_law_text:FuncData
 gy:Addr
 d_law_number:FuncData
 fz:Addr
 d_law_plain:FuncData
 cI:Addr
 d_law_white:FuncData
 cz:Addr
 d_law_plain_value:FuncData
 ie:Addr
 d_law_name:FuncData
 cV:Addr
 d_law_close:FuncData
 fZ:Addr
 d_law_begin:FuncData
 gV:Addr
 d_law_built:FuncData
 xB:Addr
 d_law:FuncData
 dk:Addr
 d_Walk___init__:FuncData
 fY:Addr
 d_Walk_take:FuncData
 eC:Addr
 d_Walk_goes_on:FuncData
 cL:Addr
 d_Walk_brackets:FuncData
 dj:Addr
 d_Walk_is_whole:FuncData
 C_Walk:Addr
 v_TAIL:Addr
 v_BLANK:Value
 v_QUOTE:Value
 v_PLUS:Value
 v_COMMA:Value
 v_MINUS:Value
 v_POINT:Value
 v_NOUGHT:Value
 v_NINE:Value
 v_COLON:Value
 v_BIG_E:Value
 v_ROW_BEGIN:Value
 v_BACKSLASH:Value
 v_ROW_END:Value
 v_SMALL_E:Value
 v_SMALL_U:Value
 v_FIELDS_BEGIN:Value
 v_FIELDS_END:Value
 v_WHITE:Addr
 v_WORDS:Addr
 v_SHORT_ESCAPES:Addr
 v_MOST_BRACKETS:Value
 v_LOOSE:Addr
 v_UNENDED:Addr
 v_KINDS:Addr
structure Txt(K:PySem.W.Frag)(mg:Str->Option Value)(t:Adr):Prop where
 e_tails:Ent K mg "tails" zw t.jS t.d_tails vS
 e_second_of_three:Ent K mg "second_of_three" jQ t.cW t.d_second_of_three jh
 e_second_of_four:Ent K mg "second_of_four" j0 t.dv t.d_second_of_four jF
 cq:Ent K mg "is_white" sy t.fM t.d_is_white p7
 gc:Ent K mg "is_figure" qh t.fB t.d_is_figure pd
 jo:Ent K mg "hex_worth" pQ t.fW t.d_hex_worth pk
 e_word_rest:Ent K mg "word_rest" qt t.fD t.d_word_rest ou
 jO:Ent K mg "short_escape" lY t.bP t.d_short_escape kZ
 sW:Ent K mg "behind" wO t.kJ t.d_behind uo
 fS:Ent K mg "behind_value" mi t.bS t.d_behind_value kU
 gL:Ent K mg "behind_lead" nM t.dS t.d_behind_lead mz
 e_behind_in_number:Ent K mg "behind_in_number" i7 t.aZ t.d_behind_in_number iL
 e_behind_in_text:Ent K mg "behind_in_text" ka t.bO t.d_behind_in_text jJ
 gu:Ent K mg "behind_character" je t.b0 t.d_behind_character iK
 gA:Ent K mg "behind_backslash" jk t.cK t.d_behind_backslash iO
 i3:Ent K mg "behind_code_d" kW t.dI t.d_behind_code_d j9
 e_behind_hex:Ent K mg "behind_hex" oM t.dD t.d_behind_hex nL
 e_behind_in_brackets:Ent K mg "behind_in_brackets" ia t.bb t.d_behind_in_brackets gO
 gC:Ent K mg "behind_row_begin" jg t.cj t.d_behind_row_begin iH
 fe:Ent K mg "behind_fields_begin" gQ t.b6 t.d_behind_fields_begin gd
 dB:Ent K mg "member_rest" nC t.eR t.d_member_rest my
 vo:Ent K mg "fault" zh t.o4 t.d_fault vR
 e_refuse_fault:Ent K mg "refuse_fault" mJ t.dY t.d_refuse_fault kX
 e_nodes:Ent K mg "nodes" zr t.mS t.d_nodes xi
 e_leaf:Ent K mg "leaf" BG t.i8 t.d_leaf yP
 e_plain_end:Ent K mg "plain_end" qF t.g9 t.d_plain_end oB
 e_text_end:Ent K mg "text_end" sN t.jj t.d_text_end qf
 e_is_name:Ent K mg "is_name" ug t.fk t.d_is_name sO
 e_with_member:Ent K mg "with_member" nh t.eQ t.d_with_member mm
 oJ:Ent K mg "_law_cell" so t.jb t.d_law_cell qk
 eS:Ent K mg "_law_mix" uH t.fm t.d_law_mix sq
 js:Ent K mg "_law_whole" pS t.ft t.d_law_whole oZ
 mP:Ent K mg "_law_point" pV t.dJ t.d_law_point pe
 il:Ent K mg "_law_points" om t.eN t.d_law_points ny
 m7:Ent K mg "_law_eight" qD t.eP t.d_law_eight pj
 j7:Ent K mg "_law_hex" uh t.ik t.d_law_hex sC
 oH:Ent K mg "_law_sign" sR t.jd t.d_law_sign pP
 j6:Ent K mg "_law_text" su t.gB t.d_law_text qN
 lH:Ent K mg "_law_number" oj t.gy t.d_law_number nA
 e_law_plain:Ent K mg "_law_plain" qG t.fz t.d_law_plain oO
 ee:Ent K mg "_law_white" qd t.cI t.d_law_white oq
 e_law_plain_value:Ent K mg "_law_plain_value" ju t.cz t.d_law_plain_value jc
 ox:Ent K mg "_law_name" sL t.ie t.d_law_name qc
 e_law_close:Ent K mg "_law_close" qK t.cV t.d_law_close oe
 e_law_begin:Ent K mg "_law_begin" pW t.fZ t.d_law_begin ph
 e_law_built:Ent K mg "_law_built" pR t.gV t.d_law_built oa
 F9:Ent K mg "law" AB t.xB t.d_law BO
 F_Walk___init__:Fun K "__init__" "Walk.__init__" eG t.dk t.d_Walk___init__
 b_Walk___init__:Binds K t.d_Walk___init__ kd []
 F_Walk_take:Fun K "take" "Walk.take" hJ t.fY t.d_Walk_take
 h_Walk_take:Meth K t.C_Walk "take" t.fY
 b_Walk_take:Binds K t.d_Walk_take oP []
 F_Walk_goes_on:Fun K "goes_on" "Walk.goes_on" eY t.eC t.d_Walk_goes_on
 h_Walk_goes_on:Meth K t.C_Walk "goes_on" t.eC
 b_Walk_goes_on:Binds K t.d_Walk_goes_on la []
 F_Walk_brackets:Fun K "brackets" "Walk.brackets" eH t.cL t.d_Walk_brackets
 h_Walk_brackets:Meth K t.C_Walk "brackets" t.cL
 b_Walk_brackets:Binds K t.d_Walk_brackets jX []
 F_Walk_is_whole:Fun K "is_whole" "Walk.is_whole" eJ t.dj t.d_Walk_is_whole
 h_Walk_is_whole:Meth K t.C_Walk "is_whole" t.dj
 b_Walk_is_whole:Binds K t.d_Walk_is_whole j4 []
 n_isinstance:mg "isinstance" = none
 n_tuple:mg "tuple" = none
 n_len:mg "len" = none
 n_range:mg "range" = none
 n_int:mg "int" = none
 n_bool:mg "bool" = none
 n_str:mg "str" = none
 n_ord:mg "ord" = none
 n_list:mg "list" = none
 n_enumerate:mg "enumerate" = none
 n_all:mg "all" = none
 m_Walk:mg "Walk" = some (.ref t.C_Walk)
 c_Walk:Cls K t.C_Walk
 k_Walk:Mk K t.C_Walk t.dk
 na_Walk_coming:nr K t.C_Walk "coming"
 m_TAIL:mg "TAIL" = some (.ref t.v_TAIL)
 r_TAIL:RelV (.ref t.v_TAIL) (.ref t.v_TAIL)
 q_TAIL:∀ H,SqT K H t.v_TAIL [.int 128,.int 191]
 m_BLANK:mg "BLANK" = some t.v_BLANK
 r_BLANK:RelV (.int 32) t.v_BLANK
 m_QUOTE:mg "QUOTE" = some t.v_QUOTE
 r_QUOTE:RelV (.int 34) t.v_QUOTE
 m_PLUS:mg "PLUS" = some t.v_PLUS
 r_PLUS:RelV (.int 43) t.v_PLUS
 m_COMMA:mg "COMMA" = some t.v_COMMA
 r_COMMA:RelV (.int 44) t.v_COMMA
 m_MINUS:mg "MINUS" = some t.v_MINUS
 r_MINUS:RelV (.int 45) t.v_MINUS
 m_POINT:mg "POINT" = some t.v_POINT
 r_POINT:RelV (.int 46) t.v_POINT
 m_NOUGHT:mg "NOUGHT" = some t.v_NOUGHT
 r_NOUGHT:RelV (.int 48) t.v_NOUGHT
 m_NINE:mg "NINE" = some t.v_NINE
 r_NINE:RelV (.int 57) t.v_NINE
 m_COLON:mg "COLON" = some t.v_COLON
 r_COLON:RelV (.int 58) t.v_COLON
 m_BIG_E:mg "BIG_E" = some t.v_BIG_E
 r_BIG_E:RelV (.int 69) t.v_BIG_E
 m_ROW_BEGIN:mg "ROW_BEGIN" = some t.v_ROW_BEGIN
 r_ROW_BEGIN:RelV (.int 91) t.v_ROW_BEGIN
 m_BACKSLASH:mg "BACKSLASH" = some t.v_BACKSLASH
 r_BACKSLASH:RelV (.int 92) t.v_BACKSLASH
 m_ROW_END:mg "ROW_END" = some t.v_ROW_END
 r_ROW_END:RelV (.int 93) t.v_ROW_END
 m_SMALL_E:mg "SMALL_E" = some t.v_SMALL_E
 r_SMALL_E:RelV (.int 101) t.v_SMALL_E
 m_SMALL_U:mg "SMALL_U" = some t.v_SMALL_U
 r_SMALL_U:RelV (.int 117) t.v_SMALL_U
 m_FIELDS_BEGIN:mg "FIELDS_BEGIN" = some t.v_FIELDS_BEGIN
 r_FIELDS_BEGIN:RelV (.int 123) t.v_FIELDS_BEGIN
 m_FIELDS_END:mg "FIELDS_END" = some t.v_FIELDS_END
 r_FIELDS_END:RelV (.int 125) t.v_FIELDS_END
 m_WHITE:mg "WHITE" = some (.ref t.v_WHITE)
 r_WHITE:RelV (.ref t.v_WHITE) (.ref t.v_WHITE)
 q_WHITE:∀ H,SqT K H t.v_WHITE [.int 9,.int 10,.int 13,.int 32]
 m_WORDS:mg "WORDS" = some (.ref t.v_WORDS)
 r_WORDS:RelV (.ref t.v_WORDS) (.ref t.v_WORDS)
 q_WORDS:DKP K t.v_WORDS [(110,.tup ([117,108,108].map .int)),(116,.tup ([114,117,101].map .int)),(102,.tup ([97,108,115,101].map .int))]
 m_SHORT_ESCAPES:mg "SHORT_ESCAPES" = some (.ref t.v_SHORT_ESCAPES)
 r_SHORT_ESCAPES:RelV (.ref t.v_SHORT_ESCAPES) (.ref t.v_SHORT_ESCAPES)
 q_SHORT_ESCAPES:DKP K t.v_SHORT_ESCAPES [(34,.int 34),(92,.int 92),(47,.int 47),(98,.int 8),(102,.int 12),(110,.int 10),(114,.int 13),(116,.int 9)]
 m_MOST_BRACKETS:mg "MOST_BRACKETS" = some t.v_MOST_BRACKETS
 r_MOST_BRACKETS:RelV (.int 64) t.v_MOST_BRACKETS
 m_LOOSE:mg "LOOSE" = some (.ref t.v_LOOSE)
 r_LOOSE:RelV (.ref t.v_LOOSE) (.ref t.v_LOOSE)
 q_LOOSE:∀ H,SqT K H t.v_LOOSE [.str "white",.str "figures",.str "fraction",.str "exponent",.str "sign"]
 m_UNENDED:mg "UNENDED" = some (.ref t.v_UNENDED)
 r_UNENDED:RelV (.ref t.v_UNENDED) (.ref t.v_UNENDED)
 q_UNENDED:∀ H,SqT K H t.v_UNENDED [.str "row",.str "more row",.str "fields",.str "more fields"]
 m_KINDS:mg "KINDS" = some (.ref t.v_KINDS)
 r_KINDS:RelV (.ref t.v_KINDS) (.ref t.v_KINDS)
 q_KINDS:DKP K t.v_KINDS [(34,.str "text"),(91,.str "row"),(102,.str "false"),(110,.str "null"),(116,.str "true"),(123,.str "fields")]
noncomputable def b8(t:Adr)(c:String):Option Addr:=if c = "Walk" then some t.C_Walk else none
theorem jm{K:PySem.W.Frag}{mg:Str->Option Value}{t:Adr}(T:Txt K mg t):∀ c C,b8 t c=some C->pI c=true->Cls K C /\ nr K C "coming":=by
 intro c C h1 h2;unfold b8 at h1;unfold pI at h2
 by_cases e:c = "Walk"
 . subst e;simp at h1;subst h1;exact⟨T.c_Walk,T.na_Walk_coming⟩
 rw[if_neg e]at h1;cases h1
section
variable{P:Program}{w:World}{K:PySem.W.Frag}{mg:Str->Option Value}{base:Heap}{t:Adr}
theorem A9(T:Txt K mg t):cx P w K mg base (CXE P w) 1 t.jb t.d_law_cell qk (spP K (b8 t) jb):=
 fj T.oJ.F A3 fun cdv A outer s H E hr=>⟨_,(aj (aX (bz (qv 0) (fun _=>rfl)) (au (az (qi bg (qv 0) (aD bV (qv 1) (kE T.n_len (qv 0)))))) aF)
   (au (az ai))),
  (aw (aY (cG ae) (aC (aq fH ae (aq bW ae (dM iI ae)))) aE)
    (aC ah))⟩
theorem mf(T:Txt K mg t):cx P w K mg base (CXE P w) 2 t.fm t.d_law_mix sq (spP K (b8 t) fm):=
 fj T.eS.F sT fun cdv A outer s H E hr=>⟨_,(aj (qz 2 sT.nd (aD bV (aD cb (qx (A9 T) T.oJ hr aN (aa (qv 0) (aa (qv 1) av))) (aD uF ai (aD cb (qv 1) ai))) ai))
   (aj (qz 2 sT.nd (aD bV (aD uF (qv 2) ai) ai))
   (au (az (aD bV (aD cb (aD uF (aD bT (qv 2) ai) ai) (qv 2)) ai))))),
  (aw (aV (aq bW (aq b9 (aO (af ae (af ae ax))) (aq ur ah (aq b9 ae ah))) ah))
    (aw (aV (aq bW (aq ur ae ah) ah))
    (aC (aq bW (aq b9 (aq ur (aq bU ae ah) ah) ae) ah))))⟩
theorem tH(T:Txt K mg t):cx P w K mg base (CXE P w) 1 t.cV t.d_law_close oe (spI K (b8 t) cV):=
 wm T.e_law_close.F oi fun cdv A outer s H E hr=>⟨_,(aj (qz 3 oi.nd (BW PySem.F.plainAttrs_list PySem.F.slot_list_pop PySem.F.type_list_pop Bi (qv 2)))
   (aj (qap b7 (qv 0) (cD (by exact(bJ bw (qi bg (qv 3) ai) aL)) ai ai))
   (aj (wA (kE T.n_len (qv 0)) (wo (qi bg (qv 1) (qi bg (qv 3) ai)) ai set_list))
   (aj (wA (kE T.n_len (qv 1)) (wo (qi bg (qv 1) (qi bg (qv 3) ai)) ai set_list))
   (aj (qz 4 oi.nd (cu (aa (qi bg (qv 3) ai) (aa (gK kr rfl T.n_tuple L2.E.boot_tuple (aa (qi bg (qv 3) ai) av)) av))))
   (aj (aX (bz (qv 2) (fun _=>rfl)) (aj (qap b7 (qi bg (qi bg (qv 2) (nQ ke ai)) ai) (cD (by exact(bJ bw (qi bg (qi bg (qv 2) (nQ ke ai)) ai) aL)) (qv 4) (cu (aa (qi bg (qv 3) ai) (aa (qv 4) av)))))
   (au (aX (bJ bw (qi bg (qi bg (qv 2) (nQ ke ai)) ai) aL) (au (wA (kE T.n_len (qv 1)) (wo (qi bg (qv 1) (aD sj (qi bg (qv 3) ai) ai)) ai set_list))) aF))) aF)
   (au (az (qv 4))))))))),
  (aw (oK (yu aR))
    (aw (eI aR (lC (hE (ay (aq bx (gR (kg aR ah)) aM)) ah ah)))
    (aw (vD (kg aR (gR (kg aR ah))) ah (lC (ki aR)))
    (aw (vD (kg aR (gR (kg aR ah))) ah (lC (ki aR)))
    (aw (aV (cf (af (gR (kg aR ah)) (af (dM y7 (gR (kg aR ah))) ax))))
    (aw (aY (iA aR) (aw (eI (kg (kg aR (nR kf ah)) ah) (lC (hE (ay (aq bx (gR (kg (kg aR (nR kf ah)) ah)) aM)) ae (cf (af (gR (kg aR ah)) (af ae ax))))))
    (aY (ay (aq bx (gR (kg (kg aR (nR kf ah)) ah)) aM)) (vD (kg aR (aq sE (gR (kg aR ah)) ah)) ah (lC (ki aR))) aE)) aE)
    lP))))))⟩
theorem iq(T:Txt K mg t):cx P w K mg base (CXE P w) 1 t.cI t.d_law_white oq (spP K (b8 t) cI):=
 fj T.ee.F zk fun cdv A outer s H E hr=>⟨_,(aj (aX (bJ C3 (aD bV (qv 0) ai) ai) (au (az (aT av))) aF)
   (au (az (mW (M:=["_law_number_here"]) (ι:=[0]) (x:="_law_k") ⟨rfl,rfl,rfl,rfl,rfl,rfl,rfl,rfl,rfl,rfl,rfl,by decide +kernel⟩ rfl (j5 rfl T.n_range (aa (aD cb (aD bV (aD bT (qv 0) ai) ai) ai) av)) fun _ _ _ _=>(qi bg (aT (aa ai (aa ai (aa ai (aa ai av))))) (aD bV (aD bT (aD bT (qv 0) ai) (aD cb ai (aD uF ai (qv 1)))) ai)))))),
  (aw (aY (ay (aq Cw (aq bW ae ah) ah)) (aC (aW ax)) aE)
    (aC (wx (by decide) (aq b9 (aq bW (aq bU ae ah) ah) ah) (aq fH (aW (af ah (af ah (af ah (af ah ax))))) (aq bW (aq bU (aq bU ae ah) (aq b9 ah (aq ur ah ae))) ah)))))⟩
theorem yr(T:Txt K mg t):cx P w K mg base (CXE P w) 1 t.dJ t.d_law_point pe (spP K (b8 t) dJ):=
 fj T.mP.F ot fun cdv A outer s H E hr=>⟨_,(aj (qz 1 ot.nd (aD bV (qv 0) ai))
   (aj (qz 2 ot.nd (aD bT (qv 0) ai))
   (aj (aX (bJ lp (qv 1) ai) (au (az (aD cb ai (aD bV (qv 2) ai)))) aF)
   (aj (aX (bJ lp (qv 1) ai) (au (az (qi bg (aT (aa ai (aa ai (aa ai (aa ai (aa ai (aa ai (aa ai (aa ai (aa ai (aa ai (aa ai av)))))))))))) (aD bV (qv 2) ai)))) aF)
   (aj (aX (bJ bw (qv 1) ai) (au (az (aD cb ai (aD bV (qv 2) ai)))) aF)
   (aj (aX (bJ bw (qv 1) ai) (au (az (aD cb ai (aD bV (qv 2) ai)))) aF)
   (aj (aX (bJ bw (qv 1) ai) (au (az (aD cb ai (aD bV (qv 2) ai)))) aF)
   (au (az (aD cb ai (aD bV (qv 2) ai))))))))))),
  (aw (aV (aq bW ae ah))
    (aw (aV (aq bU ae ah))
    (aw (aY (ay (aq ly ae ah)) (aC (aq b9 ah (aq bW ae ah))) aE)
    (aw (aY (ay (aq ly ae ah)) (aC (aq fH (aW (af ah (af ah (af ah (af ah (af ah (af ah (af ah (af ah (af ah (af ah (af ah ax)))))))))))) (aq bW ae ah))) aE)
    (aw (aY (ay (aq bx ae ah)) (aC (aq b9 ah (aq bW ae ah))) aE)
    (aw (aY (ay (aq bx ae ah)) (aC (aq b9 ah (aq bW ae ah))) aE)
    (aw (aY (ay (aq bx ae ah)) (aC (aq b9 ah (aq bW ae ah))) aE)
    (aC (aq b9 ah (aq bW ae ah))))))))))⟩
theorem rS(T:Txt K mg t):cx P w K mg base (CXE P w) 3 t.eN t.d_law_points ny (spP K (b8 t) eN):=
 fj T.il.F km fun cdv A outer s H E hr=>⟨_,(aj (qz 2 km.nd (qx (mf T) T.eS hr aN (aa (qv 0) (aa (qv 1) av))))
   (aj (qz 3 km.nd (aD bV (qv 2) ai))
   (aj (aX (bJ bw (aD bV (aD bT (qv 2) ai) ai) ai) (au (qz 3 km.nd (aD bV (aD bT (qv 2) ai) ai))) aF)
   (au (az (mW (M:=["_law_script","_law_k"]) (ι:=[0,1]) (x:="_law_j") ⟨rfl,rfl,rfl,rfl,rfl,rfl,rfl,rfl,rfl,rfl,rfl,by decide +kernel⟩ rfl (j5 rfl T.n_range (aa (qv 3) av)) fun _ _ _ _=>(qx (yr T) T.mP hr BJ (aa (qx (mf T) T.eS hr BJ (aa (qv 0) (aa (aD cb (aD cb (qv 1) ai) (qv 2)) av))) av)))))))),
  (aw (aV (aO (af ae (af ae ax))))
    (aw (aV (aq bW ae ah))
    (aw (aY (ay (aq bx (aq bW (aq bU ae ah) ah) ah)) (aV (aq bW (aq bU ae ah) ah)) aE)
    (aC (wx (by decide) ae (aO (af (aO (af ae (af (aq b9 (aq b9 ae ah) ae) ax))) ax)))))))⟩
theorem zK(T:Txt K mg t):cx P w K mg base (CXE P w) 4 t.ie t.d_law_name qc (spP K (b8 t) ie):=
 fj T.ox.F Ah fun cdv A outer s H E hr=>⟨_,(aj (aX (bJ bw (aD bV (qv 1) ai) ai) (au (az (aT (aa (aD cb ai (aD bV (aD bT (qv 1) ai) ai)) av)))) aF)
   (au (az (qx (rS T) T.il hr aN (aa (qv 0) (aa (aD cb ai (aD bV (aD bT (qv 1) ai) ai)) av)))))),
  (aw (aY (ay (aq bx (aq bW ae ah) ah)) (aC (aW (af (aq b9 ah (aq bW (aq bU ae ah) ah)) ax))) aE)
    (aC (aO (af ae (af (aq b9 ah (aq bW (aq bU ae ah) ah)) ax)))))⟩
theorem zj(T:Txt K mg t):cx P w K mg base (CXE P w) 1 t.eP t.d_law_eight pj (spP K (b8 t) eP):=
 fj T.m7.F iy fun cdv A outer s H E hr=>⟨_,(aj (aX (bJ lp (qv 0) ai) (au (az (aT (aa (qv 0) av)))) aF)
   (aj (qz 1 iy.nd (aD cb (aD cb ai (gK xy rfl T.n_int L2.E.boot_int (aa (iZ C2 (qv 0) ai (lT _)) av))) (gK xy rfl T.n_int L2.E.boot_int (aa (iZ C2 (qv 0) ai (lT _)) av))))
   (aj (qz 2 iy.nd (aT av))
   (aj (pT gn rfl (j5 rfl T.n_range (aa (qv 1) av)) (lI (i:=3) iy.nd rfl (by first|exact Or.inl rfl|exact Or.inr rfl)) (aj (qz 2 iy.nd (aD gw (aT (aa (aD cb ai (aD bV (qv 0) ai)) av)) (qv 2)))
   (au (qz 0 iy.nd (aD bT (qv 0) ai)))))
   (au (az (aD gw (aT (aa (aD cb (qi bg (aT (aa ai (aa ai (aa ai av)))) (aD sj (qv 1) ai)) (qv 0)) av)) (qv 2)))))))),
  (aw (aY (ay (aq ly ae ah)) (aC (aW (af ae ax))) aE)
    (aw (aV (aq b9 (aq b9 ah (dM CP (aq CM ae ah))) (dM CP (aq CM ae ah))))
    (aw (aV (aW ax))
    (aw (vE ae (aw (aV (aq i6 (aW (af (aq b9 ah (aq bW ae ah)) ax)) ae))
    (aV (aq bU ae ah))))
    (aC (aq i6 (aW (af (aq b9 (aq fH (aW (af ah (af ah (af ah ax)))) (aq sE ae ah)) ae) ax)) ae))))))⟩
theorem sF(T:Txt K mg t):cx P w K mg base (CXE P w) 1 t.ik t.d_law_hex sC (spP K (b8 t) ik):=
 fj T.j7.F i9 fun cdv A outer s H E hr=>⟨_,(aj (qz 2 i9.nd (aT av))
   (aj (pT gn rfl (j5 rfl T.n_range (aa ai av)) (lI (i:=3) i9.nd rfl (by first|exact Or.inl rfl|exact Or.inr rfl)) (aj (qz 4 i9.nd (aD bV (qv 0) ai))
   (aj (aX (bJ lp (qv 4) ai) (au (qz 2 i9.nd (aD gw (aT (aa (aD cb ai (qv 4)) av)) (qv 2)))) (au (qz 2 i9.nd (aD gw (aT (aa (aD cb (cD (by exact(bz (qv 1) (fun _=>rfl))) ai ai) (qv 4)) av)) (qv 2)))))
   (au (qz 0 i9.nd (aD bT (qv 0) ai))))))
   (au (az (aD gw (aT (aa ai (aa ai av))) (qv 2)))))),
  (aw (aV (aW ax))
    (aw (vE ah (aw (aV (aq bW ae ah))
    (aw (aY (ay (aq ly ae ah)) (aV (aq i6 (aW (af (aq b9 ah ae) ax)) ae)) (aV (aq i6 (aW (af (aq b9 (hE (cG ae) ah ah) ae) ax)) ae)))
    (aV (aq bU ae ah)))))
    (aC (aq i6 (aW (af ah (af ah ax))) ae))))⟩
theorem Ag(T:Txt K mg t):cx P w K mg base (CXE P w) 2 t.jd t.d_law_sign pP (spP K (b8 t) jd):=
 fj T.oH.F mQ fun cdv A outer s H E hr=>⟨_,(aj (qz 2 mQ.nd (GW (kC ai ai (kC ai ai (kC ai ai (kC ai ai (kC ai ai (kC ai ai (kC ai ai (kC ai ai HU))))))))))
   (aj (qz 3 mQ.nd (aD bV (qv 1) ai))
   (aj (aX (kM (jW (bJ bw (qv 3) ai) (kj (K1 (Jc hr) (qv 0) (qv 2))))) (au (az (aT (aa ai (aa (HV (Jc hr) (qv 2) (qv 0) (fun _ _=>rfl)) av))))) aF)
   (aj (aX (kM (jW (bJ C3 (qv 3) ai) (jW (bJ C2 (qv 0) ai) (jW (bJ xk (qv 0) ai) (kj (bJ xk (qv 0) ai)))))) (au (az (qx (zj T) T.m7 hr aN (aa (qv 0) av)))) aF)
   (aj (aX (bJ lp (qv 0) ai) (au (az (qx (sF T) T.j7 hr aN (aa (qv 0) (aa (iZ bw (qv 3) ai (lT _)) av))))) aF)
   (aj (qz 4 mQ.nd (aD sj (qv 0) ai))
   (au (az (aD gw (qx (sF T) T.j7 hr aN (aa (aD cb ai (aD bT (qv 4) ai)) (aa (iZ bw (qv 3) ai (lT _)) av))) (qx (sF T) T.j7 hr aN (aa (aD cb ai (aD bV (qv 4) ai)) (aa (iZ bw (qv 3) ai (lT _)) av)))))))))))),
  (aw (qW (LV (kvs:=[(34,34),(92,92),(47,47),(8,98),(12,102),(10,110),(13,114),(9,116)]) (by decide) (by decide)))
    (aw (aV (aq bW ae ah))
    (aw (aY (jU (ay (aq bx ae ah)) (ay (Iy ae aR))) (aC (aW (af ah (af (HX aR ae) ax)))) aE)
    (aw (aY (jU (ay (aq Cw ae ah)) (jU (ay (aq CM ae ah)) (jU (ay (aq vY ae ah)) (ay (aq vY ae ah))))) (aC (aO (af ae ax))) aE)
    (aw (aY (ay (aq ly ae ah)) (aC (aO (af ae (af (aq bx ae ah) ax)))) aE)
    (aw (aV (aq sE ae ah))
    (aC (aq i6 (aO (af (aq b9 ah (aq bU ae ah)) (af (aq bx ae ah) ax))) (aO (af (aq b9 ah (aq bW ae ah)) (af (aq bx ae ah) ax)))))))))))⟩
theorem uP(T:Txt K mg t):cx P w K mg base (CXE P w) 3 t.gB t.d_law_text qN (spP K (b8 t) gB):=
 fj T.j6.F jr fun cdv A outer s H E hr=>⟨_,(aj (qz 2 jr.nd (aT (aa ai av)))
   (aj (qz 3 jr.nd ai)
   (aj (pT gn rfl (o8 (qv 0)) (lI (i:=4) jr.nd rfl (by first|exact Or.inl rfl|exact Or.inr rfl)) (aj (qz 2 jr.nd (aD gw (qv 2) (qx (Ag T) T.oH hr aN (aa (qv 4) (aa (aD cb (aD bT (qv 1) (aD cb ai (aD bV (qv 3) ai))) (qv 3)) av)))))
   (au (qz 3 jr.nd (aD cb (qv 3) ai)))))
   (au (az (aD gw (qv 2) (aT (aa ai av)))))))),
  (aw (aV (aW (af ah ax)))
    (aw (aV ah)
    (aw (yw ae (aw (aV (aq i6 ae (aO (af ae (af (aq b9 (aq bU ae (aq b9 ah (aq bW ae ah))) ae) ax)))))
    (aV (aq b9 ae ah))))
    (aC (aq i6 ae (aW (af ah ax)))))))⟩
theorem zl(T:Txt K mg t):cx P w K mg base (CXE P w) 5 t.fZ t.d_law_begin ph (spI K (b8 t) fZ):=
 wm T.e_law_begin.F jz fun cdv A outer s H E hr=>⟨_,(aj (qex gk (qv 1) (qx (iq T) T.ee hr aN (aa (aD bT (qv 4) ai) av)))
   (aj (qz 5 jz.nd (cu av))
   (aj (aX (kM (jW (bz (qv 3) (fun _=>rfl)) (kj (bz (qi bg (qi bg (qv 3) (nQ ke ai)) ai) (fun _=>rfl))))) (aj (qap b7 (qv 1) ai)
   (au (qex gk (qv 1) (qx (iq T) T.ee hr aN (aa (aD bT (qv 4) ai) av))))) aF)
   (aj (aX (kM (jW (bz (qv 3) (fun _=>rfl)) (kj (bJ bw (qi bg (qi bg (qv 3) (nQ ke ai)) ai) aL)))) (aj (qz 6 jz.nd (qx (zK T) T.ox hr aN (aa (qv 0) (aa (aD bT (qv 4) ai) av))))
   (aj (qz 5 jz.nd (gK kr rfl T.n_tuple L2.E.boot_tuple (aa (qv 6) av)))
   (aj (qz 7 jz.nd (kE T.n_len (qv 1)))
   (aj (qex gk (qv 1) (qx (uP T) T.j6 hr aN (aa (qv 6) (aa (aD bT (qv 4) ai) av))))
   (aj (qap b7 (qv 2) (aT (aa aL (aa (qv 7) (aa (kE T.n_len (qv 1)) (aa ai av))))))
   (aj (qex gk (qv 1) (qx (iq T) T.ee hr aN (aa (aD bT (qv 4) ai) av)))
   (aj (qap b7 (qv 1) ai)
   (au (qex gk (qv 1) (qx (iq T) T.ee hr aN (aa (aD bT (qv 4) ai) av))))))))))) aF)
   (au (az (qv 5))))))),
  (aw (gv aR (aO (af (aq bU ae ah) ax)))
    (aw (aV (cf ax))
    (aw (aY (jU (iA aR) (cG (gR (kg (kg aR (nR kf ah)) ah)))) (aw (eI aR (lC ah))
    (gv aR (aO (af (aq bU ae ah) ax)))) aE)
    (aw (aY (jU (iA aR) (ay (aq bx (gR (kg (kg aR (nR kf ah)) ah)) aM))) (aw (aV (aO (af ae (af (aq bU ae ah) ax))))
    (aw (aV (dM y7 ae))
    (aw (aV (ki aR))
    (aw (lQ (i:=6) (gv aR (aO (af ae (af (aq bU ae ah) ax)))))
    (aw (eI aR (lC (aW (af aM (af ae (af (ki aR) (af ah ax)))))))
    (aw (gv aR (aO (af (aq bU ae ah) ax)))
    (aw (eI aR (lC ah))
    (gv aR (aO (af (aq bU ae ah) ax)))))))))) aE)
    lP))))⟩
theorem yk(T:Txt K mg t):cx P w K mg base (CXE P w) 1 t.fz t.d_law_plain oO (spP K (b8 t) fz):=
 fj T.e_law_plain.F oG fun cdv A outer s H E hr=>⟨_,(aj (aX (bJ bw (qv 0) ai) (au (az (cu (aa ai (aa ai av))))) aF)
   (aj (mB gn (bJ bw (aD bV (qv 0) ai) ai) (aj (qz 0 oG.nd (aD bT (qv 0) ai))
   (au (qz 1 oG.nd (aD cb (qv 1) ai)))))
   (au (az (cu (aa (qv 0) (aa (qv 1) av))))))),
  (aw (aY (ay (aq bx ae ah)) (aC (cf (af ah (af ah ax)))) aE)
    (aw (mw (ay (aq bx (aq bW ae ah) ah)) (aw (aV (aq bU ae ah))
    (aV (aq b9 ae ah))))
    (aC (cf (af ae (af ae ax))))))⟩
theorem xr(T:Txt K mg t):cx P w K mg base (CXE P w) 2 t.gy t.d_law_number nA (spP K (b8 t) gy):=
 fj T.lH.F bH fun cdv A outer s H E hr=>⟨_,(aj (qz 1 bH.nd (iZ bw (aD bV (qv 0) ai) ai (lT _)))
   (aj (G9 (i:=2) bH.nd rfl (by first|exact Or.inl rfl|exact Or.inr rfl) (M:=[]) (ι:=[]) (x:="_law_sign_here") ⟨rfl,rfl,rfl,rfl,rfl,rfl,rfl,rfl,rfl,rfl,rfl,by decide +kernel⟩ rfl (EA (gK tY rfl T.n_str L2.E.boot_str (aa (aD bV (aD bT (qv 0) ai) ai) av))) fun _ _ _ _=>(gK DH rfl T.n_int L2.E.boot_int (aa (qv 0) av)))
   (aj (qz 3 bH.nd (cD (by exact(bz (qv 1) (fun _=>rfl))) (aT (aa ai av)) (aT av)))
   (aj (qz 3 bH.nd (aD gw (qv 3) (mW (M:=[]) (ι:=[]) (x:="_law_figure") ⟨rfl,rfl,rfl,rfl,rfl,rfl,rfl,rfl,rfl,rfl,rfl,by decide +kernel⟩ rfl (o8 (qv 2)) fun _ _ _ _=>(aD cb ai (qv 0)))))
   (aj (qz 4 bH.nd ai)
   (aj (pT gn rfl (o8 (qv 2)) (lI (i:=5) bH.nd rfl (by first|exact Or.inl rfl|exact Or.inr rfl)) (au (qz 4 bH.nd (aD cb (aD uF (qv 4) ai) (qv 5)))))
   (aj (qz 6 bH.nd ai)
   (aj (aX (bJ bw (aD bV (aD bT (qv 0) ai) ai) ai) (aj (qap b7 (qv 3) ai)
   (au (pT gn rfl (o8 (FK Hq (aT (aa (aD bV (aD bT (qv 0) ai) ai) (aa (aD bV (aD bT (qv 0) ai) ai) (aa ai av)))) Hy (G2 (aD cb ai (aD bV (aD bT (qv 0) ai) ai))))) (lI (i:=5) bH.nd rfl (by first|exact Or.inl rfl|exact Or.inr rfl)) (aj (qap b7 (qv 3) (aD cb ai (qv 5)))
   (aj (qz 4 bH.nd (aD cb (aD uF (qv 4) ai) (qv 5)))
   (au (qz 6 bH.nd (aD sj (qv 6) ai)))))))) aF)
   (aj (aX (bJ bw (aD bV (aD bT (qv 0) ai) ai) ai) (aj (qz 7 bH.nd (aD bV (aD bT (qv 0) ai) ai))
   (aj (qap b7 (qv 3) (qi bg (aT (aa ai (aa ai av))) (aD bV (aD bT (qv 0) ai) ai)))
   (aj (qz 8 bH.nd (iZ bw (aD bV (aD bT (qv 0) ai) ai) ai (lT _)))
   (aj (aX (bz (qv 8) (fun _=>rfl)) (au (qap b7 (qv 3) ai)) (au (aX (bJ bw (aD bV (aD bT (qv 0) ai) ai) ai) (au (qap b7 (qv 3) ai)) aF)))
   (aj (aX (bJ bw (aD bV (aD bT (qv 0) ai) ai) ai) (au (qap b7 (qv 3) ai)) aF)
   (aj (qz 3 bH.nd (aD gw (qv 3) (mW (M:=[]) (ι:=[]) (x:="_law_sign_here") ⟨rfl,rfl,rfl,rfl,rfl,rfl,rfl,rfl,rfl,rfl,rfl,by decide +kernel⟩ rfl (EA (gK tY rfl T.n_str L2.E.boot_str (aa (qv 7) av))) fun _ _ _ _=>(jC EM rfl T.n_ord L2.E.boot_ord (aa (qv 0) av)))))
   (au (qz 6 bH.nd (aD cb (qv 6) (cD (by exact(bz (qv 8) (fun _=>rfl))) (nQ ke (qv 7)) (qv 7))))))))))) aF)
   (aj (aX (bz (qv 1) (fun _=>rfl)) (au (qz 4 bH.nd (nQ ke (qv 4)))) aF)
   (au (az (cu (aa (qv 3) (aa (qx (yk T) T.e_law_plain hr aN (aa (qv 4) (aa (qv 6) av))) av))))))))))))))),
  (aw (aV (aq bx (aq bW ae ah) ah))
    (aw (aV (Al (by decide) (dM EO (aq bW (aq bU ae ah) ah)) (dM Ik ae)))
    (aw (aV (hE (cG ae) (aW (af ah ax)) (aW ax)))
    (aw (aV (aq i6 ae (wM (by decide) ae (aq b9 ah ae))))
    (aw (aV ah)
    (aw (lQ (i:=2) (yw ae (aV (aq b9 (aq ur ae ah) ae))))
    (aw (aV ah)
    (aw (aY (ay (aq bx (aq bW (aq bU ae ah) ah) ah)) (aw (jl ah)
    (yw (Kf (aW (af (aq bW (aq bU ae ah) ah) (af (aq bW (aq bU ae ah) ah) (af ah ax)))) HD (Hg (aq b9 ah (aq bW (aq bU ae ah) ah)))) (aw (jl (aq b9 ah ae))
    (aw (aV (aq b9 (aq ur ae ah) ae))
    (aV (aq sE ae ah)))))) aE)
    (aw (aY (ay (aq bx (aq bW (aq bU ae ah) ah) ah)) (aw (aV (aq bW (aq bU ae ah) ah))
    (aw (jl (aq fH (aW (af ah (af ah ax))) (aq bW (aq bU ae ah) ah)))
    (aw (aV (aq bx (aq bW (aq bU ae ah) ah) ah))
    (aw (aY (cG ae) (jl ah) (aY (ay (aq bx (aq bW (aq bU ae ah) ah) ah)) (jl ah) aE))
    (aw (aY (ay (aq bx (aq bW (aq bU ae ah) ah) ah)) (jl ah) aE)
    (aw (aV (aq i6 ae (Al (by decide) (dM EO ae) (dM L7 ae))))
    (aV (aq b9 ae (hE (cG ae) (nR kf ae) ae))))))))) aE)
    (aw (aY (cG ae) (aV (nR kf ae)) aE)
    (lQ (i:=3) (aC (cf (af ae (af (aO (af ae (af ae ax))) ax)))))))))))))))⟩
theorem sJ(T:Txt K mg t):cx P w K mg base (CXE P w) 4 t.cz t.d_law_plain_value jc (spP K (b8 t) cz):=
 fj T.e_law_plain_value.F gm fun cdv A outer s H E hr=>⟨_,(aj (qz 2 gm.nd (aD bV (aD bT (qv 1) ai) ai))
   (aj (aX (bJ bw (qv 2) ai) (au (az (cu (aa aL (aa (aT (aa ai (aa ai (aa ai (aa ai av))))) (aa dc av)))))) aF)
   (aj (aX (bJ bw (qv 2) ai) (au (az (cu (aa aL (aa (aT (aa ai (aa ai (aa ai (aa ai av))))) (aa uT av)))))) aF)
   (aj (aX (bJ bw (qv 2) ai) (au (az (cu (aa aL (aa (aT (aa ai (aa ai (aa ai (aa ai (aa ai av)))))) (aa uT av)))))) aF)
   (aj (aX (bJ bw (qv 2) ai) (aj (qz 3 gm.nd (qx (rS T) T.il hr aN (aa (qv 0) (aa (aD cb ai (aD bV (qv 1) ai)) av))))
   (au (az (cu (aa aL (aa (qx (uP T) T.j6 hr aN (aa (qv 3) (aa (aD bT (qv 1) ai) av))) (aa (cu (aa aL (aa (gK kr rfl T.n_tuple L2.E.boot_tuple (aa (qv 3) av)) av))) av))))))) aF)
   (aj (qz 4 gm.nd (qx (xr T) T.lH hr aN (aa (aD bT (qv 1) ai) av)))
   (au (az (cu (aa aL (aa (qi dZ (qv 4) ai) (aa (cu (aa aL (aa (qi dZ (qi dZ (qv 4) ai) ai) (aa (qi dZ (qi dZ (qv 4) ai) ai) av)))) av)))))))))))),
  (aw (aV (aq bW (aq bU ae ah) ah))
    (aw (aY (ay (aq bx ae ah)) (aC (cf (af aM (af (aW (af ah (af ah (af ah (af ah ax))))) (af dh ax))))) aE)
    (aw (aY (ay (aq bx ae ah)) (aC (cf (af aM (af (aW (af ah (af ah (af ah (af ah ax))))) (af uS ax))))) aE)
    (aw (aY (ay (aq bx ae ah)) (aC (cf (af aM (af (aW (af ah (af ah (af ah (af ah (af ah ax)))))) (af uS ax))))) aE)
    (aw (aY (ay (aq bx ae ah)) (aw (aV (aO (af ae (af (aq b9 ah (aq bW ae ah)) ax))))
    (lQ (i:=3) (aC (cf (af aM (af (aO (af ae (af (aq bU ae ah) ax))) (af (cf (af aM (af (dM y7 ae) ax))) ax))))))) aE)
    (aw (aV (aO (af (aq bU ae ah) ax)))
    (aC (cf (af aM (af (aq ez ae ah) (af (cf (af aM (af (aq ez (aq ez ae ah) ah) (af (aq ez (aq ez ae ah) ah) ax)))) ax)))))))))))⟩
theorem yY(T:Txt K mg t):cx P w K mg base (CXE P w) 6 t.gV t.d_law_built oa (spP K (b8 t) gV):=
 fj T.e_law_built.F cA fun cdv A outer s H E hr=>⟨_,(aj (qz 2 cA.nd (aT av))
   (aj (qz 3 cA.nd (aT av))
   (aj (qz 4 cA.nd (aT av))
   (aj (qz 5 cA.nd dc)
   (aj (pT gn rfl (j5 rfl T.n_range (aa (qv 1) av)) (lI (i:=6) cA.nd rfl (by first|exact Or.inl rfl|exact Or.inr rfl)) (aj (qz 7 cA.nd (qx (mf T) T.eS hr aN (aa (qv 0) (aa (qv 6) av))))
   (au (aX (kM (jW (bz (qv 4) (fun _=>rfl)) (kj (bJ bw (aD bV (qv 7) ai) ai)))) (aj (qex gk (qv 2) (qx (iq T) T.ee hr aN (aa (aD bT (qv 7) ai) av)))
   (au (qz 5 cA.nd (qx (tH T) T.e_law_close hr aN (aa (qv 2) (aa (qv 3) (aa (qv 4) av))))))) (au (aX (kM (qB (bz (qv 4) (fun _=>rfl)) (si (bJ bw (qv 6) ai)))) (aj (qz 8 cA.nd (qx (zl T) T.e_law_begin hr aN (aa (qv 0) (aa (qv 2) (aa (qv 3) (aa (qv 4) (aa (qv 7) av)))))))
   (aj (qz 9 cA.nd (kE T.n_len (qv 2)))
   (au (aX (kM (qB (bJ C3 (aD bV (qv 7) ai) ai) (si (kM (jW (bJ bw (qv 6) ai) (kj (bJ C3 (aD bV (qv 7) ai) ai))))))) (aj (qz 10 cA.nd (qi bg (aT (aa aL (aa aL av))) (aD bV (aD bT (qv 7) ai) ai)))
   (aj (qap b7 (qv 2) (cD (by exact(bJ bw (qv 10) aL)) ai ai))
   (aj (qap b7 (qv 4) (aT (aa (qv 10) (aa (aT av) (aa (kE T.n_len (qv 3)) (aa (qv 8) av))))))
   (au (qap b7 (qv 3) (aT (aa (qv 10) (aa (qv 9) (aa ai (aa ai av)))))))))) (aj (qz 11 cA.nd (qx (sJ T) T.e_law_plain_value hr aN (aa (qv 0) (aa (qv 7) av))))
   (aj (qex gk (qv 2) (qi dZ (qv 11) ai))
   (aj (qap b7 (qv 3) (aT (aa (qi dZ (qv 11) ai) (aa (qv 9) (aa (kE T.n_len (qv 2)) (aa (aD cb (kE T.n_len (qv 3)) ai) av))))))
   (aj (qz 5 cA.nd (qi dZ (qv 11) ai))
   (au (aX (kM (jW (bz (qv 4) (fun _=>rfl)) (kj (bJ bw (qi bg (qi bg (qv 4) (nQ ke ai)) ai) aL)))) (aj (wA (kE T.n_len (qv 3)) (wo (qi bg (qv 3) (nQ ke ai)) ai set_list))
   (au (qap b7 (qi bg (qi bg (qv 4) (nQ ke ai)) ai) (cu (aa (qv 8) (aa (qv 5) av)))))) (au (aX (bz (qv 4) (fun _=>rfl)) (au (qap b7 (qi bg (qi bg (qv 4) (nQ ke ai)) ai) (qv 5))) aF)))))))))))) aF))))))
   (aj (mB gn (bz (qv 4) (fun _=>rfl)) (au (qz 5 cA.nd (qx (tH T) T.e_law_close hr aN (aa (qv 2) (aa (qv 3) (aa (qv 4) av)))))))
   (aj (qex gk (qv 2) (qx (iq T) T.ee hr aN (aa (qx (mf T) T.eS hr aN (aa (qv 0) (aa ai av))) av)))
   (au (az (cu (aa (qv 2) (aa (mW (M:=[]) (ι:=[]) (x:="_law_node") ⟨rfl,rfl,rfl,rfl,rfl,rfl,rfl,rfl,rfl,rfl,rfl,by decide +kernel⟩ rfl (o8 (qv 3)) fun _ _ _ _=>(gK kr rfl T.n_tuple L2.E.boot_tuple (aa (qv 0) av))) (aa (qv 5) av))))))))))))),
  (aw (qW (lC (aW ax)))
    (aw (qW (lC (aW ax)))
    (aw (qW (lC (aW ax)))
    (aw (aV dh)
    (aw (vE ae (aw (aV (aO (af ae (af ae ax))))
    (aY (jU (iA aR) (ay (aq bx (aq bW ae ah) ah))) (aw (gv aR (aO (af (aq bU ae ah) ax)))
    (oK (v9 rfl (fV (qJ aR) (fV (qJ aR) (fV (qJ aR) o9)))))) (aY (qp (iA aR) (ay (aq bx ae ah))) (aw (oK (v9 rfl (fV (CW (W:=fun _ _ _ _=>False) ae) (fV (qJ aR) (fV (qJ aR) (fV (qJ aR) (fV (CW (W:=fun _ _ _ _=>False) ae) o9)))))))
    (aw (aV (ki aR))
    (aY (qp (ay (aq Cw (aq bW ae ah) ah)) (jU (ay (aq bx ae ah)) (ay (aq Cw (aq bW ae ah) ah)))) (aw (aV (aq fH (aW (af aM (af aM ax))) (aq bW (aq bU ae ah) ah)))
    (aw (eI aR (lC (hE (ay (aq bx ae aM)) ah ah)))
    (aw (eI aR (Kz (tI (lC ae) (tI (lC (aW ax)) (tI (lC (ki aR)) (tI (lC ae) GO))))))
    (eI aR (lC (aW (af ae (af ae (af ah (af ah ax)))))))))) (aw (aV (aO (af ae (af ae ax))))
    (aw (gv aR (aq ez ae ah))
    (aw (eI aR (lC (aW (af (aq ez ae ah) (af ae (af (ki aR) (af (aq b9 (ki aR) ah) ax)))))))
    (aw (aV (aq ez ae ah))
    (aY (jU (iA aR) (ay (aq bx (gR (kg (kg aR (nR kf ah)) ah)) aM))) (aw (vD (kg aR (nR kf ah)) ah (lC (ki aR)))
    (eI (kg (kg aR (nR kf ah)) ah) (lC (cf (af ae (af ae ax)))))) (aY (iA aR) (eI (kg (kg aR (nR kf ah)) ah) (lC ae)) aE))))))))) aE))))
    (aw (mw (iA aR) (oK (v9 rfl (fV (qJ aR) (fV (qJ aR) (fV (qJ aR) o9))))))
    (aw (gv aR (aO (af (aO (af ae (af ah ax))) ax)))
    (wB (i:=3) (wB (i:=2) (aC (cf (af ae (af (wM (by decide) ae (dM y7 ae)) (af ae ax))))))))))))))⟩
theorem uj(T:Txt K mg t):cx P w K mg base (CXE P w) 1 t.dk t.d_Walk___init__ kd (spI K (b8 t) dk):=
 wm T.F_Walk___init__ ux fun cdv A outer s H E hr=>⟨_,(au (K5 (qv 0) (aT (aa aL (aa aL (aa aL av)))))),
  (Iv aR (lC (aW (af aM (af aM (af aM ax))))) (jm T))⟩
theorem zB(T:Txt K mg t):cx P w K mg base (CXE P w) 1 t.fD t.d_word_rest ou (spP K (b8 t) fD):=
 fj T.e_word_rest.F yj fun cdv A outer s H E hr=>⟨_,(au (az (zW (aQ rfl T.m_WORDS T.r_WORDS) (qv 0)))),
  (aC (zP T.q_WORDS ae))⟩
theorem o6(T:Txt K mg t):cx P w K mg base (CXE P w) 1 t.fB t.d_is_figure pd (spP K (b8 t) fB):=
 fj T.gc.F y0 fun cdv A outer s H E hr=>⟨_,(au (az (ET nW nW (aQ rfl T.m_NOUGHT T.r_NOUGHT) (qv 0) (aQ rfl T.m_NINE T.r_NINE)))),
  (aC (kH nO nO ah ae ah))⟩
theorem p6(T:Txt K mg t):cx P w K mg base (CXE P w) 2 t.dS t.d_behind_lead mz (spP K (b8 t) dS):=
 fj T.gL.F wC fun cdv A outer s H E hr=>⟨_,(aj (aX (bJ bw (qv 0) (aQ rfl T.m_NOUGHT T.r_NOUGHT)) (au (az (aT (aa aL (aa aL av))))) aF)
   (aj (aX (bz (qx (o6 T) T.gc hr aN (aa (qv 0) av)) (fun _=>rfl)) (au (az (aT (aa aL (aa aL (aa aL av)))))) aF)
   (au (az dc)))),
  (aw (aY (ay (aq bx ae ah)) (aC (aW (af aM (af aM ax)))) aE)
    (aw (aY (cG (aO (af ae ax))) (aC (aW (af aM (af aM (af aM ax))))) aE)
    (aC dh)))⟩
theorem pB(T:Txt K mg t):cx P w K mg base (CXE P w) 3 t.bS t.d_behind_value kU (spP K (b8 t) bS):=
 fj T.fS.F pq fun cdv A outer s H E hr=>⟨_,(aj (aX (bJ bw (qv 0) (aQ rfl T.m_ROW_BEGIN T.r_ROW_BEGIN)) (au (az (aT (aa aL (aa aL av))))) aF)
   (aj (aX (bJ bw (qv 0) (aQ rfl T.m_FIELDS_BEGIN T.r_FIELDS_BEGIN)) (au (az (aT (aa aL (aa aL av))))) aF)
   (aj (aX (bJ bw (qv 0) (aQ rfl T.m_QUOTE T.r_QUOTE)) (au (az (aT (aa aL av)))) aF)
   (aj (aX (bJ bw (qv 0) (aQ rfl T.m_MINUS T.r_MINUS)) (au (az (aT (aa aL av)))) aF)
   (aj (qz 1 pq.nd (qx (zB T) T.e_word_rest hr aN (aa (qv 0) av)))
   (aj (aX (bJ zt (qv 1) dc) (au (az (mW (M:=[]) (ι:=[]) (x:="sign") ⟨rfl,rfl,rfl,rfl,rfl,rfl,rfl,rfl,rfl,rfl,rfl,by decide +kernel⟩ rfl (Lj (qv 1)) fun _ _ _ _=>(cu (aa (qv 0) (aa (qv 0) av)))))) aF)
   (au (az (qx (p6 T) T.gL hr aN (aa (qv 0) av)))))))))),
  (aw (aY (ay (aq bx ae ah)) (aC (aW (af aM (af aM ax)))) aE)
    (aw (aY (ay (aq bx ae ah)) (aC (aW (af aM (af aM ax)))) aE)
    (aw (aY (ay (aq bx ae ah)) (aC (aW (af aM ax))) aE)
    (aw (aY (ay (aq bx ae ah)) (aC (aW (af aM ax))) aE)
    (aw (aV (aO (af ae ax)))
    (aw (aY (ay (aq zA ae dh)) (aC (Fs (by decide) ae (cf (af ae (af ae ax))))) aE)
    (aC (aO (af ae ax)))))))))⟩
theorem rl(T:Txt K mg t):cx P w K mg base (CXE P w) 3 t.aZ t.d_behind_in_number iL (spP K (b8 t) aZ):=
 fj T.e_behind_in_number.F rh fun cdv A outer s H E hr=>⟨_,(aj (aX (bJ bw (qv 0) aL) (au (az (qx (p6 T) T.gL hr aN (aa (qv 1) av)))) aF)
   (aj (aX (bJ bw (qv 0) aL) (au (az (cD (by exact(bz (qx (o6 T) T.gc hr aN (aa (qv 1) av)) (fun _=>rfl))) (aT (aa aL av)) dc))) aF)
   (aj (aX (bJ bw (qv 0) aL) (au (az (cD (by exact(bJ bw (qv 1) (aQ rfl T.m_POINT T.r_POINT))) (aT (aa (cu (aa (aQ rfl T.m_NOUGHT T.r_NOUGHT) (aa (aQ rfl T.m_NINE T.r_NINE) av))) (aa aL av))) dc))) aF)
   (aj (aX (bJ bw (qv 0) aL) (au (az (cD (by exact(iC lj (qv 1) (cu (aa (aQ rfl T.m_SMALL_E T.r_SMALL_E) (aa (aQ rfl T.m_BIG_E T.r_BIG_E) av))) rfl)) (aT (aa aL (aa (cu (aa (aQ rfl T.m_NOUGHT T.r_NOUGHT) (aa (aQ rfl T.m_NINE T.r_NINE) av))) (aa aL av)))) dc))) aF)
   (au (az (cD (by exact(iC lj (qv 1) (cu (aa (aQ rfl T.m_PLUS T.r_PLUS) (aa (aQ rfl T.m_MINUS T.r_MINUS) av))) rfl)) (aT av) dc))))))),
  (aw (aY (ay (aq bx ae aM)) (aC (aO (af ae ax))) aE)
    (aw (aY (ay (aq bx ae aM)) (aC (hE (cG (aO (af ae ax))) (aW (af aM ax)) dh)) aE)
    (aw (aY (ay (aq bx ae aM)) (aC (hE (ay (aq bx ae ah)) (aW (af (cf (af ah (af ah ax))) (af aM ax))) dh)) aE)
    (aw (aY (ay (aq bx ae aM)) (aC (hE (ay (aq (pw hr.units) ae (cf (af ah (af ah ax))))) (aW (af aM (af (cf (af ah (af ah ax))) (af aM ax)))) dh)) aE)
    (aC (hE (ay (aq (pw hr.units) ae (cf (af ah (af ah ax))))) (aW ax) dh))))))⟩
theorem tU(T:Txt K mg t):cx P w K mg base (CXE P w) 2 t.fW t.d_hex_worth pk (spP K (b8 t) fW):=
 fj T.jo.F yy fun cdv A outer s H E hr=>⟨_,(aj (aX (bz (qx (o6 T) T.gc hr aN (aa (qv 0) av)) (fun _=>rfl)) (au (az (aD sj (qv 0) (aQ rfl T.m_NOUGHT T.r_NOUGHT)))) aF)
   (aj (aX (lV nW nW ai (qv 0) ai) (au (az (aD sj (qv 0) ai))) aF)
   (aj (aX (lV nW nW ai (qv 0) ai) (au (az (aD sj (qv 0) ai))) aF)
   (au (az dc))))),
  (aw (aY (cG (aO (af ae ax))) (aC (aq sE ae ah)) aE)
    (aw (aY (ay (kH nO nO ah ae ah)) (aC (aq sE ae ah)) aE)
    (aw (aY (ay (kH nO nO ah ae ah)) (aC (aq sE ae ah)) aE)
    (aC dh))))⟩
theorem uG(T:Txt K mg t):cx P w K mg base (CXE P w) 1 t.dI t.d_behind_code_d j9 (spP K (b8 t) dI):=
 fj T.i3.F n8 fun cdv A outer s H E hr=>⟨_,(aj (aX (bJ lp (qv 0) ai) (au (az (aT (aa aL (aa aL av))))) aF)
   (aj (aX (bJ lp (qv 0) ai) (aj (qz 1 n8.nd (aT (aa (cu (aa (aQ rfl T.m_BACKSLASH T.r_BACKSLASH) (aa (aQ rfl T.m_BACKSLASH T.r_BACKSLASH) av))) (aa (cu (aa (aQ rfl T.m_SMALL_U T.r_SMALL_U) (aa (aQ rfl T.m_SMALL_U T.r_SMALL_U) av))) (aa aL (aa aL (aa aL (aa aL av))))))))
   (au (az (aD gw (aT (aa aL (aa aL av))) (qv 1))))) aF)
   (au (az dc)))),
  (aw (aY (ay (aq ly ae ah)) (aC (aW (af aM (af aM ax)))) aE)
    (aw (aY (ay (aq ly ae ah)) (aw (aV (aW (af (cf (af ah (af ah ax))) (af (cf (af ah (af ah ax))) (af aM (af aM (af aM (af aM ax))))))))
    (aC (aq i6 (aW (af aM (af aM ax))) ae))) aE)
    (aC dh)))⟩
theorem sM(T:Txt K mg t):cx P w K mg base (CXE P w) 1 t.cW t.d_second_of_three jh (spP K (b8 t) cW):=
 fj T.e_second_of_three.F sI fun cdv A outer s H E hr=>⟨_,(aj (aX (bJ bw (qv 0) ai) (au (az (cu (aa ai (aa ai av))))) aF)
   (aj (aX (bJ bw (qv 0) ai) (au (az (cu (aa ai (aa ai av))))) aF)
   (au (az (aQ rfl T.m_TAIL T.r_TAIL))))),
  (aw (aY (ay (aq bx ae ah)) (aC (cf (af ah (af ah ax)))) aE)
    (aw (aY (ay (aq bx ae ah)) (aC (cf (af ah (af ah ax)))) aE)
    (aC (pf T.q_TAIL))))⟩
theorem tO(T:Txt K mg t):cx P w K mg base (CXE P w) 1 t.dv t.d_second_of_four jF (spP K (b8 t) dv):=
 fj T.e_second_of_four.F ub fun cdv A outer s H E hr=>⟨_,(aj (aX (bJ bw (qv 0) ai) (au (az (cu (aa ai (aa ai av))))) aF)
   (aj (aX (bJ bw (qv 0) ai) (au (az (cu (aa ai (aa ai av))))) aF)
   (au (az (aQ rfl T.m_TAIL T.r_TAIL))))),
  (aw (aY (ay (aq bx ae ah)) (aC (cf (af ah (af ah ax)))) aE)
    (aw (aY (ay (aq bx ae ah)) (aC (cf (af ah (af ah ax)))) aE)
    (aC (pf T.q_TAIL))))⟩
theorem EB(T:Txt K mg t):cx P w K mg base (CXE P w) 2 t.jS t.d_tails vS (spP K (b8 t) jS):=
 fj T.e_tails.F FJ fun cdv A outer s H E hr=>⟨_,(aj (aX (lV nW lp ai (qv 0) ai) (au (az (aT av))) aF)
   (aj (aX (lV nW lp ai (qv 0) ai) (au (az (aT (aa (aQ rfl T.m_TAIL T.r_TAIL) av)))) aF)
   (aj (aX (lV nW lp ai (qv 0) ai) (au (az (aT (aa (qx (sM T) T.e_second_of_three hr aN (aa (qv 0) av)) (aa (aQ rfl T.m_TAIL T.r_TAIL) av))))) aF)
   (aj (aX (lV nW lp ai (qv 0) ai) (au (az (aT (aa (qx (tO T) T.e_second_of_four hr aN (aa (qv 0) av)) (aa (aQ rfl T.m_TAIL T.r_TAIL) (aa (aQ rfl T.m_TAIL T.r_TAIL) av)))))) aF)
   (au (az dc)))))),
  (aw (aY (ay (kH nO ly ah ae ah)) (aC (aW ax)) aE)
    (aw (aY (ay (kH nO ly ah ae ah)) (aC (aW (af (pf T.q_TAIL) ax))) aE)
    (aw (aY (ay (kH nO ly ah ae ah)) (aC (aW (af (aO (af ae ax)) (af (pf T.q_TAIL) ax)))) aE)
    (aw (aY (ay (kH nO ly ah ae ah)) (aC (aW (af (aO (af ae ax)) (af (pf T.q_TAIL) (af (pf T.q_TAIL) ax))))) aE)
    (aC dh)))))⟩
theorem rA(T:Txt K mg t):cx P w K mg base (CXE P w) 3 t.b0 t.d_behind_character iK (spP K (b8 t) b0):=
 fj T.gu.F lA fun cdv A outer s H E hr=>⟨_,(aj (aX (bJ bw (qv 0) (aQ rfl T.m_QUOTE T.r_QUOTE)) (au (az (aT av))) aF)
   (aj (aX (bJ bw (qv 0) (aQ rfl T.m_BACKSLASH T.r_BACKSLASH)) (au (az (aT (aa aL (aa aL av))))) aF)
   (aj (qz 1 lA.nd (qx (EB T) T.e_tails hr aN (aa (qv 0) av)))
   (aj (aX (kM (qB (bJ lp (qv 0) (aQ rfl T.m_BLANK T.r_BLANK)) (si (bJ wU (qv 1) dc)))) (au (az dc)) aF)
   (au (az (aD gw (qv 1) (aT (aa aL av))))))))),
  (aw (aY (ay (aq bx ae ah)) (aC (aW ax)) aE)
    (aw (aY (ay (aq bx ae ah)) (aC (aW (af aM (af aM ax)))) aE)
    (aw (aV (aO (af ae ax)))
    (aw (aY (qp (ay (aq ly ae ah)) (ay (aq vT ae dh))) (aC dh) aE)
    (aC (aq i6 ae (aW (af aM ax))))))))⟩
theorem vi(T:Txt K mg t):cx P w K mg base (CXE P w) 1 t.bP t.d_short_escape kZ (spP K (b8 t) bP):=
 fj T.jO.F ve fun cdv A outer s H E hr=>⟨_,(au (az (zW (aQ rfl T.m_SHORT_ESCAPES T.r_SHORT_ESCAPES) (qv 0)))),
  (aC (zP T.q_SHORT_ESCAPES ae))⟩
theorem rB(T:Txt K mg t):cx P w K mg base (CXE P w) 2 t.cK t.d_behind_backslash iO (spP K (b8 t) cK):=
 fj T.gA.F rj fun cdv A outer s H E hr=>⟨_,(aj (aX (bJ bw (qv 0) (aQ rfl T.m_SMALL_U T.r_SMALL_U)) (au (az (aT (aa aL av)))) aF)
   (au (az (cD (by exact(bJ wU (qx (vi T) T.jO hr aN (aa (qv 0) av)) dc)) dc (aT av))))),
  (aw (aY (ay (aq bx ae ah)) (aC (aW (af aM ax))) aE)
    (aC (hE (ay (aq vT (aO (af ae ax)) dh)) dh (aW ax))))⟩
theorem tZ(T:Txt K mg t):cx P w K mg base (CXE P w) 4 t.bO t.d_behind_in_text jJ (spP K (b8 t) bO):=
 fj T.e_behind_in_text.F m5 fun cdv A outer s H E hr=>⟨_,(aj (aX (bJ bw (qv 0) aL) (au (az (qx (rA T) T.gu hr aN (aa (qv 1) av)))) aF)
   (aj (aX (bJ bw (qv 0) aL) (au (az (qx (rB T) T.gA hr aN (aa (qv 1) av)))) aF)
   (aj (qz 2 m5.nd (qx (tU T) T.jo hr aN (aa (qv 1) av)))
   (aj (aX (bJ wU (qv 2) dc) (au (az dc)) aF)
   (aj (aX (bJ bw (qv 0) aL) (au (az (cD (by exact(bJ bw (qv 2) ai)) (aT (aa aL av)) (aT (aa aL (aa aL (aa aL av))))))) aF)
   (au (az (qx (uG T) T.i3 hr aN (aa (qv 2) av))))))))),
  (aw (aY (ay (aq bx ae aM)) (aC (aO (af ae ax))) aE)
    (aw (aY (ay (aq bx ae aM)) (aC (aO (af ae ax))) aE)
    (aw (aV (aO (af ae ax)))
    (aw (aY (ay (aq vT ae dh)) (aC dh) aE)
    (aw (aY (ay (aq bx ae aM)) (aC (hE (ay (aq bx ae ah)) (aW (af aM ax)) (aW (af aM (af aM (af aM ax)))))) aE)
    (aC (aO (af ae ax))))))))⟩
theorem xu(T:Txt K mg t):cx P w K mg base (CXE P w) 3 t.dD t.d_behind_hex nL (spP K (b8 t) dD):=
 fj T.e_behind_hex.F rE fun cdv A outer s H E hr=>⟨_,(aj (qz 2 rE.nd (qx (tU T) T.jo hr aN (aa (qv 1) av)))
   (aj (aX (bJ wU (qv 2) dc) (au (az dc)) aF)
   (aj (aX (bJ bw (qv 0) aL) (au (az (cD (by exact(bJ bw (qv 2) ai)) (aT av) dc))) aF)
   (aj (aX (bJ bw (qv 0) aL) (au (az (cD (by exact(bJ C2 (qv 2) ai)) (aT av) dc))) aF)
   (au (az (aT av))))))),
  (aw (aV (aO (af ae ax)))
    (aw (aY (ay (aq vT ae dh)) (aC dh) aE)
    (aw (aY (ay (aq bx ae aM)) (aC (hE (ay (aq bx ae ah)) (aW ax) dh)) aE)
    (aw (aY (ay (aq bx ae aM)) (aC (hE (ay (aq CM ae ah)) (aW ax) dh)) aE)
    (aC (aW ax))))))⟩
theorem rn(T:Txt K mg t):cx P w K mg base (CXE P w) 4 t.cj t.d_behind_row_begin iH (spP K (b8 t) cj):=
 fj T.gC.F lq fun cdv A outer s H E hr=>⟨_,(aj (aX (bJ bw (qv 0) (aQ rfl T.m_ROW_END T.r_ROW_END)) (au (az (aT av))) aF)
   (aj (qz 1 lq.nd (qx (pB T) T.fS hr aN (aa (qv 0) av)))
   (au (az (cD (by exact(bJ wU (qv 1) dc)) dc (aD gw (qv 1) (aT (aa aL (aa aL av))))))))),
  (aw (aY (ay (aq bx ae ah)) (aC (aW ax)) aE)
    (aw (aV (aO (af ae ax)))
    (aC (hE (ay (aq vT ae dh)) dh (aq i6 ae (aW (af aM (af aM ax))))))))⟩
theorem pZ(T:Txt K mg t):cx P w K mg base (CXE P w) 1 t.eR t.d_member_rest my (spP K (b8 t) eR):=
 fj T.dB.F vQ fun cdv A outer s H E hr=>⟨_,(au (az (aT (aa aL (aa (cu (aa (aQ rfl T.m_COLON T.r_COLON) (aa (aQ rfl T.m_COLON T.r_COLON) av))) (aa aL (aa aL (aa aL (aa aL av))))))))),
  (aC (aW (af aM (af (cf (af ah (af ah ax))) (af aM (af aM (af aM (af aM ax))))))))⟩
theorem oh(T:Txt K mg t):cx P w K mg base (CXE P w) 2 t.b6 t.d_behind_fields_begin gd (spP K (b8 t) b6):=
 fj T.fe.F pb fun cdv A outer s H E hr=>⟨_,(aj (aX (bJ bw (qv 0) (aQ rfl T.m_FIELDS_END T.r_FIELDS_END)) (au (az (aT av))) aF)
   (au (az (cD (by exact(bJ bw (qv 0) (aQ rfl T.m_QUOTE T.r_QUOTE))) (aD gw (aT (aa aL av)) (xG ((pZ T).mono (by decide)) hr rfl T.dB.m T.dB.F.kp T.dB.b aN)) dc)))),
  (aw (aY (ay (aq bx ae ah)) (aC (aW ax)) aE)
    (aC (hE (ay (aq bx ae ah)) (aq i6 (aW (af aM ax)) (aO ax)) dh)))⟩
theorem pG(T:Txt K mg t):cx P w K mg base (CXE P w) 5 t.bb t.d_behind_in_brackets gO (spP K (b8 t) bb):=
 fj T.e_behind_in_brackets.F pH fun cdv A outer s H E hr=>⟨_,(aj (aX (bJ bw (qv 0) aL) (au (az (qx (rn T) T.gC hr aN (aa (qv 1) av)))) aF)
   (aj (aX (bJ bw (qv 0) aL) (au (az (qx (oh T) T.fe hr aN (aa (qv 1) av)))) aF)
   (aj (aX (bJ bw (qv 0) aL) (aj (aX (bJ bw (qv 1) (aQ rfl T.m_COMMA T.r_COMMA)) (au (az (aT (aa aL (aa aL (aa aL (aa aL av))))))) aF)
   (au (az (cD (by exact(bJ bw (qv 1) (aQ rfl T.m_ROW_END T.r_ROW_END))) (aT av) dc)))) aF)
   (aj (aX (bJ bw (qv 1) (aQ rfl T.m_COMMA T.r_COMMA)) (au (az (aD gw (aT (aa aL (aa aL av))) (xG ((pZ T).mono (by decide)) hr rfl T.dB.m T.dB.F.kp T.dB.b aN)))) aF)
   (au (az (cD (by exact(bJ bw (qv 1) (aQ rfl T.m_FIELDS_END T.r_FIELDS_END))) (aT av) dc))))))),
  (aw (aY (ay (aq bx ae aM)) (aC (aO (af ae ax))) aE)
    (aw (aY (ay (aq bx ae aM)) (aC (aO (af ae ax))) aE)
    (aw (aY (ay (aq bx ae aM)) (aw (aY (ay (aq bx ae ah)) (aC (aW (af aM (af aM (af aM (af aM ax)))))) aE)
    (aC (hE (ay (aq bx ae ah)) (aW ax) dh))) aE)
    (aw (aY (ay (aq bx ae ah)) (aC (aq i6 (aW (af aM (af aM ax))) (aO ax))) aE)
    (aC (hE (ay (aq bx ae ah)) (aW ax) dh))))))⟩
theorem mZ(T:Txt K mg t):cx P w K mg base (CXE P w) 1 t.fM t.d_is_white p7 (spP K (b8 t) fM):=
 fj T.cq.F zJ fun cdv A outer s H E hr=>⟨_,(au (az (iZ lj (qv 0) (aQ rfl T.m_WHITE T.r_WHITE) rfl))),
  (aC (aq (pw hr.units) ae (pf T.q_WHITE)))⟩
theorem Eb(T:Txt K mg t):cx P w K mg base (CXE P w) 6 t.kJ t.d_behind uo (spP K (b8 t) kJ):=
 fj T.sW.F D2 fun cdv A outer s H E hr=>⟨_,(aj (aX (bz (jC nX rfl T.n_isinstance L2.E.boot_isinstance (aa (qv 0) (aa (q8 (v:=.ty _) rfl T.n_tuple L2.E.boot_tuple rfl) av))) (fun _=>rfl)) (au (az (cD (by exact(lV nW nW (qi dZ (qv 0) ai) (qv 1) (qi dZ (qv 0) ai))) (aT av) dc))) aF)
   (aj (aX (iC lj (qv 0) (cu (aa aL (aa aL (aa aL (aa aL (aa aL av)))))) rfl) (au (az (qx (rl T) T.e_behind_in_number hr aN (aa (qv 0) (aa (qv 1) av))))) aF)
   (aj (aX (iC lj (qv 0) (cu (aa aL (aa aL (aa aL (aa aL av))))) rfl) (au (az (qx (tZ T) T.e_behind_in_text hr aN (aa (qv 0) (aa (qv 1) av))))) aF)
   (aj (aX (iC lj (qv 0) (cu (aa aL (aa aL (aa aL av)))) rfl) (au (az (qx (xu T) T.e_behind_hex hr aN (aa (qv 0) (aa (qv 1) av))))) aF)
   (aj (aX (iC lj (qv 0) (aQ rfl T.m_UNENDED T.r_UNENDED) rfl) (au (az (qx (pG T) T.e_behind_in_brackets hr aN (aa (qv 0) (aa (qv 1) av))))) aF)
   (aj (aX (bJ bw (qv 0) aL) (au (az (cD (by exact(bz (qx (mZ T) T.cq hr aN (aa (qv 1) av)) (fun _=>rfl))) (aT (aa aL av)) dc))) aF)
   (aj (aX (bJ bw (qv 0) aL) (au (az (cD (by exact(bJ bw (qv 1) (aQ rfl T.m_QUOTE T.r_QUOTE))) (aT (aa aL av)) dc))) aF)
   (au (az (qx (pB T) T.fS hr aN (aa (qv 1) av))))))))))),
  (aw (aY (cG (uN ae)) (aC (hE (ay (kH nO nO (aq ez ae ah) ae (aq ez ae ah))) (aW ax) dh)) aE)
    (aw (aY (ay (aq (pw hr.units) ae (cf (af aM (af aM (af aM (af aM (af aM ax)))))))) (aC (aO (af ae (af ae ax)))) aE)
    (aw (aY (ay (aq (pw hr.units) ae (cf (af aM (af aM (af aM (af aM ax))))))) (aC (aO (af ae (af ae ax)))) aE)
    (aw (aY (ay (aq (pw hr.units) ae (cf (af aM (af aM (af aM ax)))))) (aC (aO (af ae (af ae ax)))) aE)
    (aw (aY (ay (aq (pw hr.units) ae (yK fun S=>by unfold Rep;exact⟨_,_,rfl,T.q_UNENDED S,(.cons (by unfold Rep;rfl) (.cons (by unfold Rep;rfl) (.cons (by unfold Rep;rfl) (.cons (by unfold Rep;rfl) .nil))))⟩))) (aC (aO (af ae (af ae ax)))) aE)
    (aw (aY (ay (aq bx ae aM)) (aC (hE (cG (aO (af ae ax))) (aW (af aM ax)) dh)) aE)
    (aw (aY (ay (aq bx ae aM)) (aC (hE (ay (aq bx ae ah)) (aW (af aM ax)) dh)) aE)
    (aC (aO (af ae ax))))))))))⟩
theorem uO(T:Txt K mg t):cx P w K mg base (CXE P w) 1 t.cL t.d_Walk_brackets jX (spI K (b8 t) cL):=
 wm T.F_Walk_brackets uL fun cdv A outer s H E hr=>⟨_,(au (az (kE T.n_len (DJ (M:=[]) (ι:=[]) (x:="item") ⟨rfl,rfl,rfl,rfl,rfl,rfl,rfl,rfl,rfl,rfl,rfl,by decide +kernel⟩ rfl (o8 (vP (qv 0))) (fun _ _ _ _=>(iC lj (qv 0) (aQ rfl T.m_UNENDED T.r_UNENDED) rfl)) fun _ _ _ _=>(qv 0))))),
  (aC (dM iI (B3 (by decide) (gR (A8 aR (jm T))) (ay (aq (pw hr.units) ae (yK fun S=>by unfold Rep;exact⟨_,_,rfl,T.q_UNENDED S,(.cons (by unfold Rep;rfl) (.cons (by unfold Rep;rfl) (.cons (by unfold Rep;rfl) (.cons (by unfold Rep;rfl) .nil))))⟩))) ae)))⟩
theorem vk(T:Txt K mg t):cx P w K mg base (CXE P w) 7 t.eC t.d_Walk_goes_on la (spI K (b8 t) eC):=
 wm T.F_Walk_goes_on lh fun cdv A outer s H E hr=>⟨_,(aj (mB gn (bz (vP (qv 0)) (fun _=>rfl)) (aj (qz 2 lh.nd (BW PySem.F.plainAttrs_list PySem.F.slot_list_pop PySem.F.type_list_pop Bi (vP (qv 0))))
   (aj (qz 3 lh.nd (qx (Eb T) T.sW hr aN (aa (qv 2) (aa (qv 1) av))))
   (aj (aX (bJ zt (qv 3) dc) (aj (qex gk (vP (qv 0)) (LS (qv 3) (nQ ke ai)))
   (au (az (iZ nW (yg (qv 0) T.c_Walk T.h_Walk_brackets ((uO T).mono (by decide)) hr T.b_Walk_brackets aN) (aQ rfl T.m_MOST_BRACKETS T.r_MOST_BRACKETS) (lT _))))) aF)
   (au (aX (iC xC (qv 2) (aQ rfl T.m_LOOSE T.r_LOOSE) rfl) (au (az uT)) aF))))))
   (au (az uT))),
  (aw (mw (iA (A8 aR (jm T))) (aw (oK (yu (A8 aR (jm T))))
    (aw (aV (aO (af ae (af ae ax))))
    (aw (aY (ay (aq zA ae dh)) (aw (gv (A8 aR (jm T)) (KI ae (nR kf ah)))
    (aC (aq nO (AN rfl rfl (Jw aR) o9) ah))) aE)
    (aY (ay (aq (A1 hr.units) ae (yK fun S=>by unfold Rep;exact⟨_,_,rfl,T.q_LOOSE S,(.cons (by unfold Rep;rfl) (.cons (by unfold Rep;rfl) (.cons (by unfold Rep;rfl) (.cons (by unfold Rep;rfl) (.cons (by unfold Rep;rfl) .nil)))))⟩))) (aC uS) aE)))))
    (aC uS))⟩
theorem yl(T:Txt K mg t):cx P w K mg base (CXE P w) 8 t.fY t.d_Walk_take oP (spI K (b8 t) fY):=
 wm T.F_Walk_take oQ fun cdv A outer s H E hr=>⟨_,(aj (pT gn rfl (Ij rfl T.n_enumerate (aa (qv 1) av)) (Lm rfl (zL (lI (i:=2) oQ.nd rfl (by first|exact Or.inl rfl|exact Or.inr rfl)) (zL (lI (i:=3) oQ.nd rfl (by first|exact Or.inl rfl|exact Or.inr rfl)) IH))) (au (aX (qP (bz (AJ (qv 0) T.c_Walk T.h_Walk_goes_on ((vk T).mono (by decide)) hr T.b_Walk_goes_on aN (aa (qv 3) av)) (fun _=>rfl))) (au (az (qv 2))) aF)))
   (au (az (kE T.n_len (qv 1))))),
  (aw (Ie ae (HC (A6 rfl rfl (qJ aR) (fV (CW (W:=fun _ _ _ _=>False) ae) o9)) lP aE))
    (aC (dM iI ae)))⟩
theorem uC(T:Txt K mg t):cx P w K mg base (CXE P w) 1 t.dj t.d_Walk_is_whole j4 (spI K (b8 t) dj):=
 wm T.F_Walk_is_whole uD fun cdv A outer s H E hr=>⟨_,(au (az (jC Dk rfl T.n_all L2.E.boot_all (aa (mW (M:=[]) (ι:=[]) (x:="item") ⟨rfl,rfl,rfl,rfl,rfl,rfl,rfl,rfl,rfl,rfl,rfl,by decide +kernel⟩ rfl (o8 (vP (qv 0))) fun _ _ _ _=>(iZ lj (qv 0) (aQ rfl T.m_LOOSE T.r_LOOSE) rfl)) av)))),
  (aC (dM (LU hr.hd) (wM (by decide) (gR (A8 aR (jm T))) (aq (pw hr.units) ae (yK fun S=>by unfold Rep;exact⟨_,_,rfl,T.q_LOOSE S,(.cons (by unfold Rep;rfl) (.cons (by unfold Rep;rfl) (.cons (by unfold Rep;rfl) (.cons (by unfold Rep;rfl) (.cons (by unfold Rep;rfl) .nil)))))⟩)))))⟩
theorem FE(T:Txt K mg t):cx P w K mg base (CXE P w) 9 t.o4 t.d_fault vR (spP K (b8 t) o4):=
 fj T.vo.F xc fun cdv A outer s H E hr=>⟨_,(aj (qz 1 xc.nd (Fv T.k_Walk (uj T) (hr.mono (by decide)) rfl T.m_Walk T.b_Walk___init__))
   (aj (qz 2 xc.nd (AJ (qv 1) T.c_Walk T.h_Walk_take ((yl T).mono (by decide)) hr T.b_Walk_take aN (aa (qv 0) av)))
   (aj (aX (kM (jW (bJ bw (qv 2) (kE T.n_len (qv 0))) (kj (bz (yg (qv 1) T.c_Walk T.h_Walk_is_whole ((uC T).mono (by decide)) hr T.b_Walk_is_whole aN) (fun _=>rfl))))) (au (az dc)) aF)
   (au (az (qv 2)))))),
  (aw (qW (Hz rfl))
    (aw (oK (A6 rfl rfl (qJ aR) (fV (CW (W:=fun _ _ _ _=>False) ae) o9)))
    (aw (aY (jU (ay (aq bx ae (dM iI ae))) (cG (AN rfl rfl (Jw aR) o9))) (aC dh) aE)
    lP)))⟩
theorem vg(T:Txt K mg t):cx P w K mg base (CXE P w) 10 t.dY t.d_refuse_fault kX (spP K (b8 t) dY):=
 fj T.e_refuse_fault.F pD fun cdv A outer s H E hr=>⟨_,(aj (qz 1 pD.nd (qx (FE T) T.vo hr aN (aa (qv 0) av)))
   (au (aX (bJ zt (qv 1) dc) (au IP) aF))),
  (aw (aV (aO (af ae ax)))
    (aY (ay (aq zA ae dh)) Iu aE))⟩
theorem xa(T:Txt K mg t):cx P w K mg base (CXE P w) 1 t.eQ t.d_with_member mm (spP K (b8 t) eQ):=
 fj T.e_with_member.F qg fun cdv A outer s H E hr=>⟨_,(aj (qz 2 qg.nd (qi bg (qv 0) (qv 1)))
   (aj (aX (bJ xk (qi dZ (qv 2) ai) aL) (au (az (qv 2))) aF)
   (au (az (cu (aa (qi dZ (qv 2) ai) (aa (qi dZ (qv 2) ai) (aa (qi dZ (qv 2) ai) (aa (qi dZ (qi bg (qv 0) (aD cb (qv 1) ai)) ai) av))))))))),
  (aw (aV (aq fH ae ae))
    (aw (aY (ay (aq vY (aq ez ae ah) aM)) lP aE)
    (aC (cf (af (aq ez ae ah) (af (aq ez ae ah) (af (aq ez ae ah) (af (aq ez (aq fH ae (aq b9 ae ah)) ah) ax))))))))⟩
theorem zR(T:Txt K mg t):cx P w K mg base (CXE P w) 1 t.jj t.d_text_end qf (spP K (b8 t) jj):=
 fj T.e_text_end.F qw fun cdv A outer s H E hr=>⟨_,(aj (qz 2 qw.nd (aD cb (qv 1) ai))
   (aj (mB gn (bJ xk (qi bg (qv 0) (qv 2)) (aQ rfl T.m_QUOTE T.r_QUOTE)) (au (ui (i:=2) qw.nd rfl (Or.inl rfl) (cD (by exact(bJ bw (qi bg (qv 0) (qv 2)) (aQ rfl T.m_BACKSLASH T.r_BACKSLASH))) ai ai) uE)))
   (au (az (aD cb (qv 2) ai))))),
  (aw (aV (aq b9 ae ah))
    (aw (mw (ay (aq vY (aq fH ae ae) ah)) (kb (hE (ay (aq bx (aq fH ae ae) ah)) ah ah)))
    (aC (aq b9 ae ah))))⟩
theorem yT(T:Txt K mg t):cx P w K mg base (CXE P w) 2 t.g9 t.d_plain_end oB (spP K (b8 t) g9):=
 fj T.e_plain_end.F oN fun cdv A outer s H E hr=>⟨_,(aj (qz 2 oN.nd (qv 1))
   (aj (mB gn (kM (jW (bJ lp (qv 2) (kE T.n_len (qv 0))) (jW (qP (bz (qx (mZ T) T.cq hr aN (aa (qi bg (qv 0) (qv 2)) av)) (fun _=>rfl))) (kj (iC xC (qi bg (qv 0) (qv 2)) (cu (aa (aQ rfl T.m_COMMA T.r_COMMA) (aa (aQ rfl T.m_ROW_END T.r_ROW_END) (aa (aQ rfl T.m_FIELDS_END T.r_FIELDS_END) av)))) rfl))))) (au (ui (i:=2) oN.nd rfl (Or.inl rfl) ai uE)))
   (au (az (qv 2))))),
  (aw (aV ae)
    (aw (mw (jU (ay (aq ly ae (dM iI ae))) (jU (sU (cG (aO (af (aq fH ae ae) ax)))) (ay (aq (A1 hr.units) (aq fH ae ae) (cf (af ah (af ah (af ah ax)))))))) (kb ah))
    lP))⟩
theorem B2(T:Txt K mg t):cx P w K mg base (CXE P w) 2 t.fk t.d_is_name sO (spP K (b8 t) fk):=
 fj T.e_is_name.F vW fun cdv A outer s H E hr=>⟨_,(aj (mB gn (kM (jW (bJ lp (qv 1) (kE T.n_len (qv 0))) (kj (bz (qx (mZ T) T.cq hr aN (aa (qi bg (qv 0) (qv 1)) av)) (fun _=>rfl))))) (au (ui (i:=1) vW.nd rfl (Or.inl rfl) ai uE)))
   (au (az (EZ (iZ lp (qv 1) (kE T.n_len (qv 0)) (lT _)) (E1 (iZ bw (qi bg (qv 0) (qv 1)) (aQ rfl T.m_COLON T.r_COLON) (lT _))))))),
  (aw (mw (jU (ay (aq ly ae (dM iI ae))) (cG (aO (af (aq fH ae ae) ax)))) (kb ah))
    (aC (Gm (aq ly ae (dM iI ae)) (aq bx (aq fH ae ae) ah))))⟩
theorem IE(T:Txt K mg t):cx P w K mg base (CXE P w) 3 t.i8 t.d_leaf yP (spP K (b8 t) i8):=
 fj T.e_leaf.F yH fun cdv A outer s H E hr=>⟨_,(aj (qz 3 yH.nd (Dh (aQ rfl T.m_KINDS T.r_KINDS) (qi bg (qv 0) (qv 1)) aL))
   (aj (aX (bJ xk (qv 3) aL) (au (az (cu (aa (qv 3) (aa (qv 1) (aa (qx (yT T) T.e_plain_end hr aN (aa (qv 0) (aa (qv 1) av))) (aa (aD cb (qv 2) ai) av))))))) aF)
   (aj (qz 4 yH.nd (qx (zR T) T.e_text_end hr aN (aa (qv 0) (aa (qv 1) av))))
   (au (az (cu (aa (cD (by exact(bz (qx (B2 T) T.e_is_name hr aN (aa (qv 0) (aa (qv 4) av))) (fun _=>rfl))) aL aL) (aa (qv 1) (aa (qv 4) (aa (aD cb (qv 2) ai) av)))))))))),
  (aw (aV (DI T.q_KINDS (aq fH ae ae) aM))
    (aw (aY (ay (aq vY ae aM)) (aC (cf (af ae (af ae (af (aO (af ae (af ae ax))) (af (aq b9 ae ah) ax)))))) aE)
    (aw (aV (aO (af ae (af ae ax))))
    (aC (cf (af (hE (cG (aO (af ae (af ae ax)))) aM aM) (af ae (af ae (af (aq b9 ae ah) ax)))))))))⟩
theorem GG(T:Txt K mg t):cx P w K mg base (CXE P w) 11 t.mS t.d_nodes xi (spP K (b8 t) mS):=
 fj T.e_nodes.F iP fun cdv A outer s H E hr=>⟨_,(aj (zc (qx (vg T) T.e_refuse_fault hr aN (aa (qv 0) av)))
   (aj (qz 1 iP.nd (aT av))
   (aj (qz 2 iP.nd (aT av))
   (aj (qz 3 iP.nd ai)
   (aj (mB gn (bJ lp (qv 3) (kE T.n_len (qv 0))) (aj (qz 4 iP.nd (qi bg (qv 0) (qv 3)))
   (au (aX (iC lj (qv 4) (cu (aa (aQ rfl T.m_ROW_BEGIN T.r_ROW_BEGIN) (aa (aQ rfl T.m_FIELDS_BEGIN T.r_FIELDS_BEGIN) av))) rfl) (aj (qap b7 (qv 2) (kE T.n_len (qv 1)))
   (aj (qap b7 (qv 1) (cu (aa (qi MM (aQ rfl T.m_KINDS T.r_KINDS) (qv 4)) (aa (qv 3) av))))
   (au (ui (i:=3) iP.nd rfl (Or.inl rfl) ai uE)))) (au (aX (iC lj (qv 4) (cu (aa (aQ rfl T.m_ROW_END T.r_ROW_END) (aa (aQ rfl T.m_FIELDS_END T.r_FIELDS_END) av))) rfl) (aj (ui (i:=3) iP.nd rfl (Or.inl rfl) ai uE)
   (aj (qz 5 iP.nd (BW PySem.F.plainAttrs_list PySem.F.slot_list_pop PySem.F.type_list_pop Bi (qv 2)))
   (au (wA (cu (aa (qi dZ (qi bg (qv 1) (qv 5)) ai) (aa (qi dZ (qi bg (qv 1) (qv 5)) ai) (aa (qv 3) (aa (kE T.n_len (qv 1)) av))))) (wo (qv 1) (qv 5) set_list))))) (au (aX (kM (qB (bz (qx (mZ T) T.cq hr aN (aa (qv 4) av)) (fun _=>rfl)) (si (iC lj (qv 4) (cu (aa (aQ rfl T.m_COMMA T.r_COMMA) (aa (aQ rfl T.m_COLON T.r_COLON) av))) rfl)))) (au (ui (i:=3) iP.nd rfl (Or.inl rfl) ai uE)) (aj (qap b7 (qv 1) (qx (IE T) T.e_leaf hr aN (aa (qv 0) (aa (qv 3) (aa (kE T.n_len (qv 1)) av)))))
   (au (qz 3 iP.nd (qi dZ (qi bg (qv 1) (nQ ke ai)) ai))))))))))))
   (au (az (mW (M:=["tree"]) (ι:=[1]) (x:="i") ⟨rfl,rfl,rfl,rfl,rfl,rfl,rfl,rfl,rfl,rfl,rfl,by decide +kernel⟩ rfl (j5 rfl T.n_range (aa (kE T.n_len (qv 1)) av)) fun _ _ _ _=>(qx (xa T) T.e_with_member hr BJ (aa (qv 0) (aa (qv 1) av))))))))))),
  (aw (IK (aO (af ae ax)))
    (aw (aV (aW ax))
    (aw (qW (lC (aW ax)))
    (aw (aV ah)
    (aw (mw (ay (aq ly ae (dM iI ae))) (aw (aV (aq fH ae ae))
    (aY (ay (aq (pw hr.units) ae (cf (af ah (af ah ax))))) (aw (eI aR (lC (dM iI ae)))
    (aw (jl (cf (af (GY T.q_KINDS ae) (af ae ax))))
    (kb ah))) (aY (ay (aq (pw hr.units) ae (cf (af ah (af ah ax))))) (aw (kb ah)
    (aw (oK (yu aR))
    (Lq ae (cf (af (aq ez (aq fH ae ae) ah) (af (aq ez (aq fH ae ae) ah) (af ae (af (dM iI ae) ax)))))))) (aY (qp (cG (aO (af ae ax))) (ay (aq (pw hr.units) ae (cf (af ah (af ah ax)))))) (kb ah) (aw (jl (aO (af ae (af ae (af (dM iI ae) ax)))))
    (aV (aq ez (aq fH ae (nR kf ah)) ah))))))))
    (lQ (i:=1) (aC (wx (by decide) (dM iI ae) (aO (af ae (af ae ax)))))))))))⟩
theorem oI(T:Txt K mg t):cx P w K mg base (CXE P w) 1 t.ft t.d_law_whole oZ (spP K (b8 t) ft):=
 fj T.js.F yO fun cdv A outer s H E hr=>⟨_,(au (az (EZ (jC nX rfl T.n_isinstance L2.E.boot_isinstance (aa (qv 0) (aa (q8 (v:=.ty _) rfl T.n_int L2.E.boot_int rfl) av))) (E1 (Kn (jC nX rfl T.n_isinstance L2.E.boot_isinstance (aa (qv 0) (aa (q8 (v:=.ty _) rfl T.n_bool L2.E.boot_bool rfl) av)))))))),
  (aC (Gm (uN ae) (LK (uN ae))))⟩
theorem Mq(T:Txt K mg t):cx P w K mg base (CXE P w) 12 t.xB t.d_law BO (spP K (b8 t) xB):=
 fj T.F9.F uw fun cdv A outer s H E hr=>⟨_,(aj (qz 1 uw.nd (qx (yY T) T.e_law_built hr aN (aa (qv 0) (aa (aD cb ai (aD bV (qx (mf T) T.eS hr aN (aa (qv 0) (aa ai av))) ai)) av))))
   (aj (qz 2 uw.nd (gK yE rfl T.n_list L2.E.boot_list (aa (qi dZ (qv 1) ai) av)))
   (aj (qz 3 uw.nd (qx (GG T) T.e_nodes hr aN (aa (qv 2) av)))
   (aj (aX (kM (qB (qP (bz (jC nX rfl T.n_isinstance L2.E.boot_isinstance (aa (qv 3) (aa (q8 (v:=.ty _) rfl T.n_list L2.E.boot_list rfl) av))) (fun _=>rfl))) (qB (bJ Ep (qv 2) (qi dZ (qv 1) ai)) (si (bJ xk (kE T.n_len (qv 3)) (kE T.n_len (qi dZ (qv 1) ai))))))) (au (az uT)) aF)
   (aj (pT gn rfl (j5 rfl T.n_range (aa (kE T.n_len (qv 3)) av)) (lI (i:=4) uw.nd rfl (by first|exact Or.inl rfl|exact Or.inr rfl)) (aj (qz 5 uw.nd (qi bg (qv 3) (qv 4)))
   (aj (aX (kM (qB (qP (bz (jC nX rfl T.n_isinstance L2.E.boot_isinstance (aa (qv 5) (aa (q8 (v:=.ty _) rfl T.n_tuple L2.E.boot_tuple rfl) av))) (fun _=>rfl))) (qB (bJ xk (kE T.n_len (qv 5)) ai) (si (qP (bz (jC nX rfl T.n_isinstance L2.E.boot_isinstance (aa (qi dZ (qv 5) ai) (aa (q8 (v:=.ty _) rfl T.n_str L2.E.boot_str rfl) av))) (fun _=>rfl))))))) (au (az uT)) aF)
   (au (aX (kM (qB (qP (bz (qx (oI T) T.js hr aN (aa (qi dZ (qv 5) ai) av)) (fun _=>rfl))) (qB (qP (bz (qx (oI T) T.js hr aN (aa (qi dZ (qv 5) ai) av)) (fun _=>rfl))) (qB (qP (bz (qx (oI T) T.js hr aN (aa (qi dZ (qv 5) ai) av)) (fun _=>rfl))) (si (bJ Ep (qv 5) (qi bg (qi dZ (qv 1) ai) (qv 4)))))))) (au (az uT)) aF)))))
   (au (az uT))))))),
  (aw (aV (aO (af ae (af (aq b9 ah (aq bW (aO (af ae (af ah ax))) ah)) ax))))
    (aw (aV (dM BX (aq ez ae ah)))
    (aw (lQ (i:=2) (aV (aO (af ae ax))))
    (aw (aY (qp (sU (cG (uN ae))) (qp (ay (aq (Fx hr.units) ae (aq ez ae ah))) (ay (aq vY (dM iI ae) (dM iI (aq ez ae ah)))))) (aC uS) aE)
    (aw (vE (dM iI ae) (aw (aV (aq fH ae ae))
    (aw (aY (qp (sU (cG (uN ae))) (qp (ay (aq vY (dM iI ae) ah)) (sU (cG (uN (aq ez ae ah)))))) (aC uS) aE)
    (aY (qp (sU (cG (aO (af (aq ez ae ah) ax)))) (qp (sU (cG (aO (af (aq ez ae ah) ax)))) (qp (sU (cG (aO (af (aq ez ae ah) ax)))) (ay (aq (Fx hr.units) ae (aq fH (aq ez ae ah) ae)))))) (aC uS) aE))))
    (aC uS))))))⟩
end
open PySem.W in
theorem all_mk{l:PySem.W.OpenLaw}{w:World}{K:PySem.W.Frag}{h:Heap}{mg:Str->Option Value}{fa:Addr}(X:K.In h)(G:h.Ns mainGlobals mg)(hfa:mg "law" = some (.ref fa))
  (h0:Fd K "tails" zw f0 d0)
  (h1:Fd K "second_of_three" jQ f1 d1)
  (h2:Fd K "second_of_four" j0 f2 d2)
  (h3:Fd K "is_white" sy f3 d3)
  (h4:Fd K "is_figure" qh f4 d4)
  (h5:Fd K "hex_worth" pQ f5 d5)
  (h6:Fd K "word_rest" qt f6 d6)
  (h7:Fd K "short_escape" lY f7 d7)
  (h8:Fd K "behind" wO f8 d8)
  (h9:Fd K "behind_value" mi f9 d9)
  (h10:Fd K "behind_lead" nM f10 d10)
  (h11:Fd K "behind_in_number" i7 f11 d11)
  (h12:Fd K "behind_in_text" ka f12 d12)
  (h13:Fd K "behind_character" je f13 d13)
  (h14:Fd K "behind_backslash" jk f14 d14)
  (h15:Fd K "behind_code_d" kW f15 d15)
  (h16:Fd K "behind_hex" oM f16 d16)
  (h17:Fd K "behind_in_brackets" ia f17 d17)
  (h18:Fd K "behind_row_begin" jg f18 d18)
  (h19:Fd K "behind_fields_begin" gQ f19 d19)
  (h20:Fd K "member_rest" nC f20 d20)
  (h21:Fd K "fault" zh f21 d21)
  (h22:Fd K "refuse_fault" mJ f22 d22)
  (h23:Fd K "nodes" zr f23 d23)
  (h24:Fd K "leaf" BG f24 d24)
  (h25:Fd K "plain_end" qF f25 d25)
  (h26:Fd K "text_end" sN f26 d26)
  (h27:Fd K "is_name" ug f27 d27)
  (h28:Fd K "with_member" nh f28 d28)
  (h29:Fd K "_law_cell" so f29 d29)
  (h30:Fd K "_law_mix" uH f30 d30)
  (h31:Fd K "_law_whole" pS f31 d31)
  (h32:Fd K "_law_point" pV f32 d32)
  (h33:Fd K "_law_points" om f33 d33)
  (h34:Fd K "_law_eight" qD f34 d34)
  (h35:Fd K "_law_hex" uh f35 d35)
  (h36:Fd K "_law_sign" sR f36 d36)
  (h37:Fd K "_law_text" su f37 d37)
  (h38:Fd K "_law_number" oj f38 d38)
  (h39:Fd K "_law_plain" qG f39 d39)
  (h40:Fd K "_law_white" qd f40 d40)
  (h41:Fd K "_law_plain_value" ju f41 d41)
  (h42:Fd K "_law_name" sL f42 d42)
  (h43:Fd K "_law_close" qK f43 d43)
  (h44:Fd K "_law_begin" pW f44 d44)
  (h45:Fd K "_law_built" pR f45 d45)
  (a46:nsIn K mainGlobals "law" = some (some (.ref f46))) (l46:K.lookup f46=some ⟨oc46,od46,.func (fnOf "law" "law" (fb AB) (dO AB) (aA AB) .none kV46 dc46 pm46 an46 cd46 ct46),sl46⟩) (c46:codeIn K cd46 "law" = true) (k46:keepIn K (.ref f46)=true)
  (a47:findIn K (.ref C0) "__init__" = some (some (.ref f47))) (i47:isFn K (.ref f47)=true) (l47:K.lookup f47=some ⟨oc47,od47,.func (fnOf "__init__" "Walk.__init__" (fb eG) (dO eG) (aA eG) .none kV47 dc47 pm47 an47 cd47 ct47),sl47⟩) (c47:codeIn K cd47 "Walk.__init__" = true) (k47:keepIn K (.ref f47)=true)
  (a48:findIn K (.ref C0) "take" = some (some (.ref f48))) (i48:isFn K (.ref f48)=true) (l48:K.lookup f48=some ⟨oc48,od48,.func (fnOf "take" "Walk.take" (fb hJ) (dO hJ) (aA hJ) .none kV48 dc48 pm48 an48 cd48 ct48),sl48⟩) (c48:codeIn K cd48 "Walk.take" = true) (k48:keepIn K (.ref f48)=true)
  (a49:findIn K (.ref C0) "goes_on" = some (some (.ref f49))) (i49:isFn K (.ref f49)=true) (l49:K.lookup f49=some ⟨oc49,od49,.func (fnOf "goes_on" "Walk.goes_on" (fb eY) (dO eY) (aA eY) .none kV49 dc49 pm49 an49 cd49 ct49),sl49⟩) (c49:codeIn K cd49 "Walk.goes_on" = true) (k49:keepIn K (.ref f49)=true)
  (a50:findIn K (.ref C0) "brackets" = some (some (.ref f50))) (i50:isFn K (.ref f50)=true) (l50:K.lookup f50=some ⟨oc50,od50,.func (fnOf "brackets" "Walk.brackets" (fb eH) (dO eH) (aA eH) .none kV50 dc50 pm50 an50 cd50 ct50),sl50⟩) (c50:codeIn K cd50 "Walk.brackets" = true) (k50:keepIn K (.ref f50)=true)
  (a51:findIn K (.ref C0) "is_whole" = some (some (.ref f51))) (i51:isFn K (.ref f51)=true) (l51:K.lookup f51=some ⟨oc51,od51,.func (fnOf "is_whole" "Walk.is_whole" (fb eJ) (dO eJ) (aA eJ) .none kV51 dc51 pm51 an51 cd51 ct51),sl51⟩) (c51:codeIn K cd51 "Walk.is_whole" = true) (k51:keepIn K (.ref f51)=true)
  (z0:nsIn K mainGlobals "isinstance" = some none)
  (z1:nsIn K mainGlobals "tuple" = some none)
  (z2:nsIn K mainGlobals "len" = some none)
  (z3:nsIn K mainGlobals "range" = some none)
  (z4:nsIn K mainGlobals "int" = some none)
  (z5:nsIn K mainGlobals "bool" = some none)
  (z6:nsIn K mainGlobals "str" = some none)
  (z7:nsIn K mainGlobals "ord" = some none)
  (z8:nsIn K mainGlobals "list" = some none)
  (z9:nsIn K mainGlobals "enumerate" = some none)
  (z10:nsIn K mainGlobals "all" = some none)
  (ca0:nsIn K mainGlobals "Walk" = some (some (.ref C0))) (pg0:plainGet K C0 Str.empty=true) (hd0:hasDictIn K C0=true) (po0:plainOver K C0=true) (sa0:findIn K (.ref C0) "__setattr__" = some (some (.builtin "object.__setattr__"))) (mk0:makesIn K C0=true) (kc0:keepIn K (.ref C0)=true)
  (na0_0:findIn K (.ref C0) "coming" = some none)
  (va0:nsIn K mainGlobals "TAIL" = some (some (.ref v0))) (vl0:K.lookup v0=some ⟨.type "tuple",vd0,.seq #[.int 128 t0_0,.int 191 t0_1] vn0,vs0⟩)
  (va1:nsIn K mainGlobals "BLANK" = some (some (.int 32 t1)))
  (va2:nsIn K mainGlobals "QUOTE" = some (some (.int 34 t2)))
  (va3:nsIn K mainGlobals "PLUS" = some (some (.int 43 t3)))
  (va4:nsIn K mainGlobals "COMMA" = some (some (.int 44 t4)))
  (va5:nsIn K mainGlobals "MINUS" = some (some (.int 45 t5)))
  (va6:nsIn K mainGlobals "POINT" = some (some (.int 46 t6)))
  (va7:nsIn K mainGlobals "NOUGHT" = some (some (.int 48 t7)))
  (va8:nsIn K mainGlobals "NINE" = some (some (.int 57 t8)))
  (va9:nsIn K mainGlobals "COLON" = some (some (.int 58 t9)))
  (va10:nsIn K mainGlobals "BIG_E" = some (some (.int 69 t10)))
  (va11:nsIn K mainGlobals "ROW_BEGIN" = some (some (.int 91 t11)))
  (va12:nsIn K mainGlobals "BACKSLASH" = some (some (.int 92 t12)))
  (va13:nsIn K mainGlobals "ROW_END" = some (some (.int 93 t13)))
  (va14:nsIn K mainGlobals "SMALL_E" = some (some (.int 101 t14)))
  (va15:nsIn K mainGlobals "SMALL_U" = some (some (.int 117 t15)))
  (va16:nsIn K mainGlobals "FIELDS_BEGIN" = some (some (.int 123 t16)))
  (va17:nsIn K mainGlobals "FIELDS_END" = some (some (.int 125 t17)))
  (va18:nsIn K mainGlobals "WHITE" = some (some (.ref v18))) (vl18:K.lookup v18=some ⟨.type "tuple",vd18,.seq #[.int 9 t18_0,.int 10 t18_1,.int 13 t18_2,.int 32 t18_3] vn18,vs18⟩)
  (va19:nsIn K mainGlobals "WORDS" = some (some (.ref v19))) (vl19:K.lookup v19=some ⟨.type "dict",none,.dict #[⟨110,.int 110 tk19_0,.ref w19_0⟩,⟨116,.int 116 tk19_1,.ref w19_1⟩,⟨102,.int 102 tk19_2,.ref w19_2⟩] ep19,#[]⟩)
  (wl19_0:K.lookup w19_0=some ⟨.type "tuple",wd19_0,.seq #[.int 117 tx19_0_0,.int 108 tx19_0_1,.int 108 tx19_0_2] wn19_0,ws19_0⟩)
  (wl19_1:K.lookup w19_1=some ⟨.type "tuple",wd19_1,.seq #[.int 114 tx19_1_0,.int 117 tx19_1_1,.int 101 tx19_1_2] wn19_1,ws19_1⟩)
  (wl19_2:K.lookup w19_2=some ⟨.type "tuple",wd19_2,.seq #[.int 97 tx19_2_0,.int 108 tx19_2_1,.int 115 tx19_2_2,.int 101 tx19_2_3] wn19_2,ws19_2⟩)
  (vm19:(v19==sysModules)=false)
  (va20:nsIn K mainGlobals "SHORT_ESCAPES" = some (some (.ref v20))) (vl20:K.lookup v20=some ⟨.type "dict",none,.dict #[⟨34,.int 34 tk20_0,(.int 34 tv20_0)⟩,⟨92,.int 92 tk20_1,(.int 92 tv20_1)⟩,⟨47,.int 47 tk20_2,(.int 47 tv20_2)⟩,⟨98,.int 98 tk20_3,(.int 8 tv20_3)⟩,⟨102,.int 102 tk20_4,(.int 12 tv20_4)⟩,⟨110,.int 110 tk20_5,(.int 10 tv20_5)⟩,⟨114,.int 114 tk20_6,(.int 13 tv20_6)⟩,⟨116,.int 116 tk20_7,(.int 9 tv20_7)⟩] ep20,#[]⟩)
  (vm20:(v20==sysModules)=false)
  (va21:nsIn K mainGlobals "MOST_BRACKETS" = some (some (.int 64 t21)))
  (va22:nsIn K mainGlobals "LOOSE" = some (some (.ref v22))) (vl22:K.lookup v22=some ⟨.type "tuple",vd22,.seq #[.str "white" t22_0,.str "figures" t22_1,.str "fraction" t22_2,.str "exponent" t22_3,.str "sign" t22_4] vn22,vs22⟩)
  (va23:nsIn K mainGlobals "UNENDED" = some (some (.ref v23))) (vl23:K.lookup v23=some ⟨.type "tuple",vd23,.seq #[.str "row" t23_0,.str "more row" t23_1,.str "fields" t23_2,.str "more fields" t23_3] vn23,vs23⟩)
  (va24:nsIn K mainGlobals "KINDS" = some (some (.ref v24))) (vl24:K.lookup v24=some ⟨.type "dict",none,.dict #[⟨34,.int 34 tk24_0,(.str "text" tv24_0)⟩,⟨91,.int 91 tk24_1,(.str "row" tv24_1)⟩,⟨102,.int 102 tk24_2,(.str "false" tv24_2)⟩,⟨110,.int 110 tk24_3,(.str "null" tv24_3)⟩,⟨116,.int 116 tk24_4,(.str "true" tv24_4)⟩,⟨123,.int 123 tk24_5,(.str "fields" tv24_5)⟩] ep24,#[]⟩)
  (vm24:(v24==sysModules)=false):
  ∃ fd:FuncData,(∀(s:Shared) (v:Value),BindsTo s fd ⟨[v],[]⟩ [("_law_script",v)]) /\ ∀ base:Heap,K.In base->base.Ns mainGlobals mg->cx l.prog w K mg base (CXE l.prog w) 12 fa fd ["_law_script"] (yC K):=by
 have e:=hfa.symm.trans (PySem.W.mg_of X G a46);cases e
 have T:Txt K mg ⟨f0,d0,f1,d1,f2,d2,f3,d3,f4,d4,f5,d5,f6,d6,f7,d7,f8,d8,f9,d9,f10,d10,f11,d11,f12,d12,f13,d13,f14,d14,f15,d15,f16,d16,f17,d17,f18,d18,f19,d19,f20,d20,f21,d21,f22,d22,f23,d23,f24,d24,f25,d25,f26,d26,f27,d27,f28,d28,f29,d29,f30,d30,f31,d31,f32,d32,f33,d33,f34,d34,f35,d35,f36,d36,f37,d37,f38,d38,f39,d39,f40,d40,f41,d41,f42,d42,f43,d43,f44,d44,f45,d45,f46,_,f47,_,f48,_,f49,_,f50,_,f51,_,C0,v0,_,_,_,_,_,_,_,_,_,_,_,_,_,_,_,_,_,v18,v19,v20,_,v22,v23,v24⟩:=⟨h0.e1 X G,
  h1.e1 X G,
  h2.e1 X G,
  h3.e1 X G,
  h4.e1 X G,
  h5.e1 X G,
  h6.e1 X G,
  h7.e1 X G,
  h8.e2 X G,
  h9.e1 X G,
  h10.e1 X G,
  h11.e2 X G,
  h12.e2 X G,
  h13.e1 X G,
  h14.e1 X G,
  h15.e1 X G,
  h16.e2 X G,
  h17.e2 X G,
  h18.e1 X G,
  h19.e1 X G,
  h20.e0 X G,
  h21.e1 X G,
  h22.e1 X G,
  h23.e1 X G,
  h24.e3 X G,
  h25.e2 X G,
  h26.e2 X G,
  h27.e2 X G,
  h28.e2 X G,
  h29.e2 X G,
  h30.e2 X G,
  h31.e1 X G,
  h32.e1 X G,
  h33.e2 X G,
  h34.e1 X G,
  h35.e2 X G,
  h36.e2 X G,
  h37.e2 X G,
  h38.e1 X G,
  h39.e2 X G,
  h40.e1 X G,
  h41.e2 X G,
  h42.e2 X G,
  h43.e3 X G,
  h44.e5 X G,
  h45.e2 X G,
  (cC a46 l46 c46 k46).e1 X G,
  mG (st:=eG) l47 c47 k47,(mG (st:=eG) l47 c47 k47).binds (ps:=["self"]) fun _ _ _ _ _ _ us hl=>match us,hl with|[_],_=>rfl,
  mG (st:=hJ) l48 c48 k48,⟨a48,i48,k48⟩,(mG (st:=hJ) l48 c48 k48).binds (ps:=["self","row"]) fun _ _ _ _ _ _ us hl=>match us,hl with|[_,_],_=>rfl,
  mG (st:=eY) l49 c49 k49,⟨a49,i49,k49⟩,(mG (st:=eY) l49 c49 k49).binds (ps:=["self","byte"]) fun _ _ _ _ _ _ us hl=>match us,hl with|[_,_],_=>rfl,
  mG (st:=eH) l50 c50 k50,⟨a50,i50,k50⟩,(mG (st:=eH) l50 c50 k50).binds (ps:=["self"]) fun _ _ _ _ _ _ us hl=>match us,hl with|[_],_=>rfl,
  mG (st:=eJ) l51 c51 k51,⟨a51,i51,k51⟩,(mG (st:=eJ) l51 c51 k51).binds (ps:=["self"]) fun _ _ _ _ _ _ us hl=>match us,hl with|[_],_=>rfl,
  PySem.W.mg_none_of X G z0,
  PySem.W.mg_none_of X G z1,
  PySem.W.mg_none_of X G z2,
  PySem.W.mg_none_of X G z3,
  PySem.W.mg_none_of X G z4,
  PySem.W.mg_none_of X G z5,
  PySem.W.mg_none_of X G z6,
  PySem.W.mg_none_of X G z7,
  PySem.W.mg_none_of X G z8,
  PySem.W.mg_none_of X G z9,
  PySem.W.mg_none_of X G z10,
  PySem.W.mg_of X G ca0,⟨pg0,hd0,po0,sa0⟩,⟨mk0,a47,i47,kc0⟩,
  na0_0,
  PySem.W.mg_of X G va0,rfl,fun H=>.inr ⟨_,_,_,vl0,rfl,rfl,(by show 2<=sizeLine;decide),.cons ⟨_,rfl⟩ (.cons ⟨_,rfl⟩ (.nil))⟩,
  PySem.W.mg_of X G va1,⟨t1,rfl⟩,
  PySem.W.mg_of X G va2,⟨t2,rfl⟩,
  PySem.W.mg_of X G va3,⟨t3,rfl⟩,
  PySem.W.mg_of X G va4,⟨t4,rfl⟩,
  PySem.W.mg_of X G va5,⟨t5,rfl⟩,
  PySem.W.mg_of X G va6,⟨t6,rfl⟩,
  PySem.W.mg_of X G va7,⟨t7,rfl⟩,
  PySem.W.mg_of X G va8,⟨t8,rfl⟩,
  PySem.W.mg_of X G va9,⟨t9,rfl⟩,
  PySem.W.mg_of X G va10,⟨t10,rfl⟩,
  PySem.W.mg_of X G va11,⟨t11,rfl⟩,
  PySem.W.mg_of X G va12,⟨t12,rfl⟩,
  PySem.W.mg_of X G va13,⟨t13,rfl⟩,
  PySem.W.mg_of X G va14,⟨t14,rfl⟩,
  PySem.W.mg_of X G va15,⟨t15,rfl⟩,
  PySem.W.mg_of X G va16,⟨t16,rfl⟩,
  PySem.W.mg_of X G va17,⟨t17,rfl⟩,
  PySem.W.mg_of X G va18,rfl,fun H=>.inr ⟨_,_,_,vl18,rfl,rfl,(by show 4<=sizeLine;decide),.cons ⟨_,rfl⟩ (.cons ⟨_,rfl⟩ (.cons ⟨_,rfl⟩ (.cons ⟨_,rfl⟩ (.nil))))⟩,
  PySem.W.mg_of X G va19,rfl,⟨[(110,.ref w19_0),(116,.ref w19_1),(102,.ref w19_2)],⟨vm19,by simp,_,_,vl19,.cons ⟨rfl,⟨_,rfl⟩,rfl⟩ (.cons ⟨rfl,⟨_,rfl⟩,rfl⟩ (.cons ⟨rfl,⟨_,rfl⟩,rfl⟩ (.nil)))⟩,.cons ⟨rfl,fun _=>by unfold Rep;exact⟨_,[.int 117,.int 108,.int 108],rfl,.inr ⟨_,_,_,wl19_0,rfl,rfl,(by show 3<=sizeLine;decide),.cons ⟨_,rfl⟩ (.cons ⟨_,rfl⟩ (.cons ⟨_,rfl⟩ (.nil)))⟩,bZ.ints (ns:=[117,108,108])⟩⟩ (.cons ⟨rfl,fun _=>by unfold Rep;exact⟨_,[.int 114,.int 117,.int 101],rfl,.inr ⟨_,_,_,wl19_1,rfl,rfl,(by show 3<=sizeLine;decide),.cons ⟨_,rfl⟩ (.cons ⟨_,rfl⟩ (.cons ⟨_,rfl⟩ (.nil)))⟩,bZ.ints (ns:=[114,117,101])⟩⟩ (.cons ⟨rfl,fun _=>by unfold Rep;exact⟨_,[.int 97,.int 108,.int 115,.int 101],rfl,.inr ⟨_,_,_,wl19_2,rfl,rfl,(by show 4<=sizeLine;decide),.cons ⟨_,rfl⟩ (.cons ⟨_,rfl⟩ (.cons ⟨_,rfl⟩ (.cons ⟨_,rfl⟩ (.nil))))⟩,bZ.ints (ns:=[97,108,115,101])⟩⟩ (.nil)))⟩,
  PySem.W.mg_of X G va20,rfl,⟨[(34,.int 34),(92,.int 92),(47,.int 47),(98,.int 8),(102,.int 12),(110,.int 10),(114,.int 13),(116,.int 9)],⟨vm20,by simp,_,_,vl20,.cons ⟨rfl,⟨_,rfl⟩,⟨_,rfl⟩⟩ (.cons ⟨rfl,⟨_,rfl⟩,⟨_,rfl⟩⟩ (.cons ⟨rfl,⟨_,rfl⟩,⟨_,rfl⟩⟩ (.cons ⟨rfl,⟨_,rfl⟩,⟨_,rfl⟩⟩ (.cons ⟨rfl,⟨_,rfl⟩,⟨_,rfl⟩⟩ (.cons ⟨rfl,⟨_,rfl⟩,⟨_,rfl⟩⟩ (.cons ⟨rfl,⟨_,rfl⟩,⟨_,rfl⟩⟩ (.cons ⟨rfl,⟨_,rfl⟩,⟨_,rfl⟩⟩ (.nil))))))))⟩,.cons ⟨rfl,fun _=>by unfold Rep;rfl⟩ (.cons ⟨rfl,fun _=>by unfold Rep;rfl⟩ (.cons ⟨rfl,fun _=>by unfold Rep;rfl⟩ (.cons ⟨rfl,fun _=>by unfold Rep;rfl⟩ (.cons ⟨rfl,fun _=>by unfold Rep;rfl⟩ (.cons ⟨rfl,fun _=>by unfold Rep;rfl⟩ (.cons ⟨rfl,fun _=>by unfold Rep;rfl⟩ (.cons ⟨rfl,fun _=>by unfold Rep;rfl⟩ (.nil))))))))⟩,
  PySem.W.mg_of X G va21,⟨t21,rfl⟩,
  PySem.W.mg_of X G va22,rfl,fun H=>.inr ⟨_,_,_,vl22,rfl,rfl,(by show 5<=sizeLine;decide),.cons ⟨_,rfl⟩ (.cons ⟨_,rfl⟩ (.cons ⟨_,rfl⟩ (.cons ⟨_,rfl⟩ (.cons ⟨_,rfl⟩ (.nil)))))⟩,
  PySem.W.mg_of X G va23,rfl,fun H=>.inr ⟨_,_,_,vl23,rfl,rfl,(by show 4<=sizeLine;decide),.cons ⟨_,rfl⟩ (.cons ⟨_,rfl⟩ (.cons ⟨_,rfl⟩ (.cons ⟨_,rfl⟩ (.nil))))⟩,
  PySem.W.mg_of X G va24,rfl,⟨[(34,.str "text"),(91,.str "row"),(102,.str "false"),(110,.str "null"),(116,.str "true"),(123,.str "fields")],⟨vm24,by simp,_,_,vl24,.cons ⟨rfl,⟨_,rfl⟩,⟨_,rfl⟩⟩ (.cons ⟨rfl,⟨_,rfl⟩,⟨_,rfl⟩⟩ (.cons ⟨rfl,⟨_,rfl⟩,⟨_,rfl⟩⟩ (.cons ⟨rfl,⟨_,rfl⟩,⟨_,rfl⟩⟩ (.cons ⟨rfl,⟨_,rfl⟩,⟨_,rfl⟩⟩ (.cons ⟨rfl,⟨_,rfl⟩,⟨_,rfl⟩⟩ (.nil))))))⟩,.cons ⟨rfl,fun _=>by unfold Rep;rfl⟩ (.cons ⟨rfl,fun _=>by unfold Rep;rfl⟩ (.cons ⟨rfl,fun _=>by unfold Rep;rfl⟩ (.cons ⟨rfl,fun _=>by unfold Rep;rfl⟩ (.cons ⟨rfl,fun _=>by unfold Rep;rfl⟩ (.cons ⟨rfl,fun _=>by unfold Rep;rfl⟩ (.nil))))))⟩⟩
 exact⟨_,fun s v=>.of_eq rfl,fun base _ _=>(Mq T).imp (Ho fun ns h=>F9 ns h)⟩
theorem walk{l:PySem.W.OpenLaw}{q:Program}{loose:List Str}{XP:(Str->Option Value)->Heap->Prop}{YP:World->Heap->Prop}{d:DefRec}{K:Params->PySem.W.Frag}(hn:l.most=some 63)(hdf:d.params.defaults=[])
  (hY:∀(w:World) (h:Heap),YP w h->(K w.params).In h)
  (F:∀(w:World) (mg:Str->Option Value) (fa:Addr) (h:Heap),(K w.params).In h->h.Ns mainGlobals mg->mg d.name=some (.ref fa) ->
    ∃ fd:FuncData,(∀(s:Shared) (u:Value),BindsTo s fd ⟨[u],[]⟩ [("_law_script",u)]) /\ ∀ base:Heap,(K w.params).In base->base.Ns mainGlobals mg->cx l.prog w (K w.params) mg base (CXE l.prog w) 12 fa fd ["_law_script"] (yC (K w.params))):
  PySem.W.WalkO q loose XP YP l.row.toRowW d [] (fun f vs=>PySem.call f vs):=
 L2.HH (n:=63) (k:=12) (x:="_law_script") (CX:=fun w=>CXE l.prog w) (sp:=fun w=>yC (K w.params)) hn (by decide) hdf ⟨rfl,by decide,by decide⟩ hY F (fun _ _ a ns hl _ hS=>⟨a,ns,rfl,hS,hl,fun _=>rfl⟩) fun _ _ _ _ _ z=>let ⟨_,_,_,_,_,_,_,_,_,_,f⟩:=z;f
end L2.plainglass_k11_nodes_told
open PySem PySem.W PyProof.Rows
namespace PySem.W.Fast
def tw7347402343372760195:=0
def tw3266070935657568160:=0
def tw6353439566960649134:=0
def tw10563968297752246824:=0
def tw11097335210156810836:=0
def tw8470950838813435024:=0
def tw5454562075311980810:=0
def tw7009120490718983134:=0
def tw4609779180966575118:=0
def tw3622932466061026009:=0
def tw17339238865105938436:=0
def tw15165843379449568140:=0
def tw11359304198781066747:=0
def tw10151810416261831934:=0
def tw5261352559393160021:=0
def tw15937887403131027293:=0
def tw9057358596705297102:=0
def tw7079051294201378537:=0
def tw2991519489711427737:=0
def tw14913847651599485882:=0
def tw17410820249605107081:=0
def tw2600088332582481917:=0
def tw4582371153889265052:=0
def tw1838131834090030276:=0
def tw1277521381388867044:=0
def tw16146668692247373085:=0
def tw1749689047328639182:=0
def tw16146366402388773505:=0
def tw16572514603678756309:=0
def tw9626574318415458400:=0
def tw777308384748050045:=0
def tw15302240898151184164:=0
def tw9512249792773024669:=0
def tw10381788381847158704:=0
def tw8108107425962126139:=0
def tw10084140614656043308:=0
def tw2369514403926421048:=0
def tw82078349084679752:=0
def tw4088236058808825752:=0
def tw8433386612199994932:=0
def tw913710976800709642:=0
def tw573183347467723565:=0
def tw13706457365628578694:=0
def tw17964521219695888021:=0
def tw8844661721084915428:=0
def tw14556723659125761007:=0
def tw1482352219007077609:=0
def tw4255616364573249493:=0
def tw11351138732688266325:=0
def tw8741312114628337831:=0
def tw3185472194741681514:=0
def tw428783005839153677:=0
def tw17725219307663681641:=0
def tw5322599006377721122:=0
def tw6156951851701081478:=0
def tw6768953568950917506:=0
def tw15028417698217567999:=0
def tw2217205050840495298:=0
def tw11858190946363692916:=0
def tw4388905298571172414:=0
def tw14228885838709649293:=0
def tw17977583726503513884:=0
def tw10568440017291296527:=0
def tw5251031439223755889:=0
def tw8961784869045701225:=0
def tw3132495951493752939:=0
def tw4744756050619028151:=0
def tw9281483019145923336:=0
def tw3918525154425997109:=0
def tw6941006272325032238:=0
def tw10769455416916872417:=0
def tw7660277557368128021:=0
def tw11441160460104274452:=0
def tw8867509975099956483:=0
def tw4714721405066239503:=0
def tw6331447350359257296:=0
def tw15384998178725250825:=0
def tw569934141493610847:=0
def tw1914207620380716232:=0
def tw18253741575619983462:=0
def tw14422714186591684691:=0
def tw10855196536526874311:=0
def tw15306524782921793753:=0
def tw11881659933076700712:=0
def tw12525895854325707112:=0
def tw14548424851269132597:=0
def tw11681031696078501839:=0
def tw16707191920399241673:=0
def tw4159078202146554613:=0
def tw4403558510959349210:=0
def tw3291959272040710029:=0
def tw1788732441166113779:=0
def tw7047770587584950570:=0
def tw12597682733610519824:=0
def tw14989922658558604281:=0
def tw5224182361532118463:=0
def tw13196896167129723747:=0
def tw2164048170035659394:=0
def tw1157962838509721911:=0
def tw4050355574839365344:=0
def tw15026041509999533168:=0
def tw17021380322083091523:=0
def tw17948113422121697212:=0
def tw10222990531933095238:=0
def tw12914353340698423832:=0
def tw12301133316480150567:=0
def tw5465732086221583200:=0
def tw10771047458218200527:=0
def tw6493791055624880532:=0
def tw9606968385859694098:=0
def tw17089285553368131215:=0
def tw725891235997762769:=0
end PySem.W.Fast
set_option maxRecDepth 100000 in
set_option maxHeartbeats 0 in
theorem PySem.Challenge.cw_plainglass_k11_nodes_told_holds : PySem.Challenge.rw_plainglass_k11_nodes_told.Holds := by
 w_on;o_law;k_head;(case hw=>w_witness2)
 k_fill
 refine L2.plainglass_k11_nodes_told.walk (l:=PySem.Challenge.rw_plainglass_k11_nodes_told) rfl rfl (fun w h Y=>PySem.W.kIn_of Y) ?F
 case F=>
  intro w mg fa h KX G hmg
  refine' L2.plainglass_k11_nodes_told.all_mk KX G hmg (L2.E.cC ?a0 ?l0 ?c0 ?k0) (L2.E.cC ?a1 ?l1 ?c1 ?k1) (L2.E.cC ?a2 ?l2 ?c2 ?k2) (L2.E.cC ?a3 ?l3 ?c3 ?k3) (L2.E.cC ?a4 ?l4 ?c4 ?k4) (L2.E.cC ?a5 ?l5 ?c5 ?k5) (L2.E.cC ?a6 ?l6 ?c6 ?k6) (L2.E.cC ?a7 ?l7 ?c7 ?k7) (L2.E.cC ?a8 ?l8 ?c8 ?k8) (L2.E.cC ?a9 ?l9 ?c9 ?k9) (L2.E.cC ?a10 ?l10 ?c10 ?k10) (L2.E.cC ?a11 ?l11 ?c11 ?k11) (L2.E.cC ?a12 ?l12 ?c12 ?k12) (L2.E.cC ?a13 ?l13 ?c13 ?k13) (L2.E.cC ?a14 ?l14 ?c14 ?k14) (L2.E.cC ?a15 ?l15 ?c15 ?k15) (L2.E.cC ?a16 ?l16 ?c16 ?k16) (L2.E.cC ?a17 ?l17 ?c17 ?k17) (L2.E.cC ?a18 ?l18 ?c18 ?k18) (L2.E.cC ?a19 ?l19 ?c19 ?k19) (L2.E.cC ?a20 ?l20 ?c20 ?k20) (L2.E.cC ?a21 ?l21 ?c21 ?k21) (L2.E.cC ?a22 ?l22 ?c22 ?k22) (L2.E.cC ?a23 ?l23 ?c23 ?k23) (L2.E.cC ?a24 ?l24 ?c24 ?k24) (L2.E.cC ?a25 ?l25 ?c25 ?k25) (L2.E.cC ?a26 ?l26 ?c26 ?k26) (L2.E.cC ?a27 ?l27 ?c27 ?k27) (L2.E.cC ?a28 ?l28 ?c28 ?k28) (L2.E.cC ?a29 ?l29 ?c29 ?k29) (L2.E.cC ?a30 ?l30 ?c30 ?k30) (L2.E.cC ?a31 ?l31 ?c31 ?k31) (L2.E.cC ?a32 ?l32 ?c32 ?k32) (L2.E.cC ?a33 ?l33 ?c33 ?k33) (L2.E.cC ?a34 ?l34 ?c34 ?k34) (L2.E.cC ?a35 ?l35 ?c35 ?k35) (L2.E.cC ?a36 ?l36 ?c36 ?k36) (L2.E.cC ?a37 ?l37 ?c37 ?k37) (L2.E.cC ?a38 ?l38 ?c38 ?k38) (L2.E.cC ?a39 ?l39 ?c39 ?k39) (L2.E.cC ?a40 ?l40 ?c40 ?k40) (L2.E.cC ?a41 ?l41 ?c41 ?k41) (L2.E.cC ?a42 ?l42 ?c42 ?k42) (L2.E.cC ?a43 ?l43 ?c43 ?k43) (L2.E.cC ?a44 ?l44 ?c44 ?k44) (L2.E.cC ?a45 ?l45 ?c45 ?k45) ?a46 ?l46 ?c46 ?k46 ?a47 ?i47 ?l47 ?c47 ?k47 ?a48 ?i48 ?l48 ?c48 ?k48 ?a49 ?i49 ?l49 ?c49 ?k49 ?a50 ?i50 ?l50 ?c50 ?k50 ?a51 ?i51 ?l51 ?c51 ?k51 ?z0 ?z1 ?z2 ?z3 ?z4 ?z5 ?z6 ?z7 ?z8 ?z9 ?z10 ?ca0 ?pg0 ?hd0 ?po0 ?sa0 ?mk0 ?kc0 ?na0_0 ?va0 ?vl0 ?va1 ?va2 ?va3 ?va4 ?va5 ?va6 ?va7 ?va8 ?va9 ?va10 ?va11 ?va12 ?va13 ?va14 ?va15 ?va16 ?va17 ?va18 ?vl18 ?va19 ?vl19 ?wl19_0 ?wl19_1 ?wl19_2 ?vm19 ?va20 ?vl20 ?vm20 ?va21 ?va22 ?vl22 ?va23 ?vl23 ?va24 ?vl24 ?vm24
  (case ca0|a0|l0|c0|k0|a1|l1|c1|k1|a2|l2|c2|k2|a3|l3|c3|k3|a4|l4|c4|k4|a5|l5|c5|k5|a6|l6|c6|k6|a7|l7|c7|k7|a8|l8|c8|k8|a9|l9|c9|k9|a10|l10|c10|k10|a11|l11|c11|k11|a12|l12|c12|k12|a13|l13|c13|k13|a14|l14|c14|k14|a15|l15|c15|k15|a16|l16|c16|k16|a17|l17|c17|k17|a18|l18|c18|k18|a19|l19|c19|k19|a20|l20|c20|k20|a21|l21|c21|k21|a22|l22|c22|k22|a23|l23|c23|k23|a24|l24|c24|k24|a25|l25|c25|k25|a26|l26|c26|k26|a27|l27|c27|k27|a28|l28|c28|k28|a29|l29|c29|k29|a30|l30|c30|k30|a31|l31|c31|k31|a32|l32|c32|k32|a33|l33|c33|k33|a34|l34|c34|k34|a35|l35|c35|k35|a36|l36|c36|k36|a37|l37|c37|k37|a38|l38|c38|k38|a39|l39|c39|k39|a40|l40|c40|k40|a41|l41|c41|k41|a42|l42|c42|k42|a43|l43|c43|k43|a44|l44|c44|k44|a45|l45|c45|k45|a46|l46|c46|k46|a47|i47|l47|c47|k47|a48|i48|l48|c48|k48|a49|i49|l49|c49|k49|a50|i50|l50|c50|k50|a51|i51|l51|c51|k51|z0|z1|z2|z3|z4|z5|z6|z7|z8|z9|z10|pg0|hd0|po0|sa0|mk0|kc0|na0_0|va0|vl0|va1|va2|va3|va4|va5|va6|va7|va8|va9|va10|va11|va12|va13|va14|va15|va16|va17|va18|vl18|va19|vl19|wl19_0|wl19_1|wl19_2=>k_is)
  (case vm19=>first|decide|rfl)
  (case va20|vl20=>k_is)
  (case vm20=>first|decide|rfl)
  (case va21|va22|vl22|va23|vl23|va24|vl24=>k_is)
  (case vm24=>first|decide|rfl)
