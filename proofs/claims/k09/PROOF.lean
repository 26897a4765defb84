import PyProof.Rows.All
import Wide.All
import OpenK.AllK
import Wide.FinOn
import Lean
import PyProof.EqAt
import PyProof.EqKinds
import PyProof.TupleCall
import PySem.Challenge.RW_plainglass_k09_endings
set_option Elab.async false
set_option linter.all false
set_option compiler.extract_closed false
set_option maxRecDepth 100000
namespace L2
open PySem PySem.Spec PyProof.Rows
abbrev Key:=Sum Int Str
noncomputable def wQ:Key->Value->Bool
 |.inl k,v=>Value.isInt k v
 |.inr x,v=>Value.isStrOf x v
noncomputable def NS(w:World):Key->Int
 |.inl k=>hashInt k
 |.inr x=>hashStr w x
theorem fj:∀{k:Key} {v:Value},wQ k v=true->(∃ i t,k=Sum.inl i /\ v=Value.int i t) \/ (∃ x t,k=Sum.inr x /\ v=Value.str x t)
 | .inl i,v,h=>by
   obtain⟨t,e⟩:=Value.isInt_shape h
   simp_all
 | .inr x,v,h=>by
   obtain⟨t,e⟩:=Value.isStrOf_shape h
   simp_all
theorem Dz(i:Int)(t:Tok):wQ (.inl i) (.int i t)=true:=by simp[wQ,Value.isInt]
theorem CU(x:Str)(t:Tok):wQ (.inr x) (.str x t)=true:=by simp[wQ,Value.isStrOf]
theorem Jt(a b:Int):decide ((Sum.inl a:Key)=Sum.inl b)=(a==b):=by grind
theorem Ki(a b:Str):decide ((Sum.inr a:Key)=Sum.inr b)=decide (a=b):=by simp
theorem Jx(a:Int)(b:Str):decide ((Sum.inl a:Key)=Sum.inr b)=false:=decide_eq_false (fun q=>nomatch q)
theorem Kk(a:Str)(b:Int):decide ((Sum.inr a:Key)=Sum.inl b)=false:=decide_eq_false (fun q=>nomatch q)
noncomputable def jb(prog:Program)(w:World):PySem.KeyKind prog w Key where
 is:=wQ
 hash:=NS w
 inj:=fun v a b ha hb=>by
  rcases fj ha with⟨i,t,rfl,rfl⟩|⟨x,t,rfl,rfl⟩
  . rcases fj hb with⟨j,u,rfl,e⟩|⟨y,u,rfl,e⟩
    . injection e with e1 _;rw[e1]
    . exact nomatch e
  . rcases fj hb with⟨j,u,rfl,e⟩|⟨y,u,rfl,e⟩
    . exact nomatch e
    . injection e with e1 _;rw[e1]
 byValue:=fun k v h=>by
  rcases fj h with⟨i,t,rfl,rfl⟩|⟨x,t,rfl,rfl⟩<;>rfl
 pyHash:=fun hv h=>by
  rcases fj hv with⟨i,t,rfl,rfl⟩|⟨x,t,rfl,rfl⟩
  . exact wpAny_pyHash_int h
  . exact wpAny_pyHash_str h
 eqBool:=fun hu hv h=>by
  rcases fj hu with⟨i,t,rfl,rfl⟩|⟨x,t,rfl,rfl⟩
  . rcases fj hv with⟨j,u,rfl,rfl⟩|⟨y,u,rfl,rfl⟩
    . rw[Jt]at h;exact wpAny_eqBool_int h
    . rw[Jx]at h;exact SeqAt.EqAt.int_str i t y u _ _ _ _ h
  . rcases fj hv with⟨j,u,rfl,rfl⟩|⟨y,u,rfl,rfl⟩
    . rw[Kk]at h;exact SeqAt.EqAt.str_int x t j u _ _ _ _ h
    . rw[Ki]at h;exact wpAny_eqBool_str h
 «strs»:=fun k x t v h=>by
  rcases fj h with⟨i,u,rfl,e⟩|⟨y,u,rfl,e⟩
  . exact nomatch e
  . injection e with e1 _
    subst e1
    cases v<;>rfl
theorem zc(prog:Program)(w:World)(i:Int)(t:Tok):(jb prog w).is (.inl i) (.int i t)=true:=Dz i t
theorem Am(prog:Program)(w:World)(x:Str)(t:Tok):(jb prog w).is (.inr x) (.str x t)=true:=CU x t
inductive V where
 |non|bl (b:Bool)|int (i:Int)|str (x:Str)|byt (b:Array UInt8)|flt (b:UInt64)|ref (a:Addr)|ty (n:String)
 deriving DecidableEq
noncomputable def RelV:V->Value->Prop
 |.non,u=>u=Value.none
 |.bl b,u=>u=Value.bool b
 |.int i,u=>∃ t,u=Value.int i t
 |.str x,u=>∃ t,u=Value.str x t
 |.byt b,u=>∃ t,u=Value.bytes b t
 |.flt b,u=>∃ t,u=Value.float b t
 |.ref a,u=>u=Value.ref a
 |.ty n,u=>u=Value.type n
abbrev Vals:List V->List Value->Prop:=Paired RelV
theorem Vals.length{xs:List V}{us:List Value}(r:Vals xs us):xs.length=us.length:=Paired.length r
theorem Vals.get:∀{xs:List V} {us:List Value} {i:Nat} {x:V},Vals xs us->xs[i]?=some x->∃ u,us[i]?=some u /\ RelV x u
 |_,_,_,_,.nil,e=>by simp_all
 |_,_,0,_,.cons r _,e=>by simp_all
 | _,_,i+1,x,.cons _ t,e=>by
   obtain⟨u,h1,h2⟩:=Vals.get t (by simpa using e)
   simp_all
theorem Vals.set{x:V}{u:Value}(r:RelV x u):∀{xs:List V} {us:List Value} (i:Nat),Vals xs us->Vals (xs.set i x) (us.set i u)
 |_,_,_,.nil=>.nil
 |_,_,0,.cons _ t=>.cons r t
 |_,_,i+1,.cons q t=>.cons q (Vals.set r i t)
theorem Vals.append:∀{xs ys:List V} {us ws:List Value},Vals xs us->Vals ys ws->Vals (xs++ys) (us++ws)
 |_,_,_,_,.nil,s=>s
 |_,_,_,_,.cons r t,s=>.cons r (Vals.append t s)
theorem Vals.take:∀{xs:List V} {us:List Value} (n:Nat),Vals xs us->Vals (xs.take n) (us.take n)
 |_,_,0,_=>.nil
 |_,_,_+1,.nil=>.nil
 |_,_,n+1,.cons r t=>.cons r (Vals.take n t)
theorem Vals.drop:∀{xs:List V} {us:List Value} (n:Nat),Vals xs us->Vals (xs.drop n) (us.drop n)
 |_,_,0,r=>r
 |_,_,_+1,.nil=>.nil
 |_,_,n+1,.cons _ t=>Vals.drop n t
noncomputable def bU:Option V->Option Value->Prop
 |some v,some u=>RelV v u
 |none,none=>True
 |_,_=>False
noncomputable def KV{κ:Type}:List (κ×V)->List (κ×Value)->Prop:=Paired fun (p:κ×V) (q:κ×Value)=>p.1=q.1 /\ RelV p.2 q.2
noncomputable def kV:Key->V
 |.inl i=>.int i
 |.inr x=>.str x
inductive HO where
  |lst (xs:List V)
  |tup (xs:List V)
  |dK (kvs:List (Key×V))|dT (kvs:List (List Key×Addr×V))
  |set (S:Int->Bool) (n:Nat)
  |ins (C dx:Addr) (fs:List (Str×V))
  |own (x:Addr)
  |xd (fs:List (Str×V))
  |met (f x:Addr)
  |rng (lo hi:Int)
  |frz (o:Obj) (u:HO)
  |tbl (ps:Array Value)
  |ext (φ:Heap->Prop)
abbrev Hp:=Addr->Option HO
noncomputable def upd(H:Hp)(a:Addr)(o:HO):Hp:=fun b=>if b=a then some o else H b
theorem bP{H:Hp}{a:Addr}{o:HO}:upd H a o a=some o:=by unfold upd;rw[if_pos rfl]
theorem bH{H:Hp}{a b:Addr}{o:HO}(h:b≠a):upd H a o b=H b:=by unfold upd;rw[if_neg h]
theorem He{H:Hp}{a:Addr}{o u:HO}:upd (upd H a o) a u=upd H a u:=by
 funext b;unfold upd;split<;>rfl
theorem eN{H:Hp}{a b:Addr}{o:HO}(h:H a=some o)(h':H b=none):a≠b:=by grind
noncomputable def NoD(h:Heap)(a:Addr):Prop:=∀ o,h.get? a=some o->o.dict=none
theorem NoD.keep{h h':Heap}{a:Addr}{o:Obj}(n:NoD h a)(e:h.get? a=some o)(e':h'.get? a=some o):NoD h' a:=fun u z=>by rw[e']at z;cases z;exact n o e
theorem NoD.of{h:Heap}{a:Addr}{o:Obj}(e:h.get? a=some o)(d:o.dict=none):NoD h a:=fun u z=>by rw[e]at z;cases z;exact d
theorem NoD.new(h:Heap)(xs:Array Value):NoD (h.push { cls:=.type "tuple",data:=.seq xs }) h.objs.size:=.of (Heap.get?_push_size _ rfl) rfl
section
variable(P:Program)(w:World)
noncomputable def hU(H:Hp)(h:Heap)(a:Addr):HO->Prop
 |.lst xs=>xs.length<=sizeLine /\ ∃(its:List Value) (n:Nat),Vals xs its /\ h.get? a=some { cls:=.type "list",data:=.seq its.toArray n }
 |.tup xs=>(xs.length<=sizeLine /\ NoD h a) /\ ∃ its:List Value,Vals xs its /\ IsTup h a its.toArray
 |.dK kvs=>kvs.length<=sizeLine /\ (a==sysModules)=false /\ ∃ vs,KV kvs vs /\ h.DictOf (jb P w) a vs
 | .dT kvs=>kvs.length <= sizeLine /\ (a == sysModules) = false /\ ∃ xs:List (List Key × Addr × Value),
    Paired (fun (p:List Key×Addr×V) (q:List Key×Addr×Value)=>p.1=q.1 /\ p.2.1=q.2.1 /\ RelV p.2.2 q.2.2) kvs xs /\
    ∃ o es ep,h.get? a=some o /\ o.ExactDict /\ o.data=.dict es ep /\ es.toList=xs.map (entryOfKey (tupleKind (jb P w))) /\ (xs.map (·.1)).Nodup
 |.set S n=>h.SetOf (intKind P w) a S n
 | .ins C dx fs=>H dx = some (.own a) /\ fs.length <= 1000 /\ dx ≠ a /\ h.get? a = some (PySem.W.instObj C dx) /\
    ∃ mA,h.Ns1 dx mA /\ (∀ f,bU (fs.lookup f) (mA f)) /\ PySem.Within mA (fs.map (·.1))
 |.own _=>∃ o,h.get? a=some o
 |.xd fs=>∃ mA,h.Ns1 a mA /\ ∀ f,bU (fs.lookup f) (mA f)
 |.rng lo hi=>∃ t u v,h.get? a=some { cls:=.type "range",data:=.fields #[.int lo t,.int hi u,.int 1 v] }
 |.frz o u=>h.get? a=some o /\ hU H h a u
 |.tbl ps=>h.get? a=some { cls:=.none,data:=.fields ps }
 |.met f x=>h.get? a=some (PySem.W.methodObj (.ref f) (.ref x))
 |.ext φ=>φ h /\ (∃ o,h.get? a=some o) /\ ∀ h1 h2:Heap,φ h1->(∀ o,h1.get? a=some o->h2.get? a=some o)->φ h2
noncomputable def HOk(H:Hp)(h:Heap):Prop:=∀ a o,H a=some o->hU P w H h a o
end
section
variable{P:Program}{w:World}{H H':Hp}{h h':Heap}{a:Addr}{o:HO}
theorem hU.lt(x:hU P w H h a o):a<h.objs.size:=by
 cases o with
 |lst xs=>obtain⟨_,_,_,_,e⟩:=x;exact Heap.lt_size e
 |tup xs=>obtain⟨_,_,_,p⟩:=x;exact p.lt
 |dK kvs=>obtain⟨_,_,_,_,o,_,_,e,_⟩:=x;exact Heap.lt_size e
 |dT kvs=>obtain⟨_,_,_,_,o,_,_,e,_⟩:=x;exact Heap.lt_size e
 |set S n=>obtain⟨o,_,_,_,e,_⟩:=x;exact Heap.lt_size e
 |ins C dx fs=>obtain⟨_,_,_,e,_⟩:=x;exact Heap.lt_size e
 |own y=>obtain⟨_,e⟩:=x;exact Heap.lt_size e
 |xd fs=>obtain⟨_,⟨_,_,_,e,_⟩,_⟩:=x;exact Heap.lt_size e
 |rng lo hi=>obtain⟨_,_,_,e⟩:=x;exact Heap.lt_size e
 |frz ob u=>obtain⟨e,_⟩:=x;exact Heap.lt_size e
 |tbl ps=>exact Heap.lt_size (show h.get? a=some _ from x)
 |met f y=>exact Heap.lt_size (show h.get? a=some _ from x)
 |ext φ=>obtain⟨_,⟨_,e⟩,_⟩:=x;exact Heap.lt_size e
theorem hU.uM(x:hU P w H h a o)(k:∀ b u,(b=a \/ H b=some (.own a))->h.get? b=some u->h'.get? b=some u)
  (ho:∀ b,H b=some (.own a)->H' b=some (.own a)) (ht:∀ b xs,H b=some (.tup xs)->H' b=some (.tup xs)):hU P w H' h' a o:=by
 induction o with
 |lst xs=>obtain⟨z,its,n,r,e⟩:=x;exact⟨z,its,n,r,k _ _ (.inl rfl) e⟩
 |tup xs=>obtain⟨z,its,r,ob,e,c⟩:=x;exact⟨⟨z.1,z.2.keep e (k _ _ (.inl rfl) e)⟩,its,r,ob,k _ _ (.inl rfl) e,c⟩
 |dK kvs=>obtain⟨z,y,vs,r,ob,es,ep,e,c⟩:=x;exact⟨z,y,vs,r,ob,es,ep,k _ _ (.inl rfl) e,c⟩
 | dT kvs=>
   obtain⟨z,y,xs,r,ob,es,ep,e,c⟩:=x
   exact⟨z,y,xs,r,ob,es,ep,k _ _ (.inl rfl) e,c⟩
 |set S n=>obtain⟨ob,es,ep,t,e,c⟩:=x;exact⟨ob,es,ep,t,k _ _ (.inl rfl) e,c⟩
 | ins C dx fs=>
   obtain⟨d,z,ne,e,mA,⟨od,es,ep,e2,c⟩,r⟩:=x
   exact⟨ho _ d,z,ne,k _ _ (.inl rfl) e,mA,⟨od,es,ep,k _ _ (.inr d) e2,c⟩,r⟩
 |own y=>obtain⟨ob,e⟩:=x;exact⟨ob,k _ _ (.inl rfl) e⟩
 |xd fs=>obtain⟨mA,⟨od,es,ep,e,c⟩,r⟩:=x;exact⟨mA,⟨od,es,ep,k _ _ (.inl rfl) e,c⟩,r⟩
 |rng lo hi=>obtain⟨t,u,v,e⟩:=x;exact⟨t,u,v,k _ _ (.inl rfl) e⟩
 |frz ob u ih=>obtain⟨e,q⟩:=x;exact⟨k _ _ (.inl rfl) e,ih q⟩
 | tbl ps=>
   have e:h.get? a=some { cls:=.none,data:=.fields ps }:=x
   show h'.get? a=some { cls:=.none,data:=.fields ps }
   simp_all
 | met f y=>
   have e:h.get? a=some (PySem.W.methodObj (.ref f) (.ref y)):=x
   show h'.get? a=some (PySem.W.methodObj (.ref f) (.ref y))
   simp_all
 |ext φ=>obtain⟨p,⟨o,e⟩,st⟩:=x;exact⟨st _ _ p fun o q=>k _ _ (.inl rfl) q,⟨o,k _ _ (.inl rfl) e⟩,st⟩
theorem HOk.lt(x:HOk P w H h)(e:H a=some o):a<h.objs.size:=(x a o e).lt
theorem HOk.fresh(x:HOk P w H h)(e:h.objs.size<=a):H a=none:=by
 cases q:H a with
 |none=>rfl
 |some u=>exact absurd (Nat.lt_of_lt_of_le (x.lt q) e) (Nat.lt_irrefl _)
theorem HOk.kept(x:HOk P w H h)(k:∀ b u,h.get? b=some u->h'.get? b=some u):HOk P w H h':=fun a o e=>
 (x a o e).uM (fun b u _ q=>k b u q) (fun _ q=>q) fun _ _ q=>q
theorem HOk.laid(x:HOk P w H h)(k:∀ b u,h.get? b=some u->h'.get? b=some u)(hp:h.objs.size<=a)(new:hU P w (upd H a o) h' a o):HOk P w (upd H a o) h':=fun b u e=>by
 have hn:=x.fresh hp
 by_cases hb:b=a
 . subst hb;rw[bP]at e;cases e;exact new
 . rw[bH hb]at e
   exact(x b u e).uM (fun c v _ q=>k c v q) (fun c q=>by rw[bH (eN q hn)];exact q) fun c xs q=>by rw[bH (eN q hn)];exact q
end
noncomputable def Rd(H:Hp)(a:Addr)(u:HO):Prop:=H a=some u \/ ∃ o,H a=some (.frz o u)
theorem Rd.ok{P:Program}{w:World}{H:Hp}{h:Heap}{a:Addr}{u:HO}(r:Rd H a u)(x:HOk P w H h):hU P w H h a u:=by
 rcases r with r|⟨o,r⟩
 . exact x a u r
 . obtain⟨_,q⟩:=x a _ r;exact q
noncomputable def Mut:Option HO->Prop
 |some (.lst _)=>True
 |some (.dK _)=>True
 |some (.dT _)=>True
 |some (.set _ _)=>True
 |some (.ins _ _ _)=>True
 |some (.ext _)=>True
 |_=>False
section
variable{P:Program}{w:World}{H:Hp}{h h':Heap}{x e:Addr}{o':HO}
theorem HOk.write(ok:HOk P w H h)(mu:Mut (H x))(he:e=x \/ H e=some (.own x))(k:∀ b u,b≠e->h.get? b=some u->h'.get? b=some u)(heo:∃ u,h'.get? e=some u)
  (new:hU P w (upd H x o') h' x o'):HOk P w (upd H x o') h':=fun b u q=>by
 have nown:∀ c y,H c=some (.own y)->c≠x:=fun c y r z=>by subst z;rw[r]at mu;exact mu
 have ntup:∀ c xs,H c=some (.tup xs)->c≠x:=fun c xs r z=>by subst z;rw[r]at mu;exact mu
 by_cases hb:b=x
 . subst hb;rw[bP]at q;cases q;exact new
 . rw[bH hb]at q
   by_cases hbe:b=e
   . have q':H b = some (.own x):=by
      simp_all
     rw[q]at q';cases q';obtain⟨v,hv⟩:=heo
     exact⟨v,by rw[hbe];exact hv⟩
   . refine(ok b u q).uM (fun c v hc r=>k c v ?_ r) (fun c r=>by rw[bH (nown c b r)];exact r) fun c xs r=>by rw[bH (ntup c xs r)];exact r
     grind
end
structure Un(fs ex:List Addr)(H H':Hp)(h h':Heap):Prop where
 keep:∀ b o,h.get? b=some o->H b=none->b∉fs->b∉ex->h'.get? b=some o
 slot:∀ b o,h.get? b=some o->H b=none->b∈fs->b∉ex->∃ sl,h'.get? b=some { o with slots:=sl }
 free:∀ b o,h.get? b=some o->H b=none->b∉ex->H' b=none
 there:∀ b o,h.get? b=some o->b∉ex->∃ o',h'.get? b=some o'
 tups:∀ b xs,H b=some (.tup xs)->H' b=some (.tup xs)
 frzs:∀ b o u,H b=some (.frz o u)->H' b=some (.frz o u)
 tbls:∀ b ps,H b=some (.tbl ps)->∃ more,H' b=some (.tbl (ps++more))
section
variable{fs fs' ex ex':List Addr}{H H1 H2:Hp}{h h1 h2 h':Heap}{a x e:Addr}{o:HO}
theorem Un.any(u:Un fs ex H H1 h h1){b:Addr}{ob:Obj}(q:h.get? b=some ob)(n:H b=none)(hx:b∉ex):∃ sl,h1.get? b=some { ob with slots:=sl }:=by
 by_cases hb:b∈fs
 . exact u.slot b ob q n hb hx
 . exact⟨ob.slots,u.keep b ob q n hb hx⟩
theorem Un.kept(k:∀ b u,h.get? b=some u->h'.get? b=some u):Un fs ex H H h h':=
 ⟨fun b ob q _ _ _=>k b ob q,fun b ob q _ _ _=>⟨ob.slots,k b ob q⟩,fun _ _ _ n _=>n,fun b ob q _=>⟨ob,k b ob q⟩,fun _ _ q=>q,fun _ _ _ q=>q,fun _ ps q=>⟨#[],by rw[q];simp⟩⟩
theorem Un.refl:Un fs ex H H h h:=Un.kept fun _ _ q=>q
theorem Un.laid(k:∀ b u,h.get? b=some u->h'.get? b=some u)(hp:h.objs.size<=a)(hn:H a=none):Un fs ex H (upd H a o) h h' where
 keep:=fun b u q _ _ _=>k b u q
 slot:=fun b u q _ _ _=>⟨u.slots,k b u q⟩
 free:=fun b u q n _=>by rw[bH (Nat.ne_of_lt (Nat.lt_of_lt_of_le (Heap.lt_size q) hp))];exact n
 there:=fun b u q _=>⟨u,k b u q⟩
 tups:=fun b xs q=>by rw[bH (eN q hn)];exact q
 frzs:=fun b u xs q=>by rw[bH (eN q hn)];exact q
 tbls:=fun b ps q=>⟨#[],by rw[bH (eN q hn),q];simp⟩
theorem Un.write(mu:Mut (H x))(he:e=x \/ H e=some (.own x))(k:∀ b u,b≠e->h.get? b=some u->h'.get? b=some u)(heo:∃ u,h'.get? e=some u):Un fs ex H (upd H x o) h h':=by
 have hx:∀ b,H b=none->b≠x:=fun b n z=>by subst z;rw[n]at mu;exact mu
 have hb:∀ b,H b=none->b≠e:=fun b n z=>by
  simp_all
 have hm:∀ b u,H b=some u->¬ Mut (some u)->b≠x:=fun b u q nm z=>by subst z;rw[q]at mu;exact nm mu
 refine⟨fun b u q n _ _=>k b u (hb b n) q,fun b u q n _ _=>⟨u.slots,k b u (hb b n) q⟩,fun b u q n _=>by rw[bH (hx b n)];exact n,fun b u q _=>?_,
  fun b xs q=>by rw[bH (hm b _ q fun z=>z)];exact q,fun b u xs q=>by rw[bH (hm b _ q fun z=>z)];exact q,fun b ps q=>⟨#[],by rw[bH (hm b _ q fun z=>z),q];simp⟩⟩
 grind
end
noncomputable def trk(h:Heap)(H:Hp):List Addr:=(List.range h.objs.size).filter fun a=>(H a).isSome
noncomputable def yM(h:Heap)(H:Hp):Heap:=PySem.W.hideAll h (trk h H)
theorem Dj(h:Heap)(H:Hp):(yM h H).objs.size=h.objs.size:=PySem.W.hideAll_size _ _
theorem EH{h:Heap}{H:Hp}{b:Addr}{o:Obj}(e:h.get? b=some o)(n:H b=none):(yM h H).get? b=some o:=
 PySem.W.hideAll_get _ e fun hm=>by
  have q:(H b).isSome=true:=(List.mem_filter.mp hm).2
  simp_all
theorem Hh{h:Heap}{H:Hp}{b:Addr}{o:Obj}(e:(yM h H).get? b=some o):h.get? b=some o /\ H b=none:=by
 have e':=PySem.W.of_hideAll (trk h H) e
 refine⟨e',?_⟩
 cases q:H b with
 |none=>rfl
 | some x=>
   have hm:b∈trk h H:=List.mem_filter.mpr ⟨List.mem_range.mpr (Heap.lt_size e'),by simp[q]⟩
   have z:(yM h H).get? b=none:=PySem.W.hideAll_none (trk h H) hm
   simp_all
noncomputable def G4(g h:Heap)(L:Addr):List (Addr×Obj):=(List.range h.objs.size).filterMap fun a=>if a=L \/ (g.get? a).isSome=true then none else(h.get? a).map fun o=>(a,o)
noncomputable def rest(g h:Heap)(L d:Addr):List (Addr×Obj):=(G4 g h L).filter fun p=>decide (p.1≠d)
structure Mod(K:PySem.W.Frag)(mg:Str->Option Value)(base:Heap):Prop where
 kin:K.In base
 glob:base.Ns mainGlobals mg
 blt:∃ mb,base.Ns builtinsNs mb /\ ∀ x:Str,x ≠ "__name__" -> mb x=bootBuiltins x
 nolimit:base.NoLimit
structure Cx where
 prog:Program
 w:World
 K:PySem.W.Frag
 mg:Str->Option Value
 base:Heap
 A:Around
 N:List Str
 s₀:Shared
 H₀:Hp
 env:Env
 outer:List Env
 stack:List Env
 ex:List Addr
 fn:Str->Bool
 calm:Bool
 pn:List (Addr×Obj)
 xe:Value->Shared->Prop
noncomputable def frs(l:List Env):List Addr:=l.filterMap (·.frame)
noncomputable abbrev Cx.fs(X:Cx):List Addr:=frs X.outer
noncomputable def Vis(sc:Scope)(x:Str):Prop:=sc.names.lookup x=some .local \/ sc.names.lookup x=some .cell \/ sc.names.lookup x=some .free
noncomputable def Loc(sc:Scope)(x:Str):Prop:=sc.names.lookup x=some .local \/ sc.names.lookup x=some .cell
noncomputable def Look(env:Env)(h:Heap)(m:Str->Option Value)(x:Str)(u:Value):Prop:=
 (env.kindOf x=some .local /\ m x=some u) \/ ((env.kindOf x=some .cell \/ env.kindOf x=some .free) /\ ∃ c,env.cells.lookup x=some c /\ h.IsCell c (some u))
structure Cx.Ok(X:Cx):Prop where
 mod:Mod X.K X.mg X.base
 kind:X.env.scope.kind=.function
 glob:X.env.globals=mainGlobals
 blt:X.env.builtins=builtinsNs
 above:X.s₀.heap.objs.size<=X.env.locals
 inj:∀ x y c,X.env.cells.lookup x=some c->X.env.cells.lookup y=some c->x=y
 has:∀ x,(X.env.kindOf x=some .cell \/ X.env.kindOf x=some .free)->∃ c,X.env.cells.lookup x=some c
 cab:∀ x c,X.fn x=true->X.env.cells.lookup x=some c->X.s₀.heap.objs.size<=c
 hd:X.calm=true->X.A.handled=none
 frames:X.A.frames=some X.stack
 stk:X.stack=X.outer \/ (X.stack=X.env ::X.outer /\ X.env.frame=some X.env.locals)
 exf:∀ b∈X.ex,b≠X.env.locals /\ ∀ x c,X.env.cells.lookup x=some c->c≠b
 bs:∀ b o,X.base.get? b=some o->X.s₀.heap.get? b=some o /\ X.H₀ b=none
 bsz:X.base.objs.size<=X.s₀.heap.objs.size
 noex:∀ b o,X.base.get? b=some o->b∉X.ex
 exfs:∀ b∈X.ex,b∉X.fs
 wC:X.s₀.heap.FunFrames X.base X.outer
 frf:∀ b∈X.fs,X.H₀ b=none
structure Inv(X:Cx)(pins:List (Addr×Obj))(σ:List (Option V))(H:Hp)(s:Shared):Prop where
 ok:X.Ok
 os:s.os=X.s₀.os
 bare:AllBare s.gens
 base:Un X.fs X.ex X.H₀ H X.s₀.heap s.heap
 loc:∃ m,s.heap.Ns X.env.locals m /\ ∀(i:Nat) (x:Str) (v:V),X.N[i]?=some x->σ[i]?=some (some v)->Vis X.env.scope x->∃ u,RelV v u /\ Look X.env s.heap m x u
 cell:∀ x c,X.env.cells.lookup x=some c->∃ v,s.heap.IsCell c v
 free:H X.env.locals=none
 freeC:∀ x c,X.env.cells.lookup x=some c->H c=none
 pin:∀ p∈X.pn++pins,s.heap.get? p.1=some p.2 /\ H p.1=none /\ p.1≠X.env.locals /\ p.1∉X.fs /\ ∀ v,p.2.data≠.cell v
 hok:HOk X.prog X.w H s.heap
 len:σ.length=X.N.length
section
variable{X:Cx}{pins:List (Addr×Obj)}{σ:List (Option V)}{H H':Hp}{s:Shared}{h':Heap}
theorem Cx.Ok.Nz(ok:X.Ok){b:Addr}{o:Obj}(e:X.base.get? b=some o):b∉X.fs:=fun hb=>by
 have:=(ok.wC.mem hb).1
 simp_all
theorem Inv.bs(I:Inv X pins σ H s):∀ b o,X.base.get? b=some o->s.heap.get? b=some o /\ H b=none:=fun b o e=>
 ⟨I.base.keep b o (I.ok.bs b o e).1 (I.ok.bs b o e).2 (I.ok.Nz e) (I.ok.noex b o e),I.base.free b o (I.ok.bs b o e).1 (I.ok.bs b o e).2 (I.ok.noex b o e)⟩
theorem Inv.bk(I:Inv X pins σ H s):∀ b o,X.base.get? b=some o->s.heap.get? b=some o:=fun b o e=>(I.bs b o e).1
theorem Inv.mod(I:Inv X pins σ H s):Mod X.K X.mg X.base:=I.ok.mod
theorem Inv.kIn(I:Inv X pins σ H s):X.K.In s.heap:=I.ok.mod.kin.keeps I.bk
theorem Inv.nolimit(I:Inv X pins σ H s):s.heap.NoLimit:=I.ok.mod.nolimit.keeps I.bk
theorem Inv.lt(I:Inv X pins σ H s):X.env.locals<s.heap.objs.size:=let ⟨_,hn,_⟩:=I.loc;hn.lt
theorem Inv.sz(I:Inv X pins σ H s):X.s₀.heap.objs.size<=s.heap.objs.size:=Nat.le_trans I.ok.above (Nat.le_of_lt I.lt)
theorem Inv.NB(I:Inv X pins σ H s){a:Addr}(h:s.heap.objs.size<=a):a∉X.fs:=fun hb=>by
 obtain⟨_,o,ho,_⟩:=I.ok.wC.mem hb;exact absurd (Nat.lt_of_lt_of_le (Heap.lt_size ho) (Nat.le_trans I.sz h)) (Nat.lt_irrefl _)
theorem Inv.cne(I:Inv X pins σ H s):∀ x c,X.env.cells.lookup x=some c->c≠X.env.locals:=fun x c e z=>by
 obtain⟨v,o,ho,hd⟩:=I.cell x c e;obtain⟨m,⟨o',es,ep,ho',hd',_⟩,_⟩:=I.loc
 simp_all
theorem Inv.wC(I:Inv X pins σ H s):s.heap.FunFrames X.base X.outer:=by
 have all:∀(l:List Env),(∀ b∈frs l,b∈X.fs)->X.s₀.heap.FunFrames X.base l->s.heap.FunFrames X.base l:=by
  intro l
  induction l with
  |nil=>intro _ _;trivial
  | cons env r ih=>
    intro hs hl;obtain⟨hk,⟨L,o,hf,hn,ho,hd⟩,hr⟩:=hl;have hL:=hs L (by unfold frs;rw[List.filterMap_cons,hf];exact List.mem_cons_self)
    obtain⟨sl,e⟩:=I.base.slot L o ho (I.ok.frf L hL) hL fun z=>I.ok.exfs L z hL
    exact⟨hk,⟨L,_,hf,hn,e,hd⟩,ih (fun b hb=>hs b (by unfold frs;rw[List.filterMap_cons,hf];exact List.mem_cons_of_mem _ hb)) hr⟩
 exact all X.outer (fun _ hb=>hb) I.ok.wC
theorem Inv.stack(I:Inv X pins σ H s):s.heap.FunFrames X.base X.stack:=by
 rcases I.ok.stk with e|⟨e,hf⟩
 . rw[e];exact I.wC
 . rw[e];obtain⟨m,hn,_⟩:=I.loc;refine .cons (by rw[I.ok.kind];decide) hf hn ?_ I.wC;exact Heap.get?_none_of_le (Nat.le_trans I.ok.bsz I.ok.above)
theorem Inv.Br(I:Inv X pins σ H s):∀ b∈frs X.stack,b∈X.env.locals ::X.fs:=fun b hb=>by
 rcases I.ok.stk with e|⟨e,hf⟩
 . simp_all
 . rw[e]at hb;unfold frs at hb;rw[List.filterMap_cons,hf]at hb;exact hb
theorem Inv.xU(I:Inv X pins σ H s):∀ b∈frs X.stack,H b=none:=fun b hb=>by
 rcases List.mem_cons.mp (I.Br b hb)with e|hb
 . rw[e];exact I.free
 . obtain⟨_,o,ho,_⟩:=I.ok.wC.mem hb
   exact I.base.free b o ho (I.ok.frf b hb) fun z=>I.ok.exfs b z hb
theorem Inv.step{g':Array GenState}{t':Nat}{d':Drawn}{ch:List Addr}(I:Inv X pins σ H s)
  (hch:∀ b∈ch,(b∈X.ex \/ X.s₀.heap.objs.size<=b) /\ b≠X.env.locals /\ (∀ x c,X.env.cells.lookup x=some c->c≠b) /\ ∀ p∈X.pn++pins,p.1≠b)
  (keep:∀ b o,b≠X.env.locals->b∉X.fs->b∉ch->s.heap.get? b=some o->H b=none->h'.get? b=some o)
  (slot:∀ b o,b≠X.env.locals->b∈X.fs->b∉ch->s.heap.get? b=some o->H b=none->∃ sl,h'.get? b=some { o with slots:=sl }) (free:∀ b o,b∉ch->s.heap.get? b=some o->H b=none->H' b=none)
  (there:∀ b o,b∉ch->s.heap.get? b=some o->∃ o',h'.get? b=some o')
  (tups:∀ b xs,H b=some (.tup xs)->H' b=some (.tup xs)) (frzs:∀ b o u,H b=some (.frz o u)->H' b=some (.frz o u)) (tbls:∀ b ps,H b=some (.tbl ps)->∃ more,H' b=some (.tbl (ps++more)))
  (ns:∀ m,s.heap.Ns X.env.locals m->h'.Ns X.env.locals m) (hok:HOk X.prog X.w H' h') (hg:AllBare g'):
  Inv X pins σ H' { s with heap:=h',gens:=g',drawn:=d',toks:=t' }:=by
 have neL:∀ b o,X.s₀.heap.get? b=some o->b≠X.env.locals:=fun b o e=>Nat.ne_of_lt (Nat.lt_of_lt_of_le (Heap.lt_size e) I.ok.above)
 have neC:∀ b o,X.s₀.heap.get? b=some o->b∉X.ex->b∉ch:=fun b o e hx hb=>by
  rcases(hch b hb).1 with z|z
  . simp_all
  . exact absurd (Nat.lt_of_lt_of_le (Heap.lt_size e) z) (Nat.lt_irrefl _)
 have cellK:∀ x c,X.env.cells.lookup x=some c->∀ v,s.heap.IsCell c v->h'.IsCell c v:=fun x c e v ⟨o,ho,hd⟩=>by
  have nch:c∉ch:=fun z=>(hch c z).2.2.1 x c e rfl
  by_cases hc:c∈X.fs
  . obtain⟨sl,q⟩:=slot c o (I.cne x c e) hc nch ho (I.freeC x c e)
    exact⟨_,q,hd⟩
  . exact⟨o,keep c o (I.cne x c e) hc nch ho (I.freeC x c e),hd⟩
 refine⟨I.ok,I.os,hg,⟨fun b o e n hb hx=>?_,fun b o e n hb hx=>?_,fun b o e n hx=>?_,fun b o e hx=>?_,fun b xs e=>tups b xs (I.base.tups b xs e),fun b o xs e=>frzs b o xs (I.base.frzs b o xs e),fun b ps e=>?_⟩,?_,fun x c e=>?_,?_,fun x c e=>?_,fun p hp=>?_,hok,I.len⟩
 . exact keep b o (neL b o e) hb (neC b o e hx) (I.base.keep b o e n hb hx) (I.base.free b o e n hx)
 . obtain⟨sl,e1⟩:=I.base.slot b o e n hb hx;obtain⟨sl',e2⟩:=slot b _ (neL b o e) hb (neC b o e hx) e1 (I.base.free b o e n hx)
   simp_all
 . obtain⟨o',e1⟩:=I.base.there b o e hx;exact free b o' (neC b o e hx) e1 (I.base.free b o e n hx)
 . obtain⟨o',e1⟩:=I.base.there b o e hx
   simp_all
 . obtain⟨m1,e1⟩:=I.base.tbls b ps e
   grind
 . obtain⟨m,hn,hl⟩:=I.loc
   refine⟨m,ns m hn,fun i x v e1 e2 e3=>?_⟩
   obtain⟨u,r,l⟩:=hl i x v e1 e2 e3
   refine⟨u,r,?_⟩
   rcases l with l|⟨k,c,e,z⟩
   . exact .inl l
   . exact .inr ⟨k,c,e,cellK x c e _ z⟩
 . obtain⟨v,z⟩:=I.cell x c e
   grind
 . obtain⟨m,⟨o,_,_,ho,_⟩,_⟩:=I.loc;exact free _ o (fun z=>(hch _ z).2.1 rfl) ho I.free
 . obtain⟨v,o,ho,hd⟩:=I.cell x c e;exact free c o (fun z=>(hch c z).2.2.1 x c e rfl) ho (I.freeC x c e)
 . obtain⟨e,n,ne,nf,d⟩:=I.pin p hp
   grind
theorem Inv.un{t':Nat}(I:Inv X pins σ H s)(u:Un X.fs [] H H' s.heap h')(hok:HOk X.prog X.w H' h'):Inv X pins σ H' { s with heap:=h',toks:=t' }:=by
 obtain⟨m,⟨o,es,ep,ho,r⟩,_⟩:=id I.loc;obtain⟨sl,hL⟩:=u.any ho I.free (by simp)
 exact I.step (g':=s.gens) (d':=s.drawn) (ch:=[]) (fun _ z=>nomatch z) (fun b o _ hb _ e n=>u.keep b o e n hb (by simp)) (fun b o _ hb _ e n=>u.slot b o e n hb (by simp)) (fun b o _ e n=>u.free b o e n (by simp)) (fun b o _ e=>u.there b o e (by simp)) u.tups u.frzs u.tbls (fun m' hm=>by
  obtain⟨o',es',ep',ho',r'⟩:=hm;rw[ho]at ho';cases ho'
  exact⟨_,es',ep',hL,r'⟩) hok I.bare
theorem Inv.call{g':Array GenState}{t':Nat}{d':Drawn}{ch:List Addr}(I:Inv X pins σ H s)(u:Un (frs X.stack) ch H H' s.heap h')(hok:HOk X.prog X.w H' h')(hg:AllBare g')
  (hch:∀ b∈ch,(b∈X.ex \/ X.s₀.heap.objs.size<=b) /\ b≠X.env.locals /\ (∀ x c,X.env.cells.lookup x=some c->c≠b) /\ ∀ p∈X.pn++pins,p.1≠b):
  Inv X pins σ H' { s with heap:=h',gens:=g',drawn:=d',toks:=t' }:=by
 obtain⟨m,⟨o,es,ep,ho,r⟩,_⟩:=id I.loc
 obtain⟨sl,hL⟩:=u.any ho I.free fun z=>(hch _ z).2.1 rfl
 exact I.step hch (fun b o hL hb hc e n=>u.keep b o e n (fun z=>(List.mem_cons.mp (I.Br b z)).elim hL hb) hc) (fun b o _ _ hc e n=>u.any e n hc) (fun b o hc e n=>u.free b o e n hc) (fun b o hc e=>u.there b o e hc) u.tups u.frzs u.tbls (fun m' hm=>by
  obtain⟨o',es',ep',ho',r'⟩:=hm;rw[ho]at ho';cases ho'
  exact⟨_,es',ep',hL,r'⟩) hok hg
theorem Inv.turned{t':Nat}{it:Addr}(I:Inv X pins σ H s)(k:∀ b o,b≠it->s.heap.get? b=some o->h'.get? b=some o)(hn:H it=none)(hL:it≠X.env.locals)
  (h1:it∈X.ex \/ X.s₀.heap.objs.size<=it) (h2:∀ x c,X.env.cells.lookup x=some c->c≠it) (h3:∀ p∈X.pn++pins,p.1≠it):Inv X pins σ H { s with heap:=h',toks:=t' }:=by
 refine I.step (g':=s.gens) (d':=s.drawn) (ch:=[it]) (fun b hb=>?_) (fun b o _ _ hc e _=>k b o (fun z=>hc (by simp[z])) e) (fun b o _ _ hc e _=>⟨o.slots,k b o (fun z=>hc (by simp[z])) e⟩) (fun _ _ _ _ n=>n)
  (fun b o hc e=>⟨o,k b o (fun z=>hc (by simp[z])) e⟩) (fun _ _ e=>e) (fun _ _ _ e=>e) (fun b ps e=>⟨#[],by rw[e];simp⟩) (fun m hm=>?_) (fun b u e=>?_) I.bare
 . grind
 . obtain⟨o,es,ep,ho,r⟩:=hm
   exact⟨o,es,ep,k _ o (Ne.symm hL) ho,r⟩
 . refine(I.hok b u e).uM (fun c v hc q=>k c v ?_ q) (fun _ q=>q) fun _ _ q=>q
   grind
theorem Inv.tok(I:Inv X pins σ H s)(t:Nat):Inv X pins σ H { s with toks:=t }:=I.un (h':=s.heap) (t':=t) Un.refl I.hok
theorem Inv.kept{t':Nat}(I:Inv X pins σ H s)(k:∀ b u,s.heap.get? b=some u->h'.get? b=some u):Inv X pins σ H { s with heap:=h',toks:=t' }:=I.un (Un.kept k) (I.hok.kept k)
theorem Inv.laid{a:Addr}{o:HO}{t':Nat}(I:Inv X pins σ H s)(k:∀ b u,s.heap.get? b=some u->h'.get? b=some u)(hp:s.heap.objs.size<=a)(new:hU X.prog X.w (upd H a o) h' a o):
  Inv X pins σ (upd H a o) { s with heap:=h',toks:=t' }:=I.un (Un.laid k hp (I.hok.fresh hp)) (I.hok.laid k hp new)
theorem Inv.write{x e:Addr}{o:HO}{t':Nat}(I:Inv X pins σ H s)(mu:Mut (H x))(he:e=x \/ H e=some (.own x))(k:∀ b u,b≠e->s.heap.get? b=some u->h'.get? b=some u)(heo:∃ u,h'.get? e=some u)
  (new:hU X.prog X.w (upd H x o) h' x o):Inv X pins σ (upd H x o) { s with heap:=h',toks:=t' }:=I.un (Un.write mu he k heo) (I.hok.write mu he k heo new)
theorem Inv.BI{pins':List (Addr×Obj)}(I:Inv X pins σ H s)(h:∀ p∈pins',s.heap.get? p.1=some p.2 /\ H p.1=none /\ p.1≠X.env.locals /\ p.1∉X.fs /\ ∀ v,p.2.data≠.cell v):Inv X pins' σ H s:=
 ⟨I.ok,I.os,I.bare,I.base,I.loc,I.cell,I.free,I.freeC,fun p hp=>(List.mem_append.mp hp).elim (fun z=>I.pin p (List.mem_append_left _ z)) (h p),I.hok,I.len⟩
theorem zw{N:List Str}(hN:N.Nodup){i j:Nat}{x:Str}(a:N[i]?=some x)(b:N[j]?=some x):i=j:=by
 obtain⟨h1,e1⟩:=List.getElem?_eq_some_iff.mp a;obtain⟨h2,e2⟩:=List.getElem?_eq_some_iff.mp b
 exact(List.getElem_inj hN).mp (e1.trans e2.symm)
theorem Du{M:Model}{A:Around}{E:Value->Shared->Prop}{i:Nat}{x:Str}{v:V}{u:Value}{Q:Unit->Shared->Prop}(I:Inv X pins σ H s)(hN:X.N.Nodup)(hi:X.N[i]?=some x)(hx:Loc X.env.scope x)(r:RelV v u)
  (h:∀ s',Inv X pins (σ.set i (some v)) H s'->(∃ a,Heap.SameBut a s.heap s'.heap /\ (a=X.env.locals \/ X.env.cells.lookup x=some a))->Q () s') (hf:X.fn x=true \/ X.env.scope.names.lookup x=some .local:=by first|exact .inl rfl|exact .inr rfl|assumption):wpAny M A (storeName X.env x u) Q E s:=by
 obtain⟨m,hn,hl⟩:=id I.loc
 have hcls:(X.env.scope.kind == .class||(X.env.scope.kind == .module&&X.env.locals != X.env.globals))=false:=by rw[I.ok.kind];rfl
 have hiσ:i<σ.length:=by rw[I.len];exact(List.getElem?_eq_some_iff.mp hi).1
 have cne:=I.cne
 have tracked:∀{a:Addr} {h':Heap},(∃ o,s.heap.get? a=some o /\ H a=none)->Heap.SameBut a s.heap h'->HOk X.prog X.w H h':=fun {a h'} ha hs b ob e=>by
  obtain⟨_,_,hfree⟩:=ha
  refine(I.hok b ob e).uM (fun c w' hc q=>(hs.2 c ?_).trans q) (fun _ q=>q) fun _ _ q=>q
  grind
 rcases hx with hk|hk
 . refine wpAny_storeName_local hk hn (fun h' hn' hs=>?_) hcls;obtain⟨oL,_,_,hoL,_⟩:=id hn;refine h _ ⟨I.ok,I.os,I.bare,⟨fun b o e n hb hx=>?_,fun b o e n hb hx=>?_,I.base.free,fun b o e hx=>?_,I.base.tups,I.base.frzs,I.base.tbls⟩,⟨_,hn',fun j y v' e1 e2 e3=>?_⟩,fun y c e=>?_,I.free,I.freeC,fun p hp=>?_,tracked ⟨oL,hoL,I.free⟩ hs,by simpa using I.len⟩ ⟨_,hs,.inl rfl⟩
   . exact(hs.2 b (Nat.ne_of_lt (Nat.lt_of_lt_of_le (Heap.lt_size e) I.ok.above))).trans (I.base.keep b o e n hb hx)
   . obtain⟨sl,e1⟩:=I.base.slot b o e n hb hx
     exact⟨sl,(hs.2 b (Nat.ne_of_lt (Nat.lt_of_lt_of_le (Heap.lt_size e) I.ok.above))).trans e1⟩
   . obtain⟨o',e1⟩:=I.base.there b o e hx
     exact⟨o',(hs.2 b (Nat.ne_of_lt (Nat.lt_of_lt_of_le (Heap.lt_size e) I.ok.above))).trans e1⟩
   . by_cases hj:j=i
     . subst hj;rw[hi]at e1;cases e1;rw[List.getElem?_set_self hiσ]at e2;cases e2
       exact⟨u,r,.inl ⟨hk,by simp⟩⟩
     . rw[List.getElem?_set_ne (Ne.symm hj)]at e2;obtain⟨u',r',q⟩:=hl j y v' e1 e2 e3
       refine⟨u',r',?_⟩
       rcases q with⟨k,e⟩|⟨k,c,e,z⟩
       . refine .inl ⟨k,?_⟩
         have:y≠x:=fun e=>hj (zw hN e1 (e ▸ hi))
         simp[this,e]
       . exact .inr ⟨k,c,e,z.sameBut hs (cne y c e)⟩
   . obtain⟨w',z⟩:=I.cell y c e
     exact⟨w',z.sameBut hs (cne y c e)⟩
   . obtain⟨e,n,ne,nf,d⟩:=I.pin p hp
     exact⟨(hs.2 p.1 ne).trans e,n,ne,nf,d⟩
 . have hfn:X.fn x = true:=by
    simp_all
   obtain⟨c,hc⟩:=I.ok.has x (.inl hk);obtain⟨w',z⟩:=I.cell x c hc;refine wpAny_storeName_cell I.ok.kind hk hc z (fun h' hc' hs=>?_);obtain⟨oc,hoc,hocd⟩:=id z;refine h { s with heap:=h' } ⟨I.ok,I.os,I.bare,⟨fun b o e n hb hx=>?_,fun b o e n hb hx=>?_,I.base.free,fun b o e hx=>?_,I.base.tups,I.base.frzs,I.base.tbls⟩,⟨m,hn.sameBut hs (Ne.symm (cne x c hc)),fun j y v' e1 e2 e3=>?_⟩,fun y c' e=>?_,I.free,I.freeC,fun p hp=>?_,tracked ⟨oc,hoc,I.freeC x c hc⟩ hs,by simpa using I.len⟩ ⟨c,hs,.inr hc⟩
   . exact(hs.2 b (Nat.ne_of_lt (Nat.lt_of_lt_of_le (Heap.lt_size e) (I.ok.cab x c hfn hc)))).trans (I.base.keep b o e n hb hx)
   . obtain⟨sl,e1⟩:=I.base.slot b o e n hb hx
     exact⟨sl,(hs.2 b (Nat.ne_of_lt (Nat.lt_of_lt_of_le (Heap.lt_size e) (I.ok.cab x c hfn hc)))).trans e1⟩
   . obtain⟨o',e1⟩:=I.base.there b o e hx
     exact⟨o',(hs.2 b (Nat.ne_of_lt (Nat.lt_of_lt_of_le (Heap.lt_size e) (I.ok.cab x c hfn hc)))).trans e1⟩
   . by_cases hj:j=i
     . subst hj;rw[hi]at e1;cases e1;rw[List.getElem?_set_self hiσ]at e2;cases e2
       exact⟨u,r,.inr ⟨.inl hk,c,hc,hc'⟩⟩
     . rw[List.getElem?_set_ne (Ne.symm hj)]at e2;obtain⟨u',r',q⟩:=hl j y v' e1 e2 e3
       refine⟨u',r',?_⟩
       rcases q with q|⟨k,c',e,z'⟩
       . exact .inl q
       . refine .inr ⟨k,c',e,z'.sameBut hs ?_⟩
         rintro rfl
         exact hj (zw hN e1 (I.ok.inj _ _ _ e hc ▸ hi))
   . by_cases hcc:c'=c
     . grind
     . obtain⟨w2,z2⟩:=I.cell y c' e
       exact⟨w2,z2.sameBut hs hcc⟩
   . obtain⟨e,n,ne,nf,d⟩:=I.pin p hp
     refine⟨(hs.2 p.1 ?_).trans e,n,ne,nf,d⟩
     grind
theorem kd{M:Model}{A:Around}{E:Value->Shared->Prop}{i:Nat}{x:Str}{v:V}{u:Value}{Q:Unit->Shared->Prop}(I:Inv X pins σ H s)(hN:X.N.Nodup)(hi:X.N[i]?=some x)(hx:Loc X.env.scope x)(r:RelV v u)
  (h:∀ s',Inv X pins (σ.set i (some v)) H s'->Q () s') (hf:X.fn x=true \/ X.env.scope.names.lookup x=some .local:=by first|exact .inl rfl|exact .inr rfl|assumption):wpAny M A (storeName X.env x u) Q E s:=
 Du I hN hi hx r (fun s' I' _=>h s' I') hf
theorem Inv.Iu{s':Shared}{ch:List Addr}(I:Inv X pins σ H s)(ho:s'.os=s.os)(u:Un (frs X.stack) ch H H' s.heap s'.heap)(hok:HOk X.prog X.w H' s'.heap)(hg:AllBare s'.gens)
  (hch:∀ b∈ch,(b∈X.ex \/ X.s₀.heap.objs.size<=b) /\ b≠X.env.locals /\ (∀ x c,X.env.cells.lookup x=some c->c≠b) /\ ∀ p∈X.pn++pins,p.1≠b):Inv X pins σ H' s':=by
 obtain⟨h',g',d',t',o'⟩:=s';have e:=ho;subst e;exact I.call (g':=g') (t':=t') (d':=d') u hok hg hch
end
abbrev XK:=Value->Option Addr->Hp->Prop
abbrev St:=List (Option V)
abbrev VK:=V->Hp->Prop
abbrev TE:=St->Hp->VK->Prop
abbrev TT:=St->Hp->(Bool->Hp->Prop)->Prop
abbrev TA:=St->Hp->(List V->Hp->Prop)->Prop
structure Ends where
 nx:St->Hp->Prop
 rt:VK
 bk:St->Hp->Prop:=fun _ _=>False
 ct:St->Hp->Prop:=fun _ _=>False
abbrev TS:=Ends->St->Hp->Prop
noncomputable def EP(X:Cx)(pins:List (Addr×Obj))(σ:St)(Q:VK)(u:Value)(s':Shared):Prop:=∃ v H',Inv X pins σ H' s' /\ RelV v u /\ Q v H'
noncomputable def TP(X:Cx)(pins:List (Addr×Obj))(σ:St)(Q:Bool->Hp->Prop)(b:Bool)(s':Shared):Prop:=∃ H',Inv X pins σ H' s' /\ Q b H'
noncomputable def AP(X:Cx)(pins:List (Addr×Obj))(σ:St)(Q:List V->Hp->Prop)(us:List Value)(s':Shared):Prop:=∃ vs H',Inv X pins σ H' s' /\ Vals vs us /\ Q vs H'
noncomputable def SP(X:Cx)(pins:List (Addr×Obj))(D:Ends)(f:Flow)(s':Shared):Prop:=
 match f with
 |.next=>∃ σ' H',Inv X pins σ' H' s' /\ D.nx σ' H'
 |.brk=>∃ σ' H',Inv X pins σ' H' s' /\ D.bk σ' H'
 |.cont=>∃ σ' H',Inv X pins σ' H' s' /\ D.ct σ' H'
 |.ret u=>∃ v σ' H',Inv X pins σ' H' s' /\ RelV v u /\ D.rt v H'
noncomputable def PE(X:Cx)(e:Expr)(t:TE):Prop:=
 ∀(pins:List (Addr×Obj)) (s:Shared) (σ:St) (H:Hp) (Q:VK),Inv X pins σ H s->t σ H Q->wpAny (model X.prog X.w) X.A (eval e X.env) (EP X pins σ Q) X.xe s
noncomputable def PT(X:Cx)(e:Expr)(t:TT):Prop:=
 ∀(pins:List (Addr×Obj)) (s:Shared) (σ:St) (H:Hp) (Q:Bool->Hp->Prop),Inv X pins σ H s->t σ H Q->wpAny (model X.prog X.w) X.A (isTrue e X.env (eval e X.env)) (TP X pins σ Q) X.xe s
noncomputable def PW(X:Cx)(e:Expr)(t:TT):Prop:=
 ∀(whole:Sem Value) (pins:List (Addr×Obj)) (s:Shared) (σ:St) (H:Hp) (Q:Bool->Hp->Prop),Inv X pins σ H s->t σ H Q->wpAny (model X.prog X.w) X.A (isTrue e X.env whole) (TP X pins σ Q) X.xe s
theorem PW.pt{X:Cx}{e:Expr}{t:TT}(h:PW X e t):PT X e t:=h _
noncomputable def PA(X:Cx)(es:List Expr)(t:TA):Prop:=
 ∀(pos:Pos) (pins:List (Addr×Obj)) (s:Shared) (σ:St) (H:Hp) (Q:List V->Hp->Prop),Inv X pins σ H s->t σ H Q->wpAny (model X.prog X.w) X.A (spliced (backTo pos (starEach es X.env))) (AP X pins σ Q) X.xe s
noncomputable def PS(X:Cx)(st:Stmt)(t:TS):Prop:=
 ∀(pins:List (Addr×Obj)) (s:Shared) (σ:St) (H:Hp) (D:Ends),Inv X pins σ H s->t D σ H->wpAny (model X.prog X.w) X.A (exec st X.env) (SP X pins D) X.xe s
noncomputable def PSs(X:Cx)(st:List Stmt)(t:TS):Prop:=
 ∀(pins:List (Addr×Obj)) (s:Shared) (σ:St) (H:Hp) (D:Ends),Inv X pins σ H s->t D σ H->wpAny (model X.prog X.w) X.A (execs st X.env) (SP X pins D) X.xe s
theorem thn{α:Type}{t:Sem α}{Q Q':α->Shared->Prop}{M:Model}{A:Around}{E:Value->Shared->Prop}{s:Shared}(h:wpAny M A t Q E s)(hQ:∀ a s,Q a s->Q' a s):wpAny M A t Q' E s:=wpAny_mono h hQ fun _ _ x=>x
section
variable{X:Cx}
theorem bin{a b:Expr}{ta tb:TE}(ha:PE X a ta)(hb:PE X b tb){pins:List (Addr×Obj)}{s:Shared}{σ:St}{H:Hp}{R:V->V->Hp->Prop}(I:Inv X pins σ H s)(h:ta σ H fun x H1=>tb σ H1 fun y H2=>R x y H2)
  {α:Type} {Q:α->Shared->Prop} {f:Value->Value->Sem α}
  (hf:∀ v u s2 x y H2,Inv X pins σ H2 s2->RelV x v->RelV y u->R x y H2->wpAny (model X.prog X.w) X.A (f v u) Q X.xe s2):
  wpAny (model X.prog X.w) X.A (eval a X.env) (fun v s₁=>wpAny (model X.prog X.w) X.A (eval b X.env) (fun u s₂=>wpAny (model X.prog X.w) X.A (f v u) Q X.xe s₂) X.xe s₁) X.xe s:=by
 refine thn (ha pins s σ H _ I h) fun v s1 ⟨x,H1,I1,r1,q1⟩=>?_
 refine thn (hb pins s1 σ H1 _ I1 q1) fun u s2 ⟨y,H2,I2,r2,q2⟩=>?_
 exact hf v u s2 x y H2 I2 r1 r2 q2
noncomputable def Aj(i:Nat):TE:=fun σ H Q=>∃ v,σ[i]?=some (some v) /\ Q v H
noncomputable def tC(v:V):TE:=fun _ H Q=>Q v H
theorem K4{i:Nat}{x:Str}{pos:Pos}(hN:X.N[i]?=some x)(hv:Vis X.env.scope x)(hd:(x==("__debug__":Str))=false:=by decide)(hcd:(x==("__classdict__":Str))=false:=by decide):PE X (.Name x pos) (Aj i):=by
 intro pins s σ H Q I h;obtain⟨v,e,h⟩:=h;obtain⟨m,hn,hl⟩:=I.loc;obtain⟨u,r,l⟩:=hl i x v hN e hv
 have fin:EP X pins σ Q u s:=⟨v,H,I,r,h⟩
 rcases l with⟨hk,hm⟩|⟨hk,c,hc,hcell⟩
 . exact wpAny_Name (wpAny_loadName_local I.ok.kind hk hn hm fin) hd
 . rcases hk with hk|hk
   . exact wpAny_Name (wpAny_loadName_cell I.ok.kind hk hc hcell fin) hd
   . exact wpAny_Name (wpAny_loadName_free I.ok.kind hk hc hcell fin hcd) hd
theorem Jy{i j pos}:PE X (.Constant (.int i) j pos) (tC (.int i)):=fun _ _ _ H _ I h=>wpAny_Constant_int ⟨.int i,H,I.tok _,⟨_,rfl⟩,h⟩
theorem Md{b j pos}:PE X (.Constant (.bool b) j pos) (tC (.bl b)):=fun _ _ _ H _ I h=>Constant_bool ⟨.bl b,H,I,rfl,h⟩
theorem La{j pos}:PE X (.Constant .none j pos) (tC .non):=fun _ _ _ H _ I h=>Constant_none ⟨.non,H,I,rfl,h⟩
theorem Lg{x j pos}:PE X (.Constant (.str x) j pos) (tC (.str x)):=fun _ _ _ H _ I h=>Calls.Constant_str ⟨.str x,H,I.tok _,⟨_,rfl⟩,h⟩
noncomputable def Gl(X:Cx)(x:Str):Prop:=X.env.kindOf x=some .globalImplicit
theorem uV{E:Value->Shared->Prop}{pins:List (Addr×Obj)}{s:Shared}{σ:St}{H:Hp}{x:Str}{u:Value}{pos:Pos}{Q:Value->Shared->Prop}(I:Inv X pins σ H s)(hg:Gl X x)(hm:X.mg x=some u)(h:Q u s)
  (hd:(x==("__debug__":Str))=false:=by decide):wpAny (model X.prog X.w) X.A (eval (.Name x pos) X.env) Q E s:=
 Calls.Name_function_global I.ok.kind hg (Calls.loadGlobal_global (by rw[I.ok.glob];exact I.mod.glob.keeps I.bk) hm h) hd
theorem wa{E:Value->Shared->Prop}{pins:List (Addr×Obj)}{s:Shared}{σ:St}{H:Hp}{x:Str}{u:Value}{pos:Pos}{Q:Value->Shared->Prop}(I:Inv X pins σ H s)(hg:Gl X x)(hm:X.mg x=none)(hv:bootBuiltins x=some u)(h:Q u s)
  (hn:x ≠ "__name__":=by decide) (hd:(x==("__debug__":Str))=false:=by decide):wpAny (model X.prog X.w) X.A (eval (.Name x pos) X.env) Q E s:=by
 obtain⟨mb,h1,h2⟩:=I.mod.blt;exact Calls.Name_function_global I.ok.kind hg (Calls.loadGlobal_builtin (by rw[I.ok.glob];exact I.mod.glob.keeps I.bk) hm (by rw[I.ok.blt];exact h1.keeps I.bk) ((h2 x hn).trans hv) h) hd
theorem HG{x:Str}{v:V}{u:Value}{pos:Pos}(hg:Gl X x)(hm:X.mg x=some u)(r:RelV v u)(hd:(x==("__debug__":Str))=false:=by decide):PE X (.Name x pos) (tC v):=
 fun _ _ _ H _ I h=>uV I hg hm ⟨v,H,I,r,h⟩ hd
theorem Gx{x:Str}{v:V}{u:Value}{pos:Pos}(hg:Gl X x)(hm:X.mg x=none)(hv:bootBuiltins x=some u)(r:RelV v u)(hn:x ≠ "__name__":=by decide)(hd:(x==("__debug__":Str))=false:=by decide):PE X (.Name x pos) (tC v):=
 fun _ _ _ H _ I h=>wa I hg hm hv ⟨v,H,I,r,h⟩ hn hd
variable{a b:Expr}{ta tb:TE}{pos:Pos}
noncomputable def PC(X:Cx)(op:CmpOp)(a b:Expr)(t:TE):Prop:=
 ∀(pins:List (Addr×Obj)) (s:Shared) (σ:St) (H:Hp) (Q:VK),Inv X pins σ H s->t σ H Q ->
   wpAny (model X.prog X.w) X.A (eval a X.env) (fun v s₁=>wpAny (model X.prog X.w) X.A (eval b X.env) (fun u s₂=>wpAny (model X.prog X.w) X.A (compareOp op v u) (EP X pins σ Q) X.xe s₂) X.xe s₁) X.xe s
theorem An(b:Expr){op:CmpOp}(h:op≠.In)(h2:op≠.NotIn):behindInMarks op b=false:=by
 have e1:(op==CmpOp.In)=false:=by cases op<;>first|rfl|exact absurd rfl h
 have e2:(op==CmpOp.NotIn)=false:=by cases op<;>first|rfl|exact absurd rfl h2
 cases b<;>simp[behindInMarks,e1,e2]
noncomputable def tB(t:TE):TT:=fun σ H Q=>t σ H fun x H1=>∃ c,x=.bl c /\ Q c H1
theorem JJ{op:CmpOp}{t:TE}(h:PC X op a b t)(h1:behindInMarks op b=false:=by first|exact An _ (by decide) (by decide)|rfl):PT X (.Compare a [op] [b] pos) (tB t):=by
 intro pins s σ H Q I hw;refine wpAny_isTrue_Compare1 (thn (h pins s σ H _ I hw) fun v s1 h1=>thn h1 fun u s2 h2=>thn h2 fun c s3 ⟨x,H1,I1,r1,q1⟩=>?_) h1;obtain⟨d,rfl,q⟩:=q1;cases r1;exact wpAny_truthy_bool ⟨H1,I1,q⟩
variable{tA tB':TT}{rest:List Expr}
noncomputable def KQ(t u:TT):TT:=fun σ H Q=>t σ H fun c H1=>if c=true then u σ H1 Q else Q false H1
noncomputable def tOr(t u:TT):TT:=fun σ H Q=>t σ H fun c H1=>if c=true then Q true H1 else u σ H1 Q
noncomputable def Ih(t:TT):TT:=fun σ H Q=>t σ H fun c H1=>Q (!c) H1
theorem GB(ha:PT X a tA):PW X (.BoolOp .And [a] pos) tA:=by
 intro wh pins s σ H Q I h;refine isTrue_and (thn (ha pins s σ H Q I h) fun c s1 e=>?_)
 cases c with
 |true=>exact isTrue_and_nil e
 |false=>exact e
theorem Ju(ha:PT X a tA):PW X (.BoolOp .Or [a] pos) tA:=by
 intro wh pins s σ H Q I h;refine isTrue_or (thn (ha pins s σ H Q I h) fun c s1 e=>?_)
 cases c with
 |false=>exact isTrue_or_nil e
 |true=>exact e
theorem KJ(ha:PT X a tA)(hb:PW X (.BoolOp .And (b ::rest) pos) tB'):PW X (.BoolOp .And (a ::b ::rest) pos) (KQ tA tB'):=by
 intro wh pins s σ H Q I h;refine isTrue_and (thn (ha pins s σ H _ I h) fun c s1 ⟨H1,I1,q1⟩=>?_)
 cases c with
 |true=>exact hb wh pins s1 σ H1 Q I1 q1
 |false=>exact⟨H1,I1,q1⟩
theorem Mr(ha:PT X a tA)(hb:PW X (.BoolOp .Or (b ::rest) pos) tB'):PW X (.BoolOp .Or (a ::b ::rest) pos) (tOr tA tB'):=by
 intro wh pins s σ H Q I h;refine isTrue_or (thn (ha pins s σ H _ I h) fun c s1 ⟨H1,I1,q1⟩=>?_)
 cases c with
 |true=>exact⟨H1,I1,q1⟩
 |false=>exact hb wh pins s1 σ H1 Q I1 q1
theorem Lz(ha:PT X a tA):PT X (.UnaryOp .Not a pos) (Ih tA):=by
 intro pins s σ H Q I h;exact isTrue_not (ha pins s σ H (fun c H1=>Q (!c) H1) I h)
noncomputable def EV(ta tb:TE):TE:=fun σ H Q=>ta σ H fun x H1=>∃ c,x=.bl c /\ if c=true then tb σ H1 Q else Q (.bl false) H1
noncomputable def Fj(ta:TE):TE:=fun σ H Q=>ta σ H fun x H1=>∃ c,x=.bl c /\ Q (.bl (!c)) H1
theorem Jk{op}{t:TE}(h:PE X a t):PE X (.BoolOp op [a] pos) t:=fun pins s σ H Q I hw=>BoolOp_one (h pins s σ H Q I hw)
theorem LC(ha:PE X a ta)(hb:PE X (.BoolOp .And (b ::rest) pos) tb):PE X (.BoolOp .And (a ::b ::rest) pos) (EV ta tb):=by
 intro pins s σ H Q I h;refine BoolOp_and (thn (ha pins s σ H _ I h) fun v s1 ⟨x,H1,I1,r1,q1⟩=>?_);obtain⟨c,rfl,q1⟩:=q1;cases r1;refine wpAny_truthy_bool ?_
 cases c with
 |true=>exact hb pins s1 σ H1 Q I1 q1
 |false=>exact⟨.bl false,H1,I1,rfl,q1⟩
theorem JF(ha:PE X a ta):PE X (.UnaryOp .Not a pos) (Fj ta):=by
 intro pins s σ H Q I h;refine UnaryOp_ (thn (ha pins s σ H _ I h) fun v s1 ⟨x,H1,I1,r1,q1⟩=>?_);obtain⟨c,rfl,q1⟩:=q1;cases r1;exact not_of (wpAny_truthy_bool ⟨.bl (!c),H1,I1,rfl,q1⟩)
noncomputable def tIf(t:TT)(ta tb:TE):TE:=fun σ H Q=>t σ H fun c H1=>if c=true then ta σ H1 Q else tb σ H1 Q
theorem Ff{c:Expr}(hc:PT X c tA)(ha:PE X a ta)(hb:PE X b tb):PE X (.IfExp c a b pos) (tIf tA ta tb):=by
 intro pins s σ H Q I h;refine wpAny_IfExp (thn (hc pins s σ H _ I h) fun d s1 ⟨H1,I1,q1⟩=>?_)
 cases d with
 |true=>exact ha pins s1 σ H1 Q I1 q1
 |false=>exact hb pins s1 σ H1 Q I1 q1
end
noncomputable def SqL(K:PySem.W.Frag)(H:Hp)(a:Addr)(xs:List V):Prop:=
 Rd H a (.lst xs) \/
  ∃(o:Obj) (its:Array Value) (n:Nat),K.lookup a=some o /\ o.cls=.type "list" /\ o.dict=none /\ o.data=.seq its n /\ its.size<=sizeLine /\ Vals xs its.toList
noncomputable def SqT(K:PySem.W.Frag)(H:Hp)(a:Addr)(xs:List V):Prop:=
 Rd H a (.tup xs) \/
  ∃(o:Obj) (its:Array Value) (n:Nat),K.lookup a=some o /\ (o.cls=.type "tuple" /\ o.dict=none) /\ o.data=.seq its n /\ its.size<=sizeLine /\ Vals xs its.toList
noncomputable def NQ:Value->Option V
 |.none=>some .non
 |.bool b=>some (.bl b)
 |.int i _=>some (.int i)
 |.str x _=>some (.str x)
 |.bytes b _=>some (.byt b)
 |.float b _=>some (.flt b)
 |.ref a=>some (.ref a)
 |.type n=>some (.ty n)
 |_=>none
theorem RelV.abs{x:V}{u:Value}(r:RelV x u):NQ u=some x:=by
 cases x with
 |non=>cases r;rfl
 |bl _=>cases r;rfl
 |int _=>obtain⟨t,rfl⟩:=r;rfl
 |str _=>obtain⟨t,rfl⟩:=r;rfl
 |byt _=>obtain⟨t,rfl⟩:=r;rfl
 |flt _=>obtain⟨t,rfl⟩:=r;rfl
 |ref _=>cases r;rfl
 |ty _=>cases r;rfl
theorem RelV.inj{x y:V}{u:Value}(r:RelV x u)(q:RelV y u):x=y:=Option.some.inj (r.abs.symm.trans q.abs)
theorem Vals.inj:∀{xs ys:List V} {us:List Value},Vals xs us->Vals ys us->xs=ys
 |_,_,_,.nil,.nil=>rfl
 |_,_,_,.cons r t,.cons r' t'=>by rw[r.inj r',Vals.inj t t']
section
variable{X:Cx}{pins:List (Addr×Obj)}{σ:St}{H:Hp}{s:Shared}{a:Addr}{xs ys:List V}
theorem Inv.list(I:Inv X pins σ H s)(h:SqL X.K H a xs):∃ its:List Value,Vals xs its /\ PlainL s.heap a its.toArray /\ xs.length<=sizeLine:=by
 rcases h with h|⟨o,its,n,hk,hc,hd,hs,hz,r⟩
 . obtain⟨z,its,n,r,e⟩:=h.ok I.hok
   exact⟨its,r,⟨_,n,e,rfl,rfl,rfl⟩,z⟩
 . refine⟨its.toList,r,⟨o,n,I.kIn a o hk,hc,hd,by simpa using hs⟩,?_⟩
   have e:=r.length
   simp_all
theorem Inv.tuple(I:Inv X pins σ H s)(h:SqT X.K H a xs):∃ its:List Value,Vals xs its /\ IsTup s.heap a its.toArray /\ xs.length<=sizeLine:=by
 rcases h with h|⟨o,its,n,hk,hc,hs,hz,r⟩
 . obtain⟨z,its,r,p⟩:=h.ok I.hok
   grind
 . refine⟨its.toList,r,⟨o,I.kIn a o hk,hc.1,n,by simpa using hs⟩,?_⟩
   have e:=r.length
   simp_all
theorem Inv.zt(I:Inv X pins σ H s)(h:SqL X.K H a xs)(h':SqL X.K H a ys):xs=ys:=by
 obtain⟨its,r,⟨o,n,e,_,_,d⟩,_⟩:=I.list h;obtain⟨its',r',⟨o',n',e',_,_,d'⟩,_⟩:=I.list h';rw[e]at e';cases e';rw[d]at d'
 injection d' with d1 _
 have:its=its':=by simpa using congrArg Array.toList d1
 subst this;exact r.inj r'
theorem Inv.Dc(I:Inv X pins σ H s)(h:SqT X.K H a xs)(h':SqT X.K H a ys):xs=ys:=by
 obtain⟨its,r,⟨o,e,_,n,d⟩,_⟩:=I.tuple h;obtain⟨its',r',⟨o',e',_,n',d'⟩,_⟩:=I.tuple h';rw[e]at e';cases e';rw[d]at d'
 injection d' with d1 _
 have:its=its':=by simpa using congrArg Array.toList d1
 subst this;exact r.inj r'
end
section
variable{X:Cx}{st:Stmt}{rest:List Stmt}{t u:TS}{e:Expr}{te:TE}{pos:Pos}
noncomputable def D8:TS:=fun D σ H=>D.nx σ H
noncomputable def JB(t u:TS):TS:=fun D σ H=>t { D with nx:=u D } σ H
theorem GF:PSs X [] D8:=fun _ _ σ H _ I h=>wpAny_execs_nil ⟨σ,H,I,h⟩
theorem FW(h1:PS X st t)(h2:PSs X rest u):PSs X (st ::rest) (JB t u):=by
 intro pins s σ H D I h;refine wpAny_execs_cons (thn (h1 pins s σ H { D with nx:=u D } I h) fun f s1 q=>?_)
 cases f with
 | next=>
   obtain⟨σ',H',I',q⟩:=q;exact h2 pins s1 σ' H' D I' q
 |ret v=>exact q
 |brk=>exact q
 |cont=>exact q
theorem HR(h1:PS X st t):PSs X [st] t:=by
 intro pins s σ H D I h;refine wpAny_execs_cons (thn (h1 pins s σ H D I h) fun f s1 q=>?_)
 cases f with
 |next=>exact wpAny_execs_nil q
 |ret v=>exact q
 |brk=>exact q
 |cont=>exact q
theorem Inv.quiet{pins:List (Addr×Obj)}{σ:St}{H:Hp}{s:Shared}(I:Inv X pins σ H s):interactive X.env=false:=by simp[interactive,I.ok.kind]
noncomputable def sQ(te:TE):TS:=fun D σ H=>te σ H fun _ H1=>D.nx σ H1
theorem Hn(he:PE X e te)(hs:swapsWith e none pos.line X.env=pure false:=by rfl):PS X (.Expr e pos) (sQ te):=by
 intro pins s σ H D I h;exact wpAny_Expr_any (thn (he pins s σ H _ I h) fun v s1 ⟨x,H1,I1,r1,q1⟩=>⟨σ,H1,I1,q1⟩) I.quiet hs
noncomputable def GY(te:TE):TS:=fun D σ H=>te σ H D.rt
theorem Kd(he:PE X e te):PS X (.Return (some e) pos) (GY te):=by
 intro pins s σ H D I h;exact wpAny_Return_some (thn (he pins s σ H _ I h) fun v s1 ⟨x,H1,I1,r1,q1⟩=>⟨x,σ,H1,I1,r1,q1⟩)
noncomputable def Gp(c:TT)(t u:TS):TS:=fun D σ H=>c σ H fun b H1=>if b=true then t D σ H1 else u D σ H1
theorem LU{c:Expr}{a b:List Stmt}{tc:TT}(hc:PT X c tc)(ha:PSs X a t)(hb:PSs X b u):PS X (.If c a b pos) (Gp tc t u):=by
 intro pins s σ H D I h;refine wpAny_If (thn (hc pins s σ H _ I h) fun d s1 ⟨H1,I1,q1⟩=>?_)
 cases d with
 |true=>exact ha pins s1 σ H1 D I1 q1
 |false=>exact hb pins s1 σ H1 D I1 q1
end
abbrev TG:=V->St->Hp->(St->Hp->Prop)->Prop
abbrev TGs:=List V->St->Hp->(St->Hp->Prop)->Prop
noncomputable def PG(X:Cx)(target:Expr)(t:TG):Prop:=
 ∀(pins:List (Addr×Obj)) (s:Shared) (σ:St) (H:Hp) (v:V) (u:Value) (Q:St->Hp->Prop),Inv X pins σ H s->RelV v u->t v σ H Q ->
   wpAny (model X.prog X.w) X.A (assign target X.env u) (fun _ s'=>∃ σ' H',Inv X pins σ' H' s' /\ Q σ' H') X.xe s
noncomputable def PGs(X:Cx)(ts:List Expr)(t:TGs):Prop:=
 ∀(pins:List (Addr×Obj)) (s:Shared) (σ:St) (H:Hp) (vs:List V) (us:List Value) (Q:St->Hp->Prop),Inv X pins σ H s->Vals vs us->t vs σ H Q ->
   wpAny (model X.prog X.w) X.A (assignInOrder ((assignEach ts X.env).map (·.2)) us) (fun _ s'=>∃ σ' H',Inv X pins σ' H' s' /\ Q σ' H') X.xe s
abbrev GH:=V->V->V->Hp->(Hp->Prop)->Prop
noncomputable def KD(X:Cx)(t:GH):Prop:=
 ∀(pins:List (Addr×Obj)) (s:Shared) (σ:St) (H:Hp) (o i v:V) (ov iv u:Value) (Q:Hp->Prop),Inv X pins σ H s->RelV o ov->RelV i iv->RelV v u->t o i v H Q ->
   wpAny (model X.prog X.w) X.A (setItem ov iv u) (fun _ s'=>∃ H',Inv X pins σ H' s' /\ Q H') X.xe s
section
variable{X:Cx}{pos:Pos}
noncomputable def j8(i:Nat):TG:=fun v σ H Q=>Q (σ.set i (some v)) H
theorem G6{i:Nat}{x:Str}(hN:X.N.Nodup)(hi:X.N[i]?=some x)(hx:Loc X.env.scope x)(hf:X.fn x=true \/ X.env.scope.names.lookup x=some .local:=by first|exact .inl rfl|exact .inr rfl|assumption):PG X (.Name x pos) (j8 i):=by
 intro pins s σ H v u Q I r h;exact wpAny_assign_Name (kd I hN hi hx r (fun s' I'=>⟨_,H,I',h⟩) hf)
noncomputable def JN:TGs:=fun vs σ H Q=>vs=[] /\ Q σ H
noncomputable def BG(t:TG)(u:TGs):TGs:=fun vs σ H Q=>∃ v r,vs=v ::r /\ t v σ H fun σ' H'=>u r σ' H' Q
theorem Hv:PGs X [] JN:=by
 intro pins s σ H vs us Q I r h;obtain⟨e,h⟩:=h;subst e;cases r;exact assignInOrder_nil ⟨σ,H,I,h⟩
theorem Ey{e:Expr}{es:List Expr}{t:TG}{u:TGs}(h1:PG X e t)(h2:PGs X es u)
  (hs:(assignEach (e ::es) X.env).map (·.2)=assign e X.env ::(assignEach es X.env).map (·.2):=by rfl):PGs X (e ::es) (BG t u):=by
 intro pins s σ H vs us Q I r h;obtain⟨v,vr,e1,h⟩:=h;subst e1
 cases r with
 | cons r rr=>
   rw[hs];refine assignInOrder_cons (thn (h1 pins s σ H _ _ _ I r h) fun _ s1 ⟨σ1,H1,I1,q1⟩=>?_);exact h2 pins s1 σ1 H1 _ _ Q I1 rr q1
noncomputable def JG(K:PySem.W.Frag)(n:Nat)(t:TGs):TG:=fun v σ H Q=>∃ a xs,v=.ref a /\ SqT K H a xs /\ xs.length=n /\ t xs σ H Q
theorem K0{es:List Expr}{k:Nat}{t:TGs}{n:Nat}(hc:X.calm=true)(h:PGs X es t)
  (hn:(assignEach es X.env).length=n:=by rfl) (hst:(assignEach es X.env).findIdx? (·.1)=none:=by rfl):PG X (.Tuple es k pos) (JG X.K n t):=by
 intro pins s σ H v u Q I r hw;obtain⟨a,xs,e1,hq,hl,hw⟩:=hw;subst e1;cases r;obtain⟨its,rv,ht,hz⟩:=I.tuple hq
 refine assign_Tuple_tuple (I.ok.hd hc) ht (by simp[hn,<- hl,rv.length]) hst fun h' hx=>?_
 have I1:Inv X pins σ H { s with heap:=h' }:=I.kept (t':=s.toks) fun b o e=>hx b o (Nat.ne_of_lt (Heap.lt_size e)) e
 exact h pins _ σ H xs _ Q I1 (by simpa using rv) hw
noncomputable def Jq(to ti:TE)(t:GH):TG:=fun v σ H Q=>to σ H fun o H1=>ti σ H1 fun i H2=>t o i v H2 fun H3=>Q σ H3
theorem Jo{o i:Expr}{to ti:TE}{t:GH}(ho:PE X o to)(hi:PE X i ti)(hs:KD X t)
  (ha:∀ v,assign (.Subscript o i pos) X.env v=(do
    let ov <- holding [v] (eval o X.env)
    let iv <- holding [v,ov] (eval i X.env)
    standAt pos
    holding [v,ov,iv] (setItem ov iv v)
    release [v,ov,iv] []):=by intro _;rfl):PG X (.Subscript o i pos) (Jq to ti t):=by
 intro pins s σ H v u Q I r h;rw[ha];refine wpAny_bind (wpAny_holding (thn (ho pins s σ H _ I h) fun ov s1 ⟨x,H1,I1,r1,q1⟩=>?_));refine wpAny_bind (wpAny_holding (thn (hi pins s1 σ H1 _ I1 q1) fun iv s2 ⟨y,H2,I2,r2,q2⟩=>?_));refine wpAny_bind (wpAny_standAt (wpAny_bind (wpAny_holding (thn (hs pins s2 σ H2 x y v ov iv u _ I2 r1 r2 r q2) fun _ s3 ⟨H3,I3,q3⟩=>?_))));exact wpAny_release ⟨σ,H3,I3,q3⟩
noncomputable def tH(te:TE)(g:TG):TS:=fun D σ H=>te σ H fun x H1=>g x σ H1 D.nx
theorem KP{tg e:Expr}{te:TE}{g:TG}(he:PE X e te)(hg:PG X tg g)(hs:swapsWithSole [tg] e pos.line X.env=pure false:=by rfl)(hw:swappedStores [tg] e X.env=pure none:=by rfl)
  (h1:(assignEach [tg] X.env).map (·.2)=[assign tg X.env]:=by rfl):PS X (.Assign [tg] e pos) (tH te g):=by
 intro pins s σ H D I h;refine wpAny_Assign_stores (thn (he pins s σ H _ I h) fun v s1 ⟨x,H1,I1,r1,q1⟩=>?_) hs hw;rw[h1]
 exact thn (hg pins s1 σ H1 x v _ I1 r1 q1) fun _ s2 q=>q
theorem JQ{i:Nat}{x:Str}{e:Expr}{te:TE}{pos':Pos}(hN:X.N.Nodup)(hi:X.N[i]?=some x)(hx:Loc X.env.scope x)(he:PE X e te)(hs:swapsWith e (some (.Name x pos')) pos.line X.env=pure false:=by rfl)(hf:X.fn x=true \/ X.env.scope.names.lookup x=some .local:=by first|exact .inl rfl|exact .inr rfl|assumption):
  PS X (.Assign [.Name x pos'] e pos) (tH te (j8 i)):=by
 intro pins s σ H D I h;refine wpAny_Assign_Name (thn (he pins s σ H _ I h) fun v s1 ⟨y,H1,I1,r1,q1⟩=>?_) hs;exact kd I1 hN hi hx r1 (fun s2 I2=>⟨_,H1,I2,q1⟩) hf
end
section
variable{X:Cx}{pos:Pos}
noncomputable def Bq(c:TT)(tb:TS):TS:=fun D σ H=>∃ W:Nat->St->Hp->Prop,(∃ m,W m σ H) /\ ∀ m σ H,W m σ H ->
 c σ H fun b H1=>if b=true then ∃ N:St->Hp->Prop,(∀ σ' H',N σ' H'->∃ m',m'<m /\ W m' σ' H') /\ tb { D with nx:=N,ct:=N,bk:=D.nx } σ H1 else D.nx σ H1
theorem Fp{c:Expr}{body:List Stmt}{tc:TT}{tb:TS}(hp:PassesOwn (model X.prog X.w) X.A X.env X.xe)(hc:PT X c tc)(hb:PSs X body tb):PS X (.While c body [] pos) (Bq tc tb):=by
 intro pins s σ H D I h;obtain⟨W,⟨m0,w0⟩,turn⟩:=h;refine wpAny_While (codeAny_whileLoop (fun n s'=>∃ σ' H',Inv X pins σ' H' s' /\ W n σ' H') ?_ m0 ⟨σ,H,I,w0⟩)
 rintro n s1 ⟨σ1,H1,I1,w1⟩
 refine wpAny_passesOwn hp (thn (hc pins s1 σ1 H1 _ I1 (turn n σ1 H1 w1)) fun b s2 ⟨H2,I2,q2⟩=>?_)
 cases b with
 | true=>
   obtain⟨N,hN,q2⟩:=q2;refine wpAny_passesOwn hp (thn (hb pins s2 σ1 H2 _ I2 q2) fun f s3 q3=>?_)
   cases f with
   | next=>
     obtain⟨σ3,H3,I3,n3⟩:=q3
     grind
   | cont=>
     obtain⟨σ3,H3,I3,n3⟩:=q3
     grind
   |brk=>exact q3
   |ret v=>exact q3
 | false=>
   exact wpAny_execs_nil ⟨σ1,H2,I2,q2⟩
end
structure It where
 go:Nat->Hp->Prop
 yld:Nat->Hp->V->Hp->Prop
 stop:Nat->Hp->Prop
noncomputable def m4(X:Cx)(pins:List (Addr×Obj))(H:Hp)(b:Addr):Prop:=
 H b=none /\ b≠X.env.locals /\ b∉X.fs /\ (b∈X.ex \/ X.s₀.heap.objs.size<=b) /\ (∀ x c,X.env.cells.lookup x=some c->c≠b) /\ ∀ p∈X.pn++pins,p.1≠b
theorem Inv.AE{X:Cx}{pins:List (Addr×Obj)}{σ:St}{H H':Hp}{s:Shared}{b:Addr}(I:Inv X pins σ H s)(hb:s.heap.objs.size<=b)(hn:H' b=none):m4 X pins H' b:=by
 refine⟨hn,Nat.ne_of_gt (Nat.lt_of_lt_of_le I.lt hb),I.NB hb,.inr (Nat.le_trans I.sz hb),fun x c e z=>?_,fun p hp z=>?_⟩
 . obtain⟨v,q⟩:=I.cell x c e;exact absurd (Nat.lt_of_lt_of_le q.lt (by rw[z];exact hb)) (Nat.lt_irrefl _)
 . exact absurd (Nat.lt_of_lt_of_le (Heap.lt_size (I.pin p hp).1) (by rw[z];exact hb)) (Nat.lt_irrefl _)
structure Turn(P:Program)(w:World)(K:PySem.W.Frag)(tg:Expr)(J:It)(fp:List Addr)(it:Addr)(tn:Nat->Heap->Prop):Prop where
 mem:it∈fp
 obj:∀ i h,tn i h->∀ b∈fp,∃ o,h.get? b=some o /\ ∀ v,o.data≠.cell v
 keep:∀ i h h',tn i h->(∀ b∈fp,∀ o,h.get? b=some o->h'.get? b=some o)->tn i h'
 item:∀(X:Cx),X.prog=P->X.w=w->X.K=K->X.calm=true->∀(i:Nat) (pins:List (Addr×Obj)) (s:Shared) (σ:St) (H:Hp) (E:Value->Shared->Prop),Inv X pins σ H s->(∀ b∈fp,m4 X pins H b)->tn i s.heap->J.go i H ->
  wpAny (model P w) X.A (pyNext (.ref it)) (fun r s1=>∃ u,r=some u /\
   wpAny (model P w) X.A (letOwnedTupleGo tg (.ref it) u) (fun _ s2=>∃ x H',Inv X pins σ H' s2 /\ RelV x u /\ J.yld i H x H' /\ tn (i+1) s2.heap /\ ∀ b∈fp,H' b=none) E s1) E s
 done:∀(X:Cx),X.prog=P->X.w=w->X.K=K->X.calm=true->∀(i:Nat) (pins:List (Addr×Obj)) (s:Shared) (σ:St) (H:Hp) (E:Value->Shared->Prop),Inv X pins σ H s->(∀ b∈fp,m4 X pins H b)->tn i s.heap->J.stop i H ->
  wpAny (model P w) X.A (pyNext (.ref it)) (fun r s1=>r=none /\ Inv X pins σ H s1) E s
 self:∀(A:Around) (i:Nat) (s:Shared) (Q:Value->Shared->Prop) (E:Value->Shared->Prop),tn i s.heap->Q (.ref it) s->wpAny (model P w) A (pyIter (.ref it)) Q E s
abbrev TI:=St->Hp->(It->Hp->Prop)->Prop
noncomputable def PIE(X:Cx)(pins:List (Addr×Obj))(σ:St)(tg:Expr)(R:It->Hp->Prop)(itv:Value)(s2:Shared):Prop:=
 ∃(it:Addr) (fp:List Addr) (tn:Nat->Heap->Prop) (J:It) (H':Hp),itv=.ref it /\ Inv X pins σ H' s2 /\ Turn X.prog X.w X.K tg J fp it tn /\ tn 0 s2.heap /\ (∀ b∈fp,m4 X pins H' b) /\ R J H'
noncomputable def PI(X:Cx)(tg iter:Expr)(wi:TI):Prop:=
 ∀(pins:List (Addr×Obj)) (s:Shared) (σ:St) (H:Hp) (R:It->Hp->Prop),Inv X pins σ H s->wi σ H R ->
   wpAny (model X.prog X.w) X.A (eval iter X.env) (fun v s1=>wpAny (model X.prog X.w) X.A (pyIter v) (PIE X pins σ tg R) X.xe s1) X.xe s
theorem Cq{M:Model}{A:Around}{E:Value->Shared->Prop}{s:Shared}{tg:Expr}{it:Addr}{u:Value}{o:Obj}{n:String}{vs:Array Value}{Q:Unit->Shared->Prop}(ho:s.heap.get? it=some o)(hc:o.cls=.type n)(hd:o.data=.fields vs)
  (hn:["enumerate","zip","dict_itemiterator","dict_reverseitemiterator","odict_iterator","itertools.zip_longest","itertools.pairwise"].contains n=false) (hQ:Q () s):wpAny M A (letOwnedTupleGo tg (.ref it) u) Q E s:=by
 cases tg<;>first
  |exact wpAny_pure hQ
  | (cases u <;> first
      |exact wpAny_pure hQ
      | (refine wpAny_bind (wpAny_load ho ?_)
         rw[hc,hd];show wpAny M A (if(["enumerate","zip","dict_itemiterator","dict_reverseitemiterator","odict_iterator","itertools.zip_longest","itertools.pairwise"].contains n&&vs[0]?==some (rawInt _))=true then _ else _) Q E s;rw[if_neg (by intro h;rw[hn,Bool.false_and]at h;cases h)]
         exact wpAny_pure hQ))
noncomputable def Itl(K:PySem.W.Frag)(a:Addr):It:=
 ⟨fun i H=>∃ xs x,SqL K H a xs /\ xs[i]?=some x,fun i H x H'=>H'=H /\ ∀ xs,SqL K H a xs->xs[i]?=some x,fun i H=>∃ xs,SqL K H a xs /\ xs.length<=i⟩
noncomputable def Itt(K:PySem.W.Frag)(a:Addr):It:=
 ⟨fun i H=>∃ xs x,SqT K H a xs /\ xs[i]?=some x,fun i H x H'=>H'=H /\ ∀ xs,SqT K H a xs->xs[i]?=some x,fun i H=>∃ xs,SqT K H a xs /\ xs.length<=i⟩
noncomputable def Itr(lo:Int)(n:Nat):It:=⟨fun i _=>i<n,fun i H x H'=>H'=H /\ x=.int (lo+i),fun i _=>n<=i⟩
theorem DE{P:Program}{w:World}{K:PySem.W.Frag}{tg:Expr}(a it:Addr):Turn P w K tg (Itl K a) [it] it (fun i h=>h.IsListIter it a i) where
 mem:=by simp
 obj:=fun i h st b hb=>by
  obtain⟨o,e,c,d⟩:=st
  simp_all
 keep:=fun i h h' st k=>st.at fun o e=>k it (by simp) o e
 item:=by
  intro X hP hw hK hc i pins s σ H E I hf st hg;subst hP hw hK;obtain⟨xs,x,hq,hx⟩:=hg;obtain⟨its,rv,p,hz⟩:=I.list hq;obtain⟨u,hu,ru⟩:=rv.get hx;obtain⟨f0,f1,f2,f3,f4,f5⟩:=hf it (by simp)
  refine wpAny_pyNext_list_item st p.isList (by simpa using hu) fun h' st' sb=>?_
  have I1:Inv X pins σ H { s with heap:=h' }:=I.turned (t':=s.toks) (fun b o hb e=>(sb.2 b hb).trans e) f0 f1 f3 f4 f5
  obtain⟨o,e,c,d⟩:=id st'
  exact⟨u,rfl,Cq e c d (by decide) ⟨x,H,I1,ru,⟨rfl,fun ys hy=>by rw[I.zt hy hq];exact hx⟩,st',fun b hb=>(hf b hb).1⟩⟩
 done:=by
  intro X hP hw hK hc i pins s σ H E I hf st hg;subst hP hw hK;obtain⟨xs,hq,hx⟩:=hg;obtain⟨its,rv,p,hz⟩:=I.list hq;obtain⟨f0,f1,f2,f3,f4,f5⟩:=hf it (by simp);have hl:=rv.length
  exact wpAny_pyNext_list_end (I.ok.hd hc) st p.isList (by simp;omega) fun h' eb=>⟨rfl,I.turned (t':=s.toks) (fun b o hb e=>eb b o hb e) f0 f1 f3 f4 f5⟩
 self:=fun _ _ _ _ _ st h=>wpAny_pyIter_listiter st h
theorem AU{P:Program}{w:World}{K:PySem.W.Frag}{tg:Expr}(a it:Addr):Turn P w K tg (Itt K a) [it] it (fun i h=>h.IsTupleIter it a i) where
 mem:=by simp
 obj:=fun i h st b hb=>by
  obtain⟨o,e,c,d⟩:=st
  simp_all
 keep:=fun i h h' st k=>st.at fun o e=>k it (by simp) o e
 item:=by
  intro X hP hw hK hc i pins s σ H E I hf st hg;subst hP hw hK;obtain⟨xs,x,hq,hx⟩:=hg;obtain⟨its,rv,p,hz⟩:=I.tuple hq;obtain⟨u,hu,ru⟩:=rv.get hx;obtain⟨f0,f1,f2,f3,f4,f5⟩:=hf it (by simp)
  refine wpAny_pyNext_tuple_item st (show s.heap.IsTuple a its.toArray from p) (by simpa using hu) fun h' st' sb=>?_
  have I1:Inv X pins σ H { s with heap:=h' }:=I.turned (t':=s.toks) (fun b o hb e=>(sb.2 b hb).trans e) f0 f1 f3 f4 f5
  obtain⟨o,e,c,d⟩:=id st'
  exact⟨u,rfl,Cq e c d (by decide) ⟨x,H,I1,ru,⟨rfl,fun ys hy=>by rw[I.Dc hy hq];exact hx⟩,st',fun b hb=>(hf b hb).1⟩⟩
 done:=by
  intro X hP hw hK hc i pins s σ H E I hf st hg;subst hP hw hK;obtain⟨xs,hq,hx⟩:=hg;obtain⟨its,rv,p,hz⟩:=I.tuple hq;obtain⟨f0,f1,f2,f3,f4,f5⟩:=hf it (by simp);have hl:=rv.length
  exact wpAny_pyNext_tuple_end (I.ok.hd hc) st (show s.heap.IsTuple a its.toArray from p) (by simp;omega) fun h' eb=>⟨rfl,I.turned (t':=s.toks) (fun b o hb e=>eb b o hb e) f0 f1 f3 f4 f5⟩
 self:=fun _ _ _ _ _ st h=>wpAny_pyIter_tupleiter st h
theorem Bc{P:Program}{w:World}{K:PySem.W.Frag}{tg:Expr}(it:Addr)(lo:Int)(n:Nat):Turn P w K tg (Itr lo n) [it] it (fun i h=>IsRangeIter h it (lo+(i:Nat)*1) ((n:Int) - (i:Nat)) 1) where
 mem:=by simp
 obj:=fun i h st b hb=>by
  simp_all
 keep:=fun i h h' st k=>k it (by simp) _ st
 item:=by
  intro X hP hw hK hc i pins s σ H E I hf st hg;subst hP hw hK;obtain⟨f0,f1,f2,f3,f4,f5⟩:=hf it (by simp);have W:=Walks.range (prog:=X.prog) (w:=X.w) (I.ok.hd hc) it lo 1 n
  refine W.item i s _ _ hg st fun v h' tk hv st' kk=>?_
  obtain⟨t,rfl⟩:=hv
  have I1:Inv X pins σ H { s with heap:=h',toks:=tk }:=I.turned (fun b o hb e=>kk b o (by simpa using hb) e) f0 f1 f3 f4 f5
  refine⟨_,rfl,Cq st' rfl rfl (by decide) ⟨.int (lo+i),H,I1,⟨t,?_⟩,⟨rfl,rfl⟩,st',fun b hb=>(hf b hb).1⟩⟩
  simp
 done:=by
  intro X hP hw hK hc i pins s σ H E I hf st hg;obtain⟨f0,f1,f2,f3,f4,f5⟩:=hf it (by simp)
  exact wpAny_pyNext_range_end (I.ok.hd hc) st (by have:n<=i:=hg;omega) fun h' eb=>⟨rfl,I.turned (t':=s.toks) (fun b o hb e=>eb b o hb e) f0 f1 f3 f4 f5⟩
 self:=fun _ _ _ _ _ st h=>wpAny_pyIter_rangeiter st h
section
variable{X:Cx}{tg:Expr}
noncomputable def zK(K:PySem.W.Frag)(tl:TE):TI:=fun σ H R=>tl σ H fun x H1=>∃ a,x=.ref a /\ (∃ xs,SqL K H1 a xs) /\ R (Itl K a) H1
noncomputable def K1(K:PySem.W.Frag)(tl:TE):TI:=fun σ H R=>tl σ H fun x H1=>∃ a,x=.ref a /\ (∃ xs,SqT K H1 a xs) /\ R (Itt K a) H1
theorem Gz{l:Expr}{tl:TE}(hl:PE X l tl):PI X tg l (zK X.K tl):=by
 intro pins s σ H R I h
 refine thn (hl pins s σ H _ I h) fun v s1 ⟨x,H1,I1,r1,q1⟩=>?_
 obtain⟨a,e,⟨xs,hq⟩,q⟩:=q1;subst e;cases r1;obtain⟨its,rv,p,hz⟩:=I1.list hq;refine wpAny_pyIter_list p.isList ?_
 refine⟨s1.heap.objs.size,[s1.heap.objs.size],_,_,H1,rfl,I1.kept (t':=s1.toks) fun b o e=>Heap.get?_push_of_some _ e,DE a _,⟨_,Heap.get?_push_size _ rfl,rfl,rfl⟩,fun b hb=>?_,q⟩
 have e:b=s1.heap.objs.size:=by simpa using hb
 subst e;exact I1.AE (Nat.le_refl _) (I1.hok.fresh (Nat.le_refl _))
theorem Kj{l:Expr}{tl:TE}(hl:PE X l tl):PI X tg l (K1 X.K tl):=by
 intro pins s σ H R I h
 refine thn (hl pins s σ H _ I h) fun v s1 ⟨x,H1,I1,r1,q1⟩=>?_
 obtain⟨a,e,⟨xs,hq⟩,q⟩:=q1;subst e;cases r1;obtain⟨its,rv,p,hz⟩:=I1.tuple hq;refine wpAny_pyIter_tuple (show s1.heap.IsTuple a its.toArray from p) ?_
 refine⟨s1.heap.objs.size,[s1.heap.objs.size],_,_,H1,rfl,I1.kept (t':=s1.toks) fun b o e=>Heap.get?_push_of_some _ e,AU a _,⟨_,Heap.get?_push_size _ rfl,rfl,rfl⟩,fun b hb=>?_,q⟩
 have e:b=s1.heap.objs.size:=by simpa using hb
 subst e;exact I1.AE (Nat.le_refl _) (I1.hok.fresh (Nat.le_refl _))
theorem FJ{pins:List (Addr×Obj)}{σ:St}{H:Hp}{s:Shared}{R:It->Hp->Prop}{E:Value->Shared->Prop}{lo hi:Int}{t u v:Tok}{tk:Nat}(I:Inv X pins σ H s)(h1:-(2 ^ 62)<=lo)(h2:lo<2 ^ 62)(h3:-(2 ^ 62)<=hi)(h4:hi<2 ^ 62)
  (q:R (Itr lo (hi - lo).toNat) H):wpAny (model X.prog X.w) X.A (pyIter (.ref s.heap.objs.size)) (PIE X pins σ tg R) E { s with heap:=s.heap.push { cls:=.type "range",data:=.fields #[.int lo t,.int hi u,.int 1 v] },toks:=tk }:=by
 refine wpAny_pyIter_range (IsRange.new ..) (small_one h1 h2 h3 h4) ?_
 have I1:Inv X pins σ H { s with heap:=s.heap.push { cls:=.type "range",data:=.fields #[.int lo t,.int hi u,.int 1 v] },toks:=tk }:=I.kept fun b o e=>Heap.get?_push_of_some _ e
 refine⟨(s.heap.push { cls:=.type "range",data:=.fields #[.int lo t,.int hi u,.int 1 v] }).objs.size,[(s.heap.push { cls:=.type "range",data:=.fields #[.int lo t,.int hi u,.int 1 v] }).objs.size],_,_,H,rfl,
  I1.kept (t':=tk) fun b o e=>Heap.get?_push_of_some _ e,Bc _ lo (hi - lo).toNat,?_,fun b hb=>?_,q⟩
 . have e1:lo+((0:Nat):Int)*1=lo:=by simp
   have e2:(((hi - lo).toNat:Nat):Int) - ((0:Nat):Int)=Builtin.Range.rangeSize lo hi 1:=by rw[rangeSize_one];split<;>omega
   rw[e1,e2];exact Heap.get?_push_size _ rfl
 . have e:b=(s.heap.push { cls:=.type "range",data:=.fields #[.int lo t,.int hi u,.int 1 v] }).objs.size:=by simpa using hb
   subst e;exact I1.AE (Nat.le_refl _) (I1.hok.fresh (Nat.le_refl _))
noncomputable def Cz(ta:TA):TI:=fun σ H R=>ta σ H fun vs H1=>∃ j:Int,vs=[.int j] /\ -(2 ^ 62)<=j /\ j<2 ^ 62 /\ R (Itr 0 j.toNat) H1
theorem C1{a:Expr}{ta:TA}{p pos:Pos}(hg:Gl X "range")(hm:X.mg "range" = none)(ha:PA X [a] ta)(hs:starEach [a] X.env=[(false,eval a X.env)]:=by rfl):PI X tg (.Call (.Name "range" p) [a] [] pos) (Cz ta):=by
 intro pins s σ H R I h;refine Call_ (wa I hg hm boot_range (PyProof.Rows.callWith_type1 (thn (ha pos pins s σ H _ I h) fun us s1 ⟨vs,H1,I1,r1,q1⟩=>?_) hs rfl));obtain⟨j,e,q1,q2,q⟩:=q1;subst e
 cases r1 with
 | cons r rr=>
   cases rr;obtain⟨t,rfl⟩:=r;exact call_range_1 (FJ I1 (by omega) (by omega) q1 q2 (by simpa using q))
noncomputable def EL(wi:TI)(g:TG)(tb:TS):TS:=fun D σ H=>wi σ H fun J H1=>∃ W:Nat->Nat->St->Hp->Prop,(∃ m,W 0 m σ H1) /\ ∀ i m σ H,W i m σ H ->
 (J.stop i H /\ D.nx σ H) \/ (J.go i H /\ ∃ N:St->Hp->Prop,(∀ σ' H',N σ' H'->∃ m',m'<m /\ W (i+1) m' σ' H') /\ ∀ x H',J.yld i H x H'->g x σ H' fun σ2 H2=>tb { D with nx:=N,ct:=N,bk:=D.nx } σ2 H2)
noncomputable def yg(fp:List Addr)(h:Heap):List (Addr×Obj):=fp.filterMap fun b=>(h.get? b).map fun o=>(b,o)
theorem cQ{fp:List Addr}{h:Heap}{b:Addr}{o:Obj}(hb:b∈fp)(e:h.get? b=some o):(b,o)∈yg fp h:=List.mem_filterMap.mpr ⟨b,hb,by rw[e];rfl⟩
theorem CH{fp:List Addr}{h:Heap}{p:Addr×Obj}(hp:p∈yg fp h):p.1∈fp /\ h.get? p.1=some p.2:=by
 obtain⟨b,hb,e⟩:=List.mem_filterMap.mp hp
 cases q:h.get? b with
 |none=>rw[q]at e;cases e
 |some o=>grind
theorem Inv.pinned{pins:List (Addr×Obj)}{σ:St}{H:Hp}{s:Shared}{fp:List Addr}(I:Inv X pins σ H s)(hf:∀ b∈fp,m4 X pins H b)(ho:∀ b∈fp,∃ o,s.heap.get? b=some o /\ ∀ v,o.data≠.cell v):Inv X (pins++yg fp s.heap) σ H s:=
 I.BI fun p hp=>(List.mem_append.mp hp).elim (fun z=>I.pin p (List.mem_append_right _ z)) fun z=>by
  obtain⟨hb,e⟩:=CH z;obtain⟨f0,f1,f2,_⟩:=hf p.1 hb
  grind
theorem Inv.gQ{pins pl:List (Addr×Obj)}{σ:St}{H:Hp}{s:Shared}(I:Inv X (pins++pl) σ H s):Inv X pins σ H s:=I.BI fun p hp=>I.pin p (List.mem_append_right _ (List.mem_append_left _ hp))
theorem KY{iter:Expr}{body:List Stmt}{wi:TI}{g:TG}{tb:TS}{pos:Pos}(hp:PassesOwn (model X.prog X.w) X.A X.env X.xe)(hc:X.calm=true)(hi:PI X tg iter wi)(hg:PG X tg g)(hb:PSs X body tb)
  (hs:∀ x,foldedSetIterable iter X.env x=pure x:=by intro _;rfl):PS X (.For tg iter body [] pos) (EL wi g tb):=by
 intro pins s σ H D I h;refine wpAny_For (thn (hi pins s σ H _ I h) fun v s1 h1=>thn h1 fun itv s2 h2=>?_) hs;obtain⟨it,fp,tn,J,H2,e,I2,T,st2,f2,W,⟨m0,w0⟩,turn⟩:=h2;subst e
 have stat:∀{H':Hp},(∀ b∈fp,H' b=none)->∀ b∈fp,m4 X pins H' b:=fun hn b hb=>⟨hn b hb,(f2 b hb).2⟩
 refine codeAny_forLoop_any (fun n s'=>∃ i σ' H',Inv X pins σ' H' s' /\ tn i s'.heap /\ (∀ b∈fp,H' b=none) /\ W i n σ' H') ?_ m0 ⟨0,σ,H2,I2,st2,fun b hb=>(f2 b hb).1,w0⟩
 rintro n s3 ⟨i,σ3,H3,I3,st3,fr3,w3⟩
 rcases turn i n σ3 H3 w3 with⟨stop,qn⟩|⟨go,N,hN,step⟩
 . refine wpAny_passesOwn hp (thn (T.done X rfl rfl rfl hc i pins s3 σ3 H3 X.xe I3 (stat fr3) st3 stop) fun r s4 ⟨hr,I4⟩=>?_);subst hr;exact wpAny_execs_nil ⟨σ3,H3,I4,qn⟩
 . refine wpAny_passesOwn hp (thn (T.item X rfl rfl rfl hc i pins s3 σ3 H3 X.xe I3 (stat fr3) st3 go) fun r s4 ⟨u,hr,h4⟩=>?_);subst hr;refine wpAny_passesOwn hp (thn h4 fun _ s5 ⟨x,H5,I5,r5,y5,st5,fr5⟩=>?_)
   have I5':=I5.pinned (stat fr5) (T.obj _ _ st5)
   refine wpAny_passesOwn hp (thn (hg _ s5 σ3 H5 x u _ I5' r5 (step x H5 y5)) fun _ s6 ⟨σ6,H6,I6,q6⟩=>?_);refine wpAny_passesOwn hp (thn (hb _ s6 σ6 H6 _ I6 q6) fun f s7 q7=>?_)
   have again:∀{σ7:St} {H7:Hp},Inv X (pins++yg fp s5.heap) σ7 H7 s7->N σ7 H7->∃ m,m<n /\ ∃ i σ' H',Inv X pins σ' H' s7 /\ tn i s7.heap /\ (∀ b∈fp,H' b=none) /\ W i m σ' H':=fun {σ7 H7} I7 n7=>by
    obtain⟨m',hm,w7⟩:=hN σ7 H7 n7
    refine⟨m',hm,i+1,σ7,H7,I7.gQ,T.keep _ _ _ st5 fun b hb o e=>(I7.pin (b,o) (List.mem_append_right _ (List.mem_append_right _ (cQ hb e)))).1,fun b hb=>?_,w7⟩
    obtain⟨o,e,d⟩:=T.obj _ _ st5 b hb
    exact(I7.pin (b,o) (List.mem_append_right _ (List.mem_append_right _ (cQ hb e)))).2.1
   cases f with
   |next=>obtain⟨σ7,H7,I7,n7⟩:=q7;exact again I7 n7
   |cont=>obtain⟨σ7,H7,I7,n7⟩:=q7;exact again I7 n7
   |brk=>obtain⟨σ7,H7,I7,q7⟩:=q7;exact⟨σ7,H7,I7.gQ,q7⟩
   |ret v=>obtain⟨x7,σ7,H7,I7,r7,q7⟩:=q7;exact⟨x7,σ7,H7,I7.gQ,r7,q7⟩
end
theorem EX{K:PySem.W.Frag}{a:Addr}{xs:List V}{g:TG}{tb:TS}{D:Ends}{σ:St}{H:Hp}(Pv:Nat->St->Hp->Prop)(h0:Pv 0 σ H)(hl:∀ i σ H,i<=xs.length->Pv i σ H->SqL K H a xs)
  (hs:∀ i x σ H,xs[i]?=some x->Pv i σ H->g x σ H fun σ2 H2=>tb { D with nx:=Pv (i+1),ct:=Pv (i+1),bk:=D.nx } σ2 H2) (hd:∀ σ H,Pv xs.length σ H->D.nx σ H):
  ∃ W:Nat->Nat->St->Hp->Prop,(∃ m,W 0 m σ H) /\ ∀ i m σ H,W i m σ H ->
    ((Itl K a).stop i H /\ D.nx σ H) \/ ((Itl K a).go i H /\ ∃ N:St->Hp->Prop,(∀ σ' H',N σ' H'->∃ m',m'<m /\ W (i+1) m' σ' H') /\ ∀ x H',(Itl K a).yld i H x H'->g x σ H' fun σ2 H2=>tb { D with nx:=N,ct:=N,bk:=D.nx } σ2 H2):=by
 refine⟨fun i m σ H=>m=xs.length - i /\ i<=xs.length /\ Pv i σ H,⟨xs.length,by simp,Nat.zero_le _,h0⟩,?_⟩
 rintro i m σ H ⟨rfl,hi,p⟩
 have q:=hl i σ H hi p
 by_cases hlt:i<xs.length
 . refine .inr ⟨⟨xs,xs[i],q,by simp⟩,Pv (i+1),fun σ' H' p'=>⟨xs.length - (i+1),by omega,rfl,hlt,p'⟩,fun x H' y=>?_⟩;obtain⟨e,y⟩:=y
   grind
 . have e:i=xs.length:=by omega
   subst e;exact .inl ⟨⟨xs,q,Nat.le_refl _⟩,hd σ H p⟩
theorem DI{lo:Int}{n:Nat}{g:TG}{tb:TS}{D:Ends}{σ:St}{H:Hp}(Pv:Nat->St->Hp->Prop)(h0:Pv 0 σ H)
  (hs:∀ i σ H,i<n->Pv i σ H->g (.int (lo+i)) σ H fun σ2 H2=>tb { D with nx:=Pv (i+1),ct:=Pv (i+1),bk:=D.nx } σ2 H2) (hd:∀ σ H,Pv n σ H->D.nx σ H):
  ∃ W:Nat->Nat->St->Hp->Prop,(∃ m,W 0 m σ H) /\ ∀ i m σ H,W i m σ H ->
    ((Itr lo n).stop i H /\ D.nx σ H) \/ ((Itr lo n).go i H /\ ∃ N:St->Hp->Prop,(∀ σ' H',N σ' H'->∃ m',m'<m /\ W (i+1) m' σ' H') /\ ∀ x H',(Itr lo n).yld i H x H'->g x σ H' fun σ2 H2=>tb { D with nx:=N,ct:=N,bk:=D.nx } σ2 H2):=by
 refine⟨fun i m σ H=>m=n - i /\ i<=n /\ Pv i σ H,⟨n,by simp,Nat.zero_le _,h0⟩,?_⟩
 rintro i m σ H ⟨rfl,hi,p⟩
 by_cases hlt:i<n
 . refine .inr ⟨hlt,Pv (i+1),fun σ' H' p'=>⟨n - (i+1),by omega,rfl,hlt,p'⟩,fun x H' y=>?_⟩;obtain⟨e,y⟩:=y
   simp_all
 . have e:i=n:=by omega
   subst e;exact .inl ⟨Nat.le_refl _,hd σ H p⟩
abbrev R2:=V->V->Hp->VK->Prop
noncomputable def OpR(X:Cx)(f:Value->Value->Sem Value)(r:R2):Prop:=
 ∀(pins:List (Addr×Obj)) (s:Shared) (σ:St) (H:Hp) (x y:V) (v u:Value) (Q:VK),Inv X pins σ H s->RelV x v->RelV y u->r x y H Q ->
   wpAny (model X.prog X.w) X.A (f v u) (EP X pins σ Q) X.xe s
noncomputable def UnR(X:Cx)(f:Value->Sem Value)(r:V->Hp->VK->Prop):Prop:=
 ∀(pins:List (Addr×Obj)) (s:Shared) (σ:St) (H:Hp) (x:V) (v:Value) (Q:VK),Inv X pins σ H s->RelV x v->r x H Q ->
   wpAny (model X.prog X.w) X.A (f v) (EP X pins σ Q) X.xe s
noncomputable def oI(X:Cx)(f:Value)(r:List V->Hp->VK->Prop):Prop:=
 ∀(pins:List (Addr×Obj)) (s:Shared) (σ:St) (H:Hp) (xs:List V) (us:List Value) (Q:VK),Inv X pins σ H s->Vals xs us->r xs H Q ->
   wpAny (model X.prog X.w) X.A (call f us) (EP X pins σ Q) X.xe s
noncomputable def NR(X:Cx)(r:V->Hp->(Bool->Hp->Prop)->Prop):Prop:=
 ∀(pins:List (Addr×Obj)) (s:Shared) (σ:St) (H:Hp) (x:V) (v:Value) (Q:Bool->Hp->Prop),Inv X pins σ H s->RelV x v->r x H Q ->
   wpAny (model X.prog X.w) X.A (truthy v) (TP X pins σ Q) X.xe s
noncomputable def tOp(r:R2)(ta tb:TE):TE:=fun σ H Q=>ta σ H fun x H1=>tb σ H1 fun y H2=>r x y H2 Q
noncomputable def tUn(r:V->Hp->VK->Prop)(ta:TE):TE:=fun σ H Q=>ta σ H fun x H1=>r x H1 Q
noncomputable def rI(C:Int->Int->Prop)(g:Int->Int->V):R2:=fun x y H Q=>∃ i j,x=.int i /\ y=.int j /\ C i j /\ Q (g i j) H
noncomputable def rI0(g:Int->Int->V):R2:=fun x y H Q=>∃ i j,x=.int i /\ y=.int j /\ Q (g i j) H
noncomputable def rU(g:Int->V):V->Hp->VK->Prop:=fun x H Q=>∃ i,x=.int i /\ Q (g i) H
section
variable{X:Cx}{a b c:Expr}{ta tb tc:TE}{pos:Pos}
theorem Lw(ha:PE X a ta)(hb:PE X b tb){pins:List (Addr×Obj)}{s:Shared}{σ:St}{H:Hp}{R:V->V->Hp->Prop}(I:Inv X pins σ H s)
  (h:ta σ H fun x H1=>tb σ H1 fun y H2=>R x y H2) {Q:Value->Shared->Prop} {f:Value->Value->Sem Value}
  (hf:∀ v u s2 x y H2,Inv X pins σ H2 s2->RelV x v->RelV y u->R x y H2->wpAny (model X.prog X.w) X.A (f v u) Q X.xe s2):
  wpAny (model X.prog X.w) X.A (eval a X.env) (fun v s₁=>wpAny (model X.prog X.w) X.A (eval b X.env) (fun u s₂=>wpAny (model X.prog X.w) X.A (f v u) Q X.xe s₂) X.xe s₁) X.xe s:=by
 refine thn (ha pins s σ H _ I h) fun v s1 ⟨x,H1,I1,r1,q1⟩=>?_
 refine thn (hb pins s1 σ H1 _ I1 q1) fun u s2 ⟨y,H2,I2,r2,q2⟩=>?_
 grind
theorem LW{op:Operator}{r:R2}(ho:OpR X (binaryOp op) r)(ha:PE X a ta)(hb:PE X b tb):PE X (.BinOp a op b pos) (tOp r ta tb):=by
 intro pins s σ H Q I h;exact wpAny_BinOp (Lw ha hb I h fun v u s2 x y H2 I2 rx ry q=>ho pins s2 σ H2 x y v u Q I2 rx ry q)
theorem L9{op:UnaryOp}{r:V->Hp->VK->Prop}(ho:UnR X (unaryOp op) r)(ha:PE X a ta):PE X (.UnaryOp op a pos) (tUn r ta):=by
 intro pins s σ H Q I h;exact UnaryOp_ (thn (ha pins s σ H _ I h) fun v s1 ⟨x,H1,I1,r1,q1⟩=>ho pins s1 σ H1 x v Q I1 r1 q1)
theorem opI{f:Value->Value->Sem Value}{C:Int->Int->Prop}{g:Int->Int->Int}
  (rule:∀(i j:Int) (t u:Tok) (s:Shared) (Q:Value->Shared->Prop) (E:Value->Shared->Prop),C i j->Q (.int (g i j) s.toks) { s with toks:=s.toks+1 }->wpAny (model X.prog X.w) X.A (f (.int i t) (.int j u)) Q E s):
  OpR X f (rI C fun i j=>.int (g i j)):=by
 intro pins s σ H x y v u Q I rx ry h;obtain⟨i,j,rfl,rfl,hc,q⟩:=h;obtain⟨t,rfl⟩:=rx;obtain⟨t',rfl⟩:=ry;exact rule i j t t' s _ _ hc ⟨.int (g i j),H,I.tok _,⟨_,rfl⟩,q⟩
theorem LM{f:Value->Value->Sem Value}{g:Int->Int->Int}
  (rule:∀(i j:Int) (t u:Tok) (s:Shared) (Q:Value->Shared->Prop) (E:Value->Shared->Prop),Q (.int (g i j) s.toks) { s with toks:=s.toks+1 }->wpAny (model X.prog X.w) X.A (f (.int i t) (.int j u)) Q E s):
  OpR X f (rI0 fun i j=>.int (g i j)):=by
 intro pins s σ H x y v u Q I rx ry h;obtain⟨i,j,rfl,rfl,q⟩:=h;obtain⟨t,rfl⟩:=rx;obtain⟨t',rfl⟩:=ry;exact rule i j t t' s _ _ ⟨.int (g i j),H,I.tok _,⟨_,rfl⟩,q⟩
theorem G3{f:Value->Value->Sem Value}{g:Int->Int->Bool}
  (rule:∀(i j:Int) (t u:Tok) (s:Shared) (Q:Value->Shared->Prop) (E:Value->Shared->Prop),Q (.bool (g i j)) s->wpAny (model X.prog X.w) X.A (f (.int i t) (.int j u)) Q E s):
  OpR X f (rI0 fun i j=>.bl (g i j)):=by
 intro pins s σ H x y v u Q I rx ry h;obtain⟨i,j,rfl,rfl,q⟩:=h;obtain⟨t,rfl⟩:=rx;obtain⟨t',rfl⟩:=ry;exact rule i j t t' s _ _ ⟨.bl (g i j),H,I,rfl,q⟩
noncomputable def LB(i j:Int):Prop:=0<j /\ j<1073741824
noncomputable def Ek(i j:Int):Prop:=(-(2 ^ 64)<i /\ i<2 ^ 64) \/ (-(2 ^ 64)<j /\ j<2 ^ 64)
theorem Ek.ok{i j:Int}(h:Ek i j):IntMulOk i j:=by
 rcases h with⟨h1,h2⟩|⟨h1,h2⟩
 . exact .of_left (intBits_le_64 h1 h2)
 . exact .of_right (intBits_le_64 h1 h2)
theorem cj:OpR X (binaryOp .Add) (rI0 fun i j=>.int (i+j)):=LM fun _ _ _ _ _ _ _ q=>add_int q
theorem rh:OpR X (binaryOp .Sub) (rI0 fun i j=>.int (i - j)):=LM fun _ _ _ _ _ _ _ q=>sub_int q
theorem ud:OpR X (binaryOp .Mult) (rI Ek fun i j=>.int (i*j)):=opI fun _ _ _ _ _ _ _ hc q=>mul_int q hc.ok
theorem bR:OpR X (binaryOp .FloorDiv) (rI LB fun i j=>.int (i/j)):=opI fun i j _ _ _ _ _ hc q=>by
 have h1:=hc.1;have h2:=hc.2;exact floordiv_int (by omega) (by rw[Int.fdiv_eq_ediv_of_nonneg i (by omega)];exact q) (.inl (PyProof.noPylong_small (by omega)))
theorem bO:OpR X (binaryOp .Mod) (rI (fun _ j=>0<j) fun i j=>.int (i%j)):=opI fun i j _ _ _ _ _ hc q=>by
 exact mod_int' (by omega) (by rw[Int.fmod_eq_emod_of_nonneg i (by omega)];exact q)
theorem unI{f:Value->Sem Value}{g:Int->Int}
  (rule:∀(i:Int) (t:Tok) (s:Shared) (Q:Value->Shared->Prop) (E:Value->Shared->Prop),Q (.int (g i) s.toks) { s with toks:=s.toks+1 }->wpAny (model X.prog X.w) X.A (f (.int i t)) Q E s):
  UnR X f (rU fun i=>.int (g i)):=by
 intro pins s σ H x v Q I rx h;obtain⟨i,rfl,q⟩:=h;obtain⟨t,rfl⟩:=rx;exact rule i t s _ _ ⟨.int (g i),H,I.tok _,⟨_,rfl⟩,q⟩
theorem ja:UnR X (unaryOp .USub) (rU fun i=>.int (-i)):=unI fun _ _ _ _ _ q=>neg_int q
end
noncomputable def Js:V->V->Bool
 |.non,.non=>true|.non,.int _=>true|.int _,.non=>true|.non,.bl _=>true|.bl _,.non=>true|.non,.str _=>true|.str _,.non=>true
 |.int _,.int _=>true|.bl _,.bl _=>true|.str _,.str _=>true|.byt _,.byt _=>true
 |.int _,.str _=>true|.str _,.int _=>true|.bl _,.str _=>true|.str _,.bl _=>true
 |_,_=>false
noncomputable def rEq:R2:=fun x y H Q=>Js x y=true /\ Q (.bl (decide (x=y))) H
noncomputable def rNe:R2:=fun x y H Q=>Js x y=true /\ Q (.bl (!decide (x=y))) H
theorem BY{i j:Int}:decide (V.int i=V.int j)=(i==j):=by
 rw[Bool.eq_iff_iff];simp
theorem FD{i j:Bool}:decide (V.bl i=V.bl j)=(i==j):=by
 rw[Bool.eq_iff_iff];simp
theorem Cm{i j:Str}:decide (V.str i=V.str j)=(i==j):=by
 rw[Bool.eq_iff_iff];simp
theorem BX{i j:Array UInt8}:decide (V.byt i=V.byt j)=(i.toList==j.toList):=by
 rw[Bool.eq_iff_iff];simp
section
variable{X:Cx}{a b c:Expr}{ta tb tc:TE}{pos:Pos}
theorem cU{pins:List (Addr×Obj)}{σ:St}{H:Hp}{s:Shared}{Q:VK}{k k':Bool}(I:Inv X pins σ H s)(q:Q (.bl k) H)(e:k=k'):EP X pins σ Q (.bool k') s:=by
 subst e
 exact⟨.bl k,H,I,rfl,q⟩
theorem bj:OpR X (compareOp .Eq) rEq:=by
 intro pins s σ H x y v u Q I rx ry h;obtain⟨hs,q⟩:=h
 cases x with
 | non=>
   cases rx
   cases y with
   |non=>cases ry;exact PySem.EqNone.eq_none_none (cU I q (by simp))
   |bl j=>cases ry;exact PySem.EqNone.eq_none_bool (cU I q (by simp))
   |int j=>obtain⟨t',rfl⟩:=ry;exact PySem.EqNone.eq_none_int (cU I q (by simp))
   |str j=>obtain⟨t',rfl⟩:=ry;exact PySem.EqNone.eq_none_str (cU I q (by simp))
   |_=>exact absurd (show false=true from hs) Bool.false_ne_true
 | bl i=>
   cases rx
   cases y with
   |non=>cases ry;exact PySem.EqNone.eq_bool_none (cU I q (by simp))
   |bl j=>cases ry;exact eq_bool (cU I q FD)
   |str j=>obtain⟨t',rfl⟩:=ry;exact PySem.EqMixed.eq_bool_str (cU I q (by simp))
   |_=>exact absurd (show false=true from hs) Bool.false_ne_true
 | int i=>
   obtain⟨t,rfl⟩:=rx
   cases y with
   |non=>cases ry;exact PySem.EqNone.eq_int_none (cU I q (by simp))
   |int j=>obtain⟨t',rfl⟩:=ry;exact eq_int (cU I q BY)
   |str j=>obtain⟨t',rfl⟩:=ry;exact PySem.EqMixed.eq_int_str (cU I q (by simp))
   |_=>exact absurd (show false=true from hs) Bool.false_ne_true
 | str i=>
   obtain⟨t,rfl⟩:=rx
   cases y with
   |non=>cases ry;exact PySem.EqNone.eq_str_none (cU I q (by simp))
   |bl j=>cases ry;exact PySem.EqMixed.eq_str_bool (cU I q (by simp))
   |int j=>obtain⟨t',rfl⟩:=ry;exact PySem.EqMixed.eq_str_int (cU I q (by simp))
   |str j=>obtain⟨t',rfl⟩:=ry;exact eq_str (cU I q Cm)
   |_=>exact absurd (show false=true from hs) Bool.false_ne_true
 | byt i=>
   obtain⟨t,rfl⟩:=rx
   cases y with
   |byt j=>obtain⟨t',rfl⟩:=ry;exact PySem.W.eq_bytes (cU I q BX)
   |_=>exact absurd (show false=true from hs) Bool.false_ne_true
 |_=>cases y<;>exact absurd (show false=true from hs) Bool.false_ne_true
theorem Jh:OpR X (compareOp .NotEq) rNe:=by
 intro pins s σ H x y v u Q I rx ry h;obtain⟨hs,q⟩:=h
 cases x with
 | non=>
   cases rx
   cases y with
   |non=>cases ry;exact PySem.EqNone.ne_none_none (cU I q (by simp))
   |bl j=>cases ry;exact PySem.EqNone.ne_none_bool (cU I q (by simp))
   |int j=>obtain⟨t',rfl⟩:=ry;exact PySem.EqNone.ne_none_int (cU I q (by simp))
   |str j=>obtain⟨t',rfl⟩:=ry;exact PySem.EqNone.ne_none_str (cU I q (by simp))
   |_=>exact absurd (show false=true from hs) Bool.false_ne_true
 | bl i=>
   cases rx
   cases y with
   |non=>cases ry;exact PySem.EqNone.ne_bool_none (cU I q (by simp))
   |bl j=>cases ry;exact ne_bool (cU I q (congrArg not FD))
   |str j=>obtain⟨t',rfl⟩:=ry;exact PySem.EqMixed.ne_bool_str (cU I q (by simp))
   |_=>exact absurd (show false=true from hs) Bool.false_ne_true
 | int i=>
   obtain⟨t,rfl⟩:=rx
   cases y with
   |non=>cases ry;exact PySem.EqNone.ne_int_none (cU I q (by simp))
   |int j=>obtain⟨t',rfl⟩:=ry;exact ne_int (cU I q (congrArg not BY))
   |str j=>obtain⟨t',rfl⟩:=ry;exact PySem.EqMixed.ne_int_str (cU I q (by simp))
   |_=>exact absurd (show false=true from hs) Bool.false_ne_true
 | str i=>
   obtain⟨t,rfl⟩:=rx
   cases y with
   |non=>cases ry;exact PySem.EqNone.ne_str_none (cU I q (by simp))
   |bl j=>cases ry;exact PySem.EqMixed.ne_str_bool (cU I q (by simp))
   |int j=>obtain⟨t',rfl⟩:=ry;exact PySem.EqMixed.ne_str_int (cU I q (by simp))
   |str j=>obtain⟨t',rfl⟩:=ry;exact ne_str (cU I q (congrArg not Cm))
   |_=>exact absurd (show false=true from hs) Bool.false_ne_true
 | byt i=>
   obtain⟨t,rfl⟩:=rx
   cases y with
   |byt j=>obtain⟨t',rfl⟩:=ry;exact PySem.W.ne_bytes (cU I q (congrArg not BX))
   |_=>exact absurd (show false=true from hs) Bool.false_ne_true
 |_=>cases y<;>exact absurd (show false=true from hs) Bool.false_ne_true
theorem j5:OpR X (compareOp .Lt) (rI0 fun i j=>.bl (decide (i<j))):=G3 fun _ _ _ _ _ _ _ q=>lt_int q
theorem mf:OpR X (compareOp .LtE) (rI0 fun i j=>.bl (decide (i<=j))):=G3 fun _ _ _ _ _ _ _ q=>le_int q
theorem xC:OpR X (compareOp .Gt) (rI0 fun i j=>.bl (decide (j<i))):=G3 fun _ _ _ _ _ _ _ q=>gt_int q
theorem BL:OpR X (compareOp .GtE) (rI0 fun i j=>.bl (decide (j<=i))):=G3 fun _ _ _ _ _ _ _ q=>ge_int q
theorem tS:OpR X (compareOp .Is) (fun x y H Q=>y=.non /\ Q (.bl (decide (x=.non))) H):=by
 intro pins s σ H x y v u Q I rx ry h;obtain⟨rfl,q⟩:=h;cases ry;refine is_none_gen (cU I q ?_)
 cases x<;>first
  |(cases rx;rfl)
  |(obtain⟨t,rfl⟩:=rx;rfl)
theorem yK:OpR X (compareOp .IsNot) (fun x y H Q=>y=.non /\ Q (.bl (!decide (x=.non))) H):=by
 intro pins s σ H x y v u Q I rx ry h;obtain⟨rfl,q⟩:=h;cases ry;refine isnot_none_gen (cU I q ?_)
 cases x<;>first
  |(cases rx;rfl)
  |(obtain⟨t,rfl⟩:=rx;rfl)
theorem jE(b:Expr){op:CmpOp}(h:op≠.In:=by decide)(h2:op≠.NotIn:=by decide):behindInMarks op b=false:=by
 have e1:(op==CmpOp.In)=false:=by cases op<;>first|rfl|exact absurd rfl h
 have e2:(op==CmpOp.NotIn)=false:=by cases op<;>first|rfl|exact absurd rfl h2
 cases b<;>simp[behindInMarks,e1,e2]
theorem GS{op:CmpOp}{r:R2}(ho:OpR X (compareOp op) r)(ha:PE X a ta)(hb:PE X b tb)(hm:behindInMarks op b=false):PE X (.Compare a [op] [b] pos) (tOp r ta tb):=by
 intro pins s σ H Q I h;exact wpAny_Compare1 (Lw ha hb I h fun v u s2 x y H2 I2 rx ry q=>ho pins s2 σ H2 x y v u Q I2 rx ry q) hm
noncomputable def xc(t:TE):TT:=fun σ H Q=>t σ H fun x H'=>∃ k,x=.bl k /\ Q k H'
theorem GD{op:CmpOp}{r:R2}(ho:OpR X (compareOp op) r)(ha:PE X a ta)(hb:PE X b tb)(hm:behindInMarks op b=false):PT X (.Compare a [op] [b] pos) (xc (tOp r ta tb)):=by
 intro pins s σ H Q I h
 refine wpAny_isTrue_Compare1 (thn (ha pins s σ H _ I h) fun v s1 ⟨x,H1,I1,r1,q1⟩=>thn (hb pins s1 σ H1 _ I1 q1) fun u s2 ⟨y,H2,I2,r2,q2⟩=>
  thn (ho pins s2 σ H2 x y v u _ I2 r1 r2 q2) fun c s3 ⟨z,H3,I3,r3,k,e,q3⟩=>?_) hm
 subst e;cases r3;exact wpAny_truthy_bool ⟨H3,I3,q3⟩
noncomputable def vR(r r':R2)(ta tb tc:TE):TE:=fun σ H Q=>ta σ H fun x H1=>tb σ H1 fun y H2=>r x y H2 fun z H3=>∃ k,z=.bl k /\
 (if k=true then tc σ H3 fun w' H4=>r' y w' H4 Q else Q (.bl false) H3)
theorem E0{op op':CmpOp}{r r':R2}(ho:OpR X (compareOp op) r)(ho':OpR X (compareOp op') r')(ha:PE X a ta)(hb:PE X b tb)(hc:PE X c tc)
  (hm:lastMarks [op,op'] [b,c]=false:=by with_unfolding_all rfl):PE X (.Compare a [op,op'] [b,c] pos) (vR r r' ta tb tc):=by
 intro pins s σ H Q I h
 refine Compare_chain (thn (ha pins s σ H _ I h) fun v s1 ⟨x,H1,I1,r1,q1⟩=>chain_link (thn (hb pins s1 σ H1 _ I1 q1) fun u s2 ⟨y,H2,I2,r2,q2⟩=>
  thn (ho pins s2 σ H2 x y v u _ I2 r1 r2 q2) fun d s3 ⟨z,H3,I3,r3,k,e,q3⟩=>?_)) hm
 subst e;cases r3;refine wpAny_truthy_bool ?_
 cases k with
 |false=>exact ite_ff ⟨.bl false,H3,I3,rfl,q3⟩
 |true=>exact ite_tt (chain_last (thn (hc pins s3 σ H3 _ I3 q3) fun w' s4 ⟨z',H4,I4,r4,q4⟩=>ho' pins s4 σ H4 y z' u w' Q I4 r2 r4 q4))
theorem Ec{op op':CmpOp}{r r':R2}(ho:OpR X (compareOp op) r)(ho':OpR X (compareOp op') r')(ha:PE X a ta)(hb:PE X b tb)(hc:PE X c tc)
  (hm:lastMarks [op,op'] [b,c]=false:=by with_unfolding_all rfl):PT X (.Compare a [op,op'] [b,c] pos) (xc (vR r r' ta tb tc)):=by
 intro pins s σ H Q I h
 refine isTrue_chain (thn (ha pins s σ H _ I h) fun v s1 ⟨x,H1,I1,r1,q1⟩=>test_link (thn (hb pins s1 σ H1 _ I1 q1) fun u s2 ⟨y,H2,I2,r2,q2⟩=>
  thn (ho pins s2 σ H2 x y v u _ I2 r1 r2 q2) fun d s3 ⟨z,H3,I3,r3,k,e,q3⟩=>?_)) hm
 subst e;cases r3;refine wpAny_truthy_bool ?_
 cases k with
 | false=>
   obtain⟨k',e',q'⟩:=q3
   cases e'
   exact ite_ff ⟨H3,I3,q'⟩
 | true=>
   refine ite_tt (test_last (thn (hc pins s3 σ H3 _ I3 q3) fun w' s4 ⟨z',H4,I4,r4,q4⟩=>thn (ho' pins s4 σ H4 y z' u w' _ I4 r2 r4 q4) fun d' s5 ⟨z2,H5,I5,r5,k2,e2,q5⟩=>?_));subst e2;cases r5;exact wpAny_truthy_bool ⟨H5,I5,q5⟩
noncomputable def AQ(K:PySem.W.Frag)(x:V)(H:Hp)(k:Bool):Prop:=
 match x with
 |.non=>k=false
 |.bl b=>k=b
 |.int i=>k=(i != 0)
 |.str y=>y.length<=sizeLine /\ k=((y.length:Int) != 0)
 |.byt y=>y.size<=sizeLine /\ k=((y.size:Int) != 0)
 |.ref p=>(∃ xs,SqL K H p xs /\ k=!xs.isEmpty) \/ (∃ xs,SqT K H p xs /\ k=!xs.isEmpty) \/ ∃ kvs,H p=some (.dK kvs) /\ k=!kvs.isEmpty
 |_=>False
theorem Aw{κ:Type}{kvs:List (κ×V)}{vs:List (κ×Value)}(r:KV kvs vs):(!vs.isEmpty)=!kvs.isEmpty:=by
 cases r<;>rfl
theorem vY{xs:List V}{its:List Value}(r:Vals xs its):(!its.toArray.isEmpty)=!xs.isEmpty:=by
 cases r<;>simp
theorem wq:(sizeLine:Nat)<2 ^ 63:=by rw[sizeLine_eq];decide
theorem Kp:NR X (fun x H Q=>∃ k,AQ X.K x H k /\ Q k H):=by
 intro pins s σ H x v Q I rx h;obtain⟨k,e,q⟩:=h;have hl:=wq
 have hs:sizeLine=16777216:=sizeLine_eq
 cases x with
 | non=>
   cases rx
   have e':k=false:=e
   subst e';exact truthy_none ⟨H,I,q⟩
 | bl b=>
   cases rx
   have e':k=b:=e
   subst e';exact wpAny_truthy_bool ⟨H,I,q⟩
 | int i=>
   obtain⟨t,rfl⟩:=rx
   have e':k=(i != 0):=e
   subst e';exact PySem.P.truthy_int ⟨H,I,q⟩
 | str y=>
   obtain⟨t,rfl⟩:=rx
   obtain⟨hy,e'⟩:y.length<=sizeLine /\ k=((y.length:Int) != 0):=e
   subst e';exact PySem.P.truthy_str (by omega) ⟨H,I.tok _,q⟩
 | byt y=>
   obtain⟨t,rfl⟩:=rx
   obtain⟨hy,e'⟩:y.size<=sizeLine /\ k=((y.size:Int) != 0):=e
   subst e';exact PySem.W.truthy_bytes (by omega) ⟨H,I.tok _,q⟩
 | ref p=>
   cases rx
   have e':(∃ xs,SqL X.K H p xs /\ k=!xs.isEmpty) \/ (∃ xs,SqT X.K H p xs /\ k=!xs.isEmpty) \/ ∃ kvs,H p=some (.dK kvs) /\ k=!kvs.isEmpty:=e
   rcases e' with⟨xs,hx,e'⟩|⟨xs,hx,e'⟩|⟨kvs,hx,e'⟩
   . subst e';obtain⟨its,r,pl,hz⟩:=I.list hx;have hlen:=r.length;exact wpAny_truthy_list pl.isList (by simp only[List.size_toArray];omega) ⟨H,I.tok _,by rw[vY r];exact q⟩
   . subst e';obtain⟨its,r,pl,hz⟩:=I.tuple hx;have hlen:=r.length;exact truthy_tuple pl (by simp only[List.size_toArray];omega) ⟨H,I.tok _,by rw[vY r];exact q⟩
   . subst e'
     obtain⟨hz,hS,vs,r,m⟩:kvs.length<=sizeLine /\ (p==sysModules)=false /\ ∃ vs,KV kvs vs /\ s.heap.DictOf (jb X.prog X.w) p vs:=I.hok p _ hx
     have hlen:kvs.length=vs.length:=Paired.length r
     exact wpAny_truthy_dict hS m (by omega) ⟨H,I.tok _,by rw[Aw r];exact q⟩
 |_=>exact(show False from e).elim
theorem Ft(ha:PE X a ta)(he:∀ whole,isTrue a X.env whole=(do let v <- whole;standAt a.pos;holding [v] (truthy v))):
  PT X a (fun σ H Q=>ta σ H fun x H'=>∃ k,AQ X.K x H' k /\ Q k H'):=by
 intro pins s σ H Q I h;exact isTrue_plain (thn (ha pins s σ H _ I h) fun v s1 ⟨x,H1,I1,r1,q1⟩=>Kp pins s1 σ H1 x v Q I1 r1 q1) (he _)
theorem vals1{x:V}{us:List Value}(r:Vals [x] us):∃ u,us=[u] /\ RelV x u:=by
 cases r with
 |cons r1 r2=>cases r2;exact⟨_,rfl,r1⟩
theorem wR:oI X (.type "int") (fun xs H Q=>(∃ i,xs=[.int i] /\ Q (.int i) H) \/ ∃ k,xs=[.bl k] /\ Q (.int (if k then 1 else 0)) H):=by
 intro pins s σ H xs us Q I r h
 rcases h with⟨i,rfl,q⟩|⟨k,rfl,q⟩
 . obtain⟨u,rfl,t,rfl⟩:=vals1 r;exact call_int_int ⟨.int i,H,I,⟨_,rfl⟩,q⟩
 . obtain⟨u,rfl,r1⟩:=vals1 r;cases r1;exact call_int_bool ⟨.int (if k then 1 else 0),H,I.tok _,⟨_,rfl⟩,q⟩
theorem sW:oI X (.type "str") (fun xs H Q=>∃ i,xs=[.int i] /\ i.natAbs.log2<1920 /\ Q (.str (toString i)) H):=by
 intro pins s σ H xs us Q I r h;obtain⟨i,rfl,hz,q⟩:=h;obtain⟨u,rfl,t,rfl⟩:=vals1 r;exact PySem.P.str_of_int hz ⟨.str _,H,I.tok _,⟨_,rfl⟩,q⟩
theorem F0:oI X (.builtin "ord") (fun xs H Q=>∃ x,xs=[.str x] /\ x.length=1 /\ Q (.int (x.cps.getD 0 0:Nat)) H):=by
 intro pins s σ H xs us Q I r h;obtain⟨x,rfl,hz,q⟩:=h;obtain⟨u,rfl,t,rfl⟩:=vals1 r;exact ord_of_one hz ⟨.int _,H,I.tok _,⟨_,rfl⟩,q⟩
end
structure AL(h:Heap)(x dx C:Addr)(mA:Str->Option Value):Prop where
 obj:h.get? x=some (PySem.W.instObj C dx)
 ns:h.Ns1 dx mA
 ne:dx≠x
theorem C6{h:Heap}{dx:Addr}{mA:Str->Option Value}(n:h.Ns1 dx mA):∃ od,h.get? dx=some od /\ ∀ name,PySem.W.lookIn name od=some (mA name):=by
 obtain⟨o,es,ep,ho,hd,hk,_,hm⟩:=n
 refine⟨o,ho,fun name=>?_⟩
 have e:=hm name;unfold nsFind findBy at e;rw[<- Array.find?_toList]at e;unfold PySem.W.lookIn;rw[hd];dsimp only;split
 . rename_i y q;rw[q]at e;exact congrArg some e
 . rename_i q;rw[q]at e
   have a:es.toList.any (·.refKey)=false:=by
    rw[List.any_eq_false];intro y hy;obtain⟨z,t,hkey⟩:=hk y (Array.mem_toList_iff.mp hy);simp[DictEntry.refKey,hkey]
   have a':¬ es.toList.any (·.refKey)=true:=by rw[a];exact Bool.false_ne_true
   rw[if_neg a'];exact congrArg some e
theorem AL.look{h:Heap}{x dx C:Addr}{mA:Str->Option Value}(I:AL h x dx C mA):∃ od,PySem.W.InstAt h x (PySem.W.instObj C dx) C (some od) /\ ∀ name,PySem.W.lookIn name od=some (mA name):=
 let ⟨od,ho,hl⟩:=C6 I.ns
 ⟨od,⟨I.obj,rfl,rfl,ho⟩,hl⟩
section
variable{prog:Program}{w:World}{A:Around}{E:Value->Shared->Prop}{s:Shared}{K:PySem.W.Frag}{x dx C f:Addr}{mA:Str->Option Value}{name:Str}{v:Value}
theorem get_map{expr:Bool}{Q:Value->Shared->Prop}(X:K.In s.heap)(I:AL s.heap x dx C mA)(hg:PySem.W.plainGet K C name=true)(hh:PySem.W.hasDictIn K C=true)
  (ha:PySem.W.findIn K (.ref C) name=some none) (hv:mA name=some v) (hv':PySem.W.handedIn v=true) (h:Q v { s with toks:=s.toks+1 }):
  wpAny (model prog w) A (getAttr (.ref x) name expr) Q E s:=by
 obtain⟨od,J,hl⟩:=I.look;exact PySem.W.get_value X J (PySem.W.plainGet_of hg).1 (PySem.W.findObj_own hh ha rfl (by rw[hl,hv])) hv' h
theorem D3{pl:Sem Bool}{Q:Value×List Value->Shared->Prop}(X:K.In s.heap)(I:AL s.heap x dx C mA)(hg:PySem.W.plainGet K C name=true)
  (hf:PySem.W.findIn K (.ref C) name=some (some (.ref f))) (ht:PySem.W.isFn K (.ref f)=true) (hv:mA name=none) (h:Q (.ref f,[.ref x]) s):
  wpAny (model prog w) A (getMethod (.ref x) name pl) Q E s:=by
 obtain⟨od,J,hl⟩:=I.look;exact PySem.W.method_fn X J (PySem.W.plainGet_of hg).1 (PySem.W.plainGet_of hg).2 hf (beq_iff_eq.mp ht) (by show(PySem.W.lookIn name od).map (·.isSome)=some false;rw[hl,hv];rfl) h
theorem Ha{ns:List Str}{Q:Unit->Shared->Prop}(X:K.In s.heap)(I:AL s.heap x dx C mA)
  (hs:PySem.W.findIn K (.ref C) "__setattr__" = some (some (.builtin "object.__setattr__"))) (hp:PySem.W.plainOver K C=true) (ht:PySem.W.takerIn K C name=some none) (hh:PySem.W.hasDictIn K C=true)
  (hw:PySem.Within mA ns) (hsz:ns.length<=sizeLine)
  (h:∀ h',AL h' x dx C (fun y=>if y=name then some v else mA y)->Heap.SameBut dx s.heap h'->Q () { s with heap:=h',toks:=s.toks+2 }):
  wpAny (model prog w) A (setAttr (.ref x) name v) Q E s:=by
 obtain⟨od,J,hl⟩:=I.look;refine PySem.W.set_plain X J hs (PySem.W.osa_open (s:={ s with toks:=s.toks+1 }) (r:=none) X J hp ht fun b=>?_);obtain⟨cd,hc,hd'⟩:=PySem.W.any_some hh
 have hx:s.heap.get? x=some ⟨.ref C,some dx,.plain,#[]⟩:=I.obj
 refine wpAny_bind (wpAny_pure (wpAny_bind (wpAny_bind (wpAny_loadPart hx (wpAny_bind (PySem.W.Looks.here (s:={ s with toks:=s.toks+1 }) (PySem.W.looks_clsIn X hc) ?_))))));rw[hd'];refine wpAny_pure (a:=some dx) (wpAny_bind (wpAny_pure (wpAny_bind ?_)))
 refine wpAny_nsSet1 (s:={ s with toks:=s.toks+1 }) I.ns fun h' hn2 hs2=>?_
 obtain⟨oD,esD,epD,hoD,hdD,hcD⟩:=hn2.count (PySem.Within.cons name v hw);refine wpAny_bind (wpAny_lookBehind hoD (by rw[hdD];exact pastItsLine_dict (Nat.le_trans hcD (by rw[List.length_cons];omega))) ?_);exact wpAny_pure (h _ ⟨(hs2.2 _ (Ne.symm I.ne)).trans I.obj,hn2,I.ne⟩ hs2)
theorem Fy{R:Result->Shared->Prop}{vs:List Value}{kw:List (Str×Value)}(X:K.In s.heap)(hm:PySem.W.makesIn K C=true)
  (hi:PySem.W.findIn K (.ref C) "__init__" = some (some (.ref f))) (hf:PySem.W.typeIn K (.ref f)=some (.type "function"))
  (h:codeAny (model prog w) (A.under (.builtin "type.__call__" ⟨.ref C ::vs,kw⟩)) (.call (.ref f) ⟨.ref (s.heap.objs.size+1) ::vs,kw⟩) (PySem.W.InitBack (s.heap.objs.size+1) R)
    { s with heap:=(s.heap.push PySem.W.emptyDict).push (PySem.W.instObj C s.heap.objs.size) }):
  codeAny (model prog w) A (.call (.ref C) ⟨vs,kw⟩) R s:=by
 obtain⟨hh,g,d,t,os⟩:=s;exact PySem.W.make_core (PySem.W.makes_of X hm) (PySem.W.looks_findIn X hi) (fun self=>PySem.W.bind_fn X self hf) (.inl rfl) h
end
noncomputable def kz(f:Str)(v:V):List (Str×V)->List (Str×V)
 |[]=>[(f,v)]
 |(g,x) ::r=>if g=f then(g,v) ::r else(g,x) ::kz f v r
theorem uk(f g:Str)(v:V):∀ fs:List (Str×V),(kz f v fs).lookup g=if g=f then some v else fs.lookup g
 | []=>by
   show List.lookup g [(f,v)]=_
   by_cases h:g=f
   . have hb:(g==f)=true:=beq_iff_eq.mpr h
     simp only[List.lookup,hb,if_pos h]
   . have hb:(g==f)=false:=beq_eq_false_iff_ne.mpr h
     simp only[List.lookup,hb,if_neg h]
 | (k,x) ::r=>by
   have ih:=uk f g v r;rw[show kz f v ((k,x) ::r)=(if k=f then(k,v) ::r else(k,x) ::kz f v r) from rfl]
   by_cases hk:k=f
   . rw[if_pos hk]
     by_cases h:g=k
     . have hb:(g==k)=true:=beq_iff_eq.mpr h
       simp only[List.lookup,hb,if_pos (h.trans hk)]
     . have hb:(g==k)=false:=beq_eq_false_iff_ne.mpr h
       simp only[List.lookup,hb,if_neg (fun e:g=f=>h (e.trans hk.symm))]
   . rw[if_neg hk]
     by_cases h:g=k
     . have hb:(g==k)=true:=beq_iff_eq.mpr h
       simp only[List.lookup,hb,if_neg (fun e:g=f=>hk (h.symm.trans e))]
     . have hb:(g==k)=false:=beq_eq_false_iff_ne.mpr h
       simp only[List.lookup,hb];exact ih
theorem ue(f:Str)(v:V):∀ fs:List (Str×V),f∈(kz f v fs).map (·.1) /\ ∀ g,g∈fs.map (·.1)->g∈(kz f v fs).map (·.1)
 |[]=>⟨by simp[kz],fun g h=>by simp at h⟩
 | (k,x) ::r=>by
   obtain⟨i1,i2⟩:=ue f v r;rw[show kz f v ((k,x) ::r)=(if k=f then(k,v) ::r else(k,x) ::kz f v r) from rfl]
   by_cases hk:k=f
   . rw[if_pos hk];subst hk
     exact⟨by simp,fun g h=>by simpa using h⟩
   . rw[if_neg hk]
     refine⟨?_,fun g h=>?_⟩
     . rw[List.map_cons];exact List.mem_cons_of_mem _ i1
     . rw[List.map_cons]at h ⊢
       rcases List.mem_cons.mp h with e|e
       . exact List.mem_cons.mpr (.inl e)
       . exact List.mem_cons_of_mem _ (i2 g e)
theorem um(f:Str)(v:V):∀ fs:List (Str×V),(kz f v fs).length<=fs.length+1
 |[]=>by simp[kz]
 | (k,x) ::r=>by
   have ih:=um f v r;rw[show kz f v ((k,x) ::r)=(if k=f then(k,v) ::r else(k,x) ::kz f v r) from rfl]
   by_cases hk:k=f
   . rw[if_pos hk,List.length_cons,List.length_cons];omega
   . rw[if_neg hk,List.length_cons,List.length_cons];omega
theorem bU.some_of{v:V}{o:Option Value}(r:bU (some v) o):∃ u,o=some u /\ RelV v u:=by
 cases o with
 |none=>exact(show False from r).elim
 |some u=>exact⟨u,rfl,r⟩
theorem bU.none_of{o:Option Value}(r:bU none o):o=none:=by
 cases o with
 |none=>rfl
 |some u=>exact(show False from r).elim
theorem CS{v:V}{u:Value}(r:RelV v u):PySem.W.handedIn u=true:=by
 cases v with
 |non=>cases(show u=Value.none from r);rfl
 |bl b=>cases(show u=Value.bool b from r);rfl
 |int i=>obtain⟨t,e⟩:=(show ∃ t,u=Value.int i t from r);cases e;rfl
 |str x=>obtain⟨t,e⟩:=(show ∃ t,u=Value.str x t from r);cases e;rfl
 |byt b=>obtain⟨t,e⟩:=(show ∃ t,u=Value.bytes b t from r);cases e;rfl
 |flt b=>obtain⟨t,e⟩:=(show ∃ t,u=Value.float b t from r);cases e;rfl
 |ref a=>cases(show u=Value.ref a from r);rfl
 |ty n=>cases(show u=Value.type n from r);rfl
section
variable{P:Program}{w:World}{H H':Hp}{h h':Heap}{a C dx:Addr}{fs fs':List (Str×V)}
theorem yj(hok:HOk P w H h)(e:H a=some (.ins C dx fs)):∃ mA,AL h a dx C mA /\ (∀ f,bU (fs.lookup f) (mA f)) /\ PySem.Within mA (fs.map (·.1)) /\ fs.length<=1000 /\ H dx=some (.own a):=by
 obtain⟨d,z,ne,ob,mA,n,r,q⟩:=(show hU P w H h a (.ins C dx fs) from hok a _ e)
 exact⟨mA,⟨ob,n,ne⟩,r,q,z,d⟩
end
structure Cls(K:PySem.W.Frag)(C:Addr):Prop where
 pg:PySem.W.plainGet K C Str.empty=true
 hd:PySem.W.hasDictIn K C=true
 po:PySem.W.plainOver K C=true
 sa:PySem.W.findIn K (.ref C) "__setattr__" = some (some (.builtin "object.__setattr__"))
theorem Cls.get{K:PySem.W.Frag}{C:Addr}(c:Cls K C)(f:Str):PySem.W.plainGet K C f=true:=c.pg
noncomputable def mR(K:PySem.W.Frag)(C:Addr)(f:Str):Prop:=PySem.W.findIn K (.ref C) f=some none
theorem mR.Ml{K:PySem.W.Frag}{C:Addr}{f:Str}(n:mR K C f):PySem.W.takerIn K C f=some none:=by
 unfold PySem.W.takerIn;rw[show PySem.W.findIn K (.ref C) f=some none from n];rfl
structure Meth(K:PySem.W.Frag)(C:Addr)(m:Str)(f:Addr):Prop where
 at_:PySem.W.findIn K (.ref C) m=some (some (.ref f))
 fn:PySem.W.isFn K (.ref f)=true
 kp:PySem.W.keepIn K (.ref f)=true
section
variable{X:Cx}{pins:List (Addr×Obj)}{σ:St}{H:Hp}{s:Shared}{a C dx:Addr}{fs:List (Str×V)}{f:Str}{v:V}{A:Around}{E:Value->Shared->Prop}
theorem AW{b:Bool}{Q:Value->Shared->Prop}(I:Inv X pins σ H s)(e:H a=some (.ins C dx fs))(c:Cls X.K C)(n:mR X.K C f)(l:fs.lookup f=some v)
  (h:∀ u s',Inv X pins σ H s'->RelV v u->Q u s'):wpAny (model X.prog X.w) A (getAttr (.ref a) f b) Q E s:=by
 obtain⟨mA,O,r,_,_,_⟩:=yj I.hok e;obtain⟨u,hu,ru⟩:=bU.some_of (v:=v) (o:=mA f) (by rw[<- l];exact r f);exact get_map I.kIn O (c.get f) c.hd n hu (CS ru) (h u _ (I.tok _) ru)
theorem vB{m:Str}{g:Addr}{pl:Sem Bool}{Q:Value×List Value->Shared->Prop}(I:Inv X pins σ H s)(e:H a=some (.ins C dx fs))(c:Cls X.K C)(k:Meth X.K C m g)(l:fs.lookup m=none)
  (h:Q (.ref g,[.ref a]) s):wpAny (model X.prog X.w) A (getMethod (.ref a) m pl) Q E s:=by
 obtain⟨mA,O,r,_,_,_⟩:=yj I.hok e
 have hn:mA m=none:=bU.none_of (by rw[<- l];exact r m)
 exact D3 I.kIn O (c.get m) k.at_ k.fn hn h
theorem Bi{y:V}{u:Value}{Q:Unit->Shared->Prop}(I:Inv X pins σ H s)(e:H a=some (.ins C dx fs))(c:Cls X.K C)(n:mR X.K C f)(hl:fs.length<1000)(ry:RelV y u)
  (h:∀ s',Inv X pins σ (upd H a (.ins C dx (kz f y fs))) s'->Q () s'):wpAny (model X.prog X.w) A (setAttr (.ref a) f u) Q E s:=by
 obtain⟨mA,O,r,wi,_,ho⟩:=yj I.hok e
 have hz:(fs.map (·.1)).length<=sizeLine:=by rw[List.length_map,sizeLine_eq];omega
 refine Ha I.kIn O c.sa c.po n.Ml c.hd wi hz fun h' O' sb=>h _ ?_
 have hd:∃ o,h'.get? dx=some o:=let ⟨o,_,_,e',_⟩:=O'.ns;⟨o,e'⟩
 refine I.write (x:=a) (e:=dx) (by rw[e];exact True.intro) (.inr ho) (fun b q hb z=>(sb.2 b hb).trans z) hd ?_
 refine⟨by rw[bH O.ne];exact ho,?_,O.ne,O'.obj,_,O'.ns,fun g=>?_,fun g hg=>?_⟩
 . have:=um f y fs;omega
 . show bU ((kz f y fs).lookup g) (if g=f then some u else mA g);rw[uk]
   by_cases q:g=f
   . rw[if_pos q,if_pos q];exact ry
   . rw[if_neg q,if_neg q];exact r g
 . by_cases q:g=f
   . rw[q];exact(ue f y fs).1
   . refine(ue f y fs).2 g (wi g fun z=>hg ?_)
     show(if g=f then some u else mA g)=none
     rw[if_neg q];exact z
theorem Inv.made(I:Inv X pins σ H s):Inv X pins σ (upd (upd H s.heap.objs.size (.own (s.heap.objs.size+1))) (s.heap.objs.size+1) (.ins C s.heap.objs.size []))
  { s with heap:=(s.heap.push PySem.W.emptyDict).push (PySem.W.instObj C s.heap.objs.size) }:=by
 have e1:(s.heap.push PySem.W.emptyDict).get? s.heap.objs.size=some PySem.W.emptyDict:=Heap.get?_push_size s.heap rfl
 have e2:((s.heap.push PySem.W.emptyDict).push (PySem.W.instObj C s.heap.objs.size)).get? (s.heap.objs.size+1)=some (PySem.W.instObj C s.heap.objs.size):=by
  have:=Heap.get?_push_size (s.heap.push PySem.W.emptyDict) (o:=PySem.W.instObj C s.heap.objs.size) rfl
  rwa [Heap.size_push]at this
 have e3:(s.heap.push PySem.W.emptyDict).Ns s.heap.objs.size (fun _=>none):=⟨PySem.W.emptyDict,#[],_,e1,rfl,(fun e he=>absurd he (by simp)),fun _=>rfl⟩
 have I1:=I.laid (a:=s.heap.objs.size) (o:=.own (s.heap.objs.size+1)) (h':=s.heap.push PySem.W.emptyDict) (t':=s.toks) (fun b u q=>Heap.get?_push_of_some _ q) (Nat.le_refl _) ⟨_,e1⟩;refine I1.laid (a:=s.heap.objs.size+1) (o:=.ins C s.heap.objs.size []) (t':=s.toks) (fun b u q=>Heap.get?_push_of_some _ q) (Nat.le_of_eq (Heap.size_push _ _)) ?_
 have ne:s.heap.objs.size≠s.heap.objs.size+1:=Nat.ne_of_lt (Nat.lt_succ_self _)
 refine⟨by rw[bH ne,bP],Nat.zero_le _,ne,e2,fun _=>none,(Heap.Ns1.of_empty e3).at fun o q=>Heap.get?_push_of_some _ q,fun _=>True.intro,fun y hy=>absurd rfl hy⟩
theorem HA{prog:Program}{w:World}{env:Env}{e:Expr}{f:Str}{pos:Pos}{s:Shared}{Q:Value->Shared->Prop}(hb:attributeBase e f env (eval e env)=eval e env)
  (h:wpAny (model prog w) A (eval e env) (fun o s₁=>wpAny (model prog w) A (getAttr o f true) Q E s₁) E s):wpAny (model prog w) A (eval (.Attribute e f pos) env) Q E s:=
 Attribute_any_ h (by rw[arm_eval_Attribute,hb])
end
noncomputable def Ji(K:PySem.W.Frag)(ta:TE)(f:Str):TE:=fun σ H Q=>ta σ H fun x H1=>∃ a C dx fs v,x=.ref a /\ H1 a=some (.ins C dx fs) /\ Cls K C /\ mR K C f /\ fs.lookup f=some v /\ Q v H1
noncomputable def Ly(K:PySem.W.Frag)(ta tv:TE)(f:Str):TS:=fun D σ H=>tv σ H fun y H1=>ta σ H1 fun x H2=>∃ a C dx fs,x=.ref a /\ H2 a=some (.ins C dx fs) /\ Cls K C /\ mR K C f /\ fs.length<1000 /\
 D.nx σ (upd H2 a (.ins C dx (kz f y fs)))
section
variable{X:Cx}{o e value:Expr}{f:Str}{pos pos' tpos:Pos}{ta tv:TE}
theorem Kv(he:PE X e ta)(hb:attributeBase e f X.env (eval e X.env)=eval e X.env):PE X (.Attribute e f pos) (Ji X.K ta f):=by
 intro pins s σ H Q I h;refine HA hb (thn (he pins s σ H _ I h) fun u s1 ⟨x,H1,I1,rx,a,C,dx,fs,v,ex,ea,c,n,l,q⟩=>?_);subst ex
 obtain rfl:u=Value.ref a:=rx
 exact AW I1 ea c n l fun u' s2 I2 ru=>⟨v,H1,I2,ru,q⟩
theorem K5(ha:PE X o ta)(hv:PE X value tv)(hs:swapsWith value (some (.Attribute o f pos')) pos.line X.env=pure false):PS X (.Assign [.Attribute o f pos'] value pos) (Ly X.K ta tv f):=by
 intro pins s σ H D I h;refine plainObj_wpAny_Assign_Attribute (thn (hv pins s σ H _ I h) fun u s1 ⟨y,H1,I1,ry,q⟩=>thn (ha pins s1 σ H1 _ I1 q) fun ov s2 ⟨x,H2,I2,rx,a,C,dx,fs,ex,ea,c,n,l,q2⟩=>?_) hs;subst ex
 obtain rfl:ov=Value.ref a:=rx
 exact Bi I2 ea c n l ry fun s3 I3=>⟨σ,_,I3,q2⟩
end
structure ik(k:Nat)(A:Around):Prop where
 hd:A.handled=none
 dp:A.depth+3*k+5<recursionLimit
 un:A.units+16*k+200<cLine
theorem ik.mono{j k:Nat}{A:Around}(r:ik k A)(h:j<=k):ik j A:=⟨r.hd,by have:=r.dp;omega,by have:=r.un;omega⟩
theorem ik.deeper{k:Nat}{A:Around}(r:ik (k+1) A)(env:Env):ik k (A.deeper env):=
 ⟨r.hd,by have:=r.dp;show A.depth+1+3*k+5<_;omega,by have:=r.un;show A.units+3+16*k+200<_;omega⟩
theorem Bv{A:Around}{C:Addr}{us:List Value}{kw:List (Str×Value)}:(A.under (.builtin "type.__call__" ⟨.ref C ::us,kw⟩)).depth=A.depth+1:=by
 first|rfl|simp[Around.under,Code.weight,Code.isCreation,Code.isGuard,Code.isCaller,Code.frames,Code.isFrame,guardIds]
theorem AZ{A:Around}{C:Addr}{us:List Value}{kw:List (Str×Value)}:(A.under (.builtin "type.__call__" ⟨.ref C ::us,kw⟩)).units=A.units+1:=by
 first|rfl|simp[Around.under,Code.cUnits,Code.frames,Code.isFrame]
theorem ik.make{k:Nat}{A:Around}(r:ik (k+1) A)(C:Addr)(us:List Value)(kw:List (Str×Value)):ik k (A.under (.builtin "type.__call__" ⟨.ref C ::us,kw⟩)):=
 ⟨r.hd,by have:=r.dp;rw[Bv];omega,by have:=r.un;rw[AZ];omega⟩
theorem ik.depth{k:Nat}{A:Around}(r:ik k A):A.depth<recursionLimit:=by have:=r.dp;omega
theorem ik.units{k:Nat}{A:Around}(r:ik k A):A.units+64<cLine:=by have:=r.un;omega
noncomputable def kO:TA:=fun _ H Q=>Q [] H
noncomputable def iX(ta:TE)(tr:TA):TA:=fun σ H Q=>ta σ H fun x H1=>tr σ H1 fun xs H2=>Q (x ::xs) H2
section
variable{X:Cx}{e:Expr}{es:List Expr}{te:TE}{t:TA}{pos:Pos}
theorem Jn:PA X [] kO:=fun _ _ _ _ H Q I h=>Calls.spliced_nil ⟨[],H,I,.nil,h⟩
theorem HS(ha:PE X e te)(hr:PA X es t)(hs:starEach (e ::es) X.env=(false,eval e X.env) ::starEach es X.env:=by rfl):PA X (e ::es) (iX te t):=by
 intro pos pins s σ H Q I h;rw[hs];refine Calls.spliced_cons (thn (ha pins s σ H _ I h) fun u s1 ⟨x,H1,I1,r1,q1⟩=>?_)
 exact thn (hr pos pins s1 σ H1 _ I1 q1) fun us s2 ⟨xs,H2,I2,r2,q2⟩=>⟨x ::xs,H2,I2,.cons r1 r2,q2⟩
noncomputable def Ky(t:TA):TE:=fun σ H Q=>t σ H fun xs H1=>xs.length<=sizeLine /\ ∀ p,H1 p=none->Q (.ref p) (upd H1 p (.tup xs))
noncomputable def Ie(t:TA):TE:=fun σ H Q=>t σ H fun xs H1=>xs.length<=sizeLine /\ ∀ p,H1 p=none->Q (.ref p) (upd H1 p (.lst xs))
theorem KN{x1}(h:PA X es t):PE X (.Tuple es x1 pos) (Ky t):=by
 intro pins s σ H Q I hq;refine wpAny_Tuple_spliced (thn (h pos pins s σ H _ I hq) fun us s1 ⟨xs,H1,I1,r,z,q⟩=>⟨by rw[<- r.length];exact z,?_⟩);have hf:=I1.hok.fresh (Nat.le_refl _)
 refine⟨.ref s1.heap.objs.size,upd H1 s1.heap.objs.size (.tup xs),I1.laid (t':=s1.toks) (fun b u e=>Heap.get?_push_of_some _ e) (Nat.le_refl _) ?_,rfl,q _ hf⟩
 exact⟨⟨z,.new _ _⟩,us,r,⟨_,Heap.get?_push_size _ rfl,rfl,_,rfl⟩⟩
theorem Le(h:PA X es t):PE X (.List es pos) (Ie t):=by
 intro pins s σ H Q I hq;refine wpAny_List_spliced (thn (h pos pins s σ H _ I hq) fun us s1 ⟨xs,H1,I1,r,z,q⟩=>⟨by rw[<- r.length];exact z,?_⟩);have hf:=I1.hok.fresh (Nat.le_refl _)
 refine⟨.ref s1.heap.objs.size,upd H1 s1.heap.objs.size (.lst xs),I1.laid (t':=s1.toks) (fun b u e=>Heap.get?_push_of_some _ e) (Nat.le_refl _) ?_,rfl,q _ hf⟩
 exact⟨z,us,0,r,Heap.get?_push_size _ rfl⟩
end
abbrev Sp:=List V->Hp->VK->XK->Prop
abbrev CXT:=List Env->Hp->Shared->XK->Value->Shared->Prop
structure A5(P:Program)(w:World)(K:PySem.W.Frag)(mg:Str->Option Value)(base:Heap)(A:Around)(outer:List Env)(s:Shared)(H:Hp):Prop where
 frames:A.frames=some outer
 mod:Mod K mg base
 bs:∀ b o,base.get? b=some o->s.heap.get? b=some o /\ H b=none
 bsz:base.objs.size<=s.heap.objs.size
 wC:s.heap.FunFrames base outer
 frf:∀ b∈frs outer,H b=none
 hok:HOk P w H s.heap
 bare:AllBare s.gens
noncomputable def CE(outer:List Env)(P:Program)(w:World)(H:Hp)(s:Shared)(Q:VK)(u:Value)(s':Shared):Prop:=
 ∃ v H',s'.os=s.os /\ AllBare s'.gens /\ Un (frs outer) [] H H' s.heap s'.heap /\ HOk P w H' s'.heap /\ RelV v u /\ Q v H'
noncomputable def CR(CX:CXT)(outer:List Env)(P:Program)(w:World)(H:Hp)(s:Shared)(Q:VK)(E:XK)(r:Result)(s':Shared):Prop:=
 match r with
 |.ok (.ret u)=>CE outer P w H s Q u s'
 |.ok _=>False
 |.error e=>CX outer H s E e s'
structure cq(P:Program)(w:World)(K:PySem.W.Frag)(mg:Str->Option Value)(base:Heap)(CX:CXT)(k:Nat)(f:Addr)(fd:FuncData)(ps:List Str)(sp:Sp):Prop where
 len:∀ vs H Q E,sp vs H Q E->vs.length=ps.length
 run:∀(A:Around) (outer:List Env) (s:Shared) (H:Hp) (args:Args) (us:List Value) (vs:List V) (Q:VK) (E:XK),ik k A->A5 P w K mg base A outer s H->BindsTo s fd args (ps.zip us)->Vals vs us->sp vs H Q E ->
  codeAny (model P w) A (.call (.ref f) args) (CR CX outer P w H s Q E) s
theorem cq.mono{P:Program}{w:World}{K:PySem.W.Frag}{mg:Str->Option Value}{base:Heap}{CX:CXT}{j k:Nat}{f:Addr}{fd:FuncData}{ps:List Str}{sp:Sp}(F:cq P w K mg base CX j f fd ps sp)(h:j<=k):
  cq P w K mg base CX k f fd ps sp:=⟨F.len,fun A outer s H args us vs Q E hr=>F.run A outer s H args us vs Q E (hr.mono h)⟩
theorem cq.imp{P:Program}{w:World}{K:PySem.W.Frag}{mg:Str->Option Value}{base:Heap}{CX:CXT}{k:Nat}{f:Addr}{fd:FuncData}{ps:List Str}{sp sp':Sp}(F:cq P w K mg base CX k f fd ps sp)
  (h:∀ vs H Q E,sp' vs H Q E->sp vs H Q E):cq P w K mg base CX k f fd ps sp':=
 ⟨fun vs H Q E q=>F.len vs H Q E (h _ _ _ _ q),fun A outer s H args us vs Q E hr he hb hv hs=>F.run A outer s H args us vs Q E hr he hb hv (h _ _ _ _ hs)⟩
theorem A5.make{P:Program}{w:World}{K:PySem.W.Frag}{mg:Str->Option Value}{base:Heap}{A:Around}{outer:List Env}{s:Shared}{H:Hp}(e:A5 P w K mg base A outer s H)(C:Addr)(us:List Value)(kw:List (Str×Value)):
  A5 P w K mg base (A.under (.builtin "type.__call__" ⟨.ref C ::us,kw⟩)) outer s H:=⟨by first|exact e.frames|(simpa [Around.under,Code.envs,Code.isFrame,pushEnvs]using e.frames),e.mod,e.bs,e.bsz,e.wC,e.frf,e.hok,e.bare⟩
section
variable{X:Cx}{pins:List (Addr×Obj)}{σ:St}{H:Hp}{s s':Shared}
theorem Inv.L3(I:Inv X pins σ H s):A5 X.prog X.w X.K X.mg X.base X.A X.stack s H:=
 ⟨I.ok.frames,I.ok.mod,I.bs,Nat.le_trans I.ok.bsz I.sz,I.stack,I.xU,I.hok,I.bare⟩
theorem Inv.after{Q:VK}{u:Value}(I:Inv X pins σ H s)(h:CE X.stack X.prog X.w H s Q u s'):EP X pins σ Q u s':=by
 obtain⟨v,H',os,bare,un,hok,r,q⟩:=h;obtain⟨hh,g,d,t,os'⟩:=s'
 obtain rfl:os'=s.os:=os
 exact⟨v,H',I.call (h':=hh) (g':=g) (d':=d) (t':=t) un hok bare (fun b z=>absurd z (by simp)),r,q⟩
end
noncomputable def FU(C:Addr)(sp:Sp)(dvs:List V)(E:XK)(t:TA):TE:=fun σ H Q=>t σ H fun vs H1=>∀ x dx,H1 x=none->H1 dx=none->dx≠x ->
 sp (.ref x ::(vs++dvs)) (upd (upd H1 dx (.own x)) x (.ins C dx [])) (fun v H2=>v=.non /\ Q (.ref x) H2) E
noncomputable def Binds(K:PySem.W.Frag)(fd:FuncData)(ps:List Str)(ds:List Value):Prop:=
 ∀(s:Shared) (us:List Value),K.In s.heap->(us++ds).length=ps.length->BindsTo s fd ⟨us,[]⟩ (ps.zip (us++ds))
theorem Binds.all{K:PySem.W.Frag}{fd:FuncData}{ps:List Str}(h:∀ us:List Value,us.length=ps.length->bindArgs fd ⟨us,[]⟩=pure (ps.zip us)):Binds K fd ps []:=fun s us _ hl=>by
 rw[List.append_nil]at hl ⊢
 exact .of_eq (h us hl)
noncomputable def Passes(CX:CXT)(X:Cx)(E:XK):Prop:=∀(pins:List (Addr×Obj)) (σ:St) (H:Hp) (s:Shared) (e:Value) (s':Shared),Inv X pins σ H s->CX X.stack H s E e s'->X.xe e s'
section
variable{X:Cx}{CX:CXT}{k:Nat}{f C:Addr}{fd:FuncData}{ps:List Str}{sp:Sp}{dvs:List V}{ds:List Value}{E:XK}{x m:Str}{p pos apos:Pos}{e o:Expr}{es:List Expr}{ta:TE}{t:TA}
structure Mk(K:PySem.W.Frag)(C f:Addr):Prop where
 makes:PySem.W.makesIn K C=true
 init:PySem.W.findIn K (.ref C) "__init__" = some (some (.ref f))
 fn:PySem.W.isFn K (.ref f)=true
 kp:PySem.W.keepIn K (.ref C)=true
theorem Fv{pins:List (Addr×Obj)}{σ:St}{H:Hp}{s:Shared}{Q:VK}{us:List Value}{vs:List V}(M:Mk X.K C f)(F:cq X.prog X.w X.K X.mg X.base CX k f fd ps sp)(hr:ik (k+1) X.A)(hb:Binds X.K fd ps ds)(hd:Vals dvs ds)
  (hx:Passes CX X E) (I:Inv X pins σ H s) (r:Vals vs us)
  (h:∀ x dx,H x=none->H dx=none->dx≠x->sp (.ref x ::(vs++dvs)) (upd (upd H dx (.own x)) x (.ins C dx [])) (fun v H2=>v=.non /\ Q (.ref x) H2) E):
  wpAny (model X.prog X.w) X.A (call (.ref C) us) (EP X pins σ Q) X.xe s:=by
 have hq:=h (s.heap.objs.size+1) s.heap.objs.size (I.hok.fresh (Nat.le_succ _)) (I.hok.fresh (Nat.le_refl _)) (Nat.ne_of_lt (Nat.lt_succ_self _));have I2:=Inv.made (C:=C) I
 have r2:Vals (V.ref (s.heap.objs.size+1) ::(vs++dvs)) (Value.ref (s.heap.objs.size+1) ::(us++ds)):=.cons rfl (r.append hd)
 have hl:(Value.ref (s.heap.objs.size+1) ::us++ds).length=ps.length:=by
  have e:=r2.length;rw[F.len _ _ _ _ hq]at e;exact e.symm
 refine wpAny_call (Fy (f:=f) I.kIn M.makes M.init (beq_iff_eq.mp M.fn) (codeAny_mono (F.run _ X.stack _ _ ⟨Value.ref (s.heap.objs.size+1) ::us,[]⟩ (Value.ref (s.heap.objs.size+1) ::(us++ds)) _ _ E (hr.make C us [])
  (I2.L3.make C us []) (hb _ (Value.ref (s.heap.objs.size+1) ::us) I2.kIn hl) r2 hq) fun r s' hq'=>?_))
 cases r with
 |error e=>exact hx pins σ _ _ e s' I2 hq'
 | ok fl=>
   cases fl with
   | ret u=>
     obtain⟨v,H',I3,rv,ev,q3⟩:=I2.after hq';subst ev
     exact⟨rv,⟨V.ref (s.heap.objs.size+1),H',I3,rfl,q3⟩⟩
   |next=>exact False.elim hq'
   |brk=>exact False.elim hq'
   |cont=>exact False.elim hq'
theorem FQ(M:Mk X.K C f)(F:cq X.prog X.w X.K X.mg X.base CX k f fd ps sp)(hr:ik (k+1) X.A)(hg:Gl X x)(hm:X.mg x=some (.ref C))(hb:Binds X.K fd ps ds)(hd:Vals dvs ds)(hx:Passes CX X E)
  (hdb:(x==("__debug__":Str))=false:=by decide):PE X (.Call (.Name x p) [] [] pos) (FU C sp dvs E kO):=by
 intro pins s σ H Q I h;refine wpAny_Call_Name_kw (uV I hg hm ?_ hdb);exact PySem.W.callWith_K0 I.kIn M.kp (Fv (us:=[]) M F hr hb hd hx I .nil h)
end
noncomputable def PK(X:Cx)(kws:List Keyword)(t:TA):Prop:=
 ∀(pos:Pos) (pins:List (Addr×Obj)) (s:Shared) (σ:St) (H:Hp) (Q:List V->Hp->Prop),Inv X pins σ H s->t σ H Q->wpAny (model X.prog X.w) X.A (evalAll ((backToKw pos (keywordEach kws X.env)).map (·.2))) (AP X pins σ Q) X.xe s
structure aW(N P:List Str)(sc:Scope):Prop where
 kind:sc.kind=.function
 co:sc.isCoroutine=false
 gen:sc.isGenerator=false
 nd:N.Nodup
 pre:N.take P.length=P
 par:∀ x∈P,sc.names.lookup x=some .local \/ sc.names.lookup x=some .cell
 nofree:∀ y∈sc.names,y.2≠.free
theorem wL{kindOf:Str->Option NameKind}{x:Str}:∀{binds:List (Str×Value)} {m:Str->Option Value},(∀ v,(x,v)∉binds)->bindL kindOf binds m x=m x
 |[],_,_=>rfl
 | (n,v) ::r,m,h=>by
   unfold bindL;rw[wL fun w hw=>h w (List.mem_cons_of_mem _ hw)];split
   . grind
   . rfl
theorem wW{kindOf:Str->Option NameKind}{x:Str}:∀{binds:List (Str×Value)} {m:Str->Option Value},(∀ v,(x,v)∉binds)->bindC kindOf binds m x=m x
 |[],_,_=>rfl
 | (n,v) ::r,m,h=>by
   unfold bindC;rw[wW fun w hw=>h w (List.mem_cons_of_mem _ hw)];split
   . rfl
   . grind
theorem wY{kindOf:Str->Option NameKind}{x:Str}{v:Value}:∀{P:List Str} {vs:List Value} {i:Nat} {m:Str->Option Value},P.Nodup->P[i]?=some x->vs[i]?=some v->kindOf x=some .local ->
  bindL kindOf (P.zip vs) m x=some v
 |[],_,_,_,_,h,_,_=>by simp_all
 |_ ::_,[],_,_,_,_,h,_=>by simp_all
 | p ::P,w ::vs,0,m,nd,h1,h2,hk=>by
   simp at h1 h2;subst h1;subst h2;show bindL kindOf ((p,w) ::P.zip vs) m p=_;unfold bindL;rw[wL fun v hv=>(List.nodup_cons.mp nd).1 (List.of_mem_zip hv).1,if_pos hk];simp
 | p ::P,w ::vs,i+1,m,nd,h1,h2,hk=>by
   show bindL kindOf ((p,w) ::P.zip vs) m x=_;exact wY (List.nodup_cons.mp nd).2 (by simpa using h1) (by simpa using h2) hk
theorem xg{kindOf:Str->Option NameKind}{x:Str}{v:Value}:∀{P:List Str} {vs:List Value} {i:Nat} {m:Str->Option Value},P.Nodup->P[i]?=some x->vs[i]?=some v->kindOf x≠some .local ->
  bindC kindOf (P.zip vs) m x=some v
 |[],_,_,_,_,h,_,_=>by simp_all
 |_ ::_,[],_,_,_,_,h,_=>by simp_all
 | p ::P,w ::vs,0,m,nd,h1,h2,hk=>by
   simp at h1 h2;subst h1;subst h2;show bindC kindOf ((p,w) ::P.zip vs) m p=_;unfold bindC;rw[wW fun v hv=>(List.nodup_cons.mp nd).1 (List.of_mem_zip hv).1,if_neg hk];simp
 | p ::P,w ::vs,i+1,m,nd,h1,h2,hk=>by
   show bindC kindOf ((p,w) ::P.zip vs) m x=_;exact xg (List.nodup_cons.mp nd).2 (by simpa using h1) (by simpa using h2) hk
noncomputable def start(N:List Str)(vs:List V):St:=vs.map some++List.replicate (N.length - vs.length) none
noncomputable def tR(CX:CXT)(P:Program)(w:World)(K:PySem.W.Frag)(mg:Str->Option Value)(base:Heap)(N:List Str)(qual:Str)(scope:Scope)(f:Addr)(cd:Value)(A:Around)(outer:List Env)(s:Shared)(H:Hp)(E:XK):Cx where
 prog:=P
 w:=w
 K:=K
 mg:=mg
 base:=base
 A:=A.deeper (envOfC qual scope s.heap.objs.size f cd)
 N:=N
 s₀:=s
 H₀:=H
 env:=envOfC qual scope s.heap.objs.size f cd
 outer:=outer
 stack:=envOfC qual scope s.heap.objs.size f cd ::outer
 ex:=[]
 calm:=true
 fn:=fun _=>true
 pn:=[]
 xe:=fun e s'=>wpAny (model P w) (A.deeper (envOfC qual scope s.heap.objs.size f cd)) (leaving (envOfC qual scope s.heap.objs.size f cd) e) (fun _ s''=>CX outer H s E e s'') (fun e' s''=>CX outer H s E e' s'') s'
theorem zH{sc:Scope}{n:Nat}{x:Str}(h:sc.names.lookup x=some .cell):∃ c,(cellsFrom n sc.names []).lookup x=some c:=by
 have q:=PySem.W.cellsFrom_some sc.names n [] (.inl h);exact Option.isSome_iff_exists.mp q
theorem CP{CX:CXT}{P:Program}{w:World}{K:PySem.W.Frag}{mg:Str->Option Value}{base:Heap}{N ps:List Str}{qual:Str}{scope:Scope}{f:Addr}{cd:Value}{A:Around}{outer:List Env}{s s1:Shared}{H:Hp}{E:XK}{us:List Value}{vs:List V}
  (S:aW N ps scope) (hd:A.handled=none) (e0:A5 P w K mg base A outer s H) (hl:vs.length=ps.length) (r:Vals vs us)
  (x:InCallC s s.heap.objs.size (bindL (envOfC qual scope s.heap.objs.size f cd).kindOf (ps.zip us) fun _=>none) (cellsFrom (s.heap.objs.size+1) scope.names []) (bindC (envOfC qual scope s.heap.objs.size f cd).kindOf (ps.zip us) fun _=>none) s1):
  Inv (tR CX P w K mg base N qual scope f cd A outer s H E) [] (start N vs) H s1:=by
 have hpl:ps.length<=N.length:=by have:=congrArg List.length S.pre;rw[List.length_take]at this;omega
 obtain⟨h1,tk,rfl,hk⟩:=x.done
 have noA:∀ b:Addr,b∉(tR CX P w K mg base N qual scope f cd A outer s H E).ex:=fun b z=>absurd (show b∈([]:List Addr) from z) (by simp)
 refine⟨⟨e0.mod,S.kind,rfl,rfl,Nat.le_refl _,fun y z c h1 h2=>?_,fun y hy=>?_,fun y c _ h=>?_,fun _=>hd,Around.frames_deeper e0.frames,.inr ⟨rfl,rfl⟩,fun b z=>absurd z (noA b),e0.bs,e0.bsz,fun b _ _=>noA b,fun b z=>absurd z (noA b),e0.wC,e0.frf⟩,
  rfl,e0.bare,Un.kept hk,⟨_,x.toInCall.ns,fun i y v h1 h2 h3=>?_⟩,fun y c h=>⟨_,x.cell y c h⟩,e0.hok.fresh (Nat.le_refl _),fun y c h=>?_,fun p hp=>absurd (show p∈([]:List (Addr×Obj)) from hp) (by simp),e0.hok.kept hk,?_⟩
 . exact name_of_addr x.apart (PySem.mem_of_lookup h1) (PySem.mem_of_lookup h2)
 . have hy:=hy
   rcases hy with hy|hy
   . exact zH hy
   . exact absurd rfl (S.nofree _ (PySem.mem_of_lookup hy))
 . exact Nat.le_of_lt (x.above y c (PySem.mem_of_lookup h))
 . have hi:i < vs.length:=by
    unfold start at h2
    grind
   have ha:vs[i]?=some v:=by
    unfold start at h2
    grind
   obtain⟨u,hu,rv⟩:=r.get ha
   have hp:ps[i]?=some y:=by
    rw[<- S.pre,List.getElem?_take_of_lt (by omega)];exact h1
   have ndP:ps.Nodup:=by rw[<- S.pre];exact S.nd.sublist (List.take_sublist _ _)
   refine⟨u,rv,?_⟩
   rcases S.par y (List.mem_of_getElem? hp)with k|k
   . exact .inl ⟨k,wY ndP hp hu k⟩
   . obtain⟨c,e⟩:=zH k;refine .inr ⟨.inl k,c,e,?_⟩;have q:=x.cell y c e;rw[xg ndP hp hu (by show scope.names.lookup y≠_;rw[k];decide)]at q;exact q
 . exact e0.hok.fresh (Nat.le_of_lt (x.above y c (PySem.mem_of_lookup h)))
 . unfold start;show _=N.length
   simp_all
theorem Mf{CX:CXT}{P:Program}{w:World}{K:PySem.W.Frag}{mg:Str->Option Value}{base:Heap}{k:Nat}{f:Addr}{name qual:Str}{params:Arguments}{body:List Stmt}{scope:Scope}{dV kV doc pm cdv ct oc:Value}{an od:Option Addr}
  {osl:Array (Option Value)} {N ps:List Str} {sp:Sp} (lk:K.lookup f=some ⟨oc,od,.func (PySem.W.fnOf name qual params body scope dV kV doc pm an cdv ct),osl⟩) (hcd:PySem.W.codeIn K cdv qual=true) (S:aW N ps scope)
  (len:∀ vs H Q E,sp vs H Q E->vs.length=ps.length)
  (hbody:∀(A:Around) (outer:List Env) (s:Shared) (H:Hp) (vs:List V) (Q:VK) (E:XK),ik k (A.deeper (envOfC qual scope s.heap.objs.size f cdv))->sp vs H Q E ->
    ∃ t,PSs (tR CX P w K mg base N qual scope f cdv A outer s H E) body t /\ t { nx:=fun _ H'=>Q .non H',rt:=Q } (start N vs) H):
  cq P w K mg base CX (k+1) f (PySem.W.fnOf name qual params body scope dV kV doc pm an cdv ct) ps sp:=by
 refine⟨len,fun A outer s H args us vs Q E hr e0 hb r hsp=>?_⟩
 have hl:=len _ _ _ _ hsp
 have KX:=e0.mod.kin.keeps fun b o e=>(e0.bs b o e).1
 have lim:=e0.mod.nolimit.keeps fun b o e=>(e0.bs b o e).1
 have hkind:∀ y∈ps.zip us,scope.names.lookup y.1=some .local \/ (scope.names.lookup y.1=some .cell /\ ((cellsFrom (s.heap.objs.size+1) scope.names []).lookup y.1).isSome=true):=fun ⟨n,v⟩ hy=>by
  rcases S.par n (List.of_mem_zip hy).1 with q|q
  . simp_all
  . exact .inr ⟨q,PySem.W.cellsFrom_some _ _ _ (.inl q)⟩
 refine codeAny_call_function hr.depth (KX _ _ lk) rfl S.co S.gen rfl (PySem.W.codeRec_of KX hcd) (hb _ _ _ _ ?_)
 refine wpAny_newFunctionEnv_cells S.kind hkind fun env he s1 x=>?_
 subst he
 refine⟨lim.keeps x.toInCall.keep,codeAny_func ?_⟩
 obtain⟨t,ht,hq⟩:=hbody A outer s H vs Q E (hr.deeper _) hsp
 have I:Inv (tR CX P w K mg base N qual scope f cdv A outer s H E) [] (start N vs) H s1:=CP S hr.hd e0 hl r x
 refine wpAny_mono (ht [] s1 (start N vs) H _ I hq) (fun fl s' hs=>?_) fun e s' hs=>hs
 have fin:∀{σ':St} {H':Hp} {v:V} {u:Value},Inv (tR CX P w K mg base N qual scope f cdv A outer s H E) [] σ' H' s'->RelV v u->Q v H'->CE outer P w H s Q u s':=
  fun {σ' H' v u} J rv q=>⟨v,H',J.os,J.bare,J.base,J.hok,rv,q⟩
 cases fl with
 | ret u=>
   obtain⟨v,σ',H',J,rv,q⟩:=hs;exact fin J rv q
 | next=>
   obtain⟨σ',H',J,q⟩:=hs;exact fin (v:=V.non) J rfl q
 | brk=>
   obtain⟨_,_,_,q⟩:=hs
   simp_all
 | cont=>
   obtain⟨_,_,_,q⟩:=hs
   simp_all
section
variable{X:Cx}{x:Str}{p pos:Pos}{e:Expr}{es:List Expr}{t:TA}{id T:String}{r:List V->Hp->VK->Prop}
noncomputable def tCB(r:List V->Hp->VK->Prop)(t:TA):TE:=fun σ H Q=>t σ H fun vs H1=>r vs H1 Q
theorem EC(hc:oI X (.builtin id) r)(hg:Gl X x)(hm:X.mg x=none)(hv:bootBuiltins x=some (.builtin id))(ha:PA X (e ::es) t)(hn:x ≠ "__name__":=by decide)(hdb:(x==("__debug__":Str))=false:=by decide)
  (he:starEach (e ::es) X.env=(false,eval e X.env) ::starEach es X.env:=by rfl) (hpl:(backTo pos (starEach es X.env)).any (·.1)=false:=by rfl):PE X (.Call (.Name x p) (e ::es) [] pos) (tCB r t):=by
 intro pins s σ H Q I h;refine wpAny_Call_Name_kw (wa I hg hm hv ?_ hn hdb);exact PyProof.Rows.callWith_builtin1 (thn (ha pos pins s σ H _ I h) fun us s1 ⟨vs,H1,I1,r1,q1⟩=>hc pins s1 σ H1 vs us Q I1 r1 q1) he hpl
theorem DB(hc:oI X (.type T) r)(hg:Gl X x)(hm:X.mg x=none)(hv:bootBuiltins x=some (.type T))(ha:PA X (e ::es) t)(hn:x ≠ "__name__":=by decide)(hdb:(x==("__debug__":Str))=false:=by decide)
  (he:starEach (e ::es) X.env=(false,eval e X.env) ::starEach es X.env:=by rfl) (hpl:(backTo pos (starEach es X.env)).any (·.1)=false:=by rfl):PE X (.Call (.Name x p) (e ::es) [] pos) (tCB r t):=by
 intro pins s σ H Q I h;refine wpAny_Call_Name_kw (wa I hg hm hv ?_ hn hdb);exact PyProof.Rows.callWith_type1 (thn (ha pos pins s σ H _ I h) fun us s1 ⟨vs,H1,I1,r1,q1⟩=>hc pins s1 σ H1 vs us Q I1 r1 q1) he hpl
end
end L2
namespace HT
open PySem PyProof.Rows
section
open PySem.SeqAt
open PySem.AutoSeq1 (wpAny_loadPart')
open PySem.MeetsSeq PySem.MeetsSeq2 PySem.MeetsSeq3
end
section
variable{prog:Program}{w:World}{A:Around}{E:Value->Shared->Prop}{s:Shared}
noncomputable def sIx(n d:Nat):Option Int->Nat
 |none=>d
 |some v=>if v<0 then(v+(n:Int)).toNat else min v.toNat n
end
end HT
namespace L2
open PySem PySem.Spec PyProof.Rows
abbrev TO:=St->Hp->(Option Int->Hp->Prop)->Prop
noncomputable def PO(X:Cx)(e:Option Expr)(t:TO):Prop:=
 ∀(pins:List (Addr×Obj)) (s:Shared) (σ:St) (H:Hp) (Q:Option Int->Hp->Prop),Inv X pins σ H s->t σ H Q ->
   wpAny (model X.prog X.w) X.A (evalPart e X.env) (fun u s'=>∃ o H',Inv X pins σ H' s' /\ IsPart u o /\ Q o H') X.xe s
noncomputable def yc:TO:=fun _ H Q=>Q none H
noncomputable def El(t:TE):TO:=fun σ H Q=>t σ H fun x H1=>∃ i,x=.int i /\ Q (some i) H1
section
variable{X:Cx}{e:Expr}{te:TE}{lo hi:Option Expr}{tl th:TO}{pos p2:Pos}
theorem Gq:PO X none yc:=by
 intro pins s σ H Q I h;exact wpAny_pure ⟨none,H,I,.none,h⟩
theorem HX(h:PE X e te):PO X (some e) (El te):=by
 intro pins s σ H Q I hw
 refine thn (h pins s σ H _ I hw) fun u s1 ⟨x,H1,I1,r1,q1⟩=>?_
 obtain⟨i,rfl,q⟩:=q1;obtain⟨t,rfl⟩:=r1
 exact⟨some i,H1,I1,.int i t,q⟩
noncomputable def SlR(X:Cx)(r:V->Option Int->Option Int->Hp->VK->Prop):Prop:=
 ∀(pins:List (Addr×Obj)) (s:Shared) (σ:St) (H:Hp) (x:V) (v vl vu:Value) (lo hi:Option Int) (sl:Addr) (Q:VK),Inv X pins σ H s->RelV x v->s.heap.IsSliceOf sl vl vu .none->IsPart vl lo->IsPart vu hi->r x lo hi H Q ->
   ∃ T id,typeLookup (.type T) "__getitem__" = pure (some (.builtin id)) /\ s.TypeIs v T /\ wpAny (model X.prog X.w) X.A (getItem v (.ref sl)) (EP X pins σ Q) X.xe s
noncomputable def tSl(r:V->Option Int->Option Int->Hp->VK->Prop)(te:TE)(tl th:TO):TE:=fun σ H Q=>te σ H fun x H1=>tl σ H1 fun l H2=>th σ H2 fun u H3=>r x l u H3 Q
theorem DS{r:V->Option Int->Option Int->Hp->VK->Prop}(hr:SlR X r)(he:PE X e te)(hl:PO X lo tl)(hu:PO X hi th):PE X (.Subscript e (.Slice lo hi none p2) pos) (tSl r te tl th):=by
 intro pins s σ H Q I h;refine Subscript_ (thn (he pins s σ H _ I h) fun v s1 ⟨x,H1,I1,r1,q1⟩=>?_);refine wpAny_Slice (thn (hl pins s1 σ H1 _ I1 q1) fun vl s2 ⟨l,H2,I2,pl,q2⟩=>thn (hu pins s2 σ H2 _ I2 q2) fun vu s3 ⟨u,H3,I3,pu,q3⟩=>?_);refine wpAny_pure ?_
 have I4:Inv X pins σ H3 { s3 with heap:=s3.heap.push { cls:=.type "slice",data:=.fields #[vl,vu,.none] } }:=I3.kept (t':=s3.toks) fun b ob q=>Heap.get?_push_of_some _ q
 obtain⟨T,id,hT,ht,hg⟩:=hr pins { s3 with heap:=s3.heap.push { cls:=.type "slice",data:=.fields #[vl,vu,.none] } } σ H3 x v vl vu l u s3.heap.objs.size Q I4 r1 (Heap.IsSliceOf.new ..) pl pu q3;exact tail_any ht hT hg (by with_unfolding_all rfl)
noncomputable def DP(xs:List V)(lo hi:Option Int):List V:=(xs.drop (HT.sIx xs.length 0 lo)).take (HT.sIx xs.length xs.length hi - HT.sIx xs.length 0 lo)
theorem zQ(xs:List V)(lo hi:Option Int):(DP xs lo hi).length<=xs.length:=by
 unfold DP
 grind
end
noncomputable def ixN(n:Nat)(i:Int):Option Nat:=if 0<=i then(if i<n then some i.toNat else none)else if -(n:Int)<=i then some (i+n).toNat else none
noncomputable def atI{α:Type}(xs:List α)(i:Int):Option α:=(ixN xs.length i).bind fun j=>xs[j]?
theorem BJ{n:Nat}{i:Int}{j:Nat}(h:ixN n i=some j):seqIndex? i n=some j /\ j<n /\ -(n:Int)<=i /\ i<n:=by
 unfold ixN at h
 by_cases h0:0<=i
 . rw[if_pos h0]at h
   by_cases h1:i<n
   . rw[if_pos h1]at h;have e:=Option.some.inj h
     exact⟨by rw[seqIndex_of h0 h1,e],by omega,by omega,h1⟩
   . simp_all
 . rw[if_neg h0]at h
   by_cases h1:-(n:Int)<=i
   . rw[if_pos h1]at h;have e:=Option.some.inj h
     exact⟨by rw[seqIndex_neg (by omega) h1,e],by omega,h1,by omega⟩
   . simp_all
theorem BM{α:Type}{xs:List α}{i:Int}{v:α}(h:atI xs i=some v):∃ j,seqIndex? i xs.length=some j /\ xs[j]?=some v /\ j<xs.length /\ -(xs.length:Int)<=i /\ i<xs.length:=by
 unfold atI at h
 cases e:ixN xs.length i with
 |none=>rw[e]at h;cases h
 | some j=>
   obtain⟨h1,h2,h3,h4⟩:=BJ e
   simp_all
noncomputable def yd(b:Expr):Prop:=∀ o i,subscripted b false o i=operate [o,i] (getItem o i)
noncomputable def IxR(X:Cx)(r:R2):Prop:=
 ∀(value slice:Expr) (pins:List (Addr×Obj)) (s:Shared) (σ:St) (H:Hp) (x y:V) (v u:Value) (Q:VK),Inv X pins σ H s->RelV x v->RelV y u->r x y H Q ->
   subscripted slice false v u=operate [v,u] (getItem v u)->wpAny (model X.prog X.w) X.A (subscriptTail value slice v u) (EP X pins σ Q) X.xe s
noncomputable def MtR(X:Cx)(id:String)(r:V->List V->Hp->VK->Prop):Prop:=
 ∀(pins:List (Addr×Obj)) (s:Shared) (σ:St) (H:Hp) (x:V) (xs:List V) (v:Value) (us:List Value) (Q:VK),Inv X pins σ H s->RelV x v->Vals xs us->r x xs H Q ->
   wpAny (model X.prog X.w) X.A (call (.builtin id) (v ::us)) (EP X pins σ Q) X.xe s
section
variable{X:Cx}{a b:Expr}{ta tb:TE}{pos:Pos}
theorem LV{r:R2}(hr:IxR X r)(ha:PE X a ta)(hb:PE X b tb)(hs:yd b):PE X (.Subscript a b pos) (tOp r ta tb):=by
 intro pins s σ H Q I h;exact Subscript_ (Lw ha hb I h fun v u s2 x y H2 I2 rx ry q=>hr a b pins s2 σ H2 x y v u Q I2 rx ry q (hs _ _))
noncomputable def Gy(K:PySem.W.Frag):R2:=fun x y H Q=>∃ p xs i v,x=.ref p /\ y=.int i /\ SqL K H p xs /\ atI xs i=some v /\ Q v H
noncomputable def LR(K:PySem.W.Frag):R2:=fun x y H Q=>∃ p xs i v,x=.ref p /\ y=.int i /\ SqT K H p xs /\ atI xs i=some v /\ Q v H
theorem bT:IxR X (Gy X.K):=by
 intro value slice pins s σ H x y v u Q I rx ry h hs;obtain⟨p,xs,i,z,rfl,rfl,hq,he,q⟩:=h;cases rx;obtain⟨t,rfl⟩:=ry;obtain⟨its,r,pl,hz⟩:=I.list hq;obtain⟨j,h1,h2,h3,h4,h5⟩:=BM he;obtain⟨w,ew,rw'⟩:=r.get h2;have hl:=r.length;have hn:=wq
 have fin:EP X pins σ Q w s:=⟨z,H,I,rw',q⟩
 by_cases h0:0<=i
 . have hj:i.toNat = j:=by
    rw[seqIndex_of h0 h5]at h1
    simp_all
   exact item_listR pl.isList h0 (by omega) (by rw[hj];simpa using ew) fin hs
 . have hj:(i + (its.toArray.size:Int)).toNat = j:=by
    rw[seqIndex_neg (by omega) h4]at h1
    simp_all
   exact subscriptTail_builtinR pl.isList.typeIs slot_list_getitem.lookup
    (wpAny_getItem_list_neg pl.isList (by omega) (by rw[List.size_toArray]<;>omega) (by omega) (by rw[hj];simpa using ew) ⟨rfl,fin⟩) hs
theorem dZ:IxR X (LR X.K):=by
 intro value slice pins s σ H x y v u Q I rx ry h hs;obtain⟨p,xs,i,z,rfl,rfl,hq,he,q⟩:=h;cases rx;obtain⟨t,rfl⟩:=ry;obtain⟨its,r,pl,hz⟩:=I.tuple hq;obtain⟨j,h1,h2,h3,h4,h5⟩:=BM he;obtain⟨w,ew,rw'⟩:=r.get h2;have hl:=r.length;have hn:=wq
 have fin:EP X pins σ Q w s:=⟨z,H,I,rw',q⟩
 exact subscriptTail_builtinR pl.typeIs slot_tuple_getitem.lookup
  (getItem_tuple pl (by omega) (by omega) (by rw[List.size_toArray,<- hl];exact h1) (by simpa using ew) ⟨rfl,fin⟩) hs
theorem AB(its:List Value)(n j:Nat)(u:Value):Obj.mapSeq (·.setIfInBounds j u) { cls:=.type "list",data:=.seq its.toArray n }={ cls:=.type "list",data:=.seq (its.set j u).toArray n }:=by
 simp[Obj.mapSeq]
theorem Inv.lst{pins:List (Addr×Obj)}{σ:St}{H:Hp}{s:Shared}{p:Addr}{xs:List V}(I:Inv X pins σ H s)(h:H p=some (.lst xs)):
  ∃(its:List Value) (n:Nat),Vals xs its /\ s.heap.get? p=some { cls:=.type "list",data:=.seq its.toArray n } /\ xs.length<=sizeLine:=by
 obtain⟨z,its,n,r,e⟩:=I.hok p _ h
 simp_all
theorem Inv.KH{pins:List (Addr×Obj)}{σ:St}{H:Hp}{s:Shared}{p:Addr}{xs ys:List V}{its its':List Value}{n n':Nat}{f:Obj->Obj}(I:Inv X pins σ H s)(h:H p=some (.lst xs))
  (ho:s.heap.get? p=some { cls:=.type "list",data:=.seq its.toArray n }) (hf:f { cls:=.type "list",data:=.seq its.toArray n }={ cls:=.type "list",data:=.seq its'.toArray n' }) (r:Vals ys its') (hz:ys.length<=sizeLine) (t:Nat):
  Inv X pins σ (upd H p (.lst ys)) { s with heap:=s.heap.update p f,toks:=t }:=by
 have e:(s.heap.update p f).get? p=some { cls:=.type "list",data:=.seq its'.toArray n' }:=by
  rw[Heap.get?_update_self f ho (by rw[hf]<;>rfl),hf]
 refine I.write (by rw[h];trivial) (.inl rfl) (fun b u hb q=>(Heap.get?_update_other _ _ (Ne.symm hb)).trans q) ⟨_,e⟩ ?_
 exact⟨hz,its',n',r,e⟩
noncomputable def Ik:V->V->V->Hp->(Hp->Prop)->Prop:=fun o i v H Q=>∃ p xs k j,o=.ref p /\ i=.int k /\ H p=some (.lst xs) /\ ixN xs.length k=some j /\ Q (upd H p (.lst (xs.set j v)))
theorem set_list:KD X Ik:=by
 intro pins s σ H o i v ov iv u Q I ro ri rv h;obtain⟨p,xs,k,j,rfl,rfl,hp,hj,q⟩:=h;cases ro;obtain⟨t,rfl⟩:=ri;obtain⟨its,n,r,ho,hz⟩:=I.lst hp;obtain⟨h1,h2,h3,h4⟩:=BJ hj;have hl:=r.length;have hn:=wq
 have I':Inv X pins σ (upd H p (.lst (xs.set j v))) { s with heap:=s.heap.update p (Obj.mapSeq (·.setIfInBounds j u)) }:=
  I.KH hp ho (AB its n j u) (r.set rv j) (by rw[List.length_set];exact hz) s.toks
 by_cases h0:0<=k
 . have hk:k.toNat = j:=by
    rw[seqIndex_of h0 h4]at h1
    simp_all
   exact PySem.W.ki_setAt ho h0 (by omega) (by rw[List.size_toArray,<- hl];exact h4) (by rw[hk];exact⟨_,I',q⟩)
 . have hk:(k + (its.toArray.size:Int)).toNat = j:=by
    rw[seqIndex_neg (by omega) h3]at h1
    simp_all
   exact PySem.W.ki_setBack ho (by omega) (by rw[List.size_toArray,<- hl];exact h3) (by omega) (by rw[hk];exact⟨_,I',q⟩)
theorem yq(lo hi:Option Int)(n:Nat):(sliceBounds lo hi none n).1=((HT.sIx n 0 lo:Nat):Int) /\ (sliceBounds lo hi none n).2.1=((HT.sIx n n hi:Nat):Int) /\ (sliceBounds lo hi none n).2.2=1:=by
 refine⟨?_,?_,rfl⟩
 . cases lo with
   |none=>simp[sliceBounds,HT.sIx]
   | some i=>
     simp only[sliceBounds,HT.sIx]
     grind
 . cases hi with
   |none=>simp[sliceBounds,HT.sIx]
   | some i=>
     simp only[sliceBounds,HT.sIx]
     grind
theorem wA(its:List Value)(lo hi:Option Int):slicePick its.toArray lo hi none=((its.drop (HT.sIx its.length 0 lo)).take (HT.sIx its.length its.length hi - HT.sIx its.length 0 lo)).toArray:=by
 obtain⟨h1,h2,h3⟩:=yq lo hi its.toArray.size;unfold slicePick;rw[h1,h2,h3]
 simp only[sliceRange_one,pick_run]<;>rfl
noncomputable def Mc(K:PySem.W.Frag):V->Option Int->Option Int->Hp->VK->Prop:=fun x lo hi H Q=>∃ a xs,x=.ref a /\ SqL K H a xs /\ ∀ p,H p=none->Q (.ref p) (upd H p (.lst (DP xs lo hi)))
theorem rZ:SlR X (Mc X.K):=by
 intro pins s σ H x v vl vu lo hi sl Q I rx hs pl pu h;obtain⟨a,xs,rfl,hx,q⟩:=h;cases rx;obtain⟨its,r,ht,hz⟩:=I.list hx;have hlen:=r.length
 refine⟨"list",_,slot_list_getitem.lookup,ht.isList.typeIs,?_⟩
 refine wpAny_getItem_list_slice ht.isList hs pl pu .none (by simp) ?_ (by rw[List.size_toArray]<;>omega);rw[wA,<- hlen]
 refine⟨.ref s.heap.objs.size,_,I.laid (t':=s.toks) (fun b ob q=>Heap.get?_push_of_some _ q) (Nat.le_refl _) ?_,rfl,q _ (I.hok.fresh (Nat.le_refl _))⟩
 exact⟨Nat.le_trans (zQ xs lo hi) hz,_,0,(r.drop (HT.sIx xs.length 0 lo)).take (HT.sIx xs.length xs.length hi - HT.sIx xs.length 0 lo),Heap.get?_push_size _ rfl⟩
noncomputable def qT:V->Bool
 |.non=>true
 |.bl _=>true
 |.int _=>true
 |.str _=>true
 |_=>false
noncomputable def eqV:V->V->Bool
 |.non,.non=>true
 |.bl a,.bl b=>a==b
 |.bl a,.int b=>(if a then 1 else 0)==b
 |.int a,.bl b=>a==(if b then 1 else 0)
 |.int a,.int b=>a==b
 |.str a,.str b=>a==b
 |_,_=>false
theorem JH{A:Around}{s:Shared}{y x:V}{u v:Value}(ry:RelV y u)(rx:RelV x v)(fy:qT y=true)(fx:qT x=true):SeqAt.EqAt A s u v (eqV y x):=by
 cases y with
 | non=>
   cases ry
   cases x with
   |non=>cases rx;exact SeqAt.EqAt.same _
   |bl b=>cases rx;exact SeqAt.EqAt.none_bool b
   |int b=>obtain⟨t,rfl⟩:=rx;exact SeqAt.EqAt.none_int b t
   |str b=>obtain⟨t,rfl⟩:=rx;exact SeqAt.EqAt.none_str b t
   |_=>exact absurd (show false=true from fx) Bool.false_ne_true
 | bl a=>
   cases ry
   cases x with
   |non=>cases rx;exact SeqAt.EqAt.bool_none a
   |bl b=>cases rx;exact SeqAt.EqAt.bool_bool a b
   |int b=>obtain⟨t,rfl⟩:=rx;exact SeqAt.EqAt.bool_int a b t
   |str b=>obtain⟨t,rfl⟩:=rx;exact SeqAt.EqAt.bool_str a b t
   |_=>exact absurd (show false=true from fx) Bool.false_ne_true
 | int a=>
   obtain⟨t',rfl⟩:=ry
   cases x with
   |non=>cases rx;exact SeqAt.EqAt.int_none a t'
   |bl b=>cases rx;exact SeqAt.EqAt.int_bool a t' b
   |int b=>obtain⟨t,rfl⟩:=rx;exact SeqAt.EqAt.int_int a t' b t
   |str b=>obtain⟨t,rfl⟩:=rx;exact SeqAt.EqAt.int_str a t' b t
   |_=>exact absurd (show false=true from fx) Bool.false_ne_true
 | str a=>
   obtain⟨t',rfl⟩:=ry
   cases x with
   |non=>cases rx;exact SeqAt.EqAt.str_none a t'
   |bl b=>cases rx;exact SeqAt.EqAt.str_bool a t' b
   |int b=>obtain⟨t,rfl⟩:=rx;exact SeqAt.EqAt.str_int a t' b t
   |str b=>obtain⟨t,rfl⟩:=rx;exact SeqAt.EqAt.str_str a t' b t
   |_=>exact absurd (show false=true from fx) Bool.false_ne_true
 |_=>exact absurd (show false=true from fy) Bool.false_ne_true
noncomputable def eqU(x:V)(u:Value):Bool:=match u with
 |.none=>eqV .non x
 |.bool b=>eqV (.bl b) x
 |.int i _=>eqV (.int i) x
 |.str z _=>eqV (.str z) x
 |_=>false
theorem FF{x y:V}{u:Value}(r:RelV y u)(f:qT y=true):eqU x u=eqV y x:=by
 cases y with
 |non=>cases r;rfl
 |bl b=>cases r;rfl
 |int i=>obtain⟨t,rfl⟩:=r;rfl
 |str z=>obtain⟨t,rfl⟩:=r;rfl
 |_=>exact absurd (show false=true from f) Bool.false_ne_true
theorem sO{x:V}:∀{xs:List V} {us:List Value},Vals xs us->xs.all qT=true->us.any (eqU x)=xs.any fun y=>eqV y x
 |_,_,.nil,_=>rfl
 | y ::xs,u ::us,.cons r t,f=>by
   rw[List.all_cons,Bool.and_eq_true]at f;rw[List.any_cons,List.any_cons,FF r f.1,sO t f.2]
theorem pT{A:Around}{s:Shared}{x:V}{v:Value}(rx:RelV x v)(fx:qT x=true):∀{xs:List V} {us:List Value},Vals xs us->xs.all qT=true->∀ u∈us,SeqAt.EqAt A s u v (eqU x u)
 |_,_,.nil,_=>fun u hu=>by cases hu
 | y ::xs,u ::us,.cons r t,f=>fun u' hu=>by
   rw[List.all_cons,Bool.and_eq_true]at f
   rcases List.mem_cons.mp hu with rfl|hu
   . rw[FF r f.1];exact JH r rx f.1 fx
   . exact pT rx fx t f.2 u' hu
noncomputable def inV(x:V)(xs:List V):Bool:=xs.any fun y=>eqV y x
noncomputable def rIn(K:PySem.W.Frag)(neg:Bool):R2:=fun x y H Q=>∃ p xs,y=.ref p /\ (SqL K H p xs \/ SqT K H p xs) /\ qT x=true /\ xs.all qT=true /\ Q (.bl (if neg then !inV x xs else inV x xs)) H
theorem C9:OpR X (compareOp .In) (rIn X.K false):=by
 intro pins s σ H x y v u Q I rx ry h;obtain⟨p,xs,rfl,hq,fx,fs,q⟩:=h;cases ry
 rcases hq with hq|hq
 . obtain⟨its,r,pl,hz⟩:=I.list hq;refine SeqAt.in_listAt (eqU x) pl.isList (fun w hw=>pT rx fx r fs w (by simpa using hw)) ⟨.bl _,H,I,rfl,?_⟩;rw[show its.toArray.any (eqU x)=its.any (eqU x) by simp,sO r fs];exact q
 . obtain⟨its,r,pl,hz⟩:=I.tuple hq;refine SeqAt.in_tupleAt (eqU x) pl (fun w hw=>pT rx fx r fs w (by simpa using hw)) ⟨.bl _,H,I,rfl,?_⟩;rw[show its.toArray.any (eqU x)=its.any (eqU x) by simp,sO r fs];exact q
theorem yo:OpR X (compareOp .NotIn) (rIn X.K true):=by
 intro pins s σ H x y v u Q I rx ry h;obtain⟨p,xs,rfl,hq,fx,fs,q⟩:=h;cases ry
 rcases hq with hq|hq
 . obtain⟨its,r,pl,hz⟩:=I.list hq;refine SeqAt.notIn_listAt (eqU x) pl.isList (fun w hw=>pT rx fx r fs w (by simpa using hw)) ⟨.bl _,H,I,rfl,?_⟩;rw[show its.toArray.any (eqU x)=its.any (eqU x) by simp,sO r fs];exact q
 . obtain⟨its,r,pl,hz⟩:=I.tuple hq;refine SeqAt.notIn_tupleAt (eqU x) pl (fun w hw=>pT rx fx r fs w (by simpa using hw)) ⟨.bl _,H,I,rfl,?_⟩;rw[show its.toArray.any (eqU x)=its.any (eqU x) by simp,sO r fs];exact q
theorem xJ:oI X (.builtin "len") (fun xs H Q=>∃ p ys,xs=[.ref p] /\ (SqL X.K H p ys \/ SqT X.K H p ys) /\ Q (.int ys.length) H):=by
 intro pins s σ H xs us Q I r h;obtain⟨p,ys,rfl,hq,q⟩:=h;obtain⟨u,rfl,rx⟩:=vals1 r;cases rx;have hn:=wq
 rcases hq with hq|hq
 . obtain⟨its,r',pl,hz⟩:=I.list hq;have hlen:=r'.length;exact Calls.call_len_list pl.isList (by simp only[List.size_toArray]<;>omega) ⟨.int ys.length,H,I.tok _,⟨s.toks+1,by rw[List.size_toArray,hlen]⟩,q⟩
 . obtain⟨its,r',pl,hz⟩:=I.tuple hq;have hlen:=r'.length;exact len_tuple pl (by simp only[List.size_toArray]<;>omega) ⟨.int ys.length,H,I.tok _,⟨s.toks+1,by rw[List.size_toArray,hlen]⟩,q⟩
theorem jS:oI X (.type "tuple") (fun xs H Q=>∃ p ys,xs=[.ref p] /\ ((SqL X.K H p ys /\ ∀ l,H l=none->Q (.ref l) (upd H l (.tup ys))) \/ (SqT X.K H p ys /\ Q (.ref p) H))):=by
 intro pins s σ H xs us Q I r h;obtain⟨p,ys,rfl,h⟩:=h;obtain⟨u,rfl,rx⟩:=vals1 r;cases rx
 rcases h with⟨hq,q⟩|⟨hq,q⟩
 . obtain⟨its,r',pl,hz⟩:=I.list hq;have hlen:=r'.length;refine call_tuple_list pl.isList (fun h' kp=>?_) (by simp only[List.size_toArray]<;>omega)
   have I1:Inv X pins σ H { s with heap:=h' }:=I.kept (t':=s.toks) kp
   have I2:Inv X pins σ (upd H h'.objs.size (.tup ys)) { s with heap:=h'.push { cls:=.type "tuple",data:=.seq its.toArray } }:=
    I1.laid (t':=s.toks) (fun b o e=>Heap.get?_push_of_some _ e) (Nat.le_refl _) (show hU X.prog X.w _ _ _ (.tup ys) from⟨⟨hz,.new _ _⟩,its,r',IsTup.new _ _⟩)
   exact⟨.ref h'.objs.size,_,I2,rfl,q _ (I1.hok.fresh (Nat.le_refl _))⟩
 . obtain⟨its,r',pl,hz⟩:=I.tuple hq;exact call_tuple_same pl ⟨.ref p,H,I,rfl,q⟩
noncomputable def tyV(K:PySem.W.Frag)(T:String)(x:V)(H:Hp):Prop:=match x with
 |.str _=>T = "str"
 |.int _=>T = "int"
 | .ref p=>(T = "list" /\ ∃ xs,SqL K H p xs) \/ (T = "tuple" /\ ∃ o,K.lookup p = some o /\ o.cls = .type "tuple" /\ o.dict = none) \/
    (T = "dict" /\ ((∃ kvs,H p=some (.dK kvs)) \/ ∃ kvs,H p=some (.dT kvs))) \/ (T = "set" /\ ∃ S n,H p=some (.set S n))
 |_=>False
theorem Fs{pins:List (Addr×Obj)}{σ:St}{H:Hp}{s:Shared}{T:String}{x:V}{v:Value}(I:Inv X pins σ H s)(r:RelV x v)(ty:tyV X.K T x H):
  s.TypeIs v T /\ ∀ a,v=.ref a->∃ ob,s.heap.get? a=some ob /\ ob.dict=none:=by
 cases x with
 | str z=>
   obtain⟨t,rfl⟩:=r
   cases(show T = "str" from ty)
   exact⟨typeIs_str s z t,fun _ e=>nomatch e⟩
 | int i=>
   obtain⟨t,rfl⟩:=r
   cases(show T = "int" from ty)
   exact⟨typeIs_int s i t,fun _ e=>nomatch e⟩
 | ref p=>
   cases r
   rcases ty with⟨rfl,xs,hq⟩|⟨rfl,o,hk,hc,hd⟩|⟨rfl,hk⟩|⟨rfl,S,n,hk⟩
   . obtain⟨its,_,pl,_⟩:=I.list hq
     refine⟨pl.isList.typeIs,fun a e=>?_⟩
     obtain⟨o,n,e,c,hd,_⟩:=pl
     simp_all
   . refine⟨⟨o,I.kIn p o hk,hc⟩,fun a e=>?_⟩
     cases e
     exact⟨o,I.kIn _ o hk,hd⟩
   . have z:∃ o,s.heap.get? p = some o /\ o.ExactDict:=by
      rcases hk with⟨kvs,hk⟩|⟨kvs,hk⟩
      . obtain⟨_,_,_,_,o,_,_,e,ex,_⟩:=I.hok p _ hk
        simp_all
      . obtain⟨_,_,_,_,o,_,_,e,ex,_⟩:=I.hok p _ hk
        simp_all
     obtain⟨o,e,ex⟩:=z
     refine⟨⟨o,e,ex.1⟩,fun a e2=>?_⟩
     cases e2
     exact⟨o,e,ex.2.1⟩
   . obtain⟨o,_,_,_,e,ex,_⟩:=I.hok p _ hk
     refine⟨⟨o,e,ex.1⟩,fun a e2=>?_⟩
     cases e2
     exact⟨o,e,ex.2.1⟩
 |_=>exact False.elim ty
noncomputable def Ho(K:PySem.W.Frag)(T:String)(r:V->List V->Hp->VK->Prop)(to:TE):TE:=fun σ H Q=>to σ H fun x H1=>tyV K T x H1 /\ r x [] H1 Q
noncomputable def tBM(K:PySem.W.Frag)(T:String)(r:V->List V->Hp->VK->Prop)(to:TE)(t:TA):TE:=fun σ H Q=>to σ H fun x H1=>tyV K T x H1 /\ t σ H1 fun xs H2=>r x xs H2 Q
variable{o e:Expr}{es:List Expr}{to:TE}{t:TA}{name:Str}{apos cpos:Pos}{T id:String}{r:V->List V->Hp->VK->Prop}
theorem Kg(pa:PlainAttrs T)(slot:Slot T name id)(hty:typeOf (.builtin id)=pure (.type "method_descriptor"))(hm:MtR X id r)(ho:PE X o to)
  (hbase:attributeBase o name X.env (eval o X.env)=eval o X.env:=by rfl) (hline:(apos.endLine==cpos.line)=true:=by rfl):PE X (.Call (.Attribute o name apos) [] [] cpos) (Ho X.K T r to):=by
 intro pins s σ H Q I h;refine wpAny_Call_method0_late hbase hline (thn (ho pins s σ H _ I h) fun v s1 ⟨x,H1,I1,r1,ty,q1⟩=>?_);obtain⟨h1,h2⟩:=Fs I1 r1 ty
 exact⟨T,id,pa,slot,hty,h1,h2,Calls.callWith_builtin rfl (PySem.evalArgs_none (hm pins s1 σ H1 x [] v [] Q I1 r1 .nil q1))⟩
theorem LZ(pa:PlainAttrs T)(slot:Slot T name id)(hty:typeOf (.builtin id)=pure (.type "method_descriptor"))(hm:MtR X id r)(ho:PE X o to)(ha:PA X (e ::es) t)
  (hbase:attributeBase o name X.env (eval o X.env)=eval o X.env:=by rfl)
  (hfew:((backTo cpos (starEach (e ::es) X.env)).all (fun x=>!x.1)&&(backToKw cpos (keywordEach [] X.env)).all (fun x=>x.1.isSome)
    && decide ((e ::es).length+([]:List Keyword).length+(if([]:List Keyword).isEmpty then 0 else 1)<30))=true:=by rfl)
  (hline:(apos.endLine==cpos.line)=true:=by rfl) (hs:starEach (e ::es) X.env=(false,eval e X.env) ::starEach es X.env:=by rfl) (hplain:(backTo cpos (starEach es X.env)).any (·.1)=false:=by rfl):
  PE X (.Call (.Attribute o name apos) (e ::es) [] cpos) (tBM X.K T r to t):=by
 intro pins s σ H Q I h;refine wpAny_Call_method_late hbase hfew hline rfl (thn (ho pins s σ H _ I h) fun v s1 ⟨x,H1,I1,r1,ty,q1⟩=>?_);obtain⟨h1,h2⟩:=Fs I1 r1 ty
 refine⟨T,id,pa,slot,hty,h1,h2,?_⟩
 have hA:=ha cpos pins s1 σ H1 _ I1 q1
 rw[hs]at hA ⊢
 refine Calls.callWith_builtin (by show(false||(backTo cpos (starEach es X.env)).any (·.1))=false;rw[hplain]<;>rfl) (Calls.evalArgs_plain ?_)
 exact thn hA fun us s2 ⟨vs,H2,I2,r2,q2⟩=>hm pins s2 σ H2 x vs v us Q I2 r1 r2 q2
end
noncomputable def MtM(X:Cx)(id:String)(r:V->List V->Hp->VK->Prop):Prop:=
 ∀(pins:List (Addr×Obj)) (s:Shared) (σ:St) (H:Hp) (x:V) (xs:List V) (v:Value) (us:List Value) (Q:VK),Inv X pins σ H s->RelV x v->Vals xs us->r x xs H Q ->
   wpAny (model X.prog X.w) X.A (call (.builtin id) (v ::us)) (EP X pins σ Q) X.xe s
theorem Vals.one:∀{x:V} {us:List Value},Vals [x] us->∃ u,us=[u] /\ RelV x u
 |_,_,.cons r .nil=>⟨_,rfl,r⟩
theorem Vals.two:∀{x y:V} {us:List Value},Vals [x,y] us->∃ u v,us=[u,v] /\ RelV x u /\ RelV y v
 |_,_,_,.cons r (.cons q .nil)=>⟨_,_,rfl,r,q⟩
theorem Vals.zero:∀{us:List Value},Vals [] us->us=[]
 |_,.nil=>rfl
theorem Vals.dropLast{xs:List V}{us:List Value}(h:Vals xs us):Vals xs.dropLast us.dropLast:=by
 induction h with
 |nil=>exact .nil
 | cons r t ih=>
   cases t with
   |nil=>exact .nil
   |cons q t'=>exact .cons r ih
theorem Vals.reverse{xs:List V}{us:List Value}(h:Vals xs us):Vals xs.reverse us.reverse:=by
 induction h with
 |nil=>exact .nil
 |cons r t ih=>rw[List.reverse_cons,List.reverse_cons];exact Vals.append ih (.cons r .nil)
section
variable{X:Cx}{pins:List (Addr×Obj)}{σ:St}{H:Hp}{s:Shared}{l b:Addr}{xs ys zs:List V}
theorem Inv.Fl{its its':List Value}{n:Nat}{f:Array Value->Array Value}{t':Nat}(I:Inv X pins σ H s)(hH:H l=some (.lst xs))
  (e:s.heap.get? l=some { cls:=.type "list",data:=.seq its.toArray n }) (hf:f its.toArray=its'.toArray) (hv:Vals ys its') (hz:ys.length<=sizeLine):
  Inv X pins σ (upd H l (.lst ys)) { s with heap:=s.heap.update l (Obj.mapSeq f),toks:=t' }:=by
 have q:=PySem.IsL.update e f;rw[hf]at q;refine I.write (by rw[hH];exact trivial) (.inl rfl) (fun b' u hb hu=>(Heap.get?_update_other s.heap (Obj.mapSeq f) (Ne.symm hb)).trans hu) ⟨_,q⟩ ?_
 exact⟨hz,its',_,hv,q⟩
theorem Inv.Et{its:List Value}{t':Nat}(I:Inv X pins σ H s)(hv:Vals ys its)(hz:ys.length<=sizeLine):
  Inv X pins σ (upd H s.heap.objs.size (.lst ys)) { s with heap:=s.heap.push { cls:=.type "list",data:=.seq its.toArray },toks:=t' }:=
 I.laid (fun _ _ q=>Heap.get?_push_of_some _ q) (Nat.le_refl _) ⟨hz,its,0,hv,Heap.get?_push_size _ rfl⟩
theorem Inv.fresh(I:Inv X pins σ H s):H s.heap.objs.size=none:=I.hok.fresh (Nat.le_refl _)
theorem Inv.FO(I:Inv X pins σ H s)(hH:H l=some (.lst xs)):xs.length<=sizeLine /\ ∃(its:List Value) (n:Nat),Vals xs its /\ xs.length=its.length /\ s.heap.get? l=some { cls:=.type "list",data:=.seq its.toArray n }:=by
 obtain⟨z,its,n,r,e⟩:=I.hok l _ hH
 exact⟨z,its,n,r,r.length,e⟩
theorem Ac{n:Nat}(h:n<=sizeLine):Builtin.List.listTooLong n=false:=by
 unfold Builtin.List.listTooLong
 simp_all
end
section
variable{X:Cx}
noncomputable def yw:V->List V->Hp->VK->Prop:=fun x vs H Q=>∃ l xs y,x=.ref l /\ vs=[y] /\ H l=some (.lst xs) /\ xs.length<sizeLine /\ Q .non (upd H l (.lst (xs++[y])))
theorem ck:MtM X "list.append" yw:=by
 intro pins s σ H x vs v us Q I rx rv h;obtain⟨l,xs,y,rfl,rfl,hH,hz,q⟩:=h;cases rx;obtain⟨u,rfl,ru⟩:=rv.one;obtain⟨z,its,n,r,hl,e⟩:=I.FO hH;refine call_meets F.slot_list_append ⟨_,e,rfl⟩ F.entry_list_append (F.args_list_append_2 _ _) (PySem.list_append l its.toArray n u (by rw[List.size_toArray];omega)) ⟨e,?_⟩
 refine⟨.non,_,I.Fl (its':=its++[u]) hH e (by simp) (r.append (.cons ru .nil)) ?_,rfl,q⟩
 grind
noncomputable def Mb:V->List V->Hp->VK->Prop:=fun x vs H Q=>∃ l xs y,x=.ref l /\ vs=[] /\ H l=some (.lst xs) /\ xs[xs.length - 1]?=some y /\ Q y (upd H l (.lst xs.dropLast))
theorem Eo:MtM X "list.pop" Mb:=by
 intro pins s σ H x vs v us Q I rx rv h;obtain⟨l,xs,y,rfl,rfl,hH,hy,q⟩:=h;cases rx;have hus:=rv.zero;subst hus;obtain⟨z,its,n,r,hl,e⟩:=I.FO hH;obtain⟨u,hu,ru⟩:=r.get hy
 have hy':its.toArray[its.toArray.size - 1]?=some u:=by
  simp_all
 refine call_meets F.slot_list_pop ⟨_,e,rfl⟩ F.entry_list_pop (F.args_list_pop_1 _) (MeetsSeq.list_pop_last l its.toArray n u hy' (by rw[List.size_toArray];omega)) ⟨e,?_⟩
 refine⟨y,_,I.Fl (its':=its.dropLast) hH e ?_ r.dropLast ?_,ru,q⟩
 . simp
 . grind
noncomputable def zX:V->List V->Hp->VK->Prop:=fun x vs H Q=>∃ l xs,x=.ref l /\ vs=[] /\ H l=some (.lst xs) /\ Q .non (upd H l (.lst xs.reverse))
theorem AS:MtM X "list.reverse" zX:=by
 intro pins s σ H x vs v us Q I rx rv h;obtain⟨l,xs,rfl,rfl,hH,q⟩:=h;cases rx;have hus:=rv.zero;subst hus;obtain⟨z,its,n,r,hl,e⟩:=I.FO hH;refine call_meets F.slot_list_reverse ⟨_,e,rfl⟩ F.entry_list_reverse (F.args_list_reverse_1 _) (AutoSeq1.list_reverse_list_0 l its.toArray n (by rw[List.size_toArray];omega)) ⟨e,?_⟩
 refine⟨.non,_,I.Fl (its':=its.reverse) hH e (by simp) r.reverse ?_,rfl,q⟩
 rw[List.length_reverse];omega
end
section
variable{prog:Program}{w:World}{A:Around}{E:Value->Shared->Prop}{s:Shared}
set_option maxRecDepth 100000 in
end
end L2
namespace Att
open PySem PySem.W PySem.Calls PyProof.Rows
theorem uE{P:Params}{h:Heap}:∀(ns:List Int) (vs:List Value),WellAll P h vs (ns.map WData.int)->IntsAre vs ns:=by
 intro ns
 induction ns with
 | nil=>
   intro vs w;cases w;exact .nil
 | cons n ns ih=>
   intro vs w
   cases w with
   | cons a b=>
     cases a;exact .cons _ _ (ih _ b)
theorem Dw{l:OpenLaw}{n:Nat}(hn:l.most=some n){P:Params}{h:Heap}{args:List WData}{vals:List Value}
  (hpre:l.row.toRowW.claim.pre args=true) (hwl:WellAll P h vals args):
  ∃ a vs ns,vals=[Value.ref a] /\ args=[WData.list (ns.map WData.int)] /\ h.get? a=some { cls:=.type "list",data:=.seq vs.toArray } /\ IntsAre vs ns /\ ns.length<=n:=by
 have hsh:WShape.hasAll [] args [.list .int]=true:=(pre_splitW hpre).1
 have hc:l.pre.holds [] { args:=args }=true:=(pre_splitW hpre).2
 obtain⟨d,r,rfl,h1,h2⟩:=hasAllW_cons hsh
 obtain rfl:=hasAllW_nil h2
 obtain⟨xs,rfl,h3⟩:=hasW_list h1;obtain⟨ns,rfl⟩:=items_int h3
 have hlen:ns.length<=n:=by
  have h4:(WTm.not (.lt (.lit (.int (n:Int))) (.len (.arg 0)))).holds [] { args:=[.list (ns.map .int)] }=true:=by
   have h4:=(holds_andW hc).1
   simp_all
  have h5:=condW_of h4 (w_not (w_lt w_lit (w_len_list (w_arg rfl))))
  simp_all
 cases hwl with
 | cons w1 w2=>
   cases w2
   cases w1 with
   |list ho hall=>exact⟨_,_,ns,rfl,rfl,ho,uE ns _ hall,hlen⟩
theorem CW(l:OpenLaw)(args:List WData):l.row.toRowW.claim.post args (.bool true) args=true:=
 postW_of
  (show WShape.has [] (.bool true) .bool=true by first|rfl|decide|simp)
  (show(WTm.eq .res (.lit (.bool true))).value [] { args:=args,res:=some (.bool true),after:=args }=some (.bool (true==true)) from w_eq_bool (w_res rfl) w_lit) rfl
theorem yW{l:OpenLaw}{n:Nat}{q:Program}{loose:List Str}{XP:(Str->Option Value)->Heap->Prop}{YP:World->Heap->Prop}{d:DefRec}
  (hn:l.most=some n) (hdf:d.params.defaults=[])
  (call:∀(w:World) (s₀ s₁:Shared) (mg mb:Str->Option Value) (fa:Addr) (o:Obj) (pm cd doc:Value) (a:Addr) (vs:List Value) (ns:List Int),
    Ground q loose [] XP w s₀ mg mb s₁.heap->YP w s₁.heap ->
    s₁.heap.get? fa=some o->o.data=.func (docDef d.name d.params d.body d.scope pm cd doc)->s₁.heap.CodeRec cd d.name->mg d.name=some (.ref fa) ->
    s₁.heap.get? a=some { cls:=.type "list",data:=.seq vs.toArray }->IntsAre vs ns->ns.length<=n->s₁.gens=#[] ->
    codeAny (model l.prog w) callerA (.call (.ref fa) ⟨[.ref a],[]⟩) (fun r s'=>r=.ok (.ret (.bool true)) /\ OldK s₁.heap s'.heap /\ s'.os=s₁.os /\ AllBare s'.gens) s₁):
  WalkO q loose XP YP l.row.toRowW d [] (fun f vs=>PySem.call f vs):=by
 intro w s₀ s₁ mg mb G Y fa o pm cd doc dV kV ho hd hcd hD hmg hg args vals as hpre hlay hrd hwl hlo
 obtain rfl:dV=.none:=Dflts.none hD hdf
 obtain rfl:kV=.none:=Dflts.noKw hD
 obtain⟨a,vs,ns,rfl,rfl,hobj,hints,hlen⟩:=Dw hn hpre hwl;refine enter_call (codeAny_mono (call w s₀ s₁ mg mb fa o pm cd doc a vs ns G Y ho (fd_plain hd) hcd hmg hobj hints hlen hg) fun r s' hq=>?_);obtain⟨rfl,h2,h3,h4⟩:=hq
 exact⟨.inl ⟨.bool true,.bool true,[],rfl,fun _=>rfl,.bool true,CW l _,fun _=>⟨List.Pairwise.nil,fun _ hm=>(nomatch hm)⟩⟩,h2,h3,h4⟩
end Att
namespace L2
open PySem PySem.Spec PyProof.Rows
theorem xx:∀{vs:List Value} {ns:List Int},IntsAre vs ns->Vals (ns.map V.int) vs
 |_,_,.nil=>.nil
 |_,_,.cons n t h=>.cons ⟨t,rfl⟩ (xx h)
noncomputable def Ku(H:Hp):Prop:=∀ b,H b=none \/ ∃ o xs,H b=some (.frz o (.lst xs))
theorem FP{P:Program}{w:World}{K:PySem.W.Frag}{mg mb:Str->Option Value}{CX:CXT}{k:Nat}{fa a:Addr}{fd:FuncData}{x:Str}{sp:Sp}{s₁:Shared}{vs:List Value}{ns:List Int}
  (KX:K.In s₁.heap) (hns:s₁.heap.Ns mainGlobals mg) (hb:s₁.heap.Ns builtinsNs mb) (hbb:∀ x:Str,x ≠ "__name__" -> mb x=bootBuiltins x) (hlim:s₁.heap.NoLimit) (hg:s₁.gens=#[])
  (ha:s₁.heap.get? a=some { cls:=.type "list",data:=.seq vs.toArray }) (hi:IntsAre vs ns) (hl:ns.length<=sizeLine) (hr:ik k callerA)
  (F:∀ base:Heap,K.In base->base.Ns mainGlobals mg->cq P w K mg base CX k fa fd [x] sp) (hbind:∀(s:Shared) (u:Value),BindsTo s fd ⟨[u],[]⟩ [(x,u)])
  (hsp:∀ H:Hp,Ku H->SqL K H a (ns.map V.int)->sp [.ref a] H (fun v _=>v=.bl true) fun _ _ _=>False)
  (hCX:∀ H e s',CX [] H s₁ (fun _ _ _=>False) e s'->False):
  codeAny (model P w) callerA (.call (.ref fa) ⟨[.ref a],[]⟩) (fun r s'=>r=.ok (.ret (.bool true)) /\ OldK s₁.heap s'.heap /\ s'.os=s₁.os /\ AllBare s'.gens) s₁:=by
 have rv:=xx hi;have lenV:=hi.length
 have core:∀ H:Hp,Ku H->SqL K H a (ns.map V.int)->HOk P w H s₁.heap->(∀ b,H b≠none->b=a)->(H a≠none->K.lookup a=none) ->
   codeAny (model P w) callerA (.call (.ref fa) ⟨[.ref a],[]⟩) (fun r s'=>r=.ok (.ret (.bool true)) /\ OldK s₁.heap s'.heap /\ s'.os=s₁.os /\ AllBare s'.gens) s₁:=by
  intro H hO hS hok hA hK
  have base_of:∀{b:Addr} {o:Obj},s₁.heap.get? b=some o->H b=none->(yM s₁.heap H).get? b=some o:=fun e n=>EH e n
  have noA:∀{b:Addr} {o:Obj} {es:Array DictEntry} {ep:Nat},s₁.heap.get? b=some o->o.data=.dict es ep->H b=none:=fun {b o es ep} e d=>by
   grind
  have nsK:∀{b:Addr} {m:Str->Option Value},s₁.heap.Ns b m->(yM s₁.heap H).Ns b m:=fun {b m} ⟨o,es,ep,e,d,r⟩=>⟨o,es,ep,base_of e (noA e d),d,r⟩
  have hKb:K.In (yM s₁.heap H):=fun b o e=>base_of (KX b o e) (by
   cases q:H b with
   |none=>rfl
   | some u=>
     have e':=hA b (by rw[q];simp)
     subst e'
     rw[hK (by rw[q];simp)]at e;cases e)
  have hM:Mod K mg (yM s₁.heap H):=⟨hKb,nsK hns,⟨mb,nsK hb,hbb⟩,let ⟨mc,h1,h2⟩:=hlim;⟨mc,nsK h1,h2⟩⟩
  have e0:A5 P w K mg (yM s₁.heap H) callerA [] s₁ H:=⟨rfl,hM,fun b o e=>Hh e,Nat.le_of_eq (Dj _ _),trivial,fun b hb=>absurd (show b∈([]:List Addr) from hb) (by simp),hok,.of_eq hg⟩
  refine codeAny_mono ((F _ hKb (nsK hns)).run callerA [] s₁ H ⟨[.ref a],[]⟩ [.ref a] [.ref a] _ _ hr e0 (hbind s₁ (.ref a)) (.cons rfl .nil) (hsp H hO hS)) fun r s' h=>?_
  cases r with
  |error e=>exact(hCX H e s' h).elim
  | ok fl=>
    cases fl with
    |next=>exact False.elim h
    |brk=>exact False.elim h
    |cont=>exact False.elim h
    | ret u=>
      obtain⟨v,H',os,bare,un,hok',r',q⟩:=h
      have q':=q
      subst q'
      obtain rfl:u=Value.bool true:=r'
      refine⟨rfl,OldK.of_keep fun b o e=>?_,os,bare⟩
      cases q:H b with
      |none=>exact un.keep b o e q (by intro z;exact absurd (show b∈([]:List Addr) from z) (by simp)) (by simp)
      | some u=>
        rcases hO b with z|⟨ob,xs,z⟩
        . simp_all
        . have z2:=un.frzs b ob _ z;obtain⟨e1,_⟩:=hok b _ z;obtain⟨e2,_⟩:=hok' b _ z2
          simp_all
 cases hk:K.lookup a with
 | some o=>
   have e:=KX a o hk;rw[ha]at e;cases e
   refine core (fun _=>none) (fun _=>.inl rfl) (.inr ⟨_,vs.toArray,_,hk,rfl,rfl,rfl,by rw[List.size_toArray,lenV];exact hl,by simpa using rv⟩) (fun b u z=>by have z':=z;cases z') (fun b z=>absurd rfl z) fun z=>absurd rfl z
 | none=>
   refine core (fun b=>if b=a then some (.frz { cls:=.type "list",data:=.seq vs.toArray } (.lst (ns.map V.int)))else none) (fun b=>?_) (.inl (.inr ⟨{ cls:=.type "list",data:=.seq vs.toArray },if_pos rfl⟩)) (fun b u z=>?_) (fun b z=>?_) fun _=>hk
   . grind
   . by_cases hb:b=a
     . have z':=(if_pos hb).symm.trans z
       cases z'
       subst hb
       exact⟨ha,by rw[List.length_map];exact hl,vs,_,rv,ha⟩
     . simp_all
   . simp_all
abbrev KOf{K:PySem.W.Frag}{h:Heap}(_:K.In h):PySem.W.Frag:=K
theorem Hk{l:PySem.W.OpenLaw}{n k:Nat}{q:Program}{loose:List Str}{XP:(Str->Option Value)->Heap->Prop}{YP:World->Heap->Prop}{d:DefRec}{K:Params->PySem.W.Frag}{CX:World->CXT}{sp:World->Sp}{x:Str}
  (hn:l.most=some n) (hn2:n<=sizeLine) (hdf:d.params.defaults=[]) (hr:ik k callerA)
  (hY:∀(w:World) (h:Heap),YP w h->(K w.params).In h)
  (F:∀(w:World) (mg:Str->Option Value) (fa:Addr) (h:Heap),(K w.params).In h->h.Ns mainGlobals mg->mg d.name=some (.ref fa) ->
    ∃ fd:FuncData,(∀(s:Shared) (u:Value),BindsTo s fd ⟨[u],[]⟩ [(x,u)]) /\
      ∀ base:Heap,(K w.params).In base->base.Ns mainGlobals mg->cq l.prog w (K w.params) mg base (CX w) k fa fd [x] (sp w))
  (hsp:∀(w:World) (H:Hp) (a:Addr) (ns:List Int),ns.length<=n->Ku H->SqL (K w.params) H a (ns.map V.int)->sp w [.ref a] H (fun v _=>v=.bl true) fun _ _ _=>False)
  (hCX:∀(w:World) (H:Hp) (s:Shared) (e:Value) (s':Shared),CX w [] H s (fun _ _ _=>False) e s'->False):
  PySem.W.WalkO q loose XP YP l.row.toRowW d [] (fun f vs=>PySem.call f vs):=by
 refine Att.yW hn hdf fun w s₀ s₁ mg mb fa o pm cd doc a vs ns G Y ho hd hcd hmg hobj hints hlen hg=>?_
 have KX:=hY w _ Y;obtain⟨fd,hb,hF⟩:=F w mg fa _ KX G.T.g hmg
 exact FP KX G.T.g G.T.b G.T.builtins G.T.nolimit hg hobj hints (Nat.le_trans hlen hn2) hr hF hb (fun H hO hS=>hsp w H a ns hlen hO hS) fun H e s'=>hCX w H s₁ e s'
def inClass(s:Stmt)(j:Nat):Stmt:=match s with
 |.ClassDef _ _ _ body _ _ _ _ _ _ _=>body.getD j (.Pass ⟨0,0,0,0⟩)
 |_=>.Pass ⟨0,0,0,0⟩
noncomputable def eR(s:Stmt):Arguments:=match s with
 |.FunctionDef _ a _ _ _ _ _ _ _ _=>a
 |_=>{ posonlyargs:=[],args:=[],vararg:=none,kwonlyargs:=[],kw_defaults:=[],kwarg:=none,defaults:=[] }
noncomputable def dF(s:Stmt):List Stmt:=match s with
 |.FunctionDef _ _ b _ _ _ _ _ _ _=>b
 |_=>[]
noncomputable def aC(s:Stmt):Scope:=match s with
 |.FunctionDef _ _ _ _ _ _ sc _ _ _=>sc
 |_=>{ kind:=.function,names:=[],isGenerator:=false,isCoroutine:=false }
structure Fun(K:PySem.W.Frag)(x qual:Str)(st:Stmt)(f:Addr)(fd:FuncData):Prop where
 ex:∃(oc:Value) (od:Option Addr) (kV doc pm:Value) (an:Option Addr) (cdv ct:Value) (osl:Array (Option Value)),
  fd=PySem.W.fnOf x qual (eR st) (dF st) (aC st) .none kV doc pm an cdv ct /\ K.lookup f=some ⟨oc,od,.func fd,osl⟩ /\ PySem.W.codeIn K cdv qual=true
 kp:PySem.W.keepIn K (.ref f)=true
section
variable{P:Program}{w:World}{K:PySem.W.Frag}{mg:Str->Option Value}{base:Heap}
theorem Fun.binds{x qual:Str}{st:Stmt}{f:Addr}{fd:FuncData}{ps:List Str}(F:Fun K x qual st f fd)
  (h:∀(kV doc pm:Value) (an:Option Addr) (cdv ct:Value) (us:List Value),us.length=ps.length->bindArgs (PySem.W.fnOf x qual (eR st) (dF st) (aC st) .none kV doc pm an cdv ct) ⟨us,[]⟩=pure (ps.zip us)):Binds K fd ps []:=by
 obtain⟨oc,od,kV,doc,pm,an,cdv,ct,osl,rfl,lk,hcd⟩:=F.ex;exact .all (h kV doc pm an cdv ct)
theorem lr{x qual:Str}{st:Stmt}{f:Addr}{oc:Value}{od an:Option Addr}{osl:Array (Option Value)}{kV doc pm cdv ct:Value}(l:K.lookup f=some ⟨oc,od,.func (PySem.W.fnOf x qual (eR st) (dF st) (aC st) .none kV doc pm an cdv ct),osl⟩)
  (c:PySem.W.codeIn K cdv qual=true) (k:PySem.W.keepIn K (.ref f)=true):Fun K x qual st f (PySem.W.fnOf x qual (eR st) (dF st) (aC st) .none kV doc pm an cdv ct):=⟨⟨oc,od,kV,doc,pm,an,cdv,ct,osl,rfl,l,c⟩,k⟩
end
theorem IX{A:Around}{k:Nat}(hr:ik k A):A.units+1<cLine:=Nat.lt_of_le_of_lt (Nat.add_le_add_left (by decide:1<=64) _) hr.units
section
variable{X:Cx}
theorem pv(i:Nat){x:Str}{pos:Pos}(hN:X.N[i]?=some x:=by rfl)(hv:Vis X.env.scope x:=by first|exact Or.inl rfl|exact Or.inr (Or.inl rfl)|exact Or.inr (Or.inr rfl))(hd:(x==("__debug__":Str))=false:=by decide)
  (hcd:(x==("__classdict__":Str))=false:=by decide):PE X (.Name x pos) (Aj i):=K4 hN hv hd hcd
end
theorem zV{A B:Prop}(h:B):if false=true then A else B:=by
 rw[if_neg Bool.false_ne_true];exact h
theorem Ap{A B:Prop}(h:A):if true=true then A else B:=by
 rw[if_pos rfl];exact h
noncomputable def aK(H H':Hp):Prop:=∀ b o,H b=some o->H' b=some o
theorem aK.refl(H:Hp):aK H H:=fun _ _ h=>h
theorem aK.trans{H H1 H2:Hp}(a:aK H H1)(b:aK H1 H2):aK H H2:=fun c o h=>b c o (a c o h)
theorem aK.free{H H':Hp}(e:aK H H'){l:Addr}(h:H' l=Option.none):H l=Option.none:=by
 cases q:H l with
 |none=>rfl
 | some o=>
   rw[e l o q]at h;cases h
theorem aK.seq{K:PySem.W.Frag}{H H':Hp}{a:Addr}{xs:List V}(e:aK H H')(h:SqL K H a xs):SqL K H' a xs:=by
 rcases h with(h|⟨o,h⟩)|h
 . exact .inl (.inl (e _ _ h))
 . exact .inl (.inr ⟨o,e _ _ h⟩)
 . exact .inr h
section
variable{κ:Type}[DecidableEq κ]
noncomputable def oe(kvs:List (κ×V))(k:κ):Option V:=(kvs.find? fun kv=>decide (kv.1=k)).map (·.2)
noncomputable def putK(kvs:List (κ×V))(k:κ)(v:V):List (κ×V):=
 if(kvs.any fun kv=>decide (kv.1=k))=true then kvs.map (fun kv=>if kv.1=k then(kv.1,v)else kv)else kvs++[(k,v)]
theorem zi{p:κ×V}{r:List (κ×V)}{k:κ}(e:p.1=k):oe (p ::r) k=some p.2:=by simp[oe,e]
theorem zb{p:κ×V}{r:List (κ×V)}{k:κ}(e:¬ p.1=k):oe (p ::r) k=oe r k:=by simp[oe,e]
theorem zN(k:κ):∀ kvs:List (κ×V),(kvs.any fun kv=>decide (kv.1=k))=(oe kvs k).isSome
 |[]=>rfl
 | p ::r=>by
   rw[List.any_cons]
   by_cases e:p.1=k
   . simp only[zi e,decide_eq_true e,Bool.true_or,Option.isSome_some]
   . rw[zb e,decide_eq_false e,Bool.false_or];exact zN k r
theorem zC(kvs:List (κ×V))(k:κ)(v:V):(putK kvs k v).length<=kvs.length+1:=by
 unfold putK
 grind
theorem EW{kvs:List (κ×V)}{k:κ}(v:V)(h:oe kvs k=none):putK kvs k v=kvs++[(k,v)]:=by
 unfold putK;rw[zN,h];simp
theorem bU.C7{o:Option V}{u:Option Value}(r:bU o u):o.isSome=u.isSome:=by
 cases o with
 | none=>cases u with
   |none=>rfl
   |some _=>exact(show False from r).elim
 | some _=>cases u with
   |none=>exact(show False from r).elim
   |some _=>rfl
theorem bU.getD{o:Option V}{u:Option Value}{d:V}{d':Value}(r:bU o u)(rd:RelV d d'):RelV (o.getD d) (u.getD d'):=by
 cases o with
 | none=>cases u with
   |none=>exact rd
   |some _=>exact(show False from r).elim
 | some _=>cases u with
   |none=>exact(show False from r).elim
   |some _=>exact r
theorem KV.val{kvs:List (κ×V)}{vs:List (κ×Value)}(r:KV kvs vs)(k:κ):bU (oe kvs k) (valueAt vs k):=by
 induction r with
 |nil=>exact True.intro
 | @cons p q ps qs h t ih=>
   obtain⟨h1,h2⟩:=h
   by_cases e:p.1=k
   . have e':=h1.symm.trans e
     have b:valueAt (q ::qs) k=some q.2:=by simp[valueAt,e']
     rw[zi e,b];exact h2
   . have e':¬ q.1=k:=fun z=>e (h1.trans z)
     have b:valueAt (q ::qs) k=valueAt qs k:=by simp[valueAt,e']
     rw[zb e,b];exact ih
theorem KV.any{kvs:List (κ×V)}{vs:List (κ×Value)}(r:KV kvs vs)(k:κ):(kvs.any fun kv=>decide (kv.1=k))=vs.any fun kv=>decide (kv.1=k):=by
 induction r with
 |nil=>rfl
 |cons h t ih=>rw[List.any_cons,List.any_cons,ih,h.1]
theorem KV.Nw{kvs:List (κ×V)}{vs:List (κ×Value)}(r:KV kvs vs)(k:κ){y:V}{u:Value}(ry:RelV y u):
  KV (kvs.map fun kv=>if kv.1=k then(kv.1,y)else kv) (vs.map fun kv=>if kv.1=k then(kv.1,u)else kv):=by
 induction r with
 |nil=>exact .nil
 | @cons p q ps qs h t ih=>
   refine .cons ?_ ih
   grind
theorem KV.put{kvs:List (κ×V)}{vs:List (κ×Value)}(r:KV kvs vs)(k:κ){y:V}{u:Value}(ry:RelV y u):KV (putK kvs k y) (stored vs k u):=by
 unfold putK stored;rw[r.any k]
 by_cases e:(vs.any fun kv=>decide (kv.1=k))=true
 . rw[if_pos e,if_pos e];exact r.Nw k ry
 . rw[if_neg e,if_neg e];exact Paired.snoc r ⟨rfl,ry⟩
end
theorem Es{P:Program}{w:World}{k:Key}{u:Value}(r:RelV (kV k) u):(jb P w).is k u=true:=by
 cases k with
 |inl i=>obtain⟨t,e⟩:=(show ∃ t,u=Value.int i t from r);subst e;exact zc P w i t
 |inr x=>obtain⟨t,e⟩:=(show ∃ t,u=Value.str x t from r);subst e;exact Am P w x t
section
variable{P:Program}{w:World}{H:Hp}{h:Heap}{a:Addr}
theorem Mm{u:HO}(ok:HOk P w H h)(e:Rd H a u):hU P w H h a u:=e.ok ok
theorem CC{kvs:List (Key×V)}(ok:HOk P w H h)(e:Rd H a (.dK kvs)):kvs.length<=sizeLine /\ (a==sysModules)=false /\ ∃ vs,KV kvs vs /\ h.DictOf (jb P w) a vs:=
 show hU P w H h a (.dK kvs) from Mm ok e
theorem Mg{kvs:List (Key×V)}(ok:HOk P w H h)(e:H a=some (.dK kvs)):kvs.length<=sizeLine /\ (a==sysModules)=false /\ ∃ vs,KV kvs vs /\ h.DictOf (jb P w) a vs:=CC ok (.inl e)
end
noncomputable def xS(H:Hp)(a:Addr)(y:V)(r:Option V):Prop:=
 ∃ kvs k,Rd H a (.dK kvs) /\ y=kV k /\ r=oe kvs k
theorem xS.k{H:Hp}{a:Addr}{kvs:List (Key×V)}{k:Key}(e:H a=some (.dK kvs)):xS H a (kV k) (oe kvs k):=⟨kvs,k,.inl e,rfl,rfl⟩
section
variable{X:Cx}{pins:List (Addr×Obj)}{σ:St}{H:Hp}{s:Shared}{a:Addr}{y v:V}{u r:Value}{o:Option V}{A:Around}{E:Value->Shared->Prop}
theorem Inv.big(I:Inv X pins σ H s):sysModules<s.heap.objs.size:=by
 have h:mainGlobals<s.heap.objs.size:=(I.mod.glob.keeps I.bk).lt
 exact Nat.lt_trans (by decide) h
theorem Dp{Q:Value->Shared->Prop}(hu:A.units+1<cLine)(I:Inv X pins σ H s)(g:xS H a y (some v))(ry:RelV y u)(h:∀ w' s',Inv X pins σ H s'->RelV v w'->Q w' s'):
  wpAny (model X.prog X.w) A (getItem (.ref a) u) Q E s:=by
 rcases g with⟨kvs,k,e,ey,l⟩
 . subst ey;obtain⟨z,hd,vs,rel,dd⟩:=CC I.hok e;obtain⟨w',hw,rw'⟩:=bU.some_of (by rw[l];exact rel.val k);exact wpAny_getItem_of (Es ry) dd.mapOf hw (h w' _ (I.tok _) rw')
theorem Na{Q:Value->Shared->Prop}(hu:A.units+1<cLine)(I:Inv X pins σ H s)(g:xS H a y o)(ry:RelV y u)(h:∀ s',Inv X pins σ H s'->Q (.bool o.isSome) s'):
  wpAny (model X.prog X.w) A (compareOp .In u (.ref a)) Q E s:=by
 rcases g with⟨kvs,k,e,ey,l⟩
 . subst ey;obtain⟨z,hd,vs,rel,dd⟩:=CC I.hok e;refine wpAny_in_of (Es ry) hd dd.mapOf ?_;rw[<- (rel.val k).C7,<- l];exact h _ (I.tok _)
theorem G9{h':Heap}{t':Nat}{ob:HO}(I:Inv X pins σ H s)(mu:Mut (H a))(hs:Heap.SameBut a s.heap h')(he:∃ q,h'.get? a=some q)(new:hU X.prog X.w (upd H a ob) h' a ob):
  Inv X pins σ (upd H a ob) { s with heap:=h',toks:=t' }:=
 I.write mu (.inl rfl) (fun b q hb z=>(hs.2 b hb).trans z) he new
theorem KR{P:Program}{w:World}{H':Hp}{h':Heap}{kvs:List (Key×V)}{vs:List (Key×Value)}(z:kvs.length<=sizeLine)(hd:(a==sysModules)=false)(rel:KV kvs vs)(dd:h'.DictOf (jb P w) a vs):
  hU P w H' h' a (.dK kvs):=⟨z,hd,vs,rel,dd⟩
end
noncomputable def KO(i:Expr):Prop:=∀ ov iv,subscripted i false ov iv=operate [ov,iv] (getItem ov iv)
theorem G0{prog:Program}{w:World}{A:Around}{E:Value->Shared->Prop}{s:Shared}{env:Env}{value slice:Expr}{pos:Pos}{T id:String}{Q:Value->Shared->Prop}
  (hl:typeLookup (.type T) "__getitem__" = pure (some (.builtin id))) (hs:KO slice)
  (h:wpAny (model prog w) A (eval value env) (fun o s₁=>wpAny (model prog w) A (eval slice env) (fun i s₂=>s₂.TypeIs o T /\ wpAny (model prog w) A (getItem o i) Q E s₂) E s₁) E s):
  wpAny (model prog w) A (eval (.Subscript value slice pos) env) Q E s:=by
 refine Subscript_ (wpAny_mono h (fun o s₁ h₁=>wpAny_mono h₁ (fun i s₂ h₂=>?_) fun _ _ x=>x) fun _ _ x=>x);obtain⟨hT,h₂⟩:=h₂;refine wpAny_bind ?_;refine wpAny_bind (wpAny_specialOf hT hl ?_)
 have fin:wpAny (model prog w) A (subscripted slice false o i) (fun r s₃=>wpAny (model prog w) A (letTemporaryGo value o r >>= fun _=>pure r) Q E s₃) E s₂:=by
  rw[hs o i];exact wpAny_operating (wpAny_mono h₂ (fun r s₃ h₃=>wpAny_bind (wpAny_letTemporaryGo (wpAny_pure h₃))) fun _ _ x=>x)
 first
  |exact wpAny_pure (wpAny_bind fin)
  |exact wpAny_bind (wpAny_pure (wpAny_bind fin))
  |exact wpAny_bind fin
theorem zo{X:Cx}{pins:List (Addr×Obj)}{σ:St}{H:Hp}{s:Shared}{a:Addr}{y:V}{o:Option V}(I:Inv X pins σ H s)(g:xS H a y o):s.TypeIs (.ref a) "dict":=by
 rcases g with⟨kvs,k,e,_,_⟩
 . obtain⟨_,_,vs,_,dd⟩:=CC I.hok e;exact dd.typeIs
noncomputable def DY(td ty:TE):TE:=fun σ H Q=>td σ H fun x H1=>ty σ H1 fun y H2=>∃ a v,x=.ref a /\ xS H2 a y (some v) /\ Q v H2
noncomputable def Ko(ty td:TE):TE:=fun σ H Q=>ty σ H fun y H1=>td σ H1 fun x H2=>∃ a o,x=.ref a /\ xS H2 a y o /\ Q (.bl o.isSome) H2
section
variable{X:Cx}{o i e value:Expr}{pos pos' tpos:Pos}{td ty tv:TE}
theorem HF(hu:X.A.units+1<cLine)(ho:PE X o td)(hi:PE X i ty)(hs:KO i):PE X (.Subscript o i pos) (DY td ty):=by
 intro pins s σ H Q I h;refine G0 PySem.F.slot_dict_getitem.lookup hs (thn (ho pins s σ H _ I h) fun u s1 ⟨x,H1,I1,rx,q1⟩=>thn (hi pins s1 σ H1 _ I1 q1) fun iv s2 ⟨y,H2,I2,ry,a,v,ex,g,q2⟩=>?_);subst ex
 obtain rfl:u=Value.ref a:=rx
 exact⟨zo I2 g,Dp hu I2 g ry fun w' s3 I3 rw'=>⟨v,H2,I3,rw',q2⟩⟩
theorem Lk(hu:X.A.units+1<cLine)(hi:PE X i ty)(ho:PE X o td):PC X .In i o (Ko ty td):=by
 intro pins s σ H Q I h
 refine thn (hi pins s σ H _ I h) fun iv s1 ⟨y,H1,I1,ry,q1⟩=>thn (ho pins s1 σ H1 _ I1 q1) fun u s2 ⟨x,H2,I2,rx,a,ov,ex,g,q2⟩=>?_
 subst ex
 obtain rfl:u=Value.ref a:=rx
 exact Na hu I2 g ry fun s3 I3=>⟨.bl ov.isSome,H2,I3,rfl,q2⟩
end
theorem ED{P:Program}{w:World}{H:Hp}(h:Heap)(hb:sysModules<h.objs.size):hU P w H (h.push { cls:=.type "dict",data:=.dict #[] }) h.objs.size (.dK []):=
 ⟨Nat.zero_le _,beq_eq_false_iff_ne.mpr (Ne.symm (Nat.ne_of_lt hb)),[],.nil,Heap.DictOf.new h⟩
noncomputable def xH:List (TE×TE)->St->Hp->(List (V×V)->Hp->Prop)->Prop
 |[],_,H,Q=>Q [] H
 |(tk,tv) ::r,σ,H,Q=>tk σ H fun x H1=>tv σ H1 fun y H2=>xH r σ H2 fun ps H3=>Q ((x,y) ::ps) H3
abbrev VV:List (V×V)->List (Value×Value)->Prop:=Paired fun p q=>RelV p.1 q.1 /\ RelV p.2 q.2
noncomputable def PPs(X:Cx)(pos:Pos)(keys:List (Option Expr))(values:List Expr)(trs:List (TE×TE)):Prop:=
 ∀(pins:List (Addr×Obj)) (s:Shared) (σ:St) (H:Hp) (Q:List (V×V)->Hp->Prop),Inv X pins σ H s->xH trs σ H Q ->
   wpAny (model X.prog X.w) X.A (evalPairs (pairTrees keys values X.env pos)) (fun vs s'=>∃ ps H',Inv X pins σ H' s' /\ VV ps vs /\ Q ps H') X.xe s
theorem HC{X:Cx}{pos:Pos}:PPs X pos [] [] []:=fun pins s σ H Q I h=>pairTrees_nil_walk ⟨[],H,I,.nil,h⟩
theorem FY{X:Cx}{pos:Pos}{k v:Expr}{ks:List (Option Expr)}{vs:List Expr}{tk tv:TE}{trs:List (TE×TE)}(hk:PE X k tk)(hv:PE X v tv)(hr:PPs X pos ks vs trs):
  PPs X pos (some k ::ks) (v ::vs) ((tk,tv) ::trs):=fun pins s σ H Q I h=>
 pairTrees_cons_walk (thn (hk pins s σ H _ I h) fun u s1 ⟨x,H1,I1,rx,q1⟩=>thn (hv pins s1 σ H1 _ I1 q1) fun w2 s2 ⟨y,H2,I2,ry,q2⟩=>
  thn (hr pins s2 σ H2 _ I2 q2) fun ws s3 ⟨ps,H3,I3,rel,q3⟩=>⟨(x,y) ::ps,H3,I3,.cons ⟨rx,ry⟩ rel,q3⟩)
noncomputable def pI(kvs more:List (Key×V)):List (Key×V):=more.foldl (fun acc kv=>putK acc kv.1 kv.2) kvs
theorem KV.merge:∀{more:List (Key×V)} {rs:List (Key×Value)} {kvs:List (Key×V)} {vs:List (Key×Value)},KV more rs->KV kvs vs->KV (pI kvs more) (merged vs rs):=by
 intro more rs kvs vs r
 induction r generalizing kvs vs with
 |nil=>intro q;exact q
 | @cons p q ps qs h t ih=>
   intro r0
   have e:KV (putK kvs p.1 p.2) (stored vs q.1 q.2):=by
    have:=r0.put p.1 h.2
    simp_all
   exact ih e
theorem qH:∀(more kvs:List (Key×V)),(pI kvs more).length<=kvs.length+more.length
 |[],kvs=>by show kvs.length<=kvs.length+0;omega
 | p ::r,kvs=>by
   have h1:=qH r (putK kvs p.1 p.2);have h2:=zC kvs p.1 p.2
   show(pI (putK kvs p.1 p.2) r).length<=_
   grind
theorem v8{P:Program}{w:World}:∀{kvs:List (Key×V)} {ws:List (Value×Value)},VV (kvs.map fun kv=>(kV kv.1,kv.2)) ws->∃ rs,Carries (jb P w) ws rs /\ KV kvs rs
 |[],_,r=>by rw[List.map_nil]at r;cases r;exact⟨[],True.intro,.nil⟩
 | p ::kvs,_,r=>by
   cases r with
   | @cons a b as bs h t=>
     obtain⟨rs,c,q⟩:=v8 t;obtain⟨b1,b2⟩:=b
     exact⟨(p.1,b2) ::rs,⟨Es h.1,rfl,c⟩,.cons ⟨rfl,h.2⟩ q⟩
noncomputable def En(trs:List (TE×TE)):TE:=fun σ H Q=>∀ p,H p=none->xH trs σ (upd H p (.dK [])) fun ps H2=>H2 p=some (.dK []) /\ ∃ kvs:List (Key×V),ps=kvs.map (fun kv=>(kV kv.1,kv.2)) /\ kvs.length<=15 /\ Q (.ref p) (upd H2 p (.dK (pI [] kvs)))
theorem G5{X:Cx}{pos:Pos}{keys:List (Option Expr)}{values:List Expr}{trs:List (TE×TE)}(h:PPs X pos keys values trs)(hall:keys.all (·.isSome)=true)(hl:keys.length=values.length)(h0:keys≠[])
  (h15:keys.length<=15):PE X (.Dict keys values pos) (En trs):=by
 intro pins s σ H Q I q;have hn:=I.hok.fresh (Nat.le_refl s.heap.objs.size);have I1:=I.laid (h':=s.heap.push { cls:=.type "dict",data:=.dict #[] }) (t':=s.toks) (fun _ _ q=>Heap.get?_push_of_some _ q) (Nat.le_refl _) (ED s.heap I.big);refine wpAny_Dict_walk (knd:=jb X.prog X.w) hall hl h0 h15 (thn (h pins _ σ _ _ I1 (q _ hn)) fun ws s2 ⟨ps,H2,I2,rel,e,kvs,ep,lk,q2⟩=>?_);subst ep;obtain⟨rs,c,rk⟩:=v8 rel;obtain⟨z,hd,vs0,r0,dd⟩:=Mg I2.hok e;cases r0
 refine⟨rs,c,dd,fun h' dd' hs=>⟨.ref s.heap.objs.size,_,?_,rfl,q2⟩⟩
 have hz:(pI [] kvs).length<=sizeLine:=by
  have h1:=qH kvs [];rw[List.length_nil]at h1;rw[sizeLine_eq];omega
 have he:∃ q,h'.get? s.heap.objs.size=some q:=let ⟨q,_,_,hq,_⟩:=dd';⟨q,hq⟩
 exact G9 I2 (by rw[e];exact True.intro) hs he (KR hz hd (rk.merge .nil) dd')
end L2
set_option maxHeartbeats 4000000
namespace L2.E
open PySem PySem.Spec PyProof.Rows
noncomputable def Lm(a C:Addr)(dx:Option Addr)(h:Heap):Prop:=∃ o vs,h.get? a=some o /\ o.cls=.ref C /\ o.dict=dx /\ o.data=.fields vs /\ vs.size=6
noncomputable def TbO(T:Addr)(h:Heap):Prop:=∃ o ts,h.get? T=some o /\ o.data=.fields ts /\ 3<ts.size
noncomputable abbrev Bj(a C:Addr)(dx:Option Addr):HO:=.ext (Lm a C dx)
noncomputable abbrev oTb(T:Addr):HO:=.ext (TbO T)
theorem JZ(x:Lm a C dx h):hU P w H h a (Bj a C dx):=by
 refine⟨x,let ⟨o,_,e,_⟩:=x;⟨o,e⟩,fun h1 h2 p k=>?_⟩
 obtain⟨o,vs,e,r⟩:=p
 exact⟨o,vs,k o e,r⟩
theorem Il(x:TbO T h):hU P w H h T (oTb T):=by
 refine⟨x,let ⟨o,_,e,_⟩:=x;⟨o,e⟩,fun h1 h2 p k=>?_⟩
 obtain⟨o,vs,e,r⟩:=p
 exact⟨o,vs,k o e,r⟩
theorem EZ(h:H a=some o):upd H a o=H:=by
 funext b
 unfold upd
 simp_all
structure Fly(H:Hp)(h:Heap)(a C:Addr)(dx:Option Addr):Prop where
 exc:H a=some (Bj a C dx)
 tb:∃ o vs,h.get? a=some o /\ o.data=.fields vs /\ (vs[1]?=some Value.none \/ ∃ T,vs[1]?=some (.ref T) /\ H T=some (oTb T) /\ T≠a)
structure Dt(H:Hp)(h:Heap)(a C:Addr)(dx:Option Addr):Prop where
 exc:H a=some (Bj a C dx)
 tb:∃ o vs T,h.get? a=some o /\ o.data=.fields vs /\ vs[1]?=some (.ref T) /\ H T=some (oTb T) /\ T≠a
theorem Dt.fly(F:Dt H h a C dx):Fly H h a C dx:=
 let ⟨o,vs,T,e1,e2,e3,e4,e5⟩:=F.tb
 ⟨F.exc,o,vs,e1,e2,.inr ⟨T,e3,e4,e5⟩⟩
section
variable{X:Cx}{pins:List (Addr×Obj)}{σ:St}{H:Hp}{s:Shared}{a C:Addr}{dx:Option Addr}
theorem DW(I:Inv X pins σ H s)(k:Heap.SlotsOnly (frs X.stack) s.heap h₁):Un (frs X.stack) [] H H s.heap h₁ where
 keep:=fun b o e _ hb _=>(k.2.1 b hb).trans e
 slot:=fun b o e _ _ _=>k.2.2 b o e
 free:=fun _ _ _ n _=>n
 there:=fun b o e _=>let ⟨_,q⟩:=k.2.2 b o e;⟨_,q⟩
 tups:=fun _ _ q=>q
 frzs:=fun _ _ _ q=>q
 tbls:=fun _ ps q=>⟨#[],by rw[q];simp⟩
theorem DK(I:Inv X pins σ H s)(k:Heap.SlotsOnly (frs X.stack) s.heap h₁):HOk X.prog X.w H h₁:=fun b o e=>by
 have nf:∀ c u,H c=some u->c∉frs X.stack:=fun c u q z=>by rw[I.xU c z]at q;cases q
 refine(I.hok b o e).uM (fun c v hc q=>(k.2.1 c ?_).trans q) (fun _ q=>q) fun _ _ q=>q
 grind
theorem GX(I:Inv X pins σ H s)(e:H a=some (Bj a C dx)):
  Inv X pins σ H { s with heap:=s.heap.update a (Obj.mapFields (·.setIfInBounds i v)) }:=by
 obtain⟨⟨o,vs,ho,hc,hd,hf,hz⟩,_,_⟩:=I.hok a _ e;have hs:=Heap.get?_update_self (Obj.mapFields (·.setIfInBounds i v)) ho (Obj.isFreed_of_fields (Obj.data_mapFields hf _))
 have q:=I.write (t':=s.toks) (h':=s.heap.update a (Obj.mapFields (·.setIfInBounds i v))) (by rw[e];trivial) (.inl rfl)
  (fun b u hb q=>(Heap.get?_update_other _ _ (Ne.symm hb)).trans q) ⟨_,hs⟩ (JZ ⟨_,_,hs,by rw[Obj.cls_mapFields];exact hc,by obtain⟨c,d,dt,sl⟩:=o;cases dt<;>exact hd,Obj.data_mapFields hf _,by simpa using hz⟩)
 rw[EZ e]at q;exact q
theorem DM(I:Inv X pins σ H s)(e:H T=some (oTb T)):
  Inv X pins σ H { s with heap:=s.heap.update T (Obj.mapFields (·.setIfInBounds i v)) }:=by
 obtain⟨⟨o,vs,ho,hf,hz⟩,_,_⟩:=I.hok T _ e;have hs:=Heap.get?_update_self (Obj.mapFields (·.setIfInBounds i v)) ho (Obj.isFreed_of_fields (Obj.data_mapFields hf _))
 have q:=I.write (t':=s.toks) (h':=s.heap.update T (Obj.mapFields (·.setIfInBounds i v))) (by rw[e];trivial) (.inl rfl)
  (fun b u hb q=>(Heap.get?_update_other _ _ (Ne.symm hb)).trans q) ⟨_,hs⟩ (Il ⟨_,_,hs,Obj.data_mapFields hf _,by simpa using hz⟩)
 rw[EZ e]at q;exact q
theorem yZ{Q:Unit->Shared->Prop}{E:Value->Shared->Prop}(I:Inv X pins σ H s)(hst:X.stack=X.env ::X.outer)(hf:X.env.frame=some L)(e:H a=some (Bj a C dx))
  (h:∀ s' H',Inv X pins σ H' s'->aK H H'->Dt H' s'.heap a C dx->Q () s'):
  wpAny (model X.prog X.w) X.A (do let fr <- frameOf X.env;let pl <- entryPlaceOf L had;let b <- EntryCells.newEntry head fr .none (rawInt L) .none pl;setField (.ref a) 1 b) Q E s:=by
 have hfr:X.A.frames=some (X.env ::X.outer):=by rw[<- hst];exact I.ok.frames
 have hl:s.heap.FunFrames X.base (X.env ::X.outer):=by rw[<- hst];exact I.stack
 refine wpAny_bind (wpAny_frameOf_fun hfr hl hf fun h₁ k₁=>?_)
 have k₁':Heap.SlotsOnly (frs X.stack) s.heap h₁:=by rw[hst];exact k₁
 have I₁:=I.call (g':=s.gens) (t':=s.toks) (d':=s.drawn) (DW I k₁') (DK I k₁') I.bare (fun b z=>absurd z (by simp));refine wpAny_bind (wpAny_entryPlaceOf fun pl hpl=>?_);refine wpAny_bind (wpAny_newObj_type ?_ (hpl.sizeOk5 _ _ _ _ _))
 have big:3<([head,.ref L,.none,rawInt L,.none]++(if pl.isEmpty then List.replicate 6 Value.none else pl)).toArray.size:=by
  simp
 have new:=Heap.get?_push_size h₁ (o:={ cls:=.type "traceback",dict:=none,data:=.fields ([head,.ref L,.none,rawInt L,.none]++(if pl.isEmpty then List.replicate 6 Value.none else pl)).toArray }) rfl;have fr:=I₁.hok.fresh (Nat.le_refl _)
 have ne:h₁.objs.size≠a:=fun z=>by rw[z,e]at fr;cases fr
 have I₂:=I₁.laid (t':=s.toks) (fun b u q=>Heap.get?_push_of_some _ q) (Nat.le_refl _) (Il ⟨_,_,new,rfl,big⟩)
 have g:aK H (upd H h₁.objs.size (oTb h₁.objs.size)):=fun b u q=>by rw[bH (eN q fr)];exact q
 obtain⟨⟨o,vs,ho,hc,hd,hv,hz⟩,_,_⟩:=I₂.hok a _ (g _ _ e);refine wpAny_setField ho hv (by omega) ?_;refine h _ _ (GX I₂ (g _ _ e)) g ⟨g _ _ e,_,_,h₁.objs.size,Heap.get?_update_self _ ho (Obj.isFreed_of_fields (Obj.data_mapFields hv _)),Obj.data_mapFields hv _,by simp[hz],bP,ne⟩
theorem Ic{Q:Unit->Shared->Prop}{E:Value->Shared->Prop}(I:Inv X pins σ H s)(hst:X.stack=X.env ::X.outer /\ X.env.frame=some X.env.locals)(F:Fly H s.heap a C dx)
  (h:∀ s' H',Inv X pins σ H' s'->aK H H'->Dt H' s'.heap a C dx->Q () s'):wpAny (model X.prog X.w) X.A (noteFrame (.ref a) X.env) Q E s:=by
 obtain⟨o,vs,ho,hv,hw⟩:=F.tb;unfold noteFrame;simp only[hst.2]
 rcases hw with h1|⟨T,h1,hT,ne⟩
 . refine wpAny_bind (wpAny_field ho hv h1 ?_);exact yZ I hst.1 hst.2 F.exc h
 . obtain⟨⟨oT,ts,hoT,hdT,hz⟩,_,_⟩:=I.hok T _ hT;refine wpAny_bind (wpAny_field ho hv h1 ?_)
   have h3:ts[3]?=some ts[3]:=by simp
   refine wpAny_bind (wpAny_field hoT hdT h3 ?_)
   by_cases c:(ts[3]==rawInt X.env.locals)=true
   . rw[if_pos c];exact wpAny_pure (h s H I (aK.refl H) ⟨F.exc,o,vs,T,ho,hv,h1,hT,ne⟩)
   . rw[if_neg c];refine wpAny_bind (wpAny_setField hoT hdT hz ?_);exact yZ (DM I hT) hst.1 hst.2 F.exc h
theorem CQ{Q:Unit->Shared->Prop}{E:Value->Shared->Prop}(I:Inv X pins σ H s)(F:Dt H s.heap a C dx)
  (h:∀ s',Inv X pins σ H s'->Dt H s'.heap a C dx->Q () s'):wpAny (model X.prog X.w) X.A (setFlight (.ref a) x) Q E s:=by
 obtain⟨o,vs,T,ho,hv,h1,hT,ne⟩:=F.tb;obtain⟨⟨oT,ts,hoT,hdT,hz⟩,_,_⟩:=I.hok T _ hT;refine wpAny_bind (wpAny_field ho hv h1 ?_);refine wpAny_setField hoT hdT hz ?_;exact h _ (DM I hT) ⟨F.exc,o,vs,T,(Heap.get?_update_other _ _ ne).trans ho,hv,h1,hT,ne⟩
end
noncomputable def CXE(P:Program)(w:World):CXT:=fun outer H s E e s'=>∃ a C dx H',e=.ref a /\ s'.os=s.os /\ AllBare s'.gens /\ Un (frs outer) [] H H' s.heap s'.heap /\ HOk P w H' s'.heap /\ Fly H' s'.heap a C dx /\ E (.ref C) (some a) H'
abbrev XW:=Value->Option Addr->St->Hp->Prop
noncomputable def Thr(X:Cx)(W:XW):Prop:=∀(pins:List (Addr×Obj)) (σ:St) (H:Hp) (s:Shared) (a C:Addr) (dx:Option Addr),Inv X pins σ H s->Fly H s.heap a C dx->W (.ref C) (some a) σ H->X.xe (.ref a) s
section
variable{CX:CXT}{P:Program}{w:World}{K:PySem.W.Frag}{mg:Str->Option Value}{base:Heap}{N:List Str}{qual:Str}{scope:Scope}{f:Addr}{cd:Value}{A:Around}{outer:List Env}{s₀:Shared}{H₀:Hp}{E:XK}
theorem aN:Thr (tR (CXE P w) P w K mg base N qual scope f cd A outer s₀ H₀ E) (fun C a _ H=>∀ H',aK H H'->E C a H'):=by
 intro pins σ H s a C dx I F hw;refine wpAny_bind (Ic I ⟨rfl,rfl⟩ F fun s1 H1 I1 g1 F1=>?_)
 refine CQ I1 F1 fun s2 I2 F2=>?_
 exact⟨a,C,dx,H1,rfl,I2.os,I2.bare,I2.base,I2.hok,F2.fly,hw H1 g1⟩
theorem gY:PassesOwn (model P w) (tR (CXE P w) P w K mg base N qual scope f cd A outer s₀ H₀ E).A (tR (CXE P w) P w K mg base N qual scope f cd A outer s₀ H₀ E).env (tR (CXE P w) P w K mg base N qual scope f cd A outer s₀ H₀ E).xe:=by
 passes_own
end
section
variable{X:Cx}{k:Nat}{f:Addr}{fd:FuncData}{ps:List Str}{sp:Sp}{dvs:List V}{ds:List Value}{W:XW}{x m:Str}{p pos apos:Pos}{e o:Expr}{es:List Expr}{ta:TE}{t:TA}
noncomputable def rB(sp:Sp)(dvs:List V)(W:XW)(t:TA):TE:=fun σ H Q=>t σ H fun vs H1=>sp (vs++dvs) H1 Q fun C a H'=>W C a σ H'
theorem uX{pins:List (Addr×Obj)}(F:cq X.prog X.w X.K X.mg X.base (CXE X.prog X.w) k f fd ps sp)(hr:ik k X.A)(hb:Binds X.K fd ps ds)(hd:Vals dvs ds)(hx:Thr X W)
  (I:Inv X pins σ H s) (r:Vals vs us) (h:sp (vs++dvs) H Q fun C a H'=>W C a σ H'):wpAny (model X.prog X.w) X.A (call (.ref f) us) (EP X pins σ Q) X.xe s:=by
 have r2:=r.append hd
 have hl:(us++ds).length=ps.length:=by rw[<- r2.length];exact F.len _ _ _ _ h
 refine wpAny_call (codeAny_mono (F.run X.A X.stack s H ⟨us,[]⟩ (us++ds) (vs++dvs) Q _ hr I.L3 (hb s us I.kIn hl) r2 h) fun r s' hq=>?_)
 cases r with
 | error e=>
   obtain⟨a,C,dx,H',rfl,ho,bare,un,hok,fl,hw⟩:=hq;exact hx pins σ H' s' a C dx (I.Iu ho un hok bare fun b z=>absurd z (by simp)) fl hw
 | ok fl=>
   cases fl with
   |ret u=>exact I.after hq
   |next=>exact False.elim hq
   |brk=>exact False.elim hq
   |cont=>exact False.elim hq
theorem F9(F:cq X.prog X.w X.K X.mg X.base (CXE X.prog X.w) k f fd ps sp)(hr:ik k X.A)(hg:Gl X x)(hm:X.mg x=some (.ref f))(hk:PySem.W.keepIn X.K (.ref f)=true)(hb:Binds X.K fd ps ds)(hd:Vals dvs ds)(hx:Thr X W)
  (ha:PA X (e ::es) t) (hdb:(x==("__debug__":Str))=false:=by decide) (he:starEach (e ::es) X.env=(false,eval e X.env) ::starEach es X.env:=by rfl) (hpl:(backTo pos (starEach es X.env)).any (·.1)=false:=by rfl):
  PE X (.Call (.Name x p) (e ::es) [] pos) (rB sp dvs W t):=by
 intro pins s σ H Q I h;refine wpAny_Call_Name_kw (uV I hg hm ?_ hdb);refine PySem.W.callWith_K I.ok.mod.kin hk (thn (ha pos pins s σ H _ I h) fun us s1 ⟨vs,H1,I1,r,q⟩=>⟨I1.kIn,?_⟩) he hpl;exact uX F hr hb hd hx I1 r q
theorem C2(F:cq X.prog X.w X.K X.mg X.base (CXE X.prog X.w) k f fd ps sp)(hr:ik k X.A)(hg:Gl X x)(hm:X.mg x=some (.ref f))(hk:PySem.W.keepIn X.K (.ref f)=true)(hb:Binds X.K fd ps ds)(hd:Vals dvs ds)(hx:Thr X W)
  (hdb:(x==("__debug__":Str))=false:=by decide):PE X (.Call (.Name x p) [] [] pos) (rB sp dvs W kO):=by
 intro pins s σ H Q I h;refine wpAny_Call_Name_kw (uV I hg hm ?_ hdb);exact PySem.W.callWith_K0 I.kIn hk (uX (us:=[]) F hr hb hd hx I .nil h)
end
noncomputable abbrev hand(X:Cx)(a:Addr):Cx:={ X with A:=X.A.mark (some (.ref a)),calm:=false,xe:=fun _ _=>False }
noncomputable abbrev blk(X:Cx)(scope:Scope)(cl:List (Str×Addr))(N:List Str)(C:Addr)(s₀:Shared)(H₀:Hp)(ex:List Addr):Cx:=
 { prog:=X.prog,w:=X.w,K:=X.K,mg:=X.mg,base:=X.base,A:=X.A,N:=N,s₀:=s₀,H₀:=H₀,env:=compEnvC scope cl C X.env,outer:=X.stack,stack:=X.stack,ex:=ex,fn:=fun _=>false,calm:=X.calm,pn:=[],xe:=fun _ _=>False }
theorem AI:Thr X (fun _ _ _ _=>False):=fun _ _ _ _ _ _ _ _ _ h=>h.elim
structure lD(X:Cx)(scope:Scope)(cl:List (Str×Addr))(M:List Str)(ι:List Nat)(x:Str):Prop where
 clos:closureFor scope X.env=pure cl
 kind:scope.kind=.function
 nocell:(scope.names.all fun p=>p.2 != .cell)=true
 locs:(scope.names.all fun p=>p.2 != .local||scope.names.lookup p.1==some .local)=true
 var:scope.names.lookup x=some .local
 names:M.map some=ι.map fun i=>X.N[i]?
 cells:M.map (fun y=>scope.names.lookup y)=M.map fun _=>some .free
 kinds:M.map X.env.kindOf=M.map fun _=>some .cell
 same:M.map (fun y=>cl.lookup y)=M.map fun y=>X.env.cells.lookup y
 sub:cl.map (fun p=>X.env.cells.lookup p.1)=cl.map fun p=>some p.2
 all:(scope.names.all fun p=>!(p.2 == .free)||(cl.lookup p.1).isSome)=true
 nd:(M++[x]).Nodup
theorem ya{α β:Type}{f g:α->β}{l:List α}(h:l.map f=l.map g){a:α}(ha:a∈l):f a=g a:=by simp_all
theorem xT{scope:Scope}(h:scope.names.lookup y=some .free):(relabel scope env).names.lookup y=some .cell \/ (relabel scope env).names.lookup y=some .free:=by
 unfold relabel;generalize scope.names=l at h
 induction l with
 |nil=>cases h
 |cons p r ih=>grind
theorem yG{scope:Scope}(hc:(scope.names.all fun p=>p.2 != .cell)=true)(h:(relabel scope env).names.lookup y=some .cell \/ (relabel scope env).names.lookup y=some .free):∃ p∈scope.names,p.1=y /\ p.2=.free:=by
 unfold relabel at h;generalize scope.names=l at h hc
 induction l with
 |nil=>rcases h with h|h<;>cases h
 |cons p r ih=>grind
noncomputable def pick(ι:List Nat)(σ:St):St:=ι.map fun i=>(σ[i]?).join
noncomputable def ux(wi:TI)(ι:List Nat)(te:TE):TE:=fun σ H Q=>wi σ H fun J H1=>∀ D,H1 D=none->∃ W:Nat->Nat->List V->Hp->Prop,(∃ m,W 0 m [] (upd H1 D (.lst []))) /\ ∀ i m ys H,W i m ys H ->
 H D=some (.lst ys) /\ ((J.stop i H /\ Q (.ref D) H) \/ (J.go i H /\ ∀ x H',J.yld i H x H'->te (pick ι σ++[some x]) H' fun y H2=>H2 D=some (.lst ys) /\ ys.length<sizeLine /\ ∃ m',m'<m /\ W (i+1) m' (ys++[y]) (upd H2 D (.lst (ys++[y])))))
section
variable{X:Cx}{scope:Scope}{cl:List (Str×Addr)}{M:List Str}{ι:List Nat}{x:Str}
theorem lD.vb(S:lD X scope cl M ι x)(h:cl.lookup y=some c):X.env.cells.lookup y=some c:=ya S.sub (PySem.mem_of_lookup h)
theorem xV{pins:List (Addr×Obj)}{s:Shared}{h₁:Heap}(S:lD X scope cl M ι x)(I:Inv X pins σ H s)(hex:∀ b∈ex,m4 X pins H b /\ b<s.heap.objs.size)(hn:h₁.Ns s.heap.objs.size (fun _=>none))
  (hk:∀ b o,s.heap.get? b=some o->h₁.get? b=some o):Inv (blk X scope cl (M++[x]) s.heap.objs.size s H ex) [] (pick ι σ++[none]) H { s with heap:=h₁,toks:=t' }:=by
 have noM:∀ b:Addr,b∈ex->b≠s.heap.objs.size:=fun b hb=>Nat.ne_of_lt (hex b hb).2
 have fsx:∀ b∈ex,b∉frs X.stack:=fun b hb z=>by
  obtain⟨⟨_,f1,f2,_⟩,_⟩:=hex b hb
  rcases List.mem_cons.mp (I.Br b z)with e|e
  . simp_all
  . simp_all
 have base0:∀ b o,X.base.get? b=some o->b∉ex:=fun b o e z=>by
  obtain⟨⟨_,_,_,f3,_⟩,_⟩:=hex b z
  rcases f3 with f|f
  . exact I.ok.noex b o e f
  . exact absurd (Nat.lt_of_lt_of_le (Heap.lt_size e) (Nat.le_trans I.ok.bsz f)) (Nat.lt_irrefl _)
 refine⟨⟨I.ok.mod,S.kind,I.ok.glob,I.ok.blt,Nat.le_refl _,fun y z c h1 h2=>I.ok.inj y z c (S.vb h1) (S.vb h2),fun y hy=>?_,fun y c z=>absurd z Bool.false_ne_true,I.ok.hd,I.ok.frames,.inl rfl,
  fun b hb=>⟨noM b hb,fun y c h z=>(hex b hb).1.2.2.2.2.1 y c (S.vb h) z⟩,I.bs,Nat.le_trans I.ok.bsz I.sz,base0,fsx,I.stack,I.xU⟩,
  rfl,I.bare,Un.kept hk,⟨_,hn,fun i y v e1 e2 e3=>?_⟩,fun y c h=>?_,I.fresh,fun y c h=>?_,fun p hp=>absurd (show p∈([]:List (Addr×Obj)) from hp) (by simp),I.hok.kept hk,?_⟩
 . obtain⟨p,hp,rfl,hpf⟩:=yG S.nocell hy;have q:=List.all_eq_true.mp S.all p hp;rw[hpf]at q
   have q':(cl.lookup p.1).isSome=true:=by
    simp_all
   exact Option.isSome_iff_exists.mp q'
 . have hiM:i < M.length:=by
    by_cases hlt:i<M.length
    . omega
    . exfalso
      have hl:(pick ι σ).length=M.length:=by
       have q:=congrArg List.length S.names;rw[List.length_map,List.length_map]at q;unfold pick
       simp_all
      grind
   have hl:ι.length=M.length:=by
    have q:=congrArg List.length S.names
    simp_all
   rw[List.getElem?_append_left hiM]at e1
   have hyM:y∈M:=List.mem_of_getElem? e1
   have e2':((σ[ι[i]]?).join)=some v:=by
    rw[List.getElem?_append_left (by unfold pick;rw[List.length_map];omega)]at e2;unfold pick at e2
    simp_all
   have e4:σ[ι[i]]?=some (some v):=by
    grind
   have e5:X.N[ι[i]]?=some y:=by
    have q:=congrArg (fun l=>l[i]?) S.names
    simp_all
   have kc:X.env.kindOf y=some .cell:=ya S.kinds hyM
   obtain⟨m,hm,hl⟩:=I.loc;obtain⟨u,r,q⟩:=hl _ y v e5 e4 (.inr (.inl kc))
   refine⟨u,r,.inr ⟨?_,?_⟩⟩
   . exact xT (ya S.cells hyM)
   . rcases q with⟨k,_⟩|⟨_,c,e,o,ho,hd⟩
     . simp_all
     . exact⟨c,(ya S.same hyM).trans e,o,hk _ _ ho,hd⟩
 . obtain⟨v,o,ho,hd⟩:=I.cell y c (S.vb h)
   exact⟨v,o,hk _ _ ho,hd⟩
 . exact I.freeC y c (S.vb h)
 . have q:=congrArg List.length S.names;rw[List.length_map,List.length_map]at q
   show(pick ι σ++[none]).length=(M++[x]).length
   unfold pick;rw[List.length_append,List.length_append,List.length_map,q];rfl
theorem u1{pins:List (Addr×Obj)}{s s':Shared}(I:Inv X pins σ H s)(hC:C=s.heap.objs.size)(hex:∀ b∈ex,m4 X pins H b)(J:Inv (blk X scope cl N C s H ex) [] σ' H' s')
  (hs:Heap.SameBut C s'.heap h'):Inv X pins σ H' { s' with heap:=h' }:=by
 subst hC
 have K:=I.Iu J.os J.base J.hok J.bare fun b hb=>by
  obtain⟨_,f1,_,f3,f4,f5⟩:=hex b hb
  grind
 refine K.turned (t':=s'.toks) (fun b o hb e=>(hs.2 b hb).trans e) J.free (Nat.ne_of_gt I.lt) (.inr I.sz) (fun y c e z=>?_) (fun p hp z=>?_)
 . obtain⟨v,q⟩:=I.cell y c e;exact absurd (z ▸ q.lt) (Nat.lt_irrefl _)
 . exact absurd (z ▸ Heap.lt_size (I.pin p hp).1) (Nat.lt_irrefl _)
theorem xr(elt target iter:Expr)(scope:Scope)(pos:Pos)(it acc:Value)(env:Env):
  compTurn (.ListComp elt [⟨target,iter,[],0⟩] scope pos) 0 it acc env=(do
   standAt iter.pos
   match <- pyNext it with
   |none=>pure (.done .next)
   | some v=>do
     letOwnedTupleGo target it v
     assign target env v
     (do let x <- eval elt env;let _ <- call (.builtin "list.append") [acc,x];pure ())
     again (.compLoop (.ListComp elt [⟨target,iter,[],0⟩] scope pos) 0 it acc env)):=by rfl
theorem G7(S:lD X scope cl M ι x)(hc:X.calm=true)(hi:PI X (.Name x px) iter wi)(he:∀ C s₀ H₀ ex,PE (blk X scope cl (M++[x]) C s₀ H₀ ex) elt te)
  (hs:∀ v,foldedSetIterable iter X.env v=pure v:=by intro _;rfl):PE X (.ListComp elt [⟨.Name x px,iter,[],0⟩] scope pos) (ux wi ι te):=by
 intro pins s σ H Q I h;rw[eval_ListComp];refine wpAny_comprehension_free (use:=none) rfl hs S.clos S.kind (fun y hy hl=>?_) (wpAny_mono (hi pins s σ H _ I h) (fun v s1 h1=>wpAny_mono h1 (fun itv s2 h2=>?_) fun _ _ z=>z) fun _ _ z=>z)
 . have q:=List.all_eq_true.mp S.locs y hy
   simp_all
 obtain⟨it,fp,tn,J,H2,rfl,I2,T,st2,f2,hW⟩:=h2;have I3:=I2.Et (ys:=[]) (its:=[]) (t':=s2.toks) .nil (Nat.zero_le _);obtain⟨W,⟨m0,w0⟩,turn⟩:=hW s2.heap.objs.size I2.fresh
 have fpo:∀ b∈fp,b<s2.heap.objs.size:=fun b hb=>let ⟨_,e,_⟩:=T.obj _ _ st2 b hb;Heap.lt_size e
 have f3:∀ b∈fp,m4 X pins (upd H2 s2.heap.objs.size (.lst [])) b:=fun b hb=>by
  obtain⟨q0,q⟩:=f2 b hb
  exact⟨by rw[bH (Nat.ne_of_lt (fpo b hb))];exact q0,q⟩
 show wpAny _ _ (newObj (.type "list") _ none) _ _ s2;refine wpAny_newObj_type (wpAny_newFunctionEnv (fun y hy=>?_) (by intro y hy;simp at hy) (fun h₁ hn₁ sb₁=>?_) S.kind)
 . have q:=List.all_eq_true.mp S.nocell y hy
   simpa using q
 have hsz:(s2.heap.push { cls:=.type "list",dict:=none,data:=.seq ([]:List Value).toArray }).objs.size=s2.heap.objs.size+1:=Heap.size_push ..
 have hk₁:∀ b o,(s2.heap.push { cls:=.type "list",dict:=none,data:=.seq ([]:List Value).toArray }).get? b=some o->h₁.get? b=some o:=fun b o e=>
  (sb₁.2 b (Nat.ne_of_lt (Heap.lt_size e))).trans (Heap.get?_push_of_some _ e)
 have J0:=xV (t':=s2.toks+([]:List (Str×Value)).length) S I3 (ex:=fp) (fun b hb=>⟨f3 b hb,Nat.lt_of_lt_of_le (fpo b hb) (by rw[hsz];exact Nat.le_succ _)⟩) hn₁ hk₁
 have old:∀ b∈fp,∀ o,s2.heap.get? b=some o->h₁.get? b=some o:=fun b _ o e=>hk₁ b o (Heap.get?_push_of_some _ e)
 have st₁:tn 0 h₁:=T.keep _ _ _ st2 old
 have loop:codeAny (model X.prog X.w) X.A (.compLoop (.ListComp elt [⟨.Name x px,iter,[],0⟩] scope pos) 0 (.ref it) (.ref s2.heap.objs.size) (compEnvC scope cl (s2.heap.objs.size+1) X.env))
   (compPost (model X.prog X.w) X.A X.xe none (EP X pins σ Q) (.ref s2.heap.objs.size) (s2.heap.objs.size+1)) { s2 with heap:=h₁,toks:=s2.toks+([]:List (Str×Value)).length }:=by
  rw[hsz]at J0
  refine codeAny_loop rfl (fun n s'=>∃ i H' ys v,Inv (blk X scope cl (M++[x]) (s2.heap.objs.size+1) { s2 with heap:=s2.heap.push { cls:=.type "list",data:=.seq ([]:List Value).toArray },toks:=s2.toks } (upd H2 s2.heap.objs.size (.lst [])) fp) [] (pick ι σ++[v]) H' s' /\ tn i s'.heap /\ (∀ b∈fp,H' b=none) /\ W i n ys H')
   (fun n s' hI=>?_) m0 ⟨0,_,[],none,J0,st₁,fun b hb=>(f3 b hb).1,w0⟩
  obtain⟨i,H',ys,v,J',st',fr',w'⟩:=hI;obtain⟨hD,alt⟩:=turn i n ys H' w'
  have fpY:∀{G:Hp},(∀ b∈fp,G b=none)->∀ b∈fp,m4 (blk X scope cl (M++[x]) (s2.heap.objs.size+1) { s2 with heap:=s2.heap.push { cls:=.type "list",data:=.seq ([]:List Value).toArray },toks:=s2.toks } (upd H2 s2.heap.objs.size (.lst [])) fp) [] G b:=fun hG b hb=>
   ⟨hG b hb,(J'.ok.exf b hb).1,J'.ok.exfs b hb,.inl hb,(J'.ok.exf b hb).2,fun p hp=>absurd (show p∈([]:List (Addr×Obj)) from hp) (by simp)⟩
  show wpAny _ _ ((compTurn _ 0 (.ref it) (.ref s2.heap.objs.size) (compEnvC scope cl (s2.heap.objs.size+1) X.env)).onRaise _) _ _ s';refine wpAny_noted (wpAny_noRaise ?_);rw[xr];refine wpAny_bind (wpAny_standAt (wpAny_bind ?_))
  rcases alt with⟨stop,qn⟩|⟨go,step⟩
  . refine thn (T.done (blk X scope cl (M++[x]) (s2.heap.objs.size+1) _ _ fp) rfl rfl rfl hc i [] s' _ H' _ J' (fpY fr') st' stop) fun r s4 ⟨hr,J4⟩=>?_
    subst hr;refine wpAny_pure ?_;obtain⟨m,hm,_⟩:=id J4.loc
    refine⟨m,hm,fun h' sb=>⟨.ref s2.heap.objs.size,H',u1 I3 hsz.symm f3 J4 sb,rfl,qn⟩⟩
  . refine thn (T.item (blk X scope cl (M++[x]) (s2.heap.objs.size+1) _ _ fp) rfl rfl rfl hc i [] s' _ H' _ J' (fpY fr') st' go) fun r s4 ⟨u,hr,h4⟩=>?_
    subst hr;refine wpAny_bind (thn h4 fun _ s5 ⟨z,H5,J5,r5,y5,st5,fr5⟩=>?_)
    have J5':=J5.pinned (fpY fr5) (T.obj _ _ st5)
    have hxN:(M++[x])[M.length]?=some x:=by simp
    refine wpAny_bind ?_;refine wpAny_assign_Name ?_;refine kd (X:=blk X scope cl (M++[x]) (s2.heap.objs.size+1) _ _ fp) (i:=M.length) (v:=z) J5' S.nd hxN (.inl (lookup_relabel_local S.var)) r5 (fun s6 J6=>?_) (.inr (lookup_relabel_local S.var))
    have hlp:(pick ι σ).length=M.length:=by
     have q:=congrArg List.length S.names;rw[List.length_map,List.length_map]at q;unfold pick
     simp_all
    have hset:(pick ι σ++[v]).set M.length (some z)=pick ι σ++[some z]:=by
     simp_all
    rw[hset]at J6;refine wpAny_bind (wpAny_bind (thn (he _ _ _ _ _ s6 _ H5 _ J6 (step z H5 y5)) fun yv s7 ⟨y,H7,J7,r7,hD7,hz7,m',hm',w7⟩=>?_));refine wpAny_bind (thn (ck (X:=blk X scope cl (M++[x]) (s2.heap.objs.size+1) _ _ fp) _ s7 _ H7 (.ref s2.heap.objs.size) [y] (.ref s2.heap.objs.size) [yv] (fun _ G=>G=upd H7 s2.heap.objs.size (.lst (ys++[y]))) J7 rfl (.cons r7 .nil) ⟨_,_,y,rfl,rfl,hD7,hz7,rfl⟩) fun _ s8 ⟨_,H8,J8,_,e8⟩=>?_);subst e8;refine wpAny_pure (wpAny_pure ⟨rfl,m',hm',i+1,_,_,some z,J8.gQ,?_,fun b hb=>?_,w7⟩)
    . exact T.keep _ _ _ st5 fun b hb o e=>(J8.pin (b,o) (List.mem_append_right _ (List.mem_append_right _ (cQ hb e)))).1
    . obtain⟨o,e,d⟩:=T.obj _ _ st5 b hb
      exact(J8.pin (b,o) (List.mem_append_right _ (List.mem_append_right _ (cQ hb e)))).2.1
 rw[hsz]at *;exact codeAny_compStart_list loop (T.self X.A 0 _ _ _ st₁ loop)
end
section
variable{X:Cx}
noncomputable def IsV(K:PySem.W.Frag)(T:String)(x:V)(H:Hp)(b:Bool):Prop:=match x with
 |.int _=>(T = "int" /\ b=true) \/ (T = "bool" /\ b=false) \/ (T = "list" /\ b=false) \/ (T = "tuple" /\ b=false) \/ (T = "str" /\ b=false)
 |.bl _=>(T = "int" /\ b=true) \/ (T = "bool" /\ b=true) \/ (T = "list" /\ b=false) \/ (T = "tuple" /\ b=false) \/ (T = "str" /\ b=false)
 |.non=>(T = "int" /\ b=false) \/ (T = "bool" /\ b=false) \/ (T = "list" /\ b=false) \/ (T = "tuple" /\ b=false) \/ (T = "str" /\ b=false)
 |.str _=>(T = "int" /\ b=false) \/ (T = "bool" /\ b=false) \/ (T = "list" /\ b=false) \/ (T = "tuple" /\ b=false) \/ (T = "str" /\ b=true)
 | .ref p=>((∃ xs,SqL K H p xs) /\ ((T = "int" /\ b = false) \/ (T = "bool" /\ b = false) \/ (T = "list" /\ b = true) \/ (T = "tuple" /\ b = false) \/ (T = "str" /\ b = false))) \/
    ((∃ xs,SqT K H p xs) /\ ((T = "int" /\ b=false) \/ (T = "bool" /\ b=false) \/ (T = "list" /\ b=false) \/ (T = "tuple" /\ b=true) \/ (T = "str" /\ b=false)))
 |_=>False
theorem o2:oI X (.builtin "isinstance") (fun xs H Q=>∃ x T b,xs=[x,.ty T] /\ IsV X.K T x H b /\ Q (.bl b) H):=by
 intro pins s σ H vs us Q I rv h;obtain⟨x,T,b,rfl,hv,q⟩:=h;obtain⟨u,v,rfl,ru,rT⟩:=rv.two;cases rT
 cases x with
 | int i=>
   obtain⟨t,rfl⟩:=ru
   rcases hv with⟨rfl,rfl⟩|⟨rfl,rfl⟩|⟨rfl,rfl⟩|⟨rfl,rfl⟩|⟨rfl,rfl⟩
   . exact IsiPair.int_int ⟨.bl _,H,I,rfl,q⟩
   . exact IsiPair.int_bool ⟨.bl _,H,I.tok _,rfl,q⟩
   . exact IsiPair.int_list ⟨.bl _,H,I.tok _,rfl,q⟩
   . exact IsiPair.int_tuple ⟨.bl _,H,I.tok _,rfl,q⟩
   . exact IsiPair.int_str ⟨.bl _,H,I.tok _,rfl,q⟩
 | bl i=>
   cases ru
   rcases hv with⟨rfl,rfl⟩|⟨rfl,rfl⟩|⟨rfl,rfl⟩|⟨rfl,rfl⟩|⟨rfl,rfl⟩
   . exact IsiPair.bool_int ⟨.bl _,H,I,rfl,q⟩
   . exact IsiPair.bool_bool ⟨.bl _,H,I,rfl,q⟩
   . exact IsiPair.bool_list ⟨.bl _,H,I.tok _,rfl,q⟩
   . exact IsiPair.bool_tuple ⟨.bl _,H,I.tok _,rfl,q⟩
   . exact IsiPair.bool_str ⟨.bl _,H,I.tok _,rfl,q⟩
 | non=>
   cases ru
   rcases hv with⟨rfl,rfl⟩|⟨rfl,rfl⟩|⟨rfl,rfl⟩|⟨rfl,rfl⟩|⟨rfl,rfl⟩
   . exact IsiPair.NoneType_int ⟨.bl _,H,I.tok _,rfl,q⟩
   . exact IsiPair.NoneType_bool ⟨.bl _,H,I.tok _,rfl,q⟩
   . exact IsiPair.NoneType_list ⟨.bl _,H,I.tok _,rfl,q⟩
   . exact IsiPair.NoneType_tuple ⟨.bl _,H,I.tok _,rfl,q⟩
   . exact IsiPair.NoneType_str ⟨.bl _,H,I.tok _,rfl,q⟩
 | str i=>
   obtain⟨t,rfl⟩:=ru
   rcases hv with⟨rfl,rfl⟩|⟨rfl,rfl⟩|⟨rfl,rfl⟩|⟨rfl,rfl⟩|⟨rfl,rfl⟩
   . exact IsiPair.str_int ⟨.bl _,H,I.tok _,rfl,q⟩
   . exact IsiPair.str_bool ⟨.bl _,H,I.tok _,rfl,q⟩
   . exact IsiPair.str_list ⟨.bl _,H,I.tok _,rfl,q⟩
   . exact IsiPair.str_tuple ⟨.bl _,H,I.tok _,rfl,q⟩
   . exact IsiPair.str_str ⟨.bl _,H,I,rfl,q⟩
 | ref p=>
   cases ru
   rcases hv with⟨⟨xs,hS⟩,hv⟩|⟨⟨xs,hS⟩,hv⟩
   . obtain⟨its,r,pl,hz⟩:=I.list hS;obtain⟨o,e,c,_⟩:=pl.isList
     rcases hv with⟨rfl,rfl⟩|⟨rfl,rfl⟩|⟨rfl,rfl⟩|⟨rfl,rfl⟩|⟨rfl,rfl⟩
     . exact IsiPair.list_int e c ⟨.bl _,H,I.tok _,rfl,q⟩
     . exact IsiPair.list_bool e c ⟨.bl _,H,I.tok _,rfl,q⟩
     . exact IsiPair.list_list e c ⟨.bl _,H,I,rfl,q⟩
     . exact IsiPair.list_tuple e c ⟨.bl _,H,I.tok _,rfl,q⟩
     . exact IsiPair.list_str e c ⟨.bl _,H,I.tok _,rfl,q⟩
   . obtain⟨its,r,pl,hz⟩:=I.tuple hS;obtain⟨o,e,c,_⟩:=pl
     rcases hv with⟨rfl,rfl⟩|⟨rfl,rfl⟩|⟨rfl,rfl⟩|⟨rfl,rfl⟩|⟨rfl,rfl⟩
     . exact IsiPair.tuple_int e c ⟨.bl _,H,I.tok _,rfl,q⟩
     . exact IsiPair.tuple_bool e c ⟨.bl _,H,I.tok _,rfl,q⟩
     . exact IsiPair.tuple_list e c ⟨.bl _,H,I.tok _,rfl,q⟩
     . exact IsiPair.tuple_tuple e c ⟨.bl _,H,I,rfl,q⟩
     . exact IsiPair.tuple_str e c ⟨.bl _,H,I.tok _,rfl,q⟩
 |_=>exact hv.elim
theorem boot_bool:bootBuiltins "bool" = some (.type "bool"):=by decide +kernel
theorem boot_isinstance:bootBuiltins "isinstance" = some (.builtin "isinstance"):=by decide +kernel
theorem boot_all:bootBuiltins "all" = some (.builtin "all"):=by decide +kernel
theorem boot_tuple:bootBuiltins "tuple" = some (.type "tuple"):=by decide +kernel
theorem boot_list:bootBuiltins "list" = some (.type "list"):=by decide +kernel
theorem boot_int:bootBuiltins "int" = some (.type "int"):=by decide +kernel
theorem boot_str:bootBuiltins "str" = some (.type "str"):=by decide +kernel
theorem boot_len:bootBuiltins "len" = some (.builtin "len"):=by decide +kernel
theorem sL:∀{ns:List Int} {its:List Value},Vals (ns.map V.int) its->IntsAre its ns
 |[],_,.nil=>.nil
 |n ::_,_,.cons ⟨t,e⟩ r=>by subst e;exact .cons n t (sL r)
noncomputable def Hr(K:PySem.W.Frag)(A:Around)(neg:Bool):R2:=fun x y H Q=>∃(p q:Addr) (ns ms:List Int),x=.ref p /\ y=.ref q /\ SqL K H p (ns.map V.int) /\ SqL K H q (ms.map V.int) /\ A.units+64<cLine /\ Q (.bl (if neg then !decide (ns=ms)else decide (ns=ms))) H
theorem yy:OpR X (compareOp .Eq) (Hr X.K X.A false):=by
 intro pins s σ H x y v u Q I rx ry h;obtain⟨p,q,ns,ms,rfl,rfl,h1,h2,hu,hq⟩:=h
 cases rx;cases ry
 obtain⟨its,r,pl,hz⟩:=I.list h1;obtain⟨its',r',pl',hz'⟩:=I.list h2;exact PySem.W.eq_intsK pl.isList (sL r) pl'.isList (sL r') hu ⟨.bl _,H,I,rfl,hq⟩
theorem D5:OpR X (compareOp .NotEq) (Hr X.K X.A true):=by
 intro pins s σ H x y v u Q I rx ry h;obtain⟨p,q,ns,ms,rfl,rfl,h1,h2,hu,hq⟩:=h
 cases rx;cases ry
 obtain⟨its,r,pl,hz⟩:=I.list h1;obtain⟨its',r',pl',hz'⟩:=I.list h2;exact PySem.W.ne_intsK pl.isList (sL r) pl'.isList (sL r') hu ⟨.bl _,H,I,rfl,hq⟩
end
section
variable{P:Program}{w:World}{K:PySem.W.Frag}{mg:Str->Option Value}{base:Heap}
theorem okX{x qual:Str}{st:Stmt}{f:Addr}{fd:FuncData}{N ps:List Str}{k:Nat}{sp:Sp}(F:Fun K x qual st f fd)(S:aW N ps (aC st))(len:∀ vs H Q E,sp vs H Q E->vs.length=ps.length)
  (hbody:∀(cdv:Value) (A:Around) (outer:List Env) (s:Shared) (H:Hp) (vs:List V) (Q:VK) (E:XK),ik k (A.deeper (envOfC qual (aC st) s.heap.objs.size f cdv))->sp vs H Q E ->
    ∃ t,PSs (tR (CXE P w) P w K mg base N qual (aC st) f cdv A outer s H E) (dF st) t /\ t { nx:=fun _ H'=>Q .non H',rt:=Q } (start N vs) H):cq P w K mg base (CXE P w) (k+1) f fd ps sp:=by
 obtain⟨oc,od,kV,doc,pm,an,cdv,ct,osl,rfl,lk,hcd⟩:=F.ex
 exact Mf lk hcd S len fun A outer s H vs Q E hr hsp=>hbody cdv A outer s H vs Q E hr hsp
end
theorem SqL.new{K:PySem.W.Frag}{H:Hp}{p:Addr}{xs:List V}(h:H p=some (.lst xs)):SqL K H p xs:=.inl (.inl h)
theorem SqT.new{K:PySem.W.Frag}{H:Hp}{p:Addr}{xs:List V}(h:H p=some (.tup xs)):SqT K H p xs:=.inl (.inl h)
theorem Ia{H:Hp}{p q:Addr}{o:HO}(h:H q=some o)(n:H p=none):q≠p:=fun z=>by rw[z,n]at h;cases h
theorem _root_.L2.aK.upd{H H':Hp}{p:Addr}{o:HO}(e:aK H H')(n:H p=none):aK H (upd H' p o):=fun b u h=>by
 rw[bH (Ia h n)];exact e b u h
theorem _root_.L2.aK.new{H:Hp}{p:Addr}{o:HO}(n:H p=none):aK H (L2.upd H p o):=(aK.refl H).upd n
abbrev Goes(H:Hp)(E:XK)(C:Addr)(dx:Option Addr):Prop:=∀ H' a,aK H H'->H' a=some (Bj a C dx)->E (.ref C) (some a) H'
section
variable{X:Cx}
noncomputable def Jd(K:PySem.W.Frag):R2:=fun x y H Q=>∃ l b xs zs,x=.ref l /\ y=.ref b /\ SqL K H l xs /\ SqL K H b zs /\ xs.length+zs.length<=sizeLine /\ ∀ p,H p=none->Q (.ref p) (upd H p (.lst (xs++zs)))
theorem eD:OpR X (binaryOp .Add) (Jd X.K):=by
 intro pins s σ H x y v u Q I rx ry h;obtain⟨l,b,xs,zs,rfl,rfl,hH,hB,hz,q⟩:=h;cases rx;cases ry;obtain⟨its,r,pl,_⟩:=I.list hH;obtain⟨its2,r2,pl2,_⟩:=I.list hB;obtain⟨⟨cls,dd,data,sl⟩,ho,hc,n,hd⟩:=pl.isList;obtain⟨⟨cls2,dd2,data2,sl2⟩,ho2,hc2,n2,hd2⟩:=pl2.isList;subst hc hd hc2 hd2
 have hsz:its.toArray.size+its2.toArray.size<=sizeLine:=by rw[List.size_toArray,List.size_toArray,<- r.length,<- r2.length];exact hz
 refine concat_meets ⟨_,ho,rfl⟩ ⟨_,ho2,rfl⟩ noFill_list_add seq_list_add PySem.F.slot_list_add PySem.F.entry_list_add (PySem.F.args_list_add_2 _ _) (list_addW l b its.toArray its2.toArray n n2 dd dd2 sl sl2 hsz) ⟨ho,ho2,?_⟩
 have ea:its.toArray++its2.toArray=(its++its2).toArray:=by simp
 rw[ea]
 exact⟨.ref _,_,I.Et (t':=s.toks) (r.append r2) (by rw[List.length_append];exact hz),rfl,q _ I.fresh⟩
theorem xl:oI X (.builtin "all") (fun xs H Q=>∃(p:Addr) (bs:List Bool),xs=[.ref p] /\ SqL X.K H p (bs.map V.bl) /\ X.A.handled=none /\ Q (.bl (bs.all id)) H):=by
 intro pins s σ H vs us Q I rv h;obtain⟨p,bs,rfl,hp,hh,q⟩:=h;obtain⟨u,rfl,ru⟩:=rv.one;cases ru;obtain⟨its,r,pl,_⟩:=I.list hp;have hl:=r.length;have isl:=pl.isList;obtain⟨o,e,_⟩:=id isl;refine call_all_walk (wpAny_pyIter_list isl ?_);have ne:=Nat.ne_of_lt (Heap.lt_size e)
 have tv:∀(i:Nat) (v:Value),its.toArray[i]?=some v->∃ b,bs[i]?=some b /\ v=Value.bool b:=fun i v hv=>by
  have hv':its[i]?=some v:=by simpa using hv
  have hi:i<its.length:=(List.getElem?_eq_some_iff.mp hv').1
  rw[<- hl,List.length_map]at hi
  have hx:(bs.map V.bl)[i]?=some (V.bl bs[i]):=by simp
  obtain⟨u,hu,ru⟩:=r.get hx;rw[hv']at hu;cases hu
  exact⟨bs[i],by simp,ru⟩
 refine⟨s.heap.objs.size,_,_,_,_,_,(fun i=>(bs[i]?).getD false),rfl,Walks.list (A:=X.A.in1) hh s.heap.objs.size p ne its.toArray,⟨⟨_,Heap.get?_push_size _ rfl,rfl,rfl⟩,isl.at fun o e=>Heap.get?_push_of_some _ e⟩,fun i v s' Q' E' hP hQ=>?_,fun h' tk hk=>?_⟩
 . obtain⟨b,hb,rfl⟩:=tv i v hP
   have hQ':Q' ((bs[i]?).getD false) s':=hQ
   rw[hb]at hQ';exact wpAny_truthy_bool hQ'
 . have en:its.toArray.size=bs.length:=by rw[List.size_toArray,<- hl,List.length_map]
   have eb:(List.range its.toArray.size).all (fun i=>(bs[i]?).getD false)=bs.all id:=by
    rw[en];rw[Bool.eq_iff_iff,List.all_eq_true,List.all_eq_true];constructor
    . intro hA b hb;obtain⟨i,hi,rfl⟩:=List.mem_iff_getElem.mp hb;have:=hA i (by simpa using hi)
      grind
    . intro hA i hi
      have hi':i<bs.length:=by simpa using hi
      have:=hA bs[i] (List.getElem_mem hi')
      simp_all
   rw[eb]
   refine⟨.bl _,H,I.kept (h':=h') (t':=tk) fun b o e'=>hk b o ?_ (Heap.get?_push_of_some _ e'),rfl,q⟩
   have lt:=Heap.lt_size e'
   grind
end
noncomputable def isStar:Expr->Bool
 |.Starred ..=>true
 |_=>false
theorem CJ{e:Expr}{es:List Expr}{env:Env}(h:isStar e=false):starEach (e ::es) env=(false,eval e env) ::starEach es env:=by
 cases e<;>first|rfl|cases h
theorem Fw{X:Cx}{e:Expr}{es:List Expr}{te:TE}{t:TA}(ha:PE X e te)(hr:PA X es t)(hs:isStar e=false:=by rfl):PA X (e ::es) (iX te t):=HS ha hr (CJ hs)
end L2.E
namespace L2.P
open PySem
noncomputable def ixP(n:Nat)(i:Int):Option Nat:=if 0<=i then(if i<n then some i.toNat else none)else if -(n:Int)<=i then some (i+n).toNat else none
noncomputable def atP{α:Type}(xs:List α)(i:Int):Option α:=(ixP xs.length i).bind fun j=>xs[j]?
noncomputable def xM(n d:Nat):Option Int->Nat
 |none=>d
 |some v=>if v<0 then(v+(n:Int)).toNat else min v.toNat n
inductive PV where
 |non|bl (b:Bool)|int (i:Int)|str (s:Str)|lst (xs:List PV)|tup (xs:List PV)
inductive OV where
 | sh (x:PV)|ol (ts:List OV)|ob (c:String) (ks:List Str) (ts:List OV)
   |di (kvs:List (Int×PV))|dt (kvs:List (List Int×PV))
inductive Sl where
 | sh (x:PV)|ow (xs:List PV)|ex (c:String) (fs:List (Str×PV))
   |tr (io:Bool) (t:OV)|bo (t:OV)
abbrev ag:=List (Option Sl)
inductive RV where
 |sh (x:PV)|fr (xs:List PV)|al (xs:List PV)
noncomputable def RV.pv:RV->PV
 |.sh x=>x
 |.fr xs=>.lst xs
 |.al xs=>.lst xs
abbrev XF:=List (Str×PV)
inductive OE where
 |ok (r:RV)|exc (c:String) (fs:XF)|bad
inductive OT where
 |ok (b:Bool)|exc (c:String) (fs:XF)|bad
inductive OA where
 |ok (xs:List PV)|exc (c:String) (fs:XF)|bad
inductive OS where
 |nx (ρ:ag)|rt (ρ:ag) (r:RV)|bk (ρ:ag)|ct (ρ:ag)|exc (ρ:ag) (c:String) (fs:XF)|bad
noncomputable def OE.bind:OE->(RV->OE)->OE
 |.ok r,f=>f r
 |.exc c fs,_=>.exc c fs
 |.bad,_=>.bad
noncomputable def OE.gc:OE->(RV->OT)->OT
 |.ok r,f=>f r
 |.exc c fs,_=>.exc c fs
 |.bad,_=>.bad
noncomputable def OE.fJ:OE->(RV->OA)->OA
 |.ok r,f=>f r
 |.exc c fs,_=>.exc c fs
 |.bad,_=>.bad
noncomputable def OE.cX(ρ:ag):OE->(RV->OS)->OS
 |.ok r,f=>f r
 |.exc c fs,_=>.exc ρ c fs
 |.bad,_=>.bad
noncomputable def OT.bind:OT->(Bool->OE)->OE
 |.ok r,f=>f r
 |.exc c fs,_=>.exc c fs
 |.bad,_=>.bad
noncomputable def OT.gc:OT->(Bool->OT)->OT
 |.ok r,f=>f r
 |.exc c fs,_=>.exc c fs
 |.bad,_=>.bad
noncomputable def OT.cX(ρ:ag):OT->(Bool->OS)->OS
 |.ok r,f=>f r
 |.exc c fs,_=>.exc ρ c fs
 |.bad,_=>.bad
noncomputable def OA.bind:OA->(List PV->OE)->OE
 |.ok r,f=>f r
 |.exc c fs,_=>.exc c fs
 |.bad,_=>.bad
noncomputable def OA.fJ:OA->(List PV->OA)->OA
 |.ok r,f=>f r
 |.exc c fs,_=>.exc c fs
 |.bad,_=>.bad
noncomputable def OA.cX(ρ:ag):OA->(List PV->OS)->OS
 |.ok r,f=>f r
 |.exc c fs,_=>.exc ρ c fs
 |.bad,_=>.bad
noncomputable def ao(i:Nat):ag->OE:=fun ρ=>match ρ[i]? with
 |some (some (.sh x))=>.ok (.sh x)
 |some (some (.ow xs))=>.ok (.al xs)
 |_=>.bad
noncomputable def mC(x:PV):ag->OE:=fun _=>.ok (.sh x)
noncomputable def oE:Option RV->OE
 |some r=>.ok r
 |none=>.bad
noncomputable def mOp(g:PV->PV->Option RV)(ma mb:ag->OE):ag->OE:=fun ρ=>(ma ρ).bind fun a=>(mb ρ).bind fun b=>oE (g a.pv b.pv)
noncomputable def gI(C:Int->Int->Bool)(f:Int->Int->PV):PV->PV->Option RV
 |.int i,.int j=>if C i j then some (.sh (f i j))else none
 |_,_=>none
noncomputable def eY:=gI (fun _ _=>true) fun i j=>.int (i+j)
noncomputable def wz:=gI (fun _ _=>true) fun i j=>.int (i - j)
noncomputable def zG:=gI (fun i j=>(decide (-(2 ^ 64)<i)&&decide (i<2 ^ 64))||(decide (-(2 ^ 64)<j)&&decide (j<2 ^ 64))) fun i j=>.int (i*j)
noncomputable def dA:=gI (fun _ j=>decide (0<j)&&decide (j<1073741824)) fun i j=>.int (i/j)
noncomputable def cw:=gI (fun _ j=>decide (0<j)) fun i j=>.int (i%j)
noncomputable def gLt:=gI (fun _ _=>true) fun i j=>.bl (decide (i<j))
noncomputable def gLe:=gI (fun _ _=>true) fun i j=>.bl (decide (i<=j))
noncomputable def gGt:=gI (fun _ _=>true) fun i j=>.bl (decide (j<i))
noncomputable def gGe:=gI (fun _ _=>true) fun i j=>.bl (decide (j<=i))
noncomputable def eqS:PV->PV->Option Bool
 |.non,.non=>some true|.non,.int _=>some false|.int _,.non=>some false|.non,.bl _=>some false|.bl _,.non=>some false|.non,.str _=>some false|.str _,.non=>some false
 |.int a,.int b=>some (decide (a=b))|.bl a,.bl b=>some (decide (a=b))|.str a,.str b=>some (decide (a=b))
 |.int _,.str _=>some false|.str _,.int _=>some false|.bl _,.str _=>some false|.str _,.bl _=>some false
 |_,_=>none
noncomputable def gEq:PV->PV->Option RV:=fun x y=>(eqS x y).map fun b=>.sh (.bl b)
noncomputable def gNe:PV->PV->Option RV:=fun x y=>(eqS x y).map fun b=>.sh (.bl (!b))
noncomputable def m3:RV->Option PV
 |.sh x=>some x
 |.fr xs=>some (.lst xs)
 |.al _=>none
noncomputable def aJ:ag->OA:=fun _=>.ok []
noncomputable def ak(me:ag->OE)(mr:ag->OA):ag->OA:=fun ρ=>(me ρ).fJ fun r=>match m3 r with
 |some x=>(mr ρ).fJ fun xs=>.ok (x ::xs)
 |none=>.bad
noncomputable def lim:Nat:=16777216
noncomputable def bS(ma:ag->OA):ag->OE:=fun ρ=>(ma ρ).bind fun xs=>if xs.length<=lim then .ok (.fr xs)else .bad
noncomputable def eU(ma:ag->OA):ag->OE:=fun ρ=>(ma ρ).bind fun xs=>if xs.length<=lim then .ok (.sh (.tup xs))else .bad
noncomputable def br(f:List PV->OE)(ma:ag->OA):ag->OE:=fun ρ=>(ma ρ).bind f
noncomputable def mUn(g:PV->Option RV)(ma:ag->OE):ag->OE:=fun ρ=>(ma ρ).bind fun a=>oE (g a.pv)
noncomputable def gi:PV->Option RV
 |.int i=>some (.sh (.int (-i)))
 |_=>none
noncomputable def yF:PV->Option RV
 |.lst xs=>some (.sh (.int xs.length))
 |.tup xs=>some (.sh (.int xs.length))
 |_=>none
noncomputable def y0:PV->Option RV
 |.int i=>some (.sh (.int i))
 |.bl b=>some (.sh (.int (if b then 1 else 0)))
 |_=>none
noncomputable def ou:PV->PV->Option RV
 |.lst xs,.int i=>(atP xs i).map .sh
 |_,_=>none
noncomputable def dw:PV->PV->Option RV
 |.tup xs,.int i=>(atP xs i).map .sh
 |_,_=>none
noncomputable def iN:PV->PV->Option RV
 |.lst xs,.lst ys=>if xs.length+ys.length<=lim then some (.fr (xs++ys))else none
 |_,_=>none
noncomputable def tY:List PV->Option (List Int)
 |[]=>some []
 |.int i ::r=>(tY r).map (i ::·)
 |_ ::_=>none
noncomputable def A0:PV->PV->Option Bool
 | .lst xs,.lst ys=>match tY xs,tY ys with
   |some a,some b=>some (decide (a=b))
   |_,_=>none
 |_,_=>none
noncomputable def xP:PV->PV->Option RV:=fun x y=>(A0 x y).map fun b=>.sh (.bl b)
noncomputable def CL:PV->PV->Option RV:=fun x y=>(A0 x y).map fun b=>.sh (.bl (!b))
noncomputable def qa:List PV->Option (List Bool)
 |[]=>some []
 |.bl i ::r=>(qa r).map (i ::·)
 |_ ::_=>none
noncomputable def Dy:PV->Option RV
 |.lst xs=>(qa xs).map fun bs=>.sh (.bl (bs.all id))
 |_=>none
noncomputable def isP(T:String):PV->Option Bool
 |.int _=>if T = "int" then some true else if T = "bool" \/ T = "list" \/ T = "tuple" \/ T = "str" then some false else none
 |.bl _=>if T = "int" \/ T = "bool" then some true else if T = "list" \/ T = "tuple" \/ T = "str" then some false else none
 |.non=>if T = "int" \/ T = "bool" \/ T = "list" \/ T = "tuple" \/ T = "str" then some false else none
 |.str _=>if T = "str" then some true else if T = "int" \/ T = "bool" \/ T = "list" \/ T = "tuple" then some false else none
 |.lst _=>if T = "list" then some true else if T = "int" \/ T = "bool" \/ T = "tuple" \/ T = "str" then some false else none
 |.tup _=>if T = "tuple" then some true else if T = "int" \/ T = "bool" \/ T = "list" \/ T = "str" then some false else none
noncomputable def mIs(T:String)(ma:ag->OE):ag->OE:=mUn (fun x=>(isP T x).map fun b=>.sh (.bl b)) ma
noncomputable def tT:PV->Option Bool
 |.non=>some false
 |.bl b=>some b
 |.int i=>some (i != 0)
 |.lst xs=>some (!xs.isEmpty)
 |.tup xs=>some (!xs.isEmpty)
 |.str _=>none
noncomputable def oT:Option Bool->OT
 |some b=>.ok b
 |none=>.bad
noncomputable def dM(ma:ag->OE):ag->OT:=fun ρ=>(ma ρ).gc fun r=>oT (tT r.pv)
noncomputable def az(ma:ag->OE):ag->OT:=fun ρ=>(ma ρ).gc fun r=>match r.pv with
 |.bl b=>.ok b
 |_=>.bad
noncomputable def Cb(m:ag->OT):ag->OT:=fun ρ=>(m ρ).gc fun b=>.ok (!b)
noncomputable def cZ(m n:ag->OT):ag->OT:=fun ρ=>(m ρ).gc fun b=>if b=true then n ρ else .ok false
noncomputable def kW(m n:ag->OT):ag->OT:=fun ρ=>(m ρ).gc fun b=>if b=true then .ok true else n ρ
noncomputable def BE(m n:ag->OE):ag->OE:=fun ρ=>(m ρ).bind fun r=>match r.pv with
 |.bl b=>if b=true then n ρ else .ok (.sh (.bl false))
 |_=>.bad
noncomputable def Gb(m:ag->OE):ag->OE:=fun ρ=>(m ρ).bind fun r=>match r.pv with
 |.bl b=>.ok (.sh (.bl (!b)))
 |_=>.bad
noncomputable def gm(c:ag->OT)(m n:ag->OE):ag->OE:=fun ρ=>(c ρ).bind fun b=>if b=true then m ρ else n ρ
noncomputable def iR(g g':PV->PV->Option RV)(ma mb mc:ag->OE):ag->OE:=fun ρ=>(ma ρ).bind fun a=>(mb ρ).bind fun b=>(oE (g a.pv b.pv)).bind fun r=>match r.pv with
 |.bl k=>if k=true then(mc ρ).bind fun c=>oE (g' b.pv c.pv)else .ok (.sh (.bl false))
 |_=>.bad
noncomputable def OS.andThen:OS->(ag->OS)->OS
 |.nx ρ,k=>k ρ
 |o,_=>o
noncomputable def OS.turn:OS->(ag->OS)->OS
 |.nx ρ,k=>k ρ
 |.ct ρ,k=>k ρ
 |.bk ρ,_=>.nx ρ
 |o,_=>o
noncomputable def aH(a b:ag->OS):ag->OS:=fun ρ=>(a ρ).andThen b
noncomputable def aO:ag->OS:=fun ρ=>.nx ρ
noncomputable def EG:RV->Option Sl
 |.sh x=>some (.sh x)
 |.fr xs=>some (.ow xs)
 |.al _=>none
noncomputable def bf(i:Nat)(me:ag->OE):ag->OS:=fun ρ=>(me ρ).cX ρ fun r=>match EG r with
 |some s=>.nx (ρ.set i (some s))
 |none=>.bad
noncomputable def bc(c:ag->OT)(m n:ag->OS):ag->OS:=fun ρ=>(c ρ).cX ρ fun b=>if b=true then m ρ else n ρ
noncomputable def aZ(me:ag->OE):ag->OS:=fun ρ=>(me ρ).cX ρ fun r=>match r with
 |.al _=>.bad
 |r=>.rt ρ r
noncomputable def g9(i:Nat):ag->OS:=fun ρ=>match ρ[i]? with
 |some (some (.sh x))=>.rt ρ (.sh x)
 |some (some (.ow xs))=>.rt (ρ.set i none) (.fr xs)
 |_=>.bad
noncomputable def kL(i:Nat)(ρ:ag):ag:=match ρ[i]? with
 |some (some (.ow xs))=>ρ.set i (some (.sh (.lst xs)))
 |_=>ρ
noncomputable def eS(i:Nat)(me:ag->OE):ag->OS:=fun ρ=>match ρ[i]? with
 | some (some (.ow xs))=>(me ρ).cX ρ fun r=>match m3 r with
   |some y=>if xs.length<lim then .nx (ρ.set i (some (.ow (xs++[y]))))else .bad
   |none=>.bad
 |_=>.bad
noncomputable def gP(i:Nat)(mb:ag->OS):List PV->ag->OS
 |[],ρ=>.nx ρ
 |x ::xs,ρ=>(mb (ρ.set i (some (.sh x)))).turn (gP i mb xs)
noncomputable def za:RV->Option (List PV)
 |.sh (.lst xs)=>some xs
 |.fr xs=>some xs
 |_=>none
noncomputable def lX(i:Nat)(ml:ag->OE)(mb:ag->OS):ag->OS:=fun ρ=>(ml ρ).cX ρ fun r=>match za r with
 |some xs=>gP i mb xs ρ
 |none=>.bad
noncomputable def dE(n:Nat):List PV:=(List.range n).map fun k:Nat=>PV.int (k:Int)
noncomputable def uy(i:Nat)(me:ag->OE)(mb:ag->OS):ag->OS:=fun ρ=>(me ρ).cX ρ fun r=>match r.pv with
 |.int j=>if -(2 ^ 62)<=j /\ j<2 ^ 62 then gP i mb (dE j.toNat) ρ else .bad
 |_=>.bad
noncomputable def gn(mc:ag->OT)(mb:ag->OS):Nat->ag->OS
 |0,_=>.bad
 |n+1,ρ=>(mc ρ).cX ρ fun b=>if b=true then(mb ρ).turn (gn mc mb n)else .nx ρ
noncomputable def sX:PV->Option Int
 |.int i=>some i
 |_=>none
noncomputable def kb(m:ag->OE):ag->OE:=fun ρ=>(m ρ).bind fun r=>match r.pv with
 |.int i=>.ok (.sh (.int i))
 |_=>.bad
noncomputable def AD(xs:List PV)(lo hi:Option Int):List PV:=(xs.drop (xM xs.length 0 lo)).take (xM xs.length xs.length hi - xM xs.length 0 lo)
noncomputable def DV(x:PV)(lo hi:Option Int):Option RV:=match x with
 |.lst xs=>some (.fr (AD xs lo hi))
 |_=>none
noncomputable def pb(ma ml mh:ag->OE):ag->OE:=fun ρ=>(ma ρ).bind fun a=>(ml ρ).bind fun l=>(mh ρ).bind fun h=>oE (DV a.pv (sX l.pv) (sX h.pv))
noncomputable def dk(ι:List Nat)(ρ:ag):ag:=ι.map fun i=>(ρ[i]?).join
noncomputable def dh(me:ag->OE)(ρ:ag):List PV->OA
 |[]=>.ok []
 | x ::xs=>(me (ρ++[some (.sh x)])).fJ fun r=>match m3 r with
   |some y=>(dh me ρ xs).fJ fun ys=>.ok (y ::ys)
   |none=>.bad
noncomputable def noX:OA->OE
 |.ok xs=>if xs.length<=lim then .ok (.fr xs)else .bad
 |_=>.bad
noncomputable def qV(ml:ag->OE)(ι:List Nat)(me:ag->OE):ag->OE:=fun ρ=>(ml ρ).bind fun r=>match r.pv with
 |.lst xs=>noX (dh me (dk ι ρ) xs)
 |_=>.bad
noncomputable def xF(mn:ag->OE)(ι:List Nat)(me:ag->OE):ag->OE:=fun ρ=>(mn ρ).bind fun r=>match r.pv with
 |.int j=>if -(2 ^ 62)<=j /\ j<2 ^ 62 then noX (dh me (dk ι ρ) (dE j.toNat))else .bad
 |_=>.bad
noncomputable def fin:OS->OE
 |.nx _=>.ok (.sh .non)
 |.rt _ (.al _)=>.bad
 |.rt _ r=>.ok r
 |.exc _ c fs=>.exc c fs
 |_=>.bad
noncomputable def ko(n:Nat)(xs:List PV):ag:=xs.map (fun x=>some (.sh x))++List.replicate (n - xs.length) none
noncomputable def fnP(np n:Nat)(m:ag->OS):List PV->OE:=fun xs=>if xs.length=np then fin (m (ko n xs))else .bad
noncomputable def fuel:Nat:=100000
noncomputable def gu(i:Nat)(m:ag->OS):ag->OS:=fun ρ=>m (kL i ρ)
noncomputable def cC:PV->Bool
 |.non=>true
 |_=>false
noncomputable def rS:PV->PV->Option RV
 |x,.non=>some (.sh (.bl (cC x)))
 |_,_=>none
noncomputable def vW:PV->PV->Option RV
 |x,.non=>some (.sh (.bl (!cC x)))
 |_,_=>none
@[simp] theorem Bp(i:Nat)(ρ:ag):ao i ρ=(match ρ[i]? with
  |some (some (.sh x))=>.ok (.sh x)
  |some (some (.ow xs))=>.ok (.al xs)
  |_=>.bad):=rfl
@[simp] theorem ID(g:PV->PV->Option RV)(ma mb:ag->OE)(ρ:ag):mOp g ma mb ρ=((ma ρ).bind fun a=>(mb ρ).bind fun b=>oE (g a.pv b.pv)):=rfl
@[simp] theorem M0(me:ag->OE)(mr:ag->OA)(ρ:ag):ak me mr ρ=((me ρ).fJ fun r=>match m3 r with
  |some x=>(mr ρ).fJ fun xs=>.ok (x ::xs)
  |none=>.bad):=rfl
@[simp] theorem NJ(ma:ag->OA)(ρ:ag):bS ma ρ=((ma ρ).bind fun xs=>if xs.length<=lim then .ok (.fr xs)else .bad):=rfl
@[simp] theorem ND(ma:ag->OA)(ρ:ag):eU ma ρ=((ma ρ).bind fun xs=>if xs.length<=lim then .ok (.sh (.tup xs))else .bad):=rfl
@[simp] theorem ME(f:List PV->OE)(ma:ag->OA)(ρ:ag):br f ma ρ=((ma ρ).bind f):=rfl
@[simp] theorem BF(g:PV->Option RV)(ma:ag->OE)(ρ:ag):mUn g ma ρ=((ma ρ).bind fun a=>oE (g a.pv)):=rfl
@[simp] theorem FC(ma:ag->OE)(ρ:ag):dM ma ρ=((ma ρ).gc fun r=>oT (tT r.pv)):=rfl
@[simp] theorem Hs(ma:ag->OE)(ρ:ag):az ma ρ=((ma ρ).gc fun r=>match r.pv with
  |.bl b=>.ok b
  |_=>.bad):=rfl
@[simp] theorem M1(m:ag->OT)(ρ:ag):Cb m ρ=((m ρ).gc fun b=>.ok (!b)):=rfl
@[simp] theorem Hc(m n:ag->OT)(ρ:ag):cZ m n ρ=((m ρ).gc fun b=>if b=true then n ρ else .ok false):=rfl
@[simp] theorem NI(m n:ag->OT)(ρ:ag):kW m n ρ=((m ρ).gc fun b=>if b=true then .ok true else n ρ):=rfl
@[simp] theorem MG(m n:ag->OE)(ρ:ag):BE m n ρ=((m ρ).bind fun r=>match r.pv with
  |.bl b=>if b=true then n ρ else .ok (.sh (.bl false))
  |_=>.bad):=rfl
@[simp] theorem M7(m:ag->OE)(ρ:ag):Gb m ρ=((m ρ).bind fun r=>match r.pv with
  |.bl b=>.ok (.sh (.bl (!b)))
  |_=>.bad):=rfl
@[simp] theorem NY(c:ag->OT)(m n:ag->OE)(ρ:ag):gm c m n ρ=((c ρ).bind fun b=>if b=true then m ρ else n ρ):=rfl
@[simp] theorem L4(g g':PV->PV->Option RV)(ma mb mc:ag->OE)(ρ:ag):iR g g' ma mb mc ρ=((ma ρ).bind fun a=>(mb ρ).bind fun b=>(oE (g a.pv b.pv)).bind fun r=>match r.pv with
  |.bl k=>if k=true then(mc ρ).bind fun c=>oE (g' b.pv c.pv)else .ok (.sh (.bl false))
  |_=>.bad):=rfl
@[simp] theorem pd(a b:ag->OS)(ρ:ag):aH a b ρ=((a ρ).andThen b):=rfl
@[simp] theorem HZ(ρ:ag):aO  ρ=(.nx ρ):=rfl
@[simp] theorem DZ(i:Nat)(me:ag->OE)(ρ:ag):bf i me ρ=((me ρ).cX ρ fun r=>match EG r with
  |some s=>.nx (ρ.set i (some s))
  |none=>.bad):=rfl
@[simp] theorem A7(c:ag->OT)(m n:ag->OS)(ρ:ag):bc c m n ρ=((c ρ).cX ρ fun b=>if b=true then m ρ else n ρ):=rfl
@[simp] theorem Ez(me:ag->OE)(ρ:ag):aZ me ρ=((me ρ).cX ρ fun r=>match r with
  |.al _=>.bad
  |r=>.rt ρ r):=rfl
@[simp] theorem LK(i:Nat)(ρ:ag):g9 i ρ=(match ρ[i]? with
  |some (some (.sh x))=>.rt ρ (.sh x)
  |some (some (.ow xs))=>.rt (ρ.set i none) (.fr xs)
  |_=>.bad):=rfl
@[simp] theorem LI(i:Nat)(me:ag->OE)(ρ:ag):eS i me ρ=(match ρ[i]? with
  | some (some (.ow xs))=>(me ρ).cX ρ fun r=>match m3 r with
    |some y=>if xs.length<lim then .nx (ρ.set i (some (.ow (xs++[y]))))else .bad
    |none=>.bad
  |_=>.bad):=rfl
@[simp] theorem MR(i:Nat)(ml:ag->OE)(mb:ag->OS)(ρ:ag):lX i ml mb ρ=((ml ρ).cX ρ fun r=>match za r with
  |some xs=>gP i mb xs ρ
  |none=>.bad):=rfl
@[simp] theorem M8(i:Nat)(me:ag->OE)(mb:ag->OS)(ρ:ag):uy i me mb ρ=((me ρ).cX ρ fun r=>match r.pv with
  |.int j=>if -(2 ^ 62)<=j /\ j<2 ^ 62 then gP i mb (dE j.toNat) ρ else .bad
  |_=>.bad):=rfl
@[simp] theorem MF(m:ag->OE)(ρ:ag):kb m ρ=((m ρ).bind fun r=>match r.pv with
  |.int i=>.ok (.sh (.int i))
  |_=>.bad):=rfl
@[simp] theorem NO(ma ml mh:ag->OE)(ρ:ag):pb ma ml mh ρ=((ma ρ).bind fun a=>(ml ρ).bind fun l=>(mh ρ).bind fun h=>oE (DV a.pv (sX l.pv) (sX h.pv))):=rfl
@[simp] theorem FH(ml:ag->OE)(ι:List Nat)(me:ag->OE)(ρ:ag):qV ml ι me ρ=((ml ρ).bind fun r=>match r.pv with
  |.lst xs=>noX (dh me (dk ι ρ) xs)
  |_=>.bad):=rfl
@[simp] theorem L1(mn:ag->OE)(ι:List Nat)(me:ag->OE)(ρ:ag):xF mn ι me ρ=((mn ρ).bind fun r=>match r.pv with
  |.int j=>if -(2 ^ 62)<=j /\ j<2 ^ 62 then noX (dh me (dk ι ρ) (dE j.toNat))else .bad
  |_=>.bad):=rfl
@[simp] theorem LH(i:Nat)(m:ag->OS)(ρ:ag):gu i m ρ=(m (kL i ρ)):=rfl
@[simp] theorem Ng(x:PV)(ρ:ag):mC x ρ=.ok (.sh x):=rfl
@[simp] theorem Nu(ρ:ag):aJ ρ=.ok []:=rfl
@[simp] theorem mX(r:RV)(f:RV->OE):OE.bind (.ok r) f=f r:=rfl
@[simp] theorem Kb(c:String)(fs:XF)(f:RV->OE):OE.bind (.exc c fs) f=.exc c fs:=rfl
@[simp] theorem Lb{p:Prop}[Decidable p](x y:OE)(f:RV->OE):OE.bind (if p then x else y) f=if p then OE.bind x f else OE.bind y f:=by grind
@[simp] theorem Jz(r:RV)(f:RV->OT):OE.gc (.ok r) f=f r:=rfl
@[simp] theorem IF(c:String)(fs:XF)(f:RV->OT):OE.gc (.exc c fs) f=.exc c fs:=rfl
@[simp] theorem II{p:Prop}[Decidable p](x y:OE)(f:RV->OT):OE.gc (if p then x else y) f=if p then OE.gc x f else OE.gc y f:=by split<;>rfl
@[simp] theorem KI(r:RV)(f:RV->OA):OE.fJ (.ok r) f=f r:=rfl
@[simp] theorem Iq(c:String)(fs:XF)(f:RV->OA):OE.fJ (.exc c fs) f=.exc c fs:=rfl
@[simp] theorem Iy{p:Prop}[Decidable p](x y:OE)(f:RV->OA):OE.fJ (if p then x else y) f=if p then OE.fJ x f else OE.fJ y f:=by grind
@[simp] theorem LG(r:Bool)(f:Bool->OE):OT.bind (.ok r) f=f r:=rfl
@[simp] theorem KS(c:String)(fs:XF)(f:Bool->OE):OT.bind (.exc c fs) f=.exc c fs:=rfl
@[simp] theorem Kh{p:Prop}[Decidable p](x y:OT)(f:Bool->OE):OT.bind (if p then x else y) f=if p then OT.bind x f else OT.bind y f:=by split<;>rfl
@[simp] theorem Kw(r:Bool)(f:Bool->OT):OT.gc (.ok r) f=f r:=rfl
@[simp] theorem Iz(c:String)(fs:XF)(f:Bool->OT):OT.gc (.exc c fs) f=.exc c fs:=rfl
@[simp] theorem Iv{p:Prop}[Decidable p](x y:OT)(f:Bool->OT):OT.gc (if p then x else y) f=if p then OT.gc x f else OT.gc y f:=by split<;>rfl
@[simp] theorem LF(r:List PV)(f:List PV->OE):OA.bind (.ok r) f=f r:=rfl
@[simp] theorem K9(c:String)(fs:XF)(f:List PV->OE):OA.bind (.exc c fs) f=.exc c fs:=rfl
@[simp] theorem Lu{p:Prop}[Decidable p](x y:OA)(f:List PV->OE):OA.bind (if p then x else y) f=if p then OA.bind x f else OA.bind y f:=by grind
@[simp] theorem KC(r:List PV)(f:List PV->OA):OA.fJ (.ok r) f=f r:=rfl
@[simp] theorem IW(c:String)(fs:XF)(f:List PV->OA):OA.fJ (.exc c fs) f=.exc c fs:=rfl
@[simp] theorem Im{p:Prop}[Decidable p](x y:OA)(f:List PV->OA):OA.fJ (if p then x else y) f=if p then OA.fJ x f else OA.fJ y f:=by grind
@[simp] theorem ft(ρ:ag)(r:RV)(f:RV->OS):OE.cX ρ (.ok r) f=f r:=rfl
@[simp] theorem Ja(ρ:ag)(c:String)(fs:XF)(f:RV->OS):OE.cX ρ (.exc c fs) f=.exc ρ c fs:=rfl
@[simp] theorem Ij{p:Prop}[Decidable p](ρ:ag)(x y:OE)(f:RV->OS):OE.cX ρ (if p then x else y) f=if p then OE.cX ρ x f else OE.cX ρ y f:=by grind
@[simp] theorem lA(ρ:ag)(r:Bool)(f:Bool->OS):OT.cX ρ (.ok r) f=f r:=rfl
@[simp] theorem IH(ρ:ag)(c:String)(fs:XF)(f:Bool->OS):OT.cX ρ (.exc c fs) f=.exc ρ c fs:=rfl
@[simp] theorem IP{p:Prop}[Decidable p](ρ:ag)(x y:OT)(f:Bool->OS):OT.cX ρ (if p then x else y) f=if p then OT.cX ρ x f else OT.cX ρ y f:=by grind
@[simp] theorem Jm(ρ:ag)(r:List PV)(f:List PV->OS):OA.cX ρ (.ok r) f=f r:=rfl
@[simp] theorem IS(ρ:ag)(c:String)(fs:XF)(f:List PV->OS):OA.cX ρ (.exc c fs) f=.exc ρ c fs:=rfl
@[simp] theorem IG{p:Prop}[Decidable p](ρ:ag)(x y:OA)(f:List PV->OS):OA.cX ρ (if p then x else y) f=if p then OA.cX ρ x f else OA.cX ρ y f:=by split<;>rfl
@[simp] theorem jD(ρ:ag)(k:ag->OS):(OS.nx ρ).andThen k=k ρ:=rfl
@[simp] theorem oo(ρ:ag)(k:ag->OS):(OS.nx ρ).turn k=k ρ:=rfl
@[simp] theorem Jw(ρ:ag)(k:ag->OS):(OS.bk ρ).andThen k=OS.bk ρ:=rfl
@[simp] theorem MN(ρ:ag)(k:ag->OS):(OS.bk ρ).turn k=.nx ρ:=rfl
@[simp] theorem K8(ρ:ag)(k:ag->OS):(OS.ct ρ).andThen k=OS.ct ρ:=rfl
@[simp] theorem M5(ρ:ag)(k:ag->OS):(OS.ct ρ).turn k=k ρ:=rfl
@[simp] theorem vU(ρ:ag)(r:RV)(k:ag->OS):(OS.rt ρ r).andThen k=OS.rt ρ r:=rfl
@[simp] theorem Cr(ρ:ag)(r:RV)(k:ag->OS):(OS.rt ρ r).turn k=OS.rt ρ r:=rfl
@[simp] theorem IC(ρ:ag)(c:String)(fs:XF)(k:ag->OS):(OS.exc ρ c fs).andThen k=OS.exc ρ c fs:=rfl
@[simp] theorem MB(ρ:ag)(c:String)(fs:XF)(k:ag->OS):(OS.exc ρ c fs).turn k=OS.exc ρ c fs:=rfl
@[simp] theorem IU{p:Prop}[Decidable p](x y:OS)(k:ag->OS):OS.andThen (if p then x else y) k=if p then x.andThen k else y.andThen k:=by grind
@[simp] theorem Ma{p:Prop}[Decidable p](x y:OS)(k:ag->OS):OS.turn (if p then x else y) k=if p then x.turn k else y.turn k:=by split<;>rfl
@[simp] theorem Nr(ρ:ag):fin (.nx ρ)=.ok (.sh .non):=rfl
@[simp] theorem NU(ρ:ag)(x:PV):fin (.rt ρ (.sh x))=.ok (.sh x):=rfl
@[simp] theorem NP(ρ:ag)(x:List PV):fin (.rt ρ (.fr x))=.ok (.fr x):=rfl
@[simp] theorem MW(ρ:ag)(c:String)(fs:XF):fin (.exc ρ c fs)=.exc c fs:=rfl
@[simp] theorem MY{p:Prop}[Decidable p](x y:OS):fin (if p then x else y)=if p then fin x else fin y:=by grind
@[simp] theorem Om(x:PV):RV.pv (.sh x)=x:=rfl
@[simp] theorem Ef(x:List PV):RV.pv (.fr x)=.lst x:=rfl
@[simp] theorem Ea(x:List PV):RV.pv (.al x)=.lst x:=rfl
@[simp] theorem x8(r:RV):oE (some r)=.ok r:=rfl
@[simp] theorem M9(r:Bool):oT (some r)=.ok r:=rfl
@[simp] theorem LD(i:Nat)(mb:ag->OS)(ρ:ag):gP i mb [] ρ=.nx ρ:=rfl
@[simp] theorem jF(i:Nat)(mb:ag->OS)(x:PV)(xs:List PV)(ρ:ag):gP i mb (x ::xs) ρ=(mb (ρ.set i (some (.sh x)))).turn (gP i mb xs):=rfl
@[simp] theorem NZ(i j:Int):eY (.int i) (.int j)=some (.sh (.int (i+j))):=rfl
@[simp] theorem Nh(i j:Int):wz (.int i) (.int j)=some (.sh (.int (i - j))):=rfl
@[simp] theorem NW(i j:Int):zG (.int i) (.int j)=if((decide (-(2 ^ 64)<i)&&decide (i<2 ^ 64))||(decide (-(2 ^ 64)<j)&&decide (j<2 ^ 64)))=true then some (.sh (.int (i*j)))else none:=rfl
@[simp] theorem Ni(i j:Int):dA (.int i) (.int j)=if(decide (0<j)&&decide (j<1073741824))=true then some (.sh (.int (i/j)))else none:=rfl
@[simp] theorem Np(i j:Int):cw (.int i) (.int j)=if decide (0<j)=true then some (.sh (.int (i%j)))else none:=rfl
@[simp] theorem N0(i j:Int):gLt (.int i) (.int j)=some (.sh (.bl (decide (i<j)))):=rfl
@[simp] theorem Od(i j:Int):gLe (.int i) (.int j)=some (.sh (.bl (decide (i<=j)))):=rfl
@[simp] theorem N2(i j:Int):gGt (.int i) (.int j)=some (.sh (.bl (decide (j<i)))):=rfl
@[simp] theorem Oh(i j:Int):gGe (.int i) (.int j)=some (.sh (.bl (decide (j<=i)))):=rfl
@[simp] theorem Oo(i j:Int):gEq (.int i) (.int j)=some (.sh (.bl (decide (i=j)))):=rfl
@[simp] theorem Oc(i j:Int):gNe (.int i) (.int j)=some (.sh (.bl (!decide (i=j)))):=rfl
@[simp] theorem Of(i j:Bool):gEq (.bl i) (.bl j)=some (.sh (.bl (decide (i=j)))):=rfl
@[simp] theorem N7(i j:Bool):gNe (.bl i) (.bl j)=some (.sh (.bl (!decide (i=j)))):=rfl
@[simp] theorem Lx(xs:List PV):yF (.lst xs)=some (.sh (.int xs.length)):=rfl
@[simp] theorem NV(xs:List PV):yF (.tup xs)=some (.sh (.int xs.length)):=rfl
@[simp] theorem NT(xs:List PV)(i:Int):ou (.lst xs) (.int i)=(atP xs i).map .sh:=rfl
@[simp] theorem NA(xs:List PV)(i:Int):dw (.tup xs) (.int i)=(atP xs i).map .sh:=rfl
@[simp] theorem JK(xs ys:List PV):iN (.lst xs) (.lst ys)=if xs.length+ys.length<=lim then some (.fr (xs++ys))else none:=rfl
@[simp] theorem NG{p:Prop}[Decidable p](x y:Option RV):oE (if p then x else y)=if p then oE x else oE y:=by grind
@[simp] theorem NM(b:Bool):tT (.bl b)=some b:=rfl
@[simp] theorem Nj(i:Int):tT (.int i)=some (i != 0):=rfl
@[simp] theorem Nb(xs:List PV):tT (.lst xs)=some (!xs.isEmpty):=rfl
@[simp] theorem Nt(xs:List PV):tT (.tup xs)=some (!xs.isEmpty):=rfl
@[simp] theorem NL:tT .non=some false:=rfl
@[simp] theorem LJ(i:Int):isP "int" (.int i)=some true:=rfl
@[simp] theorem Lr(i:Int):isP "bool" (.int i)=some false:=rfl
@[simp] theorem Ln(i:Bool):isP "bool" (.bl i)=some true:=rfl
@[simp] theorem Kn(xs:List PV):isP "list" (.lst xs)=some true:=rfl
@[simp] theorem Nn(xs:List PV)(lo hi:Option Int):DV (.lst xs) lo hi=some (.fr (AD xs lo hi)):=rfl
@[simp] theorem M6:sX .non=none:=rfl
@[simp] theorem M4(i:Int):sX (.int i)=some i:=rfl
@[simp] theorem NX(i:Int):gi (.int i)=some (.sh (.int (-i))):=rfl
@[simp] theorem ML(i:Int):y0 (.int i)=some (.sh (.int i)):=rfl
@[simp] theorem M3(i:Bool):y0 (.bl i)=some (.sh (.int (if i then 1 else 0))):=rfl
@[simp] theorem MM(x:PV):m3 (.sh x)=some x:=rfl
@[simp] theorem MT(x:List PV):m3 (.fr x)=some (.lst x):=rfl
@[simp] theorem MH(x:PV):EG (.sh x)=some (.sh x):=rfl
@[simp] theorem HM(x:List PV):EG (.fr x)=some (.ow x):=rfl
@[simp] theorem Ct(np n:Nat)(m:ag->OS)(xs:List PV):fnP np n m xs=if xs.length=np then fin (m (ko n xs))else .bad:=rfl
@[simp] theorem sP(n:Nat)(xs:List PV):ko n xs=xs.map (fun x=>some (.sh x))++List.replicate (n - xs.length) none:=rfl
@[simp] theorem Bt(xs:List PV):za (.sh (.lst xs))=some xs:=rfl
@[simp] theorem MU(xs:List PV):za (.fr xs)=some xs:=rfl
@[simp] theorem Nx(x:PV):rS x .non=some (.sh (.bl (cC x))):=rfl
@[simp] theorem MK(x:PV):vW x .non=some (.sh (.bl (!cC x))):=rfl
@[simp] theorem F3(xs:List PV):noX (.ok xs)=if xs.length<=lim then .ok (.fr xs)else .bad:=rfl
@[simp] theorem Ka(me:ag->OE)(ρ:ag):dh me ρ []=.ok []:=rfl
@[simp] theorem Kq(f:RV->OE):OE.bind .bad f=.bad:=rfl
@[simp] theorem Jf(f:RV->OT):OE.gc .bad f=.bad:=rfl
@[simp] theorem I0(f:RV->OA):OE.fJ .bad f=.bad:=rfl
@[simp] theorem Jp(f:Bool->OE):OT.bind .bad f=.bad:=rfl
@[simp] theorem I9(f:Bool->OT):OT.gc .bad f=.bad:=rfl
@[simp] theorem Kz(f:List PV->OE):OA.bind .bad f=.bad:=rfl
@[simp] theorem Iw(f:List PV->OA):OA.fJ .bad f=.bad:=rfl
@[simp] theorem IZ(ρ:ag)(f:RV->OS):OE.cX ρ .bad f=.bad:=rfl
@[simp] theorem Jc(ρ:ag)(f:Bool->OS):OT.cX ρ .bad f=.bad:=rfl
@[simp] theorem IE(ρ:ag)(f:List PV->OS):OA.cX ρ .bad f=.bad:=rfl
@[simp] theorem Io(k:ag->OS):OS.bad.andThen k=.bad:=rfl
@[simp] theorem Mu(k:ag->OS):OS.bad.turn k=.bad:=rfl
@[simp] theorem MX:fin .bad=.bad:=rfl
@[simp] theorem MZ:oE none=.bad:=rfl
@[simp] theorem MO:oT none=.bad:=rfl
@[simp] theorem MS(x:List PV):m3 (.al x)=none:=rfl
@[simp] theorem MQ(x:List PV):EG (.al x)=none:=rfl
@[simp] theorem Oi:(0<=lim)=True:=by simp[lim]
@[simp] theorem Og:(1<=lim)=True:=by simp[lim]
@[simp] theorem N4:(2<=lim)=True:=by simp[lim]
@[simp] theorem Oa:(3<=lim)=True:=by simp[lim]
@[simp] theorem N1:(4<=lim)=True:=by simp[lim]
@[simp] theorem Oe:(5<=lim)=True:=by simp[lim]
@[simp] theorem N9:(6<=lim)=True:=by simp[lim]
@[simp] theorem Ob:(7<=lim)=True:=by simp[lim]
@[simp] theorem N5:(8<=lim)=True:=by simp[lim]
@[simp] theorem N8:(9<=lim)=True:=by simp[lim]
@[simp] theorem Nf:(10<=lim)=True:=by simp[lim]
@[simp] theorem NC:(11<=lim)=True:=by simp[lim]
@[simp] theorem Nl:(12<=lim)=True:=by simp[lim]
@[simp] theorem Nk:(13<=lim)=True:=by simp[lim]
@[simp] theorem NH:(14<=lim)=True:=by simp[lim]
@[simp] theorem NK:(15<=lim)=True:=by simp[lim]
@[simp] theorem Nc:(16<=lim)=True:=by simp[lim]
theorem dj{n:Nat}(h:n<=1000000):n<=lim:=by unfold lim;omega
theorem tQ{n:Nat}(h:n<=1000000):n<lim:=by unfold lim;omega
theorem uT{α:Type}(xs:List α)(k:Nat):atP xs (k:Int)=xs[k]?:=by
 unfold atP ixP
 grind
@[simp] theorem N6{α:Type}(xs:List α):atP xs 0=xs[0]?:=uT xs 0
@[simp] theorem N3{α:Type}(xs:List α):atP xs 1=xs[1]?:=uT xs 1
@[simp] theorem MJ{α:Type}(xs:List α)(n:Nat):atP xs (no_index (OfNat.ofNat n:Int))=xs[n]?:=uT xs n
theorem E7{α:Type}(xs:List α)(i:Int)(h:0<=i):atP xs i=xs[i.toNat]?:=by
 have:=uT xs i.toNat
 grind
@[simp] theorem Ol(T:String)(ma:ag->OE)(ρ:ag):mIs T ma ρ=(ma ρ).bind fun a=>oE ((isP T a.pv).map fun b=>.sh (.bl b)):=rfl
@[simp] theorem JC(ns:List Int):tY (ns.map .int)=some ns:=by
  induction ns with
  |nil=>rfl
  |cons n ns ih=>show(tY (ns.map .int)).map (n ::·)=_;rw[ih];rfl
@[simp] theorem uq(ns:List Bool):qa (ns.map .bl)=some ns:=by
  induction ns with
  |nil=>rfl
  |cons n ns ih=>show(qa (ns.map .bl)).map (n ::·)=_;rw[ih];rfl
@[simp] theorem Jj(n:Nat):(dE n).length=n:=by simp[dE]
theorem jK{me:ag->OE}{ρ:ag}{α:Type}{g:α->PV}{f:α->PV}(l:List α)(h:∀ a∈l,me (ρ++[some (.sh (g a))])=.ok (.sh (f a))):dh me ρ (l.map g)=.ok (l.map f):=by
 induction l with
 |nil=>rfl
 | cons a l ih=>
   have h1:=h a (List.mem_cons_self)
   have h2:=ih fun b hb=>h b (List.mem_cons_of_mem _ hb)
   simp[dh,h1,h2]
end L2.P
namespace L2.P
open PySem PySem.Spec PyProof.Rows L2 L2.E
mutual
noncomputable def Rep(K:PySem.W.Frag)(S:Hp):PV->V->Prop
 |.non,v=>v=.non
 |.bl b,v=>v=.bl b
 |.int i,v=>v=.int i
 |.str s,v=>v=.str s
 |.lst xs,v=>∃ p vs,v=.ref p /\ SqL K S p vs /\ bw K S xs vs
 |.tup xs,v=>∃ p vs,v=.ref p /\ SqT K S p vs /\ bw K S xs vs
noncomputable def bw(K:PySem.W.Frag)(S:Hp):List PV->List V->Prop
 |[],vs=>vs=[]
 |x ::xs,vs=>∃ v r,vs=v ::r /\ Rep K S x v /\ bw K S xs r
end
theorem _root_.L2.aK.tup{K:PySem.W.Frag}(e:aK H H')(h:SqT K H a xs):SqT K H' a xs:=by
 rcases h with(h|⟨o,h⟩)|h
 . exact .inl (.inl (e _ _ h))
 . exact .inl (.inr ⟨o,e _ _ h⟩)
 . exact .inr h
section
variable{K:PySem.W.Frag}{S S':Hp}
mutual
theorem Rep.mono(s:aK S S'):∀{x:PV} {v:V},Rep K S x v->Rep K S' x v
 |.non,_,h=>by unfold Rep at h ⊢;exact h
 |.bl _,_,h=>by unfold Rep at h ⊢;exact h
 |.int _,_,h=>by unfold Rep at h ⊢;exact h
 |.str _,_,h=>by unfold Rep at h ⊢;exact h
 | .lst _,_,h=>by
   unfold Rep at h ⊢
   obtain⟨p,vs,e,q,r⟩:=h
   exact⟨p,vs,e,aK.seq s q,bw.mono s r⟩
 | .tup _,_,h=>by
   unfold Rep at h ⊢
   obtain⟨p,vs,e,q,r⟩:=h
   exact⟨p,vs,e,aK.tup s q,bw.mono s r⟩
theorem bw.mono(s:aK S S'):∀{xs:List PV} {vs:List V},bw K S xs vs->bw K S' xs vs
 |[],_,h=>by unfold bw at h ⊢;exact h
 | _ ::_,_,h=>by
   unfold bw at h ⊢
   obtain⟨v,r,e,q,t⟩:=h
   exact⟨v,r,e,Rep.mono s q,bw.mono s t⟩
end
theorem bw.nil:bw K S [] []:=by unfold bw;rfl
theorem bw.cons(h:Rep K S x v)(t:bw K S xs vs):bw K S (x ::xs) (v ::vs):=by unfold bw;exact⟨v,vs,rfl,h,t⟩
theorem bw.nil_inv(h:bw K S [] vs):vs=[]:=by unfold bw at h;exact h
theorem bw.cons_inv(h:bw K S (x ::xs) vs):∃ v r,vs=v ::r /\ Rep K S x v /\ bw K S xs r:=by unfold bw at h;exact h
theorem bw.append(h:bw K S xs vs)(t:bw K S ys us):bw K S (xs++ys) (vs++us):=by
 induction xs generalizing vs with
 |nil=>rw[h.nil_inv];exact t
 | cons x xs ih=>
   obtain⟨v,r,rfl,q,h'⟩:=h.cons_inv;exact .cons q (ih h')
theorem bw.length{xs:List PV}{vs:List V}(h:bw K S xs vs):vs.length=xs.length:=by
 induction xs generalizing vs with
 |nil=>rw[h.nil_inv];rfl
 | cons x xs ih=>
   obtain⟨v,r,rfl,q,h'⟩:=h.cons_inv;simp[ih h']
theorem bw.get(h:bw K S xs vs):∀{i:Nat} {x:PV},xs[i]?=some x->∃ v,vs[i]?=some v /\ Rep K S x v:=by
 induction xs generalizing vs with
 |nil=>intro i x e;simp at e
 | cons y xs ih=>
   obtain⟨v,r,rfl,q,h'⟩:=h.cons_inv;intro i x e
   cases i with
   |zero=>simp at e;subst e;exact⟨v,rfl,q⟩
   |succ i=>simp at e;obtain⟨u,e1,e2⟩:=ih h' e;exact⟨u,by simpa using e1,e2⟩
theorem bw.Mi{xs:List PV}{vs:List V}(h:bw K S xs vs){i:Nat}{v:V}(e:vs[i]?=some v):∃ x,xs[i]?=some x /\ Rep K S x v:=by
 have hi:i<xs.length:=by rw[<- h.length];exact(List.getElem?_eq_some_iff.mp e).1
 obtain⟨u,e1,e2⟩:=h.get (i:=i) (x:=xs[i]) (by simp[hi]);rw[e]at e1;cases e1
 exact⟨_,by simp[hi],e2⟩
theorem bw.take{xs:List PV}{vs:List V}(h:bw K S xs vs):∀ n,bw K S (xs.take n) (vs.take n):=by
 induction xs generalizing vs with
 |nil=>intro n;rw[h.nil_inv];simpa using bw.nil
 | cons y xs ih=>
   obtain⟨v,r,rfl,q,h'⟩:=h.cons_inv;intro n
   cases n with
   |zero=>exact .nil
   |succ n=>exact .cons q (ih h' n)
theorem bw.drop{xs:List PV}{vs:List V}(h:bw K S xs vs):∀ n,bw K S (xs.drop n) (vs.drop n):=by
 induction xs generalizing vs with
 |nil=>intro n;rw[h.nil_inv];simpa using bw.nil
 | cons y xs ih=>
   obtain⟨v,r,rfl,q,h'⟩:=h.cons_inv;intro n
   cases n with
   |zero=>exact .cons q h'
   |succ n=>exact ih h' n
theorem bw.ints{ns:List Int}:bw K S (ns.map .int) (ns.map V.int):=by
 induction ns with
 |nil=>exact .nil
 |cons n ns ih=>exact .cons (by unfold Rep;rfl) ih
theorem bw.Ag{ns:List Int}(h:bw K S (ns.map .int) vs):vs=ns.map V.int:=by
 induction ns generalizing vs with
 |nil=>exact h.nil_inv
 | cons n ns ih=>
   obtain⟨v,r,rfl,q,h'⟩:=h.cons_inv;unfold Rep at q;rw[ih h',q];rfl
end
noncomputable def pR(K:PySem.W.Frag)(cls:String->Option Addr)(S H:Hp)(c:String)(fs:XF)(a C:Addr):Prop:=
 cls c=some C /\ ∃ dx,H a=some (Bj a C dx) /\ (fs=[] \/ ∃ d us,dx=some d /\ H d=some (.xd us) /\ fs.map (·.1)=us.map (·.1) /\ bw K S (fs.map (·.2)) (us.map (·.2)))
noncomputable def isX:HO->Bool
 |.ext _=>true
 |.xd _=>true
 |_=>false
noncomputable def tE(K:PySem.W.Frag)(S:Hp)(kvs:List (Int×PV))(us:List (Key×V)):Prop:=Paired (fun (p:Int×PV) (q:Key×V)=>q.1=Sum.inl p.1 /\ Rep K S p.2 q.2) kvs us
noncomputable def Ah(K:PySem.W.Frag)(S:Hp)(kvs:List (List Int×PV))(us:List (List Key×Addr×V)):Prop:=Paired (fun (p:List Int×PV) (q:List Key×Addr×V)=>q.1=p.1.map Sum.inl /\ Rep K S (.tup (p.1.map .int)) (.ref q.2.1) /\ Rep K S p.2 q.2.2) kvs us
theorem tE.mono{K:PySem.W.Frag}(s:aK S S'):∀{kvs:List (Int×PV)} {us:List (Key×V)},tE K S kvs us->tE K S' kvs us
 |_,_,.nil=>.nil
 |_,_,.cons h t=>.cons ⟨h.1,Rep.mono s h.2⟩ (tE.mono s t)
theorem Ah.mono{K:PySem.W.Frag}(s:aK S S'):∀{kvs:List (List Int×PV)} {us:List (List Key×Addr×V)},Ah K S kvs us->Ah K S' kvs us
 |_,_,.nil=>.nil
 |_,_,.cons h t=>.cons ⟨h.1,Rep.mono s h.2.1,Rep.mono s h.2.2⟩ (Ah.mono s t)
mutual
noncomputable def bU(K:PySem.W.Frag)(cls:String->Option Addr)(S H:Hp):OV->V->List Addr->Prop
 |.sh x,v,fp=>fp=[] /\ Rep K S x v
 |.ol ts,v,fp=>∃ p vs f,v=.ref p /\ H p=some (.lst vs) /\ fp=p ::f /\ bK K cls S H ts vs f
 |.ob c ks ts,v,fp=>∃ p C dx us f,v=.ref p /\ cls c=some C /\ H p=some (.ins C dx us) /\ H dx=some (.own p) /\ us.map (·.1)=ks /\ fp=p ::dx ::f /\ bK K cls S H ts (us.map (·.2)) f
 |.di kvs,v,fp=>∃ p us,v=.ref p /\ H p=some (.dK us) /\ fp=[p] /\ tE K S kvs us
 |.dt kvs,v,fp=>∃ p us,v=.ref p /\ H p=some (.dT us) /\ fp=[p] /\ Ah K S kvs us
noncomputable def bK(K:PySem.W.Frag)(cls:String->Option Addr)(S H:Hp):List OV->List V->List Addr->Prop
 |[],vs,fp=>vs=[] /\ fp=[]
 |t ::ts,vs,fp=>∃ v r f1 f2,vs=v ::r /\ fp=f1++f2 /\ bU K cls S H t v f1 /\ bK K cls S H ts r f2
end
noncomputable def uH(K:PySem.W.Frag)(cls:String->Option Addr)(Av G S H:Hp)(i:Nat):Sl->V->List Addr->Prop
 |.sh x,v,fp=>fp=[] /\ Rep K S x v
 |.ow xs,v,fp=>∃ p vs,v=.ref p /\ fp=[p] /\ G p=none /\ S p=none /\ H p=some (.lst vs) /\ bw K S xs vs
 |.ex c fs,v,fp=>fp=[] /\ ∃ a C,v=.ref a /\ pR K cls S H c fs a C
 |.tr io t,v,fp=>bU K cls S H t v fp /\ fp.Nodup /\ (∀ a∈fp,G a=none /\ S a=none) /\ (io=true->Av i=some (.lst [v]))
 |.bo t,v,fp=>fp=[] /\ ∃ f,bU K cls S G t v f
noncomputable def IT(K:PySem.W.Frag)(cls:String->Option Addr)(G S H:Hp):Sl->V->Prop
 |.sh x,v=>Rep K S x v
 |.ow xs,v=>∃ p vs,v=.ref p /\ G p=none /\ S p=none /\ H p=some (.lst vs) /\ bw K S xs vs
 |.ex c fs,v=>∃ a C,v=.ref a /\ pR K cls S H c fs a C
 |_,_=>True
noncomputable def m9(K:PySem.W.Frag)(B S H:Hp):RV->V->Prop
 |.sh x,v=>Rep K S x v
 |.fr xs,v=>∃ p vs,v=.ref p /\ B p=none /\ S p=none /\ H p=some (.lst vs) /\ bw K S xs vs
 |.al xs,v=>∃ p vs,v=.ref p /\ SqL K H p vs /\ bw K S xs vs
noncomputable def RdV(K:PySem.W.Frag)(S H:Hp):PV->V->Prop
 |.lst xs,v=>∃ p vs,v=.ref p /\ SqL K H p vs /\ bw K S xs vs
 |x,v=>Rep K S x v
structure SRF(K:PySem.W.Frag)(cls:String->Option Addr)(Av G S₀:Hp)(ρ:ag)(σ:St)(S H:Hp)(F:Nat->List Addr):Prop where
 gh:aK G H
 s0:aK S₀ S
 sh:aK S H
 new:∀ b,S b≠none->S₀ b≠none \/ G b=none
 own:∀(i:Nat) (s:Sl),ρ[i]?=some (some s)->∃ v,σ[i]?=some (some v) /\ uH K cls Av G S H i s v (F i)
 apart:∀ i j a,a∈F i->a∈F j->i=j
 live:∀ i a,a∈F i->(∃ o,H a=some o /\ isX o=false) /\ G a=none /\ S a=none
 len:ρ.length=σ.length
noncomputable def SR(K:PySem.W.Frag)(cls:String->Option Addr)(Av G S₀:Hp)(ρ:ag)(σ:St)(S H:Hp):Prop:=∃ F,SRF K cls Av G S₀ ρ σ S H F
section
variable{K:PySem.W.Frag}{cls:String->Option Addr}{Av G S₀ S S' H H' B:Hp}{ρ:ag}{σ:St}{F:Nat->List Addr}
theorem SR.gh(I:SR K cls Av G S₀ ρ σ S H):aK G H:=let ⟨_,J⟩:=I;J.gh
theorem SR.s0(I:SR K cls Av G S₀ ρ σ S H):aK S₀ S:=let ⟨_,J⟩:=I;J.s0
theorem SR.sh(I:SR K cls Av G S₀ ρ σ S H):aK S H:=let ⟨_,J⟩:=I;J.sh
theorem SR.new(I:SR K cls Av G S₀ ρ σ S H):∀ b,S b≠none->S₀ b≠none \/ G b=none:=let ⟨_,J⟩:=I;J.new
theorem SR.len(I:SR K cls Av G S₀ ρ σ S H):ρ.length=σ.length:=let ⟨_,J⟩:=I;J.len
theorem uH.one(h:uH K cls Av G S H i s v fp):IT K cls G S H s v:=by
 cases s with
 |sh x=>exact h.2
 |ow xs=>obtain⟨p,vs,e,_,r⟩:=h;exact⟨p,vs,e,r⟩
 |ex c fs=>exact h.2
 |tr io t=>trivial
 |bo t=>trivial
theorem SR.good(I:SR K cls Av G S₀ ρ σ S H)(i:Nat)(s:Sl)(e:ρ[i]?=some (some s)):∃ v,σ[i]?=some (some v) /\ IT K cls G S H s v:=by
 obtain⟨F,J⟩:=I;obtain⟨v,e1,r⟩:=J.own i s e
 exact⟨v,e1,r.one⟩
theorem pR.mono(h:pR K cls S H c fs a C)(s:aK S S')(g:aK H H'):pR K cls S' H' c fs a C:=by
 obtain⟨h1,dx,h2,h3⟩:=h
 refine⟨h1,dx,g _ _ h2,?_⟩
 rcases h3 with h3|⟨d,us,e1,e2,e3,e4⟩
 . simp_all
 . exact .inr ⟨d,us,e1,g _ _ e2,e3,e4.mono s⟩
theorem pR.Me(h:pR K cls S H c fs a C)(s:aK S S')(g:∀ b o,isX o=true->H b=some o->H' b=some o):pR K cls S' H' c fs a C:=by
 obtain⟨h1,dx,h2,h3⟩:=h
 refine⟨h1,dx,g _ _ rfl h2,?_⟩
 rcases h3 with h3|⟨d,us,e1,e2,e3,e4⟩
 . simp_all
 . exact .inr ⟨d,us,e1,g _ _ rfl e2,e3,e4.mono s⟩
mutual
theorem bU.mono(s:aK S S'):∀{t:OV} {v:V} {fp:List Addr},bU K cls S H t v fp->(∀ a∈fp,∀ o,H a=some o->H' a=some o)->bU K cls S' H' t v fp
 |.sh _,_,_,h,_=>by unfold bU at h ⊢;exact⟨h.1,Rep.mono s h.2⟩
 | .ol _,_,_,h,g=>by
   unfold bU at h ⊢
   obtain⟨p,vs,f,e,q,e2,r⟩:=h;subst e2
   exact⟨p,vs,f,e,g p (by simp) _ q,rfl,bK.mono s r fun a ha=>g a (by simp[ha])⟩
 | .ob _ _ _,_,_,h,g=>by
   unfold bU at h ⊢
   obtain⟨p,C,dx,us,f,e,c,q,q2,k,e2,r⟩:=h;subst e2
   exact⟨p,C,dx,us,f,e,c,g p (by simp) _ q,g dx (by simp) _ q2,k,rfl,bK.mono s r fun a ha=>g a (by simp[ha])⟩
 | .di _,_,_,h,g=>by
   unfold bU at h ⊢
   obtain⟨p,us,e,q,e2,r⟩:=h;subst e2
   exact⟨p,us,e,g p (by simp) _ q,rfl,r.mono s⟩
 | .dt _,_,_,h,g=>by
   unfold bU at h ⊢
   obtain⟨p,us,e,q,e2,r⟩:=h;subst e2
   exact⟨p,us,e,g p (by simp) _ q,rfl,r.mono s⟩
theorem bK.mono(s:aK S S'):∀{ts:List OV} {vs:List V} {fp:List Addr},bK K cls S H ts vs fp->(∀ a∈fp,∀ o,H a=some o->H' a=some o)->bK K cls S' H' ts vs fp
 |[],_,_,h,_=>by unfold bK at h ⊢;exact h
 | _ ::_,_,_,h,g=>by
   unfold bK at h ⊢
   obtain⟨v,r,f1,f2,e,e2,q,t⟩:=h;subst e2
   exact⟨v,r,f1,f2,e,rfl,bU.mono s q fun a ha=>g a (List.mem_append_left _ ha),bK.mono s t fun a ha=>g a (List.mem_append_right _ ha)⟩
end
mutual
theorem bU.live:∀{t:OV} {v:V} {fp:List Addr},bU K cls S H t v fp->∀ a∈fp,∃ o,H a=some o /\ isX o=false
 |.sh _,_,_,h,a,ha=>by unfold bU at h;rw[h.1]at ha;cases ha
 | .ol _,_,_,h,a,ha=>by
   unfold bU at h;obtain⟨p,vs,f,e,q,e2,r⟩:=h;subst e2
   rcases List.mem_cons.mp ha with z|z
   . subst z;exact⟨_,q,rfl⟩
   . exact bK.live r a z
 | .ob _ _ _,_,_,h,a,ha=>by
   unfold bU at h;obtain⟨p,C,dx,us,f,e,c,q,q2,k,e2,r⟩:=h;subst e2
   rcases List.mem_cons.mp ha with z|z
   . subst z;exact⟨_,q,rfl⟩
   . rcases List.mem_cons.mp z with z|z
     . subst z;exact⟨_,q2,rfl⟩
     . exact bK.live r a z
 | .di _,_,_,h,a,ha=>by
   unfold bU at h;obtain⟨p,us,e,q,e2,r⟩:=h;subst e2
   have z:a=p:=by simpa using ha
   subst z
   exact⟨_,q,rfl⟩
 | .dt _,_,_,h,a,ha=>by
   unfold bU at h;obtain⟨p,us,e,q,e2,r⟩:=h;subst e2
   have z:a=p:=by simpa using ha
   subst z
   exact⟨_,q,rfl⟩
theorem bK.live:∀{ts:List OV} {vs:List V} {fp:List Addr},bK K cls S H ts vs fp->∀ a∈fp,∃ o,H a=some o /\ isX o=false
 |[],_,_,h,a,ha=>by unfold bK at h;rw[h.2]at ha;cases ha
 | _ ::_,_,_,h,a,ha=>by
   unfold bK at h;obtain⟨v,r,f1,f2,e,e2,q,t⟩:=h;subst e2
   rcases List.mem_append.mp ha with z|z
   . exact bU.live q a z
   . exact bK.live t a z
end
theorem uH.mono(h:uH K cls Av G S H i sl v fp)(s:aK S S')(g:∀ a∈fp,∀ o,H a=some o->H' a=some o)(x:∀ b o,isX o=true->H b=some o->H' b=some o)(n:∀ a∈fp,S' a=none):uH K cls Av G S' H' i sl v fp:=by
 cases sl with
 |sh y=>exact⟨h.1,Rep.mono s h.2⟩
 | ow xs=>
   obtain⟨p,vs,e,e2,h1,h2,h3,h4⟩:=h;subst e2
   exact⟨p,vs,e,rfl,h1,n p (by simp),g p (by simp) _ h3,h4.mono s⟩
 |ex c fs=>obtain⟨e,a,C,e2,q⟩:=h;exact⟨e,a,C,e2,q.Me s x⟩
 |tr io t=>exact⟨h.1.mono s g,h.2.1,fun a ha=>⟨(h.2.2.1 a ha).1,n a ha⟩,h.2.2.2⟩
 |bo t=>obtain⟨e,f,r⟩:=h;exact⟨e,f,r.mono s fun _ _ _ z=>z⟩
theorem RdV.mono(h:RdV K S H x v)(s:aK S S')(g:aK H H'):RdV K S' H' x v:=by
 cases x with
 |lst xs=>obtain⟨p,vs,e,q,r⟩:=h;exact⟨p,vs,e,aK.seq g q,r.mono s⟩
 |non=>exact Rep.mono s h
 |bl b=>exact Rep.mono s h
 |int i=>exact Rep.mono s h
 |str x=>exact Rep.mono s h
 |tup xs=>exact Rep.mono s h
theorem Rep.rd(h:Rep K S x v)(g:aK S H):RdV K S H x v:=by
 cases x with
 |lst xs=>unfold Rep at h;obtain⟨p,vs,e,q,r⟩:=h;exact⟨p,vs,e,aK.seq g q,r⟩
 |non=>exact h
 |bl b=>exact h
 |int i=>exact h
 |str x=>exact h
 |tup xs=>exact h
theorem m9.rd{r:RV}(h:m9 K B S H r v)(g:aK S H):RdV K S H r.pv v:=by
 cases r with
 |sh x=>exact Rep.rd h g
 |fr xs=>obtain⟨p,vs,e,_,_,q,r⟩:=h;exact⟨p,vs,e,SqL.new q,r⟩
 |al xs=>exact h
theorem SRF.change(I:SRF K cls Av G S₀ ρ σ S H F)(gh:aK G H')(s:aK S S')(sh:aK S' H')(new:∀ b,S' b≠none->S₀ b≠none \/ G b=none)
  (g:∀ i a,a∈F i->∀ o,H a=some o->H' a=some o) (x:∀ b o,isX o=true->H b=some o->H' b=some o) (n:∀ i a,a∈F i->S' a=none):SRF K cls Av G S₀ ρ σ S' H' F where
 gh:=gh
 s0:=I.s0.trans s
 sh:=sh
 new:=new
 own:=fun i t e=>by
  obtain⟨v,e1,r⟩:=I.own i t e
  exact⟨v,e1,r.mono s (fun a ha=>g i a ha) x fun a ha=>n i a ha⟩
 apart:=I.apart
 live:=fun i a ha=>by
  obtain⟨⟨o,h1,h2⟩,h3,_⟩:=I.live i a ha
  exact⟨⟨o,g i a ha o h1,h2⟩,h3,n i a ha⟩
 len:=I.len
theorem SRF.same(I:SRF K cls Av G S₀ ρ σ S H F)(g:aK H H'):SRF K cls Av G S₀ ρ σ S H' F:=
 I.change (I.gh.trans g) (aK.refl _) (I.sh.trans g) I.new (fun _ _ _ o e=>g _ _ e) (fun _ _ _ e=>g _ _ e) fun i a ha=>(I.live i a ha).2.2
theorem SR.same(I:SR K cls Av G S₀ ρ σ S H)(g:aK H H'):SR K cls Av G S₀ ρ σ S H':=let ⟨F,J⟩:=I;⟨F,J.same g⟩
theorem set_inv{α:Type}{l:List (Option α)}{x:Option α}{s:α}(h:(l.set i x)[j]?=some (some s)):(j=i /\ x=some s /\ i<l.length) \/ (j≠i /\ l[j]?=some (some s)):=by grind
theorem Km{α:Type}{l:List (Option α)}{x:Option α}(h:i<l.length):(l.set i x)[i]?=some x:=by simp_all
noncomputable def oK(F:Nat->List Addr)(i:Nat)(fp:List Addr):Nat->List Addr:=fun j=>if j=i then fp else F j
theorem js:oK F i fp i=fp:=by unfold oK;rw[if_pos rfl]
theorem fA(h:j≠i):oK F i fp j=F j:=by unfold oK;rw[if_neg h]
theorem SRF.put(I:SRF K cls Av G S₀ ρ σ S H F)(h:∀ t,s=some t->∃ v,u=some v /\ uH K cls Av G S H i t v fp)
  (hl:∀ a∈fp,(∃ o,H a=some o /\ isX o=false) /\ G a=none /\ S a=none) (ap:∀ j a,j≠i->a∈fp->a∉F j):SRF K cls Av G S₀ (ρ.set i s) (σ.set i u) S H (oK F i fp) where
 gh:=I.gh
 s0:=I.s0
 sh:=I.sh
 new:=I.new
 own:=fun j t e=>by
  rcases set_inv e with⟨rfl,e1,hl⟩|⟨ne,e1⟩
  . obtain⟨v,e2,r⟩:=h t e1
    exact⟨v,by rw[Km (by rw[<- I.len];exact hl),e2],by rw[js];exact r⟩
  . rw[List.getElem?_set_ne (Ne.symm ne),fA ne];exact I.own j t e1
 apart:=fun j k a h1 h2=>by
  by_cases ej:j=i
  . by_cases ek:k=i
    . rw[ej,ek]
    . subst ej;rw[js]at h1;rw[fA ek]at h2;exact absurd h2 (ap k a ek h1)
  . by_cases ek:k=i
    . subst ek;rw[js]at h2;rw[fA ej]at h1;exact absurd h1 (ap j a ej h2)
    . rw[fA ej]at h1;rw[fA ek]at h2;exact I.apart j k a h1 h2
 live:=fun j a ha=>by
  by_cases ej:j=i
  . subst ej;rw[js]at ha;exact hl a ha
  . rw[fA ej]at ha;exact I.live j a ha
 len:=by simp[I.len]
theorem SR.BK(I:SR K cls Av G S₀ ρ σ S H)(h:Rep K S x v):SR K cls Av G S₀ (ρ.set i (some (.sh x))) (σ.set i (some v)) S H:=by
 obtain⟨F,J⟩:=I
 exact⟨_,J.put (fp:=[]) (fun t e=>by cases e;exact⟨v,rfl,rfl,h⟩) (fun a ha=>nomatch ha) fun j a _ ha=>nomatch ha⟩
theorem SR.Mq(I:SR K cls Av G S₀ ρ σ S H):SR K cls Av G S₀ (ρ.set i none) (σ.set i v) S H:=by
 obtain⟨F,J⟩:=I
 exact⟨_,J.put (fp:=[]) (fun t e=>nomatch e) (fun a ha=>nomatch ha) fun j a _ ha=>nomatch ha⟩
theorem lK{α:Type}{l:List α}{x:α}(h:l[i]?=some x):l.set i x=l:=by
 apply List.ext_getElem?
 grind
theorem SR.drop(I:SR K cls Av G S₀ ρ σ S H):SR K cls Av G S₀ (ρ.set i none) σ S H:=by
 cases e:σ[i]? with
 |some v=>have:=I.Mq (i:=i) (v:=v);rwa [lK e]at this
 | none=>
   have h1:σ.length<=i:=List.getElem?_eq_none_iff.mp e
   rw[List.set_eq_of_length_le (by rw[I.len];exact h1)];exact I
theorem SR.mut(I:SR K cls Av G S₀ ρ σ S H)(hi:ρ[i]?=some (some (.ow xs)))(hv:σ[i]?=some (some (.ref p)))(hr:bw K S ys us):SR K cls Av G S₀ (ρ.set i (some (.ow ys))) σ S (upd H p (.lst us)):=by
 obtain⟨F,J⟩:=I;obtain⟨v,e1,q,vs,e2,e3,hG,hS,hH,_⟩:=J.own i _ hi;rw[hv]at e1;cases e1;cases e2
 have J1:SRF K cls Av G S₀ (ρ.set i none) (σ.set i none) S H (oK F i []):=J.put (fun t e=>nomatch e) (fun a ha=>nomatch ha) fun j a _ ha=>nomatch ha
 have off:∀ j a,a∈oK F i [] j->a≠p:=fun j a ha z=>by
  by_cases ej:j=i
  . subst ej;rw[js]at ha;cases ha
  . rw[fA ej]at ha;exact ej (J.apart j i a ha (by rw[e3,z];simp))
 have J2:=J1.change (H':=upd H p (.lst us)) (J.gh.upd hG) (aK.refl _) (J.sh.upd hS) J.new (fun j a ha o h=>by rw[bH (off j a ha)];exact h)
  (fun b o hx h=>by
    rw[bH]
    . exact h
    . intro z;rw[z,hH]at h;cases h;cases hx)
  fun j a ha=>(J1.live j a ha).2.2
 have J3:=J2.put (i:=i) (s:=some (.ow ys)) (u:=some (.ref p)) (fp:=[p]) (fun t e=>by cases e;exact⟨_,rfl,p,us,rfl,rfl,hG,hS,bP,hr⟩) (fun a ha=>by
  have z:a=p:=by simpa using ha
  subst z
  exact⟨⟨_,bP,rfl⟩,hG,hS⟩) fun j a hj ha hz=>by
   have z:a=p:=by simpa using ha
   exact off j a hz z
 rw[List.set_set,List.set_set,lK hv]at J3
 exact⟨_,J3⟩
theorem SR.MA(I:SR K cls Av G S₀ ρ σ S H)(hi:ρ[i]?=some (some (.ow xs))):∃ S',aK S S' /\ SR K cls Av G S₀ (ρ.set i (some (.sh (.lst xs)))) σ S' H:=by
 obtain⟨F,J⟩:=I;obtain⟨v,hv,p,vs,e2,e3,hG,hS,hH,hr⟩:=J.own i _ hi;subst e2
 have J1:SRF K cls Av G S₀ (ρ.set i none) (σ.set i none) S H (oK F i []):=J.put (fun t e=>nomatch e) (fun a ha=>nomatch ha) fun j a _ ha=>nomatch ha
 have off:∀ j a,a∈oK F i [] j->a≠p:=fun j a ha z=>by
  by_cases ej:j=i
  . subst ej;rw[js]at ha;cases ha
  . rw[fA ej]at ha;exact ej (J.apart j i a ha (by rw[e3,z];simp))
 have J2:=J1.change (S':=upd S p (.lst vs)) (H':=H) J.gh (aK.new hS) (fun b u h=>by
   by_cases e:b=p
   . subst e;rw[bP]at h;cases h;exact hH
   . rw[bH e]at h;exact J.sh b u h) (fun b h=>by
   by_cases e:b=p
   . subst e;exact .inr hG
   . rw[bH e]at h;exact J.new b h) (fun _ _ _ _ h=>h) (fun _ _ _ h=>h) fun j a ha=>by
     rw[bH (off j a ha)];exact(J1.live j a ha).2.2
 have J3:=J2.put (i:=i) (s:=some (.sh (.lst xs))) (u:=some (.ref p)) (fp:=[]) (fun t e=>by
  cases e
  refine⟨_,rfl,rfl,?_⟩
  unfold Rep
  exact⟨p,vs,rfl,SqL.new bP,hr.mono (aK.new hS)⟩) (fun a ha=>nomatch ha) fun j a _ ha=>nomatch ha
 rw[List.set_set,List.set_set,lK hv]at J3
 exact⟨_,aK.new hS,_,J3⟩
end
structure bq(S H S' H':Hp):Prop where
 s:aK S S'
 g:aK H H'
 sh:aK S' H'
 new:∀ b,S' b≠none->S b≠none \/ H b=none
theorem bq.refl(h:aK S H):bq S H S H:=⟨aK.refl _,aK.refl _,h,fun _ z=>.inl z⟩
theorem bq.trans(a:bq S H S1 H1)(b:bq S1 H1 S2 H2):bq S H S2 H2:=
 ⟨a.s.trans b.s,a.g.trans b.g,b.sh,fun x h=>by
   rcases b.new x h with z|z
   . exact a.new x z
   . exact .inr (a.g.free z)⟩
theorem SRF.grow{K:PySem.W.Frag}{cls:String->Option Addr}{F:Nat->List Addr}(I:SRF K cls Av G S₀ ρ σ S H F)(w:bq S H S' H'):SRF K cls Av G S₀ ρ σ S' H' F:=
 I.change (I.gh.trans w.g) w.s w.sh (fun b h=>by
  rcases w.new b h with z|z
  . exact I.new b z
  . exact .inr (I.gh.free z)) (fun i a _ o h=>w.g _ _ h) (fun b o _ h=>w.g _ _ h) fun i a ha=>by
    obtain⟨⟨o,h1,_⟩,_,h3⟩:=I.live i a ha
    cases q:S' a with
    |none=>rfl
    | some o=>
      rcases w.new a (by rw[q];simp)with z|z
      . simp_all
      . simp_all
theorem SR.grow{K:PySem.W.Frag}{cls:String->Option Addr}(I:SR K cls Av G S₀ ρ σ S H)(w:bq S H S' H'):SR K cls Av G S₀ ρ σ S' H':=let ⟨F,J⟩:=I;⟨F,J.grow w⟩
theorem SR.Mt{K:PySem.W.Frag}{cls:String->Option Addr}{ρ:ag}{σ:St}(I:SR K cls Av G S₀ ρ σ S H)(w:bq S H S' H')(h:m9 K H S' H' (.fr xs) v):SR K cls Av G S₀ (ρ.set i (some (.ow xs))) (σ.set i (some v)) S' H':=by
 obtain⟨F,J⟩:=I;obtain⟨p,vs,rfl,hB,hS,hH,hr⟩:=h;have hG:=J.gh.free hB
 refine⟨_,(J.grow w).put (fun t e=>by cases e;exact⟨_,rfl,p,vs,rfl,rfl,hG,hS,hH,hr⟩) (fun a ha=>?_) fun j a _ ha hz=>?_⟩
 . have z:a=p:=by simpa using ha
   subst z
   exact⟨⟨_,hH,rfl⟩,hG,hS⟩
 . have z:a=p:=by simpa using ha
   obtain⟨⟨o,h1,_⟩,_⟩:=J.live j a hz
   simp_all
theorem bq.heap(h:aK S H)(hp:H p=none):bq S H S (upd H p o):=⟨aK.refl _,aK.new hp,h.trans (aK.new hp),fun _ z=>.inl z⟩
theorem bq.both(h:aK S H)(hp:H p=none):bq S H (upd S p o) (upd H p o):=by
 have hS:=h.free hp
 refine⟨aK.new hS,aK.new hp,fun b u z=>?_,fun b z=>?_⟩
 . by_cases e:b=p
   . subst e;rw[bP]at z ⊢;exact z
   . rw[bH e]at z ⊢;exact h b u z
 . by_cases e:b=p
   . simp_all
   . rw[bH e]at z;exact .inl z
section
variable(K:PySem.W.Frag)(cls:String->Option Addr)(W:XW)
noncomputable def lV(σ:St)(S H:Hp)(Q:VK):OE->Prop
 |.ok r=>∀ v S' H',bq S H S' H'->m9 K H S' H' r v->Q v H'
 |.exc c fs=>∀ a C S' H',bq S H S' H'->pR K cls S' H' c fs a C->W (.ref C) (some a) σ H'
 |.bad=>False
noncomputable def uz(σ:St)(S H:Hp)(Q:Bool->Hp->Prop):OT->Prop
 |.ok b=>∀ S' H',bq S H S' H'->Q b H'
 |.exc c fs=>∀ a C S' H',bq S H S' H'->pR K cls S' H' c fs a C->W (.ref C) (some a) σ H'
 |.bad=>False
noncomputable def xm(σ:St)(S H:Hp)(Q:List V->Hp->Prop):OA->Prop
 |.ok xs=>∀ vs S' H',bq S H S' H'->bw K S' xs vs->Q vs H'
 |.exc c fs=>∀ a C S' H',bq S H S' H'->pR K cls S' H' c fs a C->W (.ref C) (some a) σ H'
 |.bad=>False
noncomputable def ji(Av G S₀:Hp)(S:Hp)(D:Ends):OS->Prop
 |.nx ρ=>∀ σ' S' H',SR K cls Av G S₀ ρ σ' S' H'->aK S S'->D.nx σ' H'
 |.bk ρ=>∀ σ' S' H',SR K cls Av G S₀ ρ σ' S' H'->aK S S'->D.bk σ' H'
 |.ct ρ=>∀ σ' S' H',SR K cls Av G S₀ ρ σ' S' H'->aK S S'->D.ct σ' H'
 |.rt ρ r=>∀ v σ' S' H',SR K cls Av G S₀ ρ σ' S' H'->aK S S'->m9 K G S' H' r v->D.rt v H'
 |.exc ρ c fs=>∀ a C σ' S' H',SR K cls Av G S₀ ρ σ' S' H'->aK S S'->pR K cls S' H' c fs a C->W (.ref C) (some a) σ' H'
 |.bad=>False
noncomputable def JE(te:TE)(m:ag->OE):Prop:=∀ Av G S₀ ρ σ S H Q,SR K cls Av G S₀ ρ σ S H->lV K cls W σ S H Q (m ρ)->te σ H Q
noncomputable def JT(te:TT)(m:ag->OT):Prop:=∀ Av G S₀ ρ σ S H Q,SR K cls Av G S₀ ρ σ S H->uz K cls W σ S H Q (m ρ)->te σ H Q
noncomputable def JA(te:TA)(m:ag->OA):Prop:=∀ Av G S₀ ρ σ S H Q,SR K cls Av G S₀ ρ σ S H->xm K cls W σ S H Q (m ρ)->te σ H Q
noncomputable def JS(ts:TS)(m:ag->OS):Prop:=∀ Av G S₀ ρ σ S H D,SR K cls Av G S₀ ρ σ S H->ji K cls W Av G S₀ S D (m ρ)->ts D σ H
end
section
variable{K:PySem.W.Frag}{cls:String->Option Addr}{W:XW}{Av G S₀ S S' H H' B B':Hp}{ρ:ag}{σ:St}{Q:VK}
theorem m9.back(h:m9 K B' S H r v)(g:aK B B'):m9 K B S H r v:=by
 cases r with
 |sh x=>exact h
 |fr xs=>obtain⟨p,vs,e,h1,h2⟩:=h;exact⟨p,vs,e,g.free h1,h2⟩
 |al xs=>exact h
theorem lV.back(w:bq S H S1 H1)(h:lV K cls W σ S H Q o):lV K cls W σ S1 H1 Q o:=by
 cases o with
 |ok r=>exact fun v S' H' w' r=>h v S' H' (w.trans w') (r.back w.g)
 |exc c fs=>exact fun a C S' H' w' r=>h a C S' H' (w.trans w') r
 |bad=>exact h
theorem uz.back{Q:Bool->Hp->Prop}(w:bq S H S1 H1)(h:uz K cls W σ S H Q o):uz K cls W σ S1 H1 Q o:=by
 cases o with
 |ok r=>exact fun S' H' w'=>h S' H' (w.trans w')
 |exc c fs=>exact fun a C S' H' w' r=>h a C S' H' (w.trans w') r
 |bad=>exact h
theorem xm.back{Q:List V->Hp->Prop}(w:bq S H S1 H1)(h:xm K cls W σ S H Q o):xm K cls W σ S1 H1 Q o:=by
 cases o with
 |ok r=>exact fun v S' H' w' r=>h v S' H' (w.trans w') r
 |exc c fs=>exact fun a C S' H' w' r=>h a C S' H' (w.trans w') r
 |bad=>exact h
theorem ji.back(s:aK S S1)(h:ji K cls W Av G S₀ S D o):ji K cls W Av G S₀ S1 D o:=by
 cases o with
 |nx ρ=>exact fun σ' S' H' I s'=>h σ' S' H' I (s.trans s')
 |bk ρ=>exact fun σ' S' H' I s'=>h σ' S' H' I (s.trans s')
 |ct ρ=>exact fun σ' S' H' I s'=>h σ' S' H' I (s.trans s')
 |rt ρ r=>exact fun v σ' S' H' I s'=>h v σ' S' H' I (s.trans s')
 |exc ρ c fs=>exact fun a C σ' S' H' I s'=>h a C σ' S' H' I (s.trans s')
 |bad=>exact h
theorem JE.go{m:ag->OE}{f:RV->OE}(h:JE K cls W te m)(I:SR K cls Av G S₀ ρ σ S H)(p:lV K cls W σ S H Q ((m ρ).bind f))
  (k:∀ r v S1 H1,SR K cls Av G S₀ ρ σ S1 H1->bq S H S1 H1->m9 K H S1 H1 r v->lV K cls W σ S1 H1 Q (f r)->Q' v H1):te σ H Q':=by
 refine h Av G S₀ ρ σ S H Q' I ?_
 cases e:m ρ with
 |ok r=>rw[e]at p;exact fun v S1 H1 w r1=>k r v S1 H1 (I.grow w) w r1 (p.back w)
 |exc c fs=>rw[e]at p;exact p
 |bad=>rw[e]at p;exact p
theorem JE.goT{m:ag->OE}{f:RV->OT}{Q:Bool->Hp->Prop}(h:JE K cls W te m)(I:SR K cls Av G S₀ ρ σ S H)(p:uz K cls W σ S H Q ((m ρ).gc f))
  (k:∀ r v S1 H1,SR K cls Av G S₀ ρ σ S1 H1->bq S H S1 H1->m9 K H S1 H1 r v->uz K cls W σ S1 H1 Q (f r)->Q' v H1):te σ H Q':=by
 refine h Av G S₀ ρ σ S H Q' I ?_
 cases e:m ρ with
 |ok r=>rw[e]at p;exact fun v S1 H1 w r1=>k r v S1 H1 (I.grow w) w r1 (p.back w)
 |exc c fs=>rw[e]at p;exact p
 |bad=>rw[e]at p;exact p
theorem JE.goS{m:ag->OE}{f:RV->OS}(h:JE K cls W te m)(I:SR K cls Av G S₀ ρ σ S H)(p:ji K cls W Av G S₀ S D ((m ρ).cX ρ f))
  (k:∀ r v S1 H1,SR K cls Av G S₀ ρ σ S1 H1->bq S H S1 H1->m9 K H S1 H1 r v->ji K cls W Av G S₀ S1 D (f r)->Q' v H1):te σ H Q':=by
 refine h Av G S₀ ρ σ S H Q' I ?_
 cases e:m ρ with
 |ok r=>rw[e]at p;exact fun v S1 H1 w r1=>k r v S1 H1 (I.grow w) w r1 (p.back w.s)
 |exc c fs=>rw[e]at p;exact fun a C S' H' w x=>p a C σ S' H' (I.grow w) w.s x
 |bad=>rw[e]at p;exact p
theorem JT.go{m:ag->OT}{f:Bool->OE}{Q':Bool->Hp->Prop}(h:JT K cls W te m)(I:SR K cls Av G S₀ ρ σ S H)(p:lV K cls W σ S H Q ((m ρ).bind f))
  (k:∀ b S1 H1,SR K cls Av G S₀ ρ σ S1 H1->bq S H S1 H1->lV K cls W σ S1 H1 Q (f b)->Q' b H1):te σ H Q':=by
 refine h Av G S₀ ρ σ S H Q' I ?_
 cases e:m ρ with
 |ok r=>rw[e]at p;exact fun S1 H1 w=>k r S1 H1 (I.grow w) w (p.back w)
 |exc c fs=>rw[e]at p;exact p
 |bad=>rw[e]at p;exact p
theorem JT.goT{m:ag->OT}{f:Bool->OT}{Q Q':Bool->Hp->Prop}(h:JT K cls W te m)(I:SR K cls Av G S₀ ρ σ S H)(p:uz K cls W σ S H Q ((m ρ).gc f))
  (k:∀ b S1 H1,SR K cls Av G S₀ ρ σ S1 H1->bq S H S1 H1->uz K cls W σ S1 H1 Q (f b)->Q' b H1):te σ H Q':=by
 refine h Av G S₀ ρ σ S H Q' I ?_
 cases e:m ρ with
 |ok r=>rw[e]at p;exact fun S1 H1 w=>k r S1 H1 (I.grow w) w (p.back w)
 |exc c fs=>rw[e]at p;exact p
 |bad=>rw[e]at p;exact p
theorem JT.goS{m:ag->OT}{f:Bool->OS}{Q':Bool->Hp->Prop}(h:JT K cls W te m)(I:SR K cls Av G S₀ ρ σ S H)(p:ji K cls W Av G S₀ S D ((m ρ).cX ρ f))
  (k:∀ b S1 H1,SR K cls Av G S₀ ρ σ S1 H1->bq S H S1 H1->ji K cls W Av G S₀ S1 D (f b)->Q' b H1):te σ H Q':=by
 refine h Av G S₀ ρ σ S H Q' I ?_
 cases e:m ρ with
 |ok r=>rw[e]at p;exact fun S1 H1 w=>k r S1 H1 (I.grow w) w (p.back w.s)
 |exc c fs=>rw[e]at p;exact fun a C S' H' w x=>p a C σ S' H' (I.grow w) w.s x
 |bad=>rw[e]at p;exact p
theorem JA.go{m:ag->OA}{f:List PV->OE}{Q':List V->Hp->Prop}(h:JA K cls W te m)(I:SR K cls Av G S₀ ρ σ S H)(p:lV K cls W σ S H Q ((m ρ).bind f))
  (k:∀ xs vs S1 H1,SR K cls Av G S₀ ρ σ S1 H1->bq S H S1 H1->bw K S1 xs vs->lV K cls W σ S1 H1 Q (f xs)->Q' vs H1):te σ H Q':=by
 refine h Av G S₀ ρ σ S H Q' I ?_
 cases e:m ρ with
 |ok r=>rw[e]at p;exact fun v S1 H1 w r1=>k r v S1 H1 (I.grow w) w r1 (p.back w)
 |exc c fs=>rw[e]at p;exact p
 |bad=>rw[e]at p;exact p
theorem JA.goA{m:ag->OA}{f:List PV->OA}{Q Q':List V->Hp->Prop}(h:JA K cls W te m)(I:SR K cls Av G S₀ ρ σ S H)(p:xm K cls W σ S H Q ((m ρ).fJ f))
  (k:∀ xs vs S1 H1,SR K cls Av G S₀ ρ σ S1 H1->bq S H S1 H1->bw K S1 xs vs->xm K cls W σ S1 H1 Q (f xs)->Q' vs H1):te σ H Q':=by
 refine h Av G S₀ ρ σ S H Q' I ?_
 cases e:m ρ with
 |ok r=>rw[e]at p;exact fun v S1 H1 w r1=>k r v S1 H1 (I.grow w) w r1 (p.back w)
 |exc c fs=>rw[e]at p;exact p
 |bad=>rw[e]at p;exact p
theorem ae:JE K cls W (Aj i) (ao i):=by
 intro Av G S₀ ρ σ S H Q I p;unfold ao at p;split at p
 . rename_i x e;obtain⟨v,e1,r⟩:=I.good i _ e
   exact⟨v,e1,p v S H (bq.refl I.sh) r⟩
 . rename_i xs e;obtain⟨v,e1,a,vs,e2,_,_,h3,h4⟩:=I.good i _ e
   exact⟨v,e1,p v S H (bq.refl I.sh) ⟨a,vs,e2,SqL.new h3,h4⟩⟩
 . exact p.elim
theorem xZ(h:∀ S,Rep K S x v):JE K cls W (tC v) (mC x):=fun Av G S₀ ρ σ S H Q I p=>p v S H (bq.refl I.sh) (h S)
theorem ah:JE K cls W (tC (.int n)) (mC (.int n)):=xZ fun _=>by unfold Rep;rfl
theorem vc:JE K cls W (tC (.bl n)) (mC (.bl n)):=xZ fun _=>by unfold Rep;rfl
theorem cK:JE K cls W (tC .non) (mC .non):=xZ fun _=>by unfold Rep;rfl
theorem aL:JE K cls W (tC (.str n)) (mC (.str n)):=xZ fun _=>by unfold Rep;rfl
theorem n6{ns:List Int}(h:∀ S,SqT K S p (ns.map V.int)):JE K cls W (tC (.ref p)) (mC (.tup (ns.map .int))):=xZ fun S=>by unfold Rep;exact⟨p,_,rfl,h S,bw.ints⟩
noncomputable def JR(K:PySem.W.Frag)(r:R2)(g:PV->PV->Option RV):Prop:=∀ S H x y v u rr Q,aK S H->RdV K S H x v->RdV K S H y u->g x y=some rr ->
 (∀ z S' H',bq S H S' H'->m9 K H S' H' rr z->Q z H')->r v u H Q
theorem aq{g:PV->PV->Option RV}{ma mb:ag->OE}(hr:JR K r g)(ha:JE K cls W ta ma)(hb:JE K cls W tb mb):JE K cls W (tOp r ta tb) (mOp g ma mb):=by
 intro Av G S₀ ρ σ S H Q I p
 refine ha.go I p fun a v S1 H1 I1 w1 r1 p1=>hb.go I1 p1 fun b u S2 H2 I2 w2 r2 p2=>?_
 cases e:g a.pv b.pv with
 |none=>rw[e]at p2;exact p2.elim
 | some rr=>
   rw[e]at p2;exact hr S2 H2 a.pv b.pv v u rr Q I2.sh ((r1.rd I1.sh).mono w2.s w2.g) (r2.rd I2.sh) e p2
noncomputable def sv:PV->V
 |.non=>.non
 |.bl b=>.bl b
 |.int i=>.int i
 |.str s=>.str s
 |_=>.non
theorem dD(h:RdV K S H (.int i) v):v=.int i:=by unfold RdV Rep at h;exact h
theorem oG(h:RdV K S H (.bl i) v):v=.bl i:=by unfold RdV Rep at h;exact h
theorem jx(h:RdV K S H (.str i) v):v=.str i:=by unfold RdV Rep at h;exact h
theorem jo(h:RdV K S H .non v):v=.non:=by unfold RdV Rep at h;exact h
theorem gK(h:RdV K S H (.lst xs) v):∃ p vs,v=.ref p /\ SqL K H p vs /\ bw K S xs vs:=h
theorem n4(h:RdV K S H (.tup xs) v):∃ p vs,v=.ref p /\ SqT K S p vs /\ bw K S xs vs:=by unfold RdV Rep at h;exact h
theorem EM{C:Int->Int->Prop}{c:Int->Int->Bool}{f:Int->Int->PV}{fv:Int->Int->V}(hc:∀ i j,c i j=true->C i j)(hf:∀ S i j,Rep K S (f i j) (fv i j)):JR K (rI C fv) (gI c f):=by
 intro S H x y v u rr Q I hx hy e k;unfold gI at e;split at e
 . rename_i i j;split at e
   . rename_i hcc;cases e
     exact⟨i,j,dD hx,dD hy,hc i j hcc,k _ S H (bq.refl I) (hf S i j)⟩
   . grind
 . grind
theorem ub{f:Int->Int->PV}{fv:Int->Int->V}(hf:∀ S i j,Rep K S (f i j) (fv i j)):JR K (rI0 fv) (gI (fun _ _=>true) f):=by
 intro S H x y v u rr Q I hx hy e k;unfold gI at e;split at e
 . rename_i i j;cases e
   exact⟨i,j,dD hx,dD hy,k _ S H (bq.refl I) (hf S i j)⟩
 . grind
theorem cf:JR K (rI0 fun i j=>.int (i+j)) eY:=ub fun _ _ _=>by unfold Rep;rfl
theorem qW:JR K (rI0 fun i j=>.int (i - j)) wz:=ub fun _ _ _=>by unfold Rep;rfl
theorem uc:JR K (rI Ek fun i j=>.int (i*j)) zG:=EM (fun i j h=>by simpa [Ek,Bool.or_eq_true,Bool.and_eq_true,decide_eq_true_eq]using h) fun _ _ _=>by unfold Rep;rfl
theorem bQ:JR K (rI LB fun i j=>.int (i/j)) dA:=EM (fun i j h=>by simpa [LB,Bool.and_eq_true,decide_eq_true_eq]using h) fun _ _ _=>by unfold Rep;rfl
theorem bN:JR K (rI (fun _ j=>0<j) fun i j=>.int (i%j)) cw:=EM (fun i j h=>by simpa using h) fun _ _ _=>by unfold Rep;rfl
theorem j4:JR K (rI0 fun i j=>.bl (decide (i<j))) gLt:=ub fun _ _ _=>by unfold Rep;rfl
theorem lR:JR K (rI0 fun i j=>.bl (decide (i<=j))) gLe:=ub fun _ _ _=>by unfold Rep;rfl
theorem wN:JR K (rI0 fun i j=>.bl (decide (j<i))) gGt:=ub fun _ _ _=>by unfold Rep;rfl
theorem Cw:JR K (rI0 fun i j=>.bl (decide (j<=i))) gGe:=ub fun _ _ _=>by unfold Rep;rfl
theorem Eu(hx:RdV K S H x v)(hy:RdV K S H y u)(e:eqS x y=some b):Js v u=true /\ decide (v=u)=b:=by
 unfold eqS at e;split at e
 all_goals first
  |(have h1:=jo hx;subst h1;have h2:=jo hy;subst h2;cases e;exact⟨rfl,by simp⟩)
  |(have h1:=jo hx;subst h1;have h2:=dD hy;subst h2;cases e;exact⟨rfl,by simp⟩)
  |(have h1:=dD hx;subst h1;have h2:=jo hy;subst h2;cases e;exact⟨rfl,by simp⟩)
  |(have h1:=jo hx;subst h1;have h2:=oG hy;subst h2;cases e;exact⟨rfl,by simp⟩)
  |(have h1:=oG hx;subst h1;have h2:=jo hy;subst h2;cases e;exact⟨rfl,by simp⟩)
  |(have h1:=jo hx;subst h1;have h2:=jx hy;subst h2;cases e;exact⟨rfl,by simp⟩)
  |(have h1:=jx hx;subst h1;have h2:=jo hy;subst h2;cases e;exact⟨rfl,by simp⟩)
  |(have h1:=dD hx;subst h1;have h2:=dD hy;subst h2;cases e;exact⟨rfl,by simp⟩)
  |(have h1:=oG hx;subst h1;have h2:=oG hy;subst h2;cases e;exact⟨rfl,by simp⟩)
  |(have h1:=jx hx;subst h1;have h2:=jx hy;subst h2;cases e;exact⟨rfl,by simp⟩)
  |(have h1:=dD hx;subst h1;have h2:=jx hy;subst h2;cases e;exact⟨rfl,by simp⟩)
  |(have h1:=jx hx;subst h1;have h2:=dD hy;subst h2;cases e;exact⟨rfl,by simp⟩)
  |(have h1:=oG hx;subst h1;have h2:=jx hy;subst h2;cases e;exact⟨rfl,by simp⟩)
  |(have h1:=jx hx;subst h1;have h2:=oG hy;subst h2;cases e;exact⟨rfl,by simp⟩)
  |cases e
theorem bp:JR K rEq gEq:=by
 intro S H x y v u rr Q I hx hy e k;obtain⟨b,e1,e2⟩:=Option.map_eq_some_iff.mp e;obtain⟨h1,h2⟩:=Eu hx hy e1
 refine⟨h1,k _ S H (bq.refl I) ?_⟩
 subst e2;show Rep K S _ _;unfold Rep;rw[h2]
theorem IM:JR K rNe gNe:=by
 intro S H x y v u rr Q I hx hy e k;obtain⟨b,e1,e2⟩:=Option.map_eq_some_iff.mp e;obtain⟨h1,h2⟩:=Eu hx hy e1
 refine⟨h1,k _ S H (bq.refl I) ?_⟩
 subst e2;show Rep K S _ _;unfold Rep;rw[h2]
end
section
variable{K:PySem.W.Frag}{cls:String->Option Addr}{W:XW}{Av G S₀ S S' H H' B B':Hp}{ρ:ag}{σ:St}{Q:VK}
theorem m9.share(h:m9 K H S1 H1 r v)(w:bq S H S1 H1)(e:m3 r=some x):∃ S2,bq S H S2 H1 /\ aK S1 S2 /\ Rep K S2 x v:=by
 cases r with
 |sh y=>cases e;exact⟨S1,w,aK.refl _,h⟩
 |al xs=>cases e
 | fr xs=>
   cases e;obtain⟨p,vs,rfl,hB,hS,hH,hr⟩:=h
   refine⟨upd S1 p (.lst vs),⟨w.s.trans (aK.new hS),w.g,fun b u z=>?_,fun b z=>?_⟩,aK.new hS,?_⟩
   . by_cases e:b=p
     . subst e;rw[bP]at z;cases z;exact hH
     . rw[bH e]at z;exact w.sh b u z
   . by_cases e:b=p
     . simp_all
     . rw[bH e]at z;exact w.new b z
   . unfold Rep
     exact⟨p,vs,rfl,SqL.new bP,hr.mono (aK.new hS)⟩
theorem ax:JA K cls W kO aJ:=fun Av G S₀ ρ σ S H Q I p=>p [] S H (bq.refl I.sh) .nil
theorem af{me:ag->OE}{mr:ag->OA}(he:JE K cls W te me)(ht:JA K cls W t mr):JA K cls W (iX te t) (ak me mr):=by
 intro Av G S₀ ρ σ S H Q I p;refine he Av G S₀ ρ σ S H _ I ?_;unfold ak at p
 cases e:me ρ with
 |exc c fs=>rw[e]at p;exact p
 |bad=>rw[e]at p;exact p
 | ok r=>
   rw[e]at p;intro v S1 H1 w1 r1;simp only[OE.fJ]at p
   cases es:m3 r with
   |none=>rw[es]at p;exact p.elim
   | some x=>
     rw[es]at p;obtain⟨S2,w2,s2,rx⟩:=r1.share w1 es
     refine ht.goA (I.grow w2) (p.back w2) fun xs vs S3 H3 I3 w3 r3 p3=>?_
     exact p3 (v ::vs) S3 H3 (bq.refl I3.sh) (.cons (Rep.mono w3.s rx) r3)
theorem Fz:lim=sizeLine:=by decide
theorem aS{ma:ag->OA}(h:JA K cls W t ma):JE K cls W (Ie t) (bS ma):=by
 intro Av G S₀ ρ σ S H Q I p
 refine h.go I p fun xs vs S1 H1 I1 w1 r1 p1=>?_
 split at p1
 . rename_i hl
   refine⟨by rw[r1.length];exact hl,fun q hq=>p1 (.ref q) S1 _ (bq.heap I1.sh hq) ⟨q,vs,rfl,hq,I1.sh.free hq,bP,r1⟩⟩
 . exact p1.elim
theorem cz{ma:ag->OA}(h:JA K cls W t ma):JE K cls W (Ky t) (eU ma):=by
 intro Av G S₀ ρ σ S H Q I p
 refine h.go I p fun xs vs S1 H1 I1 w1 r1 p1=>?_
 split at p1
 . rename_i hl
   refine⟨by rw[r1.length];exact hl,fun q hq=>p1 (.ref q) _ _ (bq.both I1.sh hq) ?_⟩
   exact⟨q,vs,rfl,SqT.new bP,r1.mono (bq.both I1.sh hq).s⟩
 . exact p1.elim
noncomputable def LN(K:PySem.W.Frag)(cls:String->Option Addr)(S H:Hp)(Q:VK)(E:XK):OE->Prop
 |.ok r=>∀ v S' H',bq S H S' H'->m9 K H S' H' r v->Q v H'
 |.exc c fs=>∀ a C S' H',bq S H S' H'->pR K cls S' H' c fs a C->E (.ref C) (some a) H'
 |.bad=>False
noncomputable def spP(K:PySem.W.Frag)(cls:String->Option Addr)(f:List PV->OE):Sp:=fun vs H Q E=>∃ S xs,aK S H /\ bw K S xs vs /\ LN K cls S H Q E (f xs)
theorem aR{ma:ag->OA}{f:List PV->OE}(h:JA K cls W t ma):JE K cls W (rB (spP K cls f) [] W t) (br f ma):=by
 intro Av G S₀ ρ σ S H Q I p
 refine h.go I p fun xs vs S1 H1 I1 w1 r1 p1=>?_
 rw[List.append_nil]
 refine⟨S1,xs,I1.sh,r1,?_⟩
 cases e:f xs with
 |ok r=>rw[e]at p1;exact p1
 |exc c fs=>rw[e]at p1;exact p1
 |bad=>rw[e]at p1;exact p1
noncomputable def JU(K:PySem.W.Frag)(r:List V->Hp->VK->Prop)(g:PV->Option RV):Prop:=∀ S H x v rr Q,aK S H->RdV K S H x v->g x=some rr ->
 (∀ z S' H',bq S H S' H'->m9 K H S' H' rr z->Q z H')->r [v] H Q
theorem gf{r:List V->Hp->VK->Prop}{g:PV->Option RV}{ma:ag->OE}(hr:JU K r g)(ha:JE K cls W ta ma):JE K cls W (tCB r (iX ta kO)) (mUn g ma):=by
 intro Av G S₀ ρ σ S H Q I p
 refine ha.go I p fun a v S1 H1 I1 w1 r1 p1=>?_
 cases e:g a.pv with
 |none=>rw[e]at p1;exact p1.elim
 |some rr=>rw[e]at p1;exact hr S1 H1 a.pv v rr Q I1.sh (r1.rd I1.sh) e p1
theorem mi{r:V->Hp->VK->Prop}{g:PV->Option RV}{ma:ag->OE}(hr:JU K (fun vs H Q=>∃ v,vs=[v] /\ r v H Q) g)(ha:JE K cls W ta ma):JE K cls W (tUn r ta) (mUn g ma):=by
 intro Av G S₀ ρ σ S H Q I p
 refine ha.go I p fun a v S1 H1 I1 w1 r1 p1=>?_
 cases e:g a.pv with
 |none=>rw[e]at p1;exact p1.elim
 | some rr=>
   rw[e]at p1;obtain⟨u,e1,h⟩:=hr S1 H1 a.pv v rr Q I1.sh (r1.rd I1.sh) e p1
   simp_all
theorem i6:JU K (fun vs H Q=>∃ v,vs=[v] /\ rU (fun i=>.int (-i)) v H Q) gi:=by
 intro S H x v rr Q I hx e k
 cases x with
 |int i=>cases e;exact⟨v,rfl,i,dD hx,k _ S H (bq.refl I) (by show Rep K S _ _;rfl)⟩
 |_=>cases e
theorem tX:JU K (fun xs H Q=>∃ p ys,xs=[.ref p] /\ (SqL K H p ys \/ SqT K H p ys) /\ Q (.int ys.length) H) yF:=by
 intro S H x v rr Q I hx e k
 cases x with
 | lst xs=>
   cases e;obtain⟨p,vs,rfl,hq,r⟩:=gK hx
   exact⟨p,vs,rfl,.inl hq,k _ S H (bq.refl I) (by show Rep K S _ _;unfold Rep;rw[r.length])⟩
 | tup xs=>
   cases e;obtain⟨p,vs,rfl,hq,r⟩:=n4 hx
   exact⟨p,vs,rfl,.inr (aK.tup I hq),k _ S H (bq.refl I) (by show Rep K S _ _;unfold Rep;rw[r.length])⟩
 |_=>cases e
theorem Cf:JU K (fun xs H Q=>(∃ i,xs=[.int i] /\ Q (.int i) H) \/ ∃ k,xs=[.bl k] /\ Q (.int (if k then 1 else 0)) H) y0:=by
 intro S H x v rr Q I hx e k
 cases x with
 |int i=>cases e;exact .inl ⟨i,by rw[dD hx],k _ S H (bq.refl I) (by show Rep K S _ _;rfl)⟩
 |bl b=>cases e;exact .inr ⟨b,by rw[oG hx],k _ S H (bq.refl I) (by show Rep K S _ _;rfl)⟩
 |_=>cases e
theorem K2{α:Type}(xs:List α)(i:Int):atP xs i=L2.atI xs i:=rfl
theorem bw.atI(h:bw K S xs vs)(e:atP xs i=some x):∃ v,L2.atI vs i=some v /\ Rep K S x v:=by
 rw[K2]at e
 unfold L2.atI at e ⊢
 rw[h.length]
 cases q:ixN xs.length i with
 |none=>rw[q]at e;cases e
 |some j=>rw[q]at e;exact h.get e
theorem pH:JR K (Gy K) ou:=by
 intro S H x y v u rr Q I hx hy e k;unfold ou at e;split at e
 . rename_i xs i;obtain⟨z,e1,e2⟩:=Option.map_eq_some_iff.mp e;obtain⟨p,vs,rfl,hq,r⟩:=gK hx;obtain⟨w,e3,rw'⟩:=r.atI e1;subst e2
   exact⟨p,vs,i,w,rfl,dD hy,hq,e3,k _ S H (bq.refl I) rw'⟩
 . grind
theorem dQ:JR K (LR K) dw:=by
 intro S H x y v u rr Q I hx hy e k;unfold dw at e;split at e
 . rename_i xs i;obtain⟨z,e1,e2⟩:=Option.map_eq_some_iff.mp e;obtain⟨p,vs,rfl,hq,r⟩:=n4 hx;obtain⟨w,e3,rw'⟩:=r.atI e1;subst e2
   exact⟨p,vs,i,w,rfl,dD hy,aK.tup I hq,e3,k _ S H (bq.refl I) rw'⟩
 . grind
end
section
variable{K:PySem.W.Frag}{cls:String->Option Addr}{W:XW}{Av G S₀ S S' H H' B B':Hp}{ρ:ag}{σ:St}{Q:VK}
theorem fW:JR K (Jd K) iN:=by
 intro S H x y v u rr Q I hx hy e k;unfold iN at e;split at e
 . rename_i xs ys;split at e
   . rename_i hl;cases e;obtain⟨p,vs,rfl,hq,r⟩:=gK hx;obtain⟨p2,vs2,rfl,hq2,r2⟩:=gK hy
     exact⟨p,p2,vs,vs2,rfl,rfl,hq,hq2,by rw[r.length,r2.length];exact hl,fun l hn=>k _ S _ (bq.heap I hn) ⟨l,_,rfl,hn,I.free hn,bP,r.append r2⟩⟩
   . grind
 . grind
theorem xp{xs:List PV}{ns:List Int}(h:tY xs=some ns):xs=ns.map .int:=by
 induction xs generalizing ns with
 |nil=>cases h;rfl
 | cons x xs ih=>
   cases x with
   | int i=>
     obtain⟨ms,e1,e2⟩:=Option.map_eq_some_iff.mp h
     grind
   |_=>cases h
theorem Cy{x y:PV}{v u:V}{b:Bool}(hx:RdV K S H x v)(hy:RdV K S H y u)(e:A0 x y=some b):
  ∃(p q:Addr) (ns ms:List Int),v=.ref p /\ u=.ref q /\ SqL K H p (ns.map V.int) /\ SqL K H q (ms.map V.int) /\ b=decide (ns=ms):=by
 unfold A0 at e;split at e
 . rename_i xs ys;split at e
   . rename_i a b' e1 e2;cases e;obtain⟨p,vs,rfl,hq,r⟩:=gK hx;obtain⟨p2,vs2,rfl,hq2,r2⟩:=gK hy;rw[xp e1]at r;rw[xp e2]at r2;rw[r.Ag]at hq;rw[r2.Ag]at hq2
     exact⟨p,p2,a,b',rfl,rfl,hq,hq2,rfl⟩
   . cases e
 . cases e
theorem yu{A:Around}(hu:A.units+64<cLine):JR K (Hr K A false) xP:=by
 intro S H x y v u rr Q I hx hy e k;obtain⟨b,e1,e2⟩:=Option.map_eq_some_iff.mp e;obtain⟨p,q,ns,ms,rfl,rfl,h1,h2,rfl⟩:=Cy hx hy e1;subst e2
 exact⟨p,q,ns,ms,rfl,rfl,h1,h2,hu,k _ S H (bq.refl I) (by show Rep K S _ _;unfold Rep;simp)⟩
theorem Gi{A:Around}(hu:A.units+64<cLine):JR K (Hr K A true) CL:=by
 intro S H x y v u rr Q I hx hy e k;obtain⟨b,e1,e2⟩:=Option.map_eq_some_iff.mp e;obtain⟨p,q,ns,ms,rfl,rfl,h1,h2,rfl⟩:=Cy hx hy e1;subst e2
 exact⟨p,q,ns,ms,rfl,rfl,h1,h2,hu,k _ S H (bq.refl I) (by show Rep K S _ _;unfold Rep;simp)⟩
theorem AJ{xs:List PV}{vs:List V}{bs:List Bool}(h:qa xs=some bs)(r:bw K S xs vs):vs=bs.map V.bl:=by
 induction xs generalizing bs vs with
 |nil=>cases h;exact r.nil_inv
 | cons x xs ih=>
   cases x with
   | bl i=>
     obtain⟨ms,e1,e2⟩:=Option.map_eq_some_iff.mp h;obtain⟨v,t,rfl,h1,h2⟩:=r.cons_inv;unfold Rep at h1
     grind
   |_=>cases h
theorem DR{A:Around}(hh:A.handled=none):JU K (fun xs H Q=>∃(p:Addr) (bs:List Bool),xs=[.ref p] /\ SqL K H p (bs.map V.bl) /\ A.handled=none /\ Q (.bl (bs.all id)) H) Dy:=by
 intro S H x v rr Q I hx e k
 cases x with
 | lst xs=>
   obtain⟨bs,e1,e2⟩:=Option.map_eq_some_iff.mp e;obtain⟨p,vs,rfl,hq,r⟩:=gK hx;rw[AJ e1 r]at hq;subst e2
   exact⟨p,bs,rfl,hq,hh,k _ S H (bq.refl I) (by show Rep K S _ _;rfl)⟩
 |_=>cases e
theorem JY{T:String}{x:PV}{v:V}{b:Bool}(s:aK S H)(hx:RdV K S H x v)(e:isP T x=some b):IsV K T v H b:=by
 cases x with
 | int i=>
   have:=dD hx;subst this;simp only[isP]at e;split at e
   . cases e;exact .inl ⟨by assumption,rfl⟩
   . split at e
     . rename_i h;cases e;rcases h with h|h|h|h
       . exact .inr (.inl ⟨h,rfl⟩)
       . exact .inr (.inr (.inl ⟨h,rfl⟩))
       . exact .inr (.inr (.inr (.inl ⟨h,rfl⟩)))
       . exact .inr (.inr (.inr (.inr ⟨h,rfl⟩)))
     . grind
 | bl i=>
   have:=oG hx;subst this;simp only[isP]at e;split at e
   . rename_i h;cases e;rcases h with h|h
     . exact .inl ⟨h,rfl⟩
     . exact .inr (.inl ⟨h,rfl⟩)
   . split at e
     . rename_i h;cases e;rcases h with h|h|h
       . exact .inr (.inr (.inl ⟨h,rfl⟩))
       . exact .inr (.inr (.inr (.inl ⟨h,rfl⟩)))
       . exact .inr (.inr (.inr (.inr ⟨h,rfl⟩)))
     . grind
 | non=>
   have:=jo hx;subst this;simp only[isP]at e;split at e
   . rename_i h;cases e;rcases h with h|h|h|h|h
     . exact .inl ⟨h,rfl⟩
     . exact .inr (.inl ⟨h,rfl⟩)
     . exact .inr (.inr (.inl ⟨h,rfl⟩))
     . exact .inr (.inr (.inr (.inl ⟨h,rfl⟩)))
     . exact .inr (.inr (.inr (.inr ⟨h,rfl⟩)))
   . grind
 | str i=>
   have:=jx hx;subst this;simp only[isP]at e;split at e
   . cases e;exact .inr (.inr (.inr (.inr ⟨by assumption,rfl⟩)))
   . split at e
     . rename_i h;cases e;rcases h with h|h|h|h
       . exact .inl ⟨h,rfl⟩
       . exact .inr (.inl ⟨h,rfl⟩)
       . exact .inr (.inr (.inl ⟨h,rfl⟩))
       . exact .inr (.inr (.inr (.inl ⟨h,rfl⟩)))
     . grind
 | lst xs=>
   obtain⟨p,vs,rfl,hq,r⟩:=gK hx;refine .inl ⟨⟨vs,hq⟩,?_⟩;simp only[isP]at e
   grind
 | tup xs=>
   obtain⟨p,vs,rfl,hq,r⟩:=n4 hx;refine .inr ⟨⟨vs,aK.tup s hq⟩,?_⟩;simp only[isP]at e
   grind
theorem vq{T:String}{ta:TE}{ma:ag->OE}(ha:JE K cls W ta ma):
  JE K cls W (tCB (fun xs H Q=>∃ x T b,xs=[x,.ty T] /\ IsV K T x H b /\ Q (.bl b) H) (iX ta (iX (tC (.ty T)) kO))) (mIs T ma):=by
 intro Av G S₀ ρ σ S H Q I p
 refine ha.go I p fun a v S1 H1 I1 w1 r1 p1=>?_
 dsimp only at p1
 cases e:isP T a.pv with
 |none=>rw[e]at p1;exact p1.elim
 | some b=>
   rw[e]at p1
   exact⟨v,T,b,rfl,JY I1.sh (r1.rd I1.sh) e,p1 _ S1 H1 (bq.refl I1.sh) (by show Rep K S1 _ _;rfl)⟩
end
section
variable{K:PySem.W.Frag}{cls:String->Option Addr}{W:XW}{Av G S₀ S S' H H' B B':Hp}{ρ:ag}{σ:St}{Q:VK}
theorem so{xs:List PV}{vs:List V}(h:bw K S xs vs):vs.isEmpty=xs.isEmpty:=by
 cases xs with
 |nil=>rw[h.nil_inv];rfl
 |cons x xs=>obtain⟨v,r,rfl,_⟩:=h.cons_inv;rfl
theorem BS(s:aK S H)(hx:RdV K S H x v)(e:tT x=some b):AQ K v H b:=by
 cases x with
 |non=>have:=jo hx;subst this;cases e;rfl
 |bl c=>have:=oG hx;subst this;cases e;rfl
 |int i=>have:=dD hx;subst this;cases e;rfl
 |str z=>cases e
 | lst xs=>
   obtain⟨p,vs,rfl,hq,r⟩:=gK hx;cases e;exact .inl ⟨vs,hq,by rw[so r]⟩
 | tup xs=>
   obtain⟨p,vs,rfl,hq,r⟩:=n4 hx;cases e;exact .inr (.inl ⟨vs,aK.tup s hq,by rw[so r]⟩)
theorem eM{ma:ag->OE}(ha:JE K cls W ta ma):JT K cls W (fun σ H Q=>ta σ H fun x H'=>∃ k,AQ K x H' k /\ Q k H') (dM ma):=by
 intro Av G S₀ ρ σ S H Q I p
 refine ha.goT I p fun r v S1 H1 I1 w1 r1 p1=>?_
 cases e:tT r.pv with
 |none=>rw[e]at p1;exact p1.elim
 |some b=>rw[e]at p1;exact⟨b,BS I1.sh (r1.rd I1.sh) e,p1 S1 H1 (bq.refl I1.sh)⟩
theorem yH{r:RV}(h:r.pv=.bl b)(r1:m9 K H S1 H1 r v)(s:aK S1 H1):v=.bl b:=by
 have:=r1.rd s;rw[h]at this;exact oG this
theorem ay{ma:ag->OE}(ha:JE K cls W ta ma):JT K cls W (xc ta) (az ma):=by
 intro Av G S₀ ρ σ S H Q I p
 refine ha.goT I p fun r v S1 H1 I1 w1 r1 p1=>?_
 cases e:r.pv with
 |bl b=>rw[e]at p1;exact⟨b,yH e r1 I1.sh,p1 S1 H1 (bq.refl I1.sh)⟩
 |_=>rw[e]at p1;exact p1.elim
theorem KU{ma:ag->OT}(ha:JT K cls W ta ma):JT K cls W (Ih ta) (Cb ma):=by
 intro Av G S₀ ρ σ S H Q I p
 exact ha.goT I p fun b S1 H1 I1 w1 p1=>p1 S1 H1 (bq.refl I1.sh)
theorem i8{ma mb:ag->OT}(ha:JT K cls W ta ma)(hb:JT K cls W tb mb):JT K cls W (KQ ta tb) (cZ ma mb):=by
 intro Av G S₀ ρ σ S H Q I p
 refine ha.goT I p fun b S1 H1 I1 w1 p1=>?_
 cases b with
 |true=>exact Ap (hb Av G S₀ ρ σ S1 H1 Q I1 p1)
 |false=>exact zV (p1 S1 H1 (bq.refl I1.sh))
theorem uC{ma mb:ag->OT}(ha:JT K cls W ta ma)(hb:JT K cls W tb mb):JT K cls W (tOr ta tb) (kW ma mb):=by
 intro Av G S₀ ρ σ S H Q I p
 refine ha.goT I p fun b S1 H1 I1 w1 p1=>?_
 cases b with
 |false=>exact zV (hb Av G S₀ ρ σ S1 H1 Q I1 p1)
 |true=>exact Ap (p1 S1 H1 (bq.refl I1.sh))
theorem pf:m9 K B S H (.sh (.bl b)) (.bl b):=by show Rep K S _ _;unfold Rep;rfl
theorem Fi{ma mb:ag->OE}(ha:JE K cls W ta ma)(hb:JE K cls W tb mb):JE K cls W (EV ta tb) (BE ma mb):=by
 intro Av G S₀ ρ σ S H Q I p
 refine ha.go I p fun r v S1 H1 I1 w1 r1 p1=>?_
 cases e:r.pv with
 | bl b=>
   rw[e]at p1
   refine⟨b,yH e r1 I1.sh,?_⟩
   cases b with
   |true=>exact Ap (hb Av G S₀ ρ σ S1 H1 Q I1 p1)
   |false=>exact zV (p1 _ S1 H1 (bq.refl I1.sh) pf)
 |_=>rw[e]at p1;exact p1.elim
theorem Jr{ma:ag->OE}(ha:JE K cls W ta ma):JE K cls W (Fj ta) (Gb ma):=by
 intro Av G S₀ ρ σ S H Q I p
 refine ha.go I p fun r v S1 H1 I1 w1 r1 p1=>?_
 cases e:r.pv with
 |bl b=>rw[e]at p1;exact⟨b,yH e r1 I1.sh,p1 _ S1 H1 (bq.refl I1.sh) pf⟩
 |_=>rw[e]at p1;exact p1.elim
theorem hX{mc:ag->OT}{ma mb:ag->OE}(hc:JT K cls W tc mc)(ha:JE K cls W ta ma)(hb:JE K cls W tb mb):JE K cls W (tIf tc ta tb) (gm mc ma mb):=by
 intro Av G S₀ ρ σ S H Q I p
 refine hc.go I p fun b S1 H1 I1 w1 p1=>?_
 cases b with
 |true=>exact Ap (ha Av G S₀ ρ σ S1 H1 Q I1 p1)
 |false=>exact zV (hb Av G S₀ ρ σ S1 H1 Q I1 p1)
theorem iB{g g':PV->PV->Option RV}{ma mb mc:ag->OE}(hr:JR K r g)(hr':JR K r' g')(ha:JE K cls W ta ma)(hb:JE K cls W tb mb)(hc:JE K cls W tc mc):
  JE K cls W (vR r r' ta tb tc) (iR g g' ma mb mc):=by
 intro Av G S₀ ρ σ S H Q I p
 refine ha.go I p fun a v S1 H1 I1 w1 r1 p1=>hb.go I1 p1 fun b u S2 H2 I2 w2 r2 p2=>?_
 cases e:g a.pv b.pv with
 |none=>rw[e]at p2;exact p2.elim
 | some rr=>
   rw[e]at p2
   refine hr S2 H2 a.pv b.pv v u rr _ I2.sh ((r1.rd I1.sh).mono w2.s w2.g) (r2.rd I2.sh) e fun z S3 H3 w3 r3=>?_
   have I3:=I2.grow w3;simp only[oE,OE.bind]at p2
   cases e3:rr.pv with
   | bl k=>
     rw[e3]at p2;have hz:=yH e3 r3 I3.sh
     refine⟨k,hz,?_⟩
     cases k with
     |false=>exact zV (p2 _ S3 H3 w3 pf)
     | true=>
       refine Ap (hc.go I3 (p2.back w3) fun c y S4 H4 I4 w4 r4 p4=>?_)
       cases e4:g' b.pv c.pv with
       |none=>rw[e4]at p4;exact p4.elim
       |some r'=>rw[e4]at p4;exact hr' S4 H4 b.pv c.pv u y r' Q I4.sh (((r2.rd I2.sh).mono w3.s w3.g).mono w4.s w4.g) (r4.rd I4.sh) e4 p4
   |_=>rw[e3]at p2;exact p2.elim
theorem aw{ma mb:ag->OS}(ha:JS K cls W ta ma)(hb:JS K cls W tb mb):JS K cls W (JB ta tb) (aH ma mb):=by
 intro Av G S₀ ρ σ S H D I p;refine ha Av G S₀ ρ σ S H _ I ?_;unfold aH at p
 cases e:ma ρ with
 |nx ρ'=>rw[e]at p;exact fun σ' S' H' I' s'=>hb Av G S₀ ρ' σ' S' H' D I' (p.back s')
 |bk ρ'=>rw[e]at p;exact p
 |ct ρ'=>rw[e]at p;exact p
 |rt ρ' r=>rw[e]at p;exact p
 |exc ρ' c fs=>rw[e]at p;exact p
 |bad=>rw[e]at p;exact p
theorem aE:JS K cls W D8 aO:=fun Av G S₀ ρ σ S H D I p=>p σ S H I (aK.refl _)
theorem aV{me:ag->OE}(he:JE K cls W te me):JS K cls W (tH te (j8 i)) (bf i me):=by
 intro Av G S₀ ρ σ S H D I p
 refine he.goS I p fun r v S1 H1 I1 w1 r1 p1=>?_
 cases r with
 |sh x=>exact p1 _ S1 H1 (I1.BK r1) (aK.refl _)
 |fr xs=>exact p1 _ S1 H1 (I.Mt w1 r1) (aK.refl _)
 |al xs=>exact p1.elim
theorem aU{mc:ag->OT}{ma mb:ag->OS}(hc:JT K cls W tc mc)(ha:JS K cls W ta ma)(hb:JS K cls W tb mb):JS K cls W (Gp tc ta tb) (bc mc ma mb):=by
 intro Av G S₀ ρ σ S H D I p
 refine hc.goS I p fun b S1 H1 I1 w1 p1=>?_
 cases b with
 |true=>exact Ap (ha Av G S₀ ρ σ S1 H1 D I1 p1)
 |false=>exact zV (hb Av G S₀ ρ σ S1 H1 D I1 p1)
theorem aB{me:ag->OE}(he:JE K cls W te me):JS K cls W (GY te) (aZ me):=by
 intro Av G S₀ ρ σ S H D I p
 refine he.goS I p fun r v S1 H1 I1 w1 r1 p1=>?_
 cases r with
 |sh x=>exact p1 v σ S1 H1 I1 (aK.refl _) r1
 |fr xs=>exact p1 v σ S1 H1 I1 (aK.refl _) (r1.back I.gh)
 |al xs=>exact p1.elim
theorem mW:JS K cls W (GY (Aj i)) (g9 i):=by
 intro Av G S₀ ρ σ S H D I p;unfold g9 at p;split at p
 . rename_i x e;obtain⟨v,e1,r⟩:=I.good i _ e
   exact⟨v,e1,p v σ S H I (aK.refl _) r⟩
 . rename_i xs e;obtain⟨v,e1,a,vs,e2,h1,h2,h3,h4⟩:=I.good i _ e
   exact⟨v,e1,p v σ S H I.drop (aK.refl _) ⟨a,vs,e2,h1,h2,h3,h4⟩⟩
 . exact p.elim
theorem ll{m:ag->OS}(h:JS K cls W ts m):JS K cls W ts (gu i m):=by
 intro Av G S₀ ρ σ S H D I p;unfold gu kL at p;split at p
 . rename_i xs e;obtain⟨S',s,J⟩:=I.MA e;exact h Av G S₀ _ σ S' H D J (p.back s)
 . exact h Av G S₀ ρ σ S H D I p
theorem kZ{me:ag->OE}(he:JE K cls W te me):JS K cls W (sQ (tBM K "list" yw (Aj i) (iX te kO))) (eS i me):=by
 intro Av G S₀ ρ σ S H D I p;unfold eS at p;split at p
 . rename_i xs e;obtain⟨v,e1,a,vs,rfl,h1,h2,h3,h4⟩:=I.good i _ e
   refine⟨_,e1,.inl ⟨rfl,_,SqL.new h3⟩,?_⟩
   refine he Av G S₀ ρ σ S H _ I ?_
   cases em:me ρ with
   |exc c fs=>rw[em]at p;exact fun a C S' H' w x=>p a C σ S' H' (I.grow w) w.s x
   |bad=>rw[em]at p;exact p
   | ok r=>
     rw[em]at p;intro u S1 H1 w1 r1;simp only[OE.cX]at p
     cases es:m3 r with
     |none=>rw[es]at p;exact p.elim
     | some y=>
       rw[es]at p
       dsimp only at p
       split at p
       . rename_i hl;obtain⟨S2,w2,s2,rx⟩:=r1.share w1 es;have I2:=I.grow w2
         refine⟨a,vs,u,rfl,rfl,w2.g _ _ h3,by rw[h4.length];exact hl,?_⟩
         exact p σ S2 _ (I2.mut e e1 ((h4.mono w2.s).append (.cons rx .nil))) w2.s
       . exact p.elim
 . exact p.elim
theorem xn{mb:ag->OS}{D:Ends}{N:St->Hp->Prop}(hb:JS K cls W tb mb)(I:SR K cls Av G S₀ ρ σ S H)(hx:Rep K S x v)
  (p:ji K cls W Av G S₀ S D (gP i mb (x ::xs) ρ)) (hN:∀ ρ' σ' S' H',SR K cls Av G S₀ ρ' σ' S' H'->aK S S'->ji K cls W Av G S₀ S' D (gP i mb xs ρ')->N σ' H'):
  j8 i v σ H fun σ2 H2=>tb { D with nx:=N,ct:=N,bk:=D.nx } σ2 H2:=by
 refine hb Av G S₀ _ _ S H _ (I.BK hx) ?_;rw[jF]at p
 cases e:mb (ρ.set i (some (.sh x)))with
 |nx ρ'=>rw[e]at p;exact fun σ' S' H' I' s'=>hN ρ' σ' S' H' I' s' (p.back s')
 |ct ρ'=>rw[e]at p;exact fun σ' S' H' I' s'=>hN ρ' σ' S' H' I' s' (p.back s')
 |bk ρ'=>rw[e]at p;exact p
 |rt ρ' r=>rw[e]at p;exact p
 |exc ρ' c fs=>rw[e]at p;exact p
 |bad=>rw[e]at p;exact p
theorem pZ{ml:ag->OE}{mb:ag->OS}(hl:JE K cls W tl ml)(hb:JS K cls W tb mb):JS K cls W (EL (zK K tl) (j8 i) tb) (lX i ml mb):=by
 intro Av G S₀ ρ σ S H D I p;refine hl Av G S₀ ρ σ S H _ I ?_;unfold lX at p
 cases em:ml ρ with
 |exc c fs=>rw[em]at p;exact fun a C S' H' w x=>p a C σ S' H' (I.grow w) w.s x
 |bad=>rw[em]at p;exact p
 | ok r=>
   rw[em]at p;intro v S1 H1 w1 r1;simp only[OE.cX]at p
   cases ei:za r with
   |none=>rw[ei]at p;exact p.elim
   | some xs=>
     rw[ei]at p
     have es:m3 r=some (.lst xs):=by
      cases r with
      |sh y=>cases y<;>cases ei<;>rfl
      |fr ys=>cases ei;rfl
      |al ys=>cases ei
     obtain⟨S2,w2,s2,rx⟩:=r1.share w1 es;have I2:=I.grow w2;obtain⟨a,vs,rfl,hq,hr⟩:=rx
     refine⟨a,rfl,⟨vs,aK.seq I2.sh hq⟩,?_⟩
     refine EX (xs:=vs) (fun k σ' H'=>∃ ρ' S',SR K cls Av G S₀ ρ' σ' S' H' /\ aK S2 S' /\ ji K cls W Av G S₀ S' D (gP i mb (xs.drop k) ρ'))
      ⟨ρ,S2,I2,aK.refl _,p.back w2.s⟩ ?_ ?_ ?_
     . rintro k σ' H' _ ⟨ρ',S',I',s',_⟩
       exact aK.seq (s'.trans I'.sh) hq
     . rintro k x σ' H' hx ⟨ρ',S',I',s',p'⟩
       obtain⟨y,hy,ry⟩:=hr.Mi hx
       have hd:xs.drop k=y ::xs.drop (k+1):=by
        have hk:k<xs.length:=(List.getElem?_eq_some_iff.mp hy).1
        rw[List.drop_eq_getElem_cons hk]
        simp_all
       rw[hd]at p'
       exact xn hb I' (Rep.mono s' ry) p' fun ρ2 σ2 S3 H3 I3 s3 p3=>⟨ρ2,S3,I3,s'.trans s3,p3⟩
     . rintro σ' H' ⟨ρ',S',I',s',p'⟩
       rw[List.drop_of_length_le (by rw[hr.length];exact Nat.le_refl _)]at p';exact p' σ' S' H' I' (aK.refl _)
theorem zE(h:k<n):(dE n).drop k=.int (k:Int) ::(dE n).drop (k+1):=by
 have hk:k<(dE n).length:=by unfold dE;simpa using h
 rw[List.drop_eq_getElem_cons hk];simp[dE]
theorem xK{me:ag->OE}{mb:ag->OS}(he:JE K cls W te me)(hb:JS K cls W tb mb):JS K cls W (EL (Cz (iX te kO)) (j8 i) tb) (uy i me mb):=by
 intro Av G S₀ ρ σ S H D I p
 refine he.goS I p fun r v S1 H1 I1 w1 r1 p1=>?_
 cases e:r.pv with
 | int j=>
   rw[e]at p1
   have hv:v=.int j:=by have:=r1.rd I1.sh;rw[e]at this;exact dD this
   subst hv
   dsimp only at p1
   split at p1
   . rename_i hj
     refine⟨j,rfl,hj.1,hj.2,?_⟩
     refine DI (fun k σ' H'=>∃ ρ' S',SR K cls Av G S₀ ρ' σ' S' H' /\ aK S1 S' /\ ji K cls W Av G S₀ S' D (gP i mb ((dE j.toNat).drop k) ρ'))
      ⟨ρ,S1,I1,aK.refl _,p1⟩ ?_ ?_
     . rintro k σ' H' hk ⟨ρ',S',I',s',p'⟩
       rw[zE hk]at p'
       refine xn hb I' ?_ p' fun ρ2 σ2 S3 H3 I3 s3 p3=>⟨ρ2,S3,I3,s'.trans s3,p3⟩
       unfold Rep;simp
     . rintro σ' H' ⟨ρ',S',I',s',p'⟩
       rw[List.drop_of_length_le (by unfold dE;simp)]at p';exact p' σ' S' H' I' (aK.refl _)
   . exact p1.elim
 |_=>rw[e]at p1;exact p1.elim
theorem vw{mc:ag->OT}{mb:ag->OS}(hc:JT K cls W tc mc)(hb:JS K cls W tb mb):JS K cls W (Bq tc tb) (gn mc mb n):=by
 intro Av G S₀ ρ σ S H D I p
 refine⟨fun m σ' H'=>∃ ρ' S',SR K cls Av G S₀ ρ' σ' S' H' /\ aK S S' /\ ji K cls W Av G S₀ S' D (gn mc mb m ρ'),⟨n,ρ,S,I,aK.refl _,p⟩,?_⟩
 rintro m σ1 H1 ⟨ρ1,S1,I1,s1,p1⟩
 cases m with
 |zero=>exact p1.elim
 | succ m=>
   refine hc.goS I1 p1 fun b S2 H2 I2 w2 p2=>?_
   cases b with
   |false=>exact zV (p2 σ1 S2 H2 I2 (aK.refl _))
   | true=>
     refine Ap ⟨fun σ' H'=>∃ ρ' S',SR K cls Av G S₀ ρ' σ' S' H' /\ aK S S' /\ ji K cls W Av G S₀ S' D (gn mc mb m ρ'),fun σ' H' h=>⟨m,Nat.lt_succ_self m,h⟩,?_⟩;refine hb Av G S₀ ρ1 σ1 S2 H2 _ I2 ?_
     cases e:mb ρ1 with
     |nx ρ'=>rw[e]at p2;exact fun σ' S' H' I' s'=>⟨ρ',S',I',(s1.trans w2.s).trans s',p2.back s'⟩
     |ct ρ'=>rw[e]at p2;exact fun σ' S' H' I' s'=>⟨ρ',S',I',(s1.trans w2.s).trans s',p2.back s'⟩
     |bk ρ'=>rw[e]at p2;exact p2
     |rt r=>rw[e]at p2;exact p2
     |exc ρ' c fs=>rw[e]at p2;exact p2
     |bad=>rw[e]at p2;exact p2
end
section
variable{K:PySem.W.Frag}{cls:String->Option Addr}{W:XW}{Av G S₀ S S' H H' B B':Hp}{ρ:ag}{σ:St}{Q:VK}
noncomputable def EA:V->Option Int
 |.int i=>some i
 |_=>none
noncomputable def JO(K:PySem.W.Frag)(cls:String->Option Addr)(W:XW)(to:TO)(m:ag->OE):Prop:=∀ Av G S₀ ρ σ S H (Q:Option Int->Hp->Prop),SR K cls Av G S₀ ρ σ S H ->
 lV K cls W σ S H (fun v H'=>Q (EA v) H') (m ρ)->to σ H Q
theorem sR:JO K cls W yc (mC .non):=fun Av G S₀ ρ σ S H Q I p=>p .non S H (bq.refl I.sh) (by show Rep K S _ _;rfl)
theorem sE{m:ag->OE}(h:JE K cls W te m):JO K cls W (El te) (kb m):=by
 intro Av G S₀ ρ σ S H Q I p
 refine h.go I p fun r v S1 H1 I1 w1 r1 p1=>?_
 cases e:r.pv with
 | int i=>
   rw[e]at p1
   have hv:v=.int i:=by have:=r1.rd I1.sh;rw[e]at this;exact dD this
   exact⟨i,hv,p1 (.int i) S1 H1 (bq.refl I1.sh) (by show Rep K S1 _ _;rfl)⟩
 |_=>rw[e]at p1;exact p1.elim
theorem JO.go{m:ag->OE}{f:RV->OE}{Q':Option Int->Hp->Prop}(h:JO K cls W to m)(I:SR K cls Av G S₀ ρ σ S H)(p:lV K cls W σ S H Q ((m ρ).bind f))
  (k:∀ r v S1 H1,SR K cls Av G S₀ ρ σ S1 H1->bq S H S1 H1->m9 K H S1 H1 r v->lV K cls W σ S1 H1 Q (f r)->Q' (EA v) H1):to σ H Q':=by
 refine h Av G S₀ ρ σ S H Q' I ?_
 cases e:m ρ with
 |ok r=>rw[e]at p;exact fun v S1 H1 w r1=>k r v S1 H1 (I.grow w) w r1 (p.back w)
 |exc c fs=>rw[e]at p;exact p
 |bad=>rw[e]at p;exact p
theorem part_of(h:RdV K S H x v):EA v=sX x:=by
 cases x with
 |int i=>rw[dD h];rfl
 |non=>rw[jo h];rfl
 |bl b=>rw[oG h];rfl
 |str b=>rw[jx h];rfl
 |lst xs=>obtain⟨p,vs,rfl,_⟩:=gK h;rfl
 |tup xs=>obtain⟨p,vs,rfl,_⟩:=n4 h;rfl
theorem bw.cut(h:bw K S xs vs)(lo hi:Option Int):bw K S (AD xs lo hi) (DP vs lo hi):=by
 unfold AD DP;rw[h.length]
 exact(h.drop _).take _
theorem vz{ma ml mh:ag->OE}(ha:JE K cls W te ma)(hl:JO K cls W tl ml)(hh:JO K cls W th mh):JE K cls W (tSl (Mc K) te tl th) (pb ma ml mh):=by
 intro Av G S₀ ρ σ S H Q I p
 refine ha.go I p fun a v S1 H1 I1 w1 r1 p1=>hl.go I1 p1 fun l u S2 H2 I2 w2 r2 p2=>hh.go I2 p2 fun h z S3 H3 I3 w3 r3 p3=>?_
 rw[part_of (r2.rd I2.sh),part_of (r3.rd I3.sh)];have ra:=((r1.rd I1.sh).mono w2.s w2.g).mono w3.s w3.g
 cases e:a.pv with
 | lst xs=>
   rw[e]at p3 ra;obtain⟨q,vs,rfl,hq,hr⟩:=gK ra
   exact⟨q,vs,rfl,hq,fun b hb=>p3 _ S3 _ (bq.heap I3.sh hb) ⟨b,_,rfl,hb,I3.sh.free hb,bP,hr.cut _ _⟩⟩
 |_=>rw[e]at p3;exact p3.elim
theorem HL{α:Type}{l:List (Option α)}{ι:List Nat}{j:Nat}{s:α}(h:(ι.map fun i=>(l[i]?).join)[j]?=some (some s)):∃ i,ι[j]?=some i /\ l[i]?=some (some s):=by grind
noncomputable def I8(ι:List Nat)(Av:Hp):Hp:=fun j=>match ι[j]? with
 |some i=>Av i
 |none=>none
noncomputable def yS(ι:List Nat)(F:Nat->List Addr):Nat->List Addr:=fun j=>match ι[j]? with
 |some i=>F i
 |none=>[]
theorem uH.at(h:uH K cls Av G S H i s v fp)(e:Av' j=Av i):uH K cls Av' G S H j s v fp:=by
 cases s with
 |sh x=>exact h
 |ow xs=>exact h
 |ex c fs=>exact h
 |tr io t=>exact⟨h.1,h.2.1,h.2.2.1,fun z=>by rw[e];exact h.2.2.2 z⟩
 |bo t=>exact h
theorem SR.pick{ι:List Nat}{x:PV}{v:V}(I:SR K cls Av G S₀ ρ σ S H)(hι:ι.Nodup)(hx:Rep K S x v):SR K cls (I8 ι Av) G S₀ (dk ι ρ++[some (.sh x)]) (L2.E.pick ι σ++[some v]) S H:=by
 obtain⟨F,J⟩:=I
 have hl:(dk ι ρ).length=(L2.E.pick ι σ).length:=by unfold dk L2.E.pick;simp
 have hp:(dk ι ρ).length=ι.length:=by unfold dk;simp
 refine⟨yS ι F,J.gh,J.s0,J.sh,J.new,fun j s e=>?_,fun j k a h1 h2=>?_,fun j a h=>?_,by unfold dk L2.E.pick;simp⟩
 . by_cases hj:j<(dk ι ρ).length
   . rw[List.getElem?_append_left hj]at e;obtain⟨i,e1,e2⟩:=HL e;obtain⟨u,e3,r⟩:=J.own i s e2
     refine⟨u,?_,?_⟩
     . rw[List.getElem?_append_left (by rw[<- hl];exact hj)];unfold L2.E.pick
       simp_all
     . unfold yS;rw[e1];exact r.at (by unfold I8;rw[e1])
   . have hj':=Nat.le_of_not_lt hj
     rw[List.getElem?_append_right hj']at e
     have h0:j - (dk ι ρ).length=0:=by
      grind
     rw[h0]at e;cases e
     refine⟨v,?_,?_,hx⟩
     . grind
     . unfold yS
       simp_all
 . unfold yS at h1 h2
   cases e1:ι[j]? with
   |none=>rw[e1]at h1;cases h1
   | some i=>
     cases e2:ι[k]? with
     |none=>rw[e2]at h2;cases h2
     | some i'=>
       rw[e1]at h1;rw[e2]at h2;have z:=J.apart i i' a h1 h2;subst z;obtain⟨ha,ea⟩:=List.getElem?_eq_some_iff.mp e1;obtain⟨hb,eb⟩:=List.getElem?_eq_some_iff.mp e2
       exact(List.getElem_inj hι).mp (ea.trans eb.symm)
 . unfold yS at h
   cases e1:ι[j]? with
   |none=>rw[e1]at h;cases h
   |some i=>rw[e1]at h;exact J.live i a h
theorem Ex{me:ag->OE}(h:dh me ρ (x ::xs)=.ok ys):∃ r y zs,me (ρ++[some (.sh x)])=.ok r /\ m3 r=some y /\ dh me ρ xs=.ok zs /\ ys=y ::zs:=by
 unfold dh at h
 cases e:me (ρ++[some (.sh x)])with
 | ok r=>
   rw[e]at h;simp only[OE.fJ]at h
   cases e2:m3 r with
   |none=>rw[e2]at h;cases h
   | some y=>
     rw[e2]at h
     cases e3:dh me ρ xs with
     |ok zs=>rw[e3]at h;cases h;exact⟨r,y,zs,rfl,e2,rfl,rfl⟩
     |exc c fs=>rw[e3]at h;cases h
     |bad=>rw[e3]at h;cases h
 |exc c fs=>rw[e]at h;cases h
 |bad=>rw[e]at h;cases h
theorem p8{J:It}{ι:List Nat}{me:ag->OE}{xs ys:List PV}(hι:ι.Nodup)(he:JE K cls (fun _ _ _ _=>False) te me)(I:SR K cls Av G S₀ ρ σ S H)(hy:dh me (dk ι ρ) xs=.ok ys)(hl:ys.length<=lim)
  (go:∀ k H' x,aK H H'->xs[k]?=some x->J.go k H' /\ ∀ v H2,J.yld k H' v H2->H2=H' /\ Rep K S x v) (stop:∀ H',aK H H'->J.stop xs.length H')
  (hQ:∀ D S' H',bq S H S' H'->H D=none->S' D=none->(∃ us,H' D=some (.lst us) /\ bw K S' ys us)->Q (.ref D) H'):
  ∀ D,H D=none->∃ W:Nat->Nat->List V->Hp->Prop,(∃ m,W 0 m [] (upd H D (.lst []))) /\ ∀ i m us H',W i m us H' ->
    H' D=some (.lst us) /\ ((J.stop i H' /\ Q (.ref D) H') \/ (J.go i H' /\ ∀ x H2,J.yld i H' x H2->te (L2.E.pick ι σ++[some x]) H2 fun y H3=>H3 D=some (.lst us) /\ us.length<sizeLine /\ ∃ m',m'<m /\ W (i+1) m' (us++[y]) (upd H3 D (.lst (us++[y]))))):=by
 intro D nD
 refine⟨fun k m us H'=>m+k=xs.length /\ H' D=some (.lst us) /\ ∃ S' zs ws,aK S S' /\ aK H H' /\ aK S' H' /\ (∀ b,S' b≠none->S b≠none \/ (H b=none /\ b≠D)) /\ bw K S' zs us /\ dh me (dk ι ρ) (xs.drop k)=.ok ws /\ ys=zs++ws,
  ⟨xs.length,rfl,bP,S,[],ys,aK.refl _,aK.new nD,I.sh.trans (aK.new nD),fun b z=>.inl z,.nil,hy,rfl⟩,?_⟩
 rintro k m us H' ⟨hm,hD,S',zs,ws,s1,g1,sh1,n1,r1,e1,rfl⟩
 refine⟨hD,?_⟩
 have hSD:S' D=none:=by
  cases q:S' D with
  |none=>rfl
  | some o=>
    rcases n1 D (by rw[q];simp)with z|⟨_,z⟩
    . exact absurd (I.sh.free nD) z
    . simp_all
 by_cases hk:k<xs.length
 . refine .inr ?_
   have hx:xs[k]?=some xs[k]:=by simp[hk]
   obtain⟨hgo,hyld⟩:=go k H' xs[k] g1 hx
   refine⟨hgo,fun v H2 hv=>?_⟩
   obtain⟨rfl,rv⟩:=hyld v H2 hv;rw[List.drop_eq_getElem_cons hk]at e1;obtain⟨r,y,zs',em,es,e2,rfl⟩:=Ex e1
   have I1:SR K cls Av G S₀ ρ σ S' H2:=I.grow ⟨s1,g1,sh1,fun b z=>by
    rcases n1 b z with z|⟨z,_⟩
    . simp_all
    . exact .inr z⟩
   refine he _ G S₀ _ _ S' H2 _ (I1.pick hι (Rep.mono s1 rv)) ?_;rw[em];intro u S2 H3 w2 r2;obtain⟨S3,w3,s3,ru⟩:=r2.share w2 es
   have hSD3:S3 D=none:=by
    cases q:S3 D with
    |none=>rfl
    | some o=>
      rcases w3.new D (by rw[q];simp)with z|z
      . simp_all
      . simp_all
   refine⟨w3.g _ _ hD,?_,m - 1,by omega,by omega,bP,S3,zs++[y],zs',s1.trans w3.s,(g1.trans w3.g).upd nD,w3.sh.upd hSD3,fun b z=>?_,(r1.mono w3.s).append (.cons ru .nil),e2,by simp⟩
   . rw[r1.length,<- Fz]
     grind
   . rcases w3.new b z with z|z
     . grind
     . refine .inr ⟨g1.free z,fun e=>?_⟩
       grind
 . have hk':k=xs.length:=by omega
   subst hk';refine .inl ⟨stop H' g1,?_⟩;rw[List.drop_length]at e1;cases e1
   exact hQ D S' H' ⟨s1,g1,sh1,fun b z=>by
    rcases n1 b z with z|⟨z,_⟩
    . grind
    . exact .inr z⟩ nD hSD ⟨us,hD,by rw[List.append_nil];exact r1⟩
theorem rP{ml me:ag->OE}{ι:List Nat}(hι:ι.Nodup)(hl:JE K cls W tl ml)(he:JE K cls (fun _ _ _ _=>False) te me):JE K cls W (ux (zK K tl) ι te) (qV ml ι me):=by
 intro Av G S₀ ρ σ S H Q I p
 refine hl.go I p fun r v S1 H1 I1 w1 r1 p1=>?_
 have ra:=r1.rd I1.sh
 cases e:r.pv with
 | lst xs=>
   rw[e]at p1 ra;obtain⟨a,vs,rfl,hq,hr⟩:=gK ra
   refine⟨a,rfl,⟨vs,hq⟩,?_⟩
   dsimp only at p1
   cases em:dh me (dk ι ρ) xs with
   |exc c fs=>rw[em]at p1;exact p1.elim
   |bad=>rw[em]at p1;exact p1.elim
   | ok ys=>
     rw[em]at p1;simp only[noX]at p1;split at p1
     . rename_i hlen
       refine p8 hι he I1 em hlen (fun k H' x g hx=>?_) (fun H' g=>⟨vs,aK.seq g hq,by rw[hr.length];exact Nat.le_refl _⟩) fun D S' H' w nD sD ⟨us,hD,rr⟩=>p1 (.ref D) S' H' w ⟨D,us,rfl,nD,sD,hD,rr⟩
       obtain⟨u,hu,ru⟩:=hr.get hx
       refine⟨⟨vs,u,aK.seq g hq,hu⟩,?_⟩
       rintro v' H2 ⟨rfl,hv⟩
       have:=hv vs (aK.seq g hq)
       simp_all
     . exact p1.elim
 |_=>rw[e]at p1;exact p1.elim
theorem zL{mn me:ag->OE}{ι:List Nat}(hι:ι.Nodup)(hn:JE K cls W tn mn)(he:JE K cls (fun _ _ _ _=>False) te me):JE K cls W (ux (Cz (iX tn kO)) ι te) (xF mn ι me):=by
 intro Av G S₀ ρ σ S H Q I p
 refine hn.go I p fun r v S1 H1 I1 w1 r1 p1=>?_
 have ra:=r1.rd I1.sh
 cases e:r.pv with
 | int j=>
   rw[e]at p1 ra;have hv:=dD ra;subst hv
   dsimp only at p1
   split at p1
   . rename_i hj
     refine⟨j,rfl,hj.1,hj.2,?_⟩
     cases em:dh me (dk ι ρ) (dE j.toNat)with
     |exc c fs=>rw[em]at p1;exact p1.elim
     |bad=>rw[em]at p1;exact p1.elim
     | ok ys=>
       rw[em]at p1;simp only[noX]at p1;split at p1
       . rename_i hlen
         have hln:(dE j.toNat).length=j.toNat:=by unfold dE;simp
         refine p8 hι he I1 em hlen (fun k H' x g hx=>?_) (fun H' g=>by rw[hln];exact Nat.le_refl _) fun D S' H' w nD sD ⟨us,hD,rr⟩=>p1 (.ref D) S' H' w ⟨D,us,rfl,nD,sD,hD,rr⟩
         have hk:k<j.toNat:=by rw[<- hln];exact(List.getElem?_eq_some_iff.mp hx).1
         refine⟨hk,?_⟩
         rintro v' H2 ⟨rfl,rfl⟩
         have:x=.int (k:Int):=by
          unfold dE at hx
          simp_all
         subst this;unfold Rep;simp
       . exact p1.elim
   . exact p1.elim
 |_=>rw[e]at p1;exact p1.elim
theorem bw.begin(h:bw K S xs vs)(N:List Str)(i:Nat)(s:Sl)(e:(ko N.length xs)[i]?=some (some s)):∃ x v,s=.sh x /\ (L2.start N vs)[i]?=some (some v) /\ Rep K S x v:=by
 unfold ko at e
 by_cases hi:i<xs.length
 . rw[List.getElem?_append_left (by simpa using hi),List.getElem?_map]at e
   have hx:xs[i]?=some xs[i]:=by simp
   obtain⟨v,hv,r⟩:=h.get hx;unfold L2.start
   grind
 . grind
theorem Nq{P:Program}{w:World}{mg:Str->Option Value}{base:Heap}{x qual:Str}{st:Stmt}{f:Addr}{fd:FuncData}{N ps:List Str}{k:Nat}{m:ag->OS}(F:Fun K x qual st f fd)(Sc:aW N ps (aC st))
  (hbody:∀(cdv:Value) (A:Around) (outer:List Env) (s:Shared) (H:Hp) (E:XK),ik k (A.deeper (envOfC qual (aC st) s.heap.objs.size f cdv)) ->
    ∃ t,PSs (tR (CXE P w) P w K mg base N qual (aC st) f cdv A outer s H E) (dF st) t /\ JS K cls (fun C a _ H=>∀ H',aK H H'->E C a H') t m):cq P w K mg base (CXE P w) (k+1) f fd ps (spP K cls (fnP ps.length N.length m)):=by
 refine okX F Sc (fun vs H Q E h=>?_) fun cdv A outer s H vs Q E hr h=>?_
 . obtain⟨S,xs,_,r,q⟩:=h;unfold fnP at q;split at q
   . rw[r.length];assumption
   . exact q.elim
 . obtain⟨S,xs,sS,r,q⟩:=h;unfold fnP at q;split at q
   . rename_i hl;obtain⟨t,ht,J⟩:=hbody cdv A outer s H E hr
     refine⟨t,ht,?_⟩
     refine J (fun _=>none) H S (ko N.length xs) (start N vs) S H _ ⟨fun _=>[],aK.refl _,aK.refl _,sS,fun _ z=>.inl z,fun i s e=>?_,fun i j a h=>(nomatch h),fun i a h=>(nomatch h),?_⟩ ?_
     . obtain⟨x,v,rfl,e1,rx⟩:=r.begin N i s e
       exact⟨v,e1,rfl,rx⟩
     . unfold ko L2.start;simp[r.length]
     . cases e:m (ko N.length xs)with
       |nx ρ'=>rw[e]at q;exact fun σ' S' H' I' s'=>q .non S' H' ⟨I'.s0,I'.gh,I'.sh,I'.new⟩ (by show Rep K S' _ _;rfl)
       |bk ρ'=>rw[e]at q;exact q.elim
       |ct ρ'=>rw[e]at q;exact q.elim
       |bad=>rw[e]at q;exact q.elim
       | rt ρ' r=>
         rw[e]at q
         cases r with
         |al ys=>exact q.elim
         |sh y=>exact fun v σ' S' H' b' s' rr=>q v S' H' ⟨b'.s0,b'.gh,b'.sh,b'.new⟩ rr
         |fr ys=>exact fun v σ' S' H' b' s' rr=>q v S' H' ⟨b'.s0,b'.gh,b'.sh,b'.new⟩ rr
       | exc ρ' c fs=>
         rw[e]at q
         exact fun a C σ' S' H' I' s' x H2 g2=>q a C S' H2 ⟨I'.s0,I'.gh.trans g2,I'.sh.trans g2,I'.new⟩ (x.mono (aK.refl _) g2)
   . exact q.elim
noncomputable def yN(K:PySem.W.Frag):Sp:=fun vs H Q _=>∃(a:Addr) (ns:List Int),vs=[.ref a] /\ SqL K H a (ns.map V.int) /\ ns.length<=63 /\ ∀ H',Q (.bl true) H'
theorem H0{f:List PV->OE}(h:∀ ns:List Int,ns.length<=63->f [.lst (ns.map .int)]=.ok (.sh (.bl true)))(vs:List V)(H:Hp)(Q:VK)(E:XK)(q:yN K vs H Q E):spP K cls f vs H Q E:=by
 obtain⟨a,ns,rfl,hS,hl,q⟩:=q
 refine⟨H,[.lst (ns.map .int)],aK.refl _,.cons (by unfold Rep;exact⟨a,_,rfl,hS,bw.ints⟩) .nil,?_⟩
 rw[h ns hl];intro v S' H' w r
 have:v=.bl true:=by have r':=r;exact r'
 simp_all
end
section
variable{K:PySem.W.Frag}{cls:String->Option Addr}{W:XW}{Av G S₀ S S' H H' B B':Hp}{ρ:ag}{σ:St}{Q:VK}
theorem xk{x:PV}{v:V}(h:RdV K S H x v):decide (v=.non)=cC x:=by
 cases x with
 |non=>rw[jo h];rfl
 |bl b=>rw[oG h];rfl
 |int b=>rw[dD h];rfl
 |str b=>rw[jx h];rfl
 |lst xs=>obtain⟨p,vs,rfl,_⟩:=gK h;rfl
 |tup xs=>obtain⟨p,vs,rfl,_⟩:=n4 h;rfl
theorem tU:JR K (fun x y H Q=>y=.non /\ Q (.bl (decide (x=.non))) H) rS:=by
 intro S H x y v u rr Q I hx hy e k;unfold rS at e;split at e
 . cases e
   exact⟨jo hy,k _ S H (bq.refl I) (by rw[xk hx];exact pf)⟩
 . grind
theorem xN:JR K (fun x y H Q=>y=.non /\ Q (.bl (!decide (x=.non))) H) vW:=by
 intro S H x y v u rr Q I hx hy e k;unfold vW at e;split at e
 . cases e
   exact⟨jo hy,k _ S H (bq.refl I) (by rw[xk hx];exact pf)⟩
 . cases e
end
end L2.P
namespace L2
open PySem PySem.Spec PyProof.Rows
structure QE(X:Cx)(e:Expr)(t:TE):Prop where
 out:PE X e t
structure QA(X:Cx)(es:List Expr)(t:TA):Prop where
 out:PA X es t
structure QS(X:Cx)(st:Stmt)(t:TS):Prop where
 out:PS X st t
structure QSs(X:Cx)(st:List Stmt)(t:TS):Prop where
 out:PSs X st t
structure QT(X:Cx)(e:Expr)(t:TT):Prop where
 out:PT X e t
structure QW(X:Cx)(e:Expr)(t:TT):Prop where
 out:PW X e t
structure QI(X:Cx)(tg e:Expr)(t:TI):Prop where
 out:PI X tg e t
structure QG(X:Cx)(e:Expr)(t:TG):Prop where
 out:PG X e t
structure QO(X:Cx)(e:Option Expr)(t:TO):Prop where
 out:PO X e t
end L2
namespace L2
theorem qau(h:True:=by first|rfl|decide|exact .inl rfl|exact .inr rfl|exact .inr (.inl rfl)|exact .inr (.inr rfl)|assumption|(intro _;rfl)|with_unfolding_all rfl):True:=h
end L2
namespace L2.E
open PySem PySem.Spec PyProof.Rows L2
theorem vH:QE X (Expr.Constant (Const.bool b) j pos) (tC (V.bl b)):=⟨Md ⟩
theorem ai:QE X (Expr.Constant (Const.int i) j pos) (tC (V.int i)):=⟨Jy ⟩
theorem aM:QE X (Expr.Constant (Const.str x) j pos) (tC (V.str x)):=⟨Lg ⟩
theorem cM:QE X (Expr.Constant Const.none j pos) (tC V.non):=⟨La ⟩
theorem qv{X:Cx}(h1:Nat)(h4:autoParam (X.N[h1]?=some x) qau._auto_1)(h5:autoParam (Vis X.env.scope x) qau._auto_1)(h6:autoParam ((x==Str.ofString "__debug__")=false) qau._auto_1)(h7:autoParam ((x==Str.ofString "__classdict__")=false) qau._auto_1):QE X (Expr.Name x pos) (Aj h1):=⟨pv h1 h4 h5 h6 h7⟩
theorem ba{X:Cx}(h5:Gl X x)(h6:X.mg x=some u)(h7:RelV v u)(h8:autoParam ((x==Str.ofString "__debug__")=false) qau._auto_1):QE X (Expr.Name x pos) (tC v):=⟨HG h5 h6 h7 h8⟩
theorem rY{X:Cx}(h5:Gl X x)(h6:X.mg x=none)(h7:bootBuiltins x=some u)(h8:RelV v u)(h9:autoParam (x≠Str.ofString "__name__") qau._auto_1)(h10:autoParam ((x==Str.ofString "__debug__")=false) qau._auto_1):QE X (Expr.Name x pos) (tC v):=⟨Gx h5 h6 h7 h8 h9 h10⟩
theorem K3(h4:QE X a ta):QE X (Expr.UnaryOp UnaryOp.Not a pos) (Fj ta):=⟨JF h4.out⟩
theorem mx{r:V->Hp->VK->Prop}(h6:UnR X (unaryOp op) r)(h7:QE X a ta):QE X (Expr.UnaryOp op a pos) (tUn r ta):=⟨L9 h6 h7.out⟩
theorem aF(h8:OpR X (binaryOp op) r)(h9:QE X a ta)(h10:QE X b tb):QE X (Expr.BinOp a op b pos) (tOp r ta tb):=⟨LW h8 h9.out h10.out⟩
theorem gv(h8:OpR X (compareOp op) r)(h9:QE X a ta)(h10:QE X b tb)(h11:behindInMarks op b=false):QE X (Expr.Compare a [op] [b] pos) (tOp r ta tb):=⟨GS h8 h9.out h10.out h11⟩
theorem FG(h12:OpR X (compareOp op) r)(h13:OpR X (compareOp op') r')(h14:QE X a ta)(h15:QE X b tb)(h16:QE X c tc)(h17:autoParam (lastMarks [op,op'] [b,c]=false) qau._auto_1):QE X (Expr.Compare a [op,op'] [b,c] pos) (vR r r' ta tb tc):=⟨E0 h12 h13 h14.out h15.out h16.out h17⟩
theorem EU(h5:QE X a t):QE X (Expr.BoolOp op [a] pos) t:=⟨Jk h5.out⟩
theorem Fo{X:Cx}{a:Expr}{b:Expr}{ta:TE}{tb:TE}{pos:Pos}{rest:List Expr}(h7:QE X a ta)(h8:QE X (Expr.BoolOp BoolOp.And (b ::rest) pos) tb):QE X (Expr.BoolOp BoolOp.And (a ::b ::rest) pos) (EV ta tb):=⟨LC h7.out h8.out⟩
theorem cP(h8:QT X c tA)(h9:QE X a ta)(h10:QE X b tb):QE X (Expr.IfExp c a b pos) (tIf tA ta tb):=⟨Ff h8.out h9.out h10.out⟩
theorem aQ(h4:QA X es t):QE X (Expr.List es pos) (Ie t):=⟨Le h4.out⟩
theorem cB(h5:QA X es t):QE X (Expr.Tuple es x1 pos) (Ky t):=⟨KN h5.out⟩
theorem o9{X:Cx}{e:Expr}{te:TE}{lo:Option Expr}{hi:Option Expr}{tl:TO}{th:TO}{pos:Pos}{p2:Pos}{r:V->Option Int->Option Int->Hp->VK->Prop}(h10:SlR X r)(h11:QE X e te)(h12:QO X lo tl)(h13:QO X hi th):QE X (Expr.Subscript e (Expr.Slice lo hi none p2) pos) (tSl r te tl th):=⟨DS h10 h11.out h12.out h13.out⟩
theorem My(h7:IxR X r)(h8:QE X a ta)(h9:QE X b tb)(h10:yd b):QE X (Expr.Subscript a b pos) (tOp r ta tb):=⟨LV h7 h8.out h9.out h10⟩
theorem lW{X:Cx}{cl:List (Str×Addr)}(h12:lD X scope cl M ι x)(h13:X.calm=true)(h14:QI X (Expr.Name x px) iter wi)(h15:∀(C:Addr) (s₀:Shared) (H₀:Hp) (ex:List Addr),QE (blk X scope cl (M++[x]) C s₀ H₀ ex) elt te)(h16:autoParam (∀(v:Value),foldedSetIterable iter X.env v=pure v) qau._auto_1):QE X (Expr.ListComp elt [Comprehension.mk (Expr.Name x px) iter [] 0] scope pos) (ux wi ι te):=⟨G7 h12 h13 h14.out (fun z0 z1 z2 z3=>(h15 z0 z1 z2 z3).out) h16⟩
theorem EB{X:Cx}{x:Str}(h15:cq X.prog X.w X.K X.mg X.base (CXE X.prog X.w) k f fd ps sp)(h16:ik k X.A)(h17:Gl X x)(h18:X.mg x=some (Value.ref f))(h19:PySem.W.keepIn X.K (Value.ref f)=true)(h20:Binds X.K fd ps ds)(h21:Vals dvs ds)(h22:Thr X W)(h23:QA X (e ::es) t)(h24:autoParam ((x==Str.ofString "__debug__")=false) qau._auto_1)(h25:autoParam (starEach (e ::es) X.env=(false,eval e X.env) ::starEach es X.env) qau._auto_1)(h26:autoParam ((List.any (backTo pos (starEach es X.env)) fun x=>x.fst)=false) qau._auto_1):QE X (Expr.Call (Expr.Name x p) (e ::es) [] pos) (rB sp dvs W t):=⟨F9 h15 h16 h17 h18 h19 h20 h21 h22 h23.out h24 h25 h26⟩
theorem jv{X:Cx}{x:Str}{p:Pos}{pos:Pos}{e:Expr}{es:List Expr}{t:TA}{id:String}{r:List V->Hp->VK->Prop}(h9:oI X (Value.builtin id) r)(h10:Gl X x)(h11:X.mg x=none)(h12:bootBuiltins x=some (Value.builtin id))(h13:QA X (e ::es) t)(h14:autoParam (x≠Str.ofString "__name__") qau._auto_1)(h15:autoParam ((x==Str.ofString "__debug__")=false) qau._auto_1)(h16:autoParam (starEach (e ::es) X.env=(false,eval e X.env) ::starEach es X.env) qau._auto_1)(h17:autoParam ((List.any (backTo pos (starEach es X.env)) fun x=>x.fst)=false) qau._auto_1):QE X (Expr.Call (Expr.Name x p) (e ::es) [] pos) (tCB r t):=⟨EC h9 h10 h11 h12 h13.out h14 h15 h16 h17⟩
theorem gX{X:Cx}{x:Str}{r:List V->Hp->VK->Prop}(h9:oI X (Value.type T) r)(h10:Gl X x)(h11:X.mg x=none)(h12:bootBuiltins x=some (Value.type T))(h13:QA X (e ::es) t)(h14:autoParam (x≠Str.ofString "__name__") qau._auto_1)(h15:autoParam ((x==Str.ofString "__debug__")=false) qau._auto_1)(h16:autoParam (starEach (e ::es) X.env=(false,eval e X.env) ::starEach es X.env) qau._auto_1)(h17:autoParam ((List.any (backTo pos (starEach es X.env)) fun x=>x.fst)=false) qau._auto_1):QE X (Expr.Call (Expr.Name x p) (e ::es) [] pos) (tCB r t):=⟨DB h9 h10 h11 h12 h13.out h14 h15 h16 h17⟩
theorem IK{X:Cx}{o:Expr}{e:Expr}{es:List Expr}{to:TE}{t:TA}{name:Str}{apos:Pos}{cpos:Pos}{T:String}{id:String}{r:V->List V->Hp->VK->Prop}(h12:PlainAttrs T)(h13:Slot T name id)(h14:typeOf (Value.builtin id)=pure (Value.type "method_descriptor"))(h15:MtR X id r)(h16:QE X o to)(h17:QA X (e ::es) t)(h18:autoParam (attributeBase o name X.env (eval o X.env)=eval o X.env) qau._auto_1)(h19:autoParam ((((List.all (backTo cpos (starEach (e ::es) X.env)) fun x=>!x.fst)&&List.all (backToKw cpos (keywordEach [] X.env)) fun x=>Option.isSome x.fst)&&Decidable.decide ((List.length (e ::es)+List.length ([]:List Keyword)+if List.isEmpty ([]:List Keyword)=true then 0 else 1)<30))=true) qau._auto_1)(h20:autoParam ((apos.endLine==cpos.line)=true) qau._auto_1)(h21:autoParam (starEach (e ::es) X.env=(false,eval e X.env) ::starEach es X.env) qau._auto_1)(h22:autoParam ((List.any (backTo cpos (starEach es X.env)) fun x=>x.fst)=false) qau._auto_1):QE X (Expr.Call (Expr.Attribute o name apos) (e ::es) [] cpos) (tBM X.K T r to t):=⟨LZ h12 h13 h14 h15 h16.out h17.out h18 h19 h20 h21 h22⟩
theorem Ba{X:Cx}{o:Expr}{to:TE}{name:Str}{apos:Pos}{cpos:Pos}{T:String}{id:String}{r:V->List V->Hp->VK->Prop}(h9:PlainAttrs T)(h10:Slot T name id)(h11:typeOf (Value.builtin id)=pure (Value.type "method_descriptor"))(h12:MtR X id r)(h13:QE X o to)(h14:autoParam (attributeBase o name X.env (eval o X.env)=eval o X.env) qau._auto_1)(h15:autoParam ((apos.endLine==cpos.line)=true) qau._auto_1):QE X (Expr.Call (Expr.Attribute o name apos) [] [] cpos) (Ho X.K T r to):=⟨Kg h9 h10 h11 h12 h13.out h14 h15⟩
theorem sG:QO X none yc:=⟨Gq ⟩
theorem sm(h3:QE X e te):QO X (some e) (El te):=⟨HX h3.out⟩
theorem av:QA X [] kO:=⟨Jn ⟩
theorem aa(h5:QE X e te)(h6:QA X es t)(h7:autoParam (isStar e=false) qau._auto_1):QA X (e ::es) (iX te t):=⟨Fw h5.out h6.out h7⟩
theorem iC(h8:OpR X (compareOp op) r)(h9:QE X a ta)(h10:QE X b tb)(h11:behindInMarks op b=false):QT X (Expr.Compare a [op] [b] pos) (xc (tOp r ta tb)):=⟨GD h8 h9.out h10.out h11⟩
theorem jd(h12:OpR X (compareOp op) r)(h13:OpR X (compareOp op') r')(h14:QE X a ta)(h15:QE X b tb)(h16:QE X c tc)(h17:autoParam (lastMarks [op,op'] [b,c]=false) qau._auto_1):QT X (Expr.Compare a [op,op'] [b,c] pos) (xc (vR r r' ta tb tc)):=⟨Ec h12 h13 h14.out h15.out h16.out h17⟩
theorem Er(h4:QT X a tA):QT X (Expr.UnaryOp UnaryOp.Not a pos) (Ih tA):=⟨Lz h4.out⟩
theorem cg{X:Cx}(h3:QE X a ta)(h4:∀(whole:Sem Value),
 isTrue a X.env whole=do
  let v <- whole
  standAt (Expr.pos a)
  holding [v] (truthy v)):QT X a fun σ H Q=>ta σ H fun x H'=>∃ k,AQ X.K x H' k /\ Q k H':=⟨Ft h3.out h4⟩
theorem jz(h3:QW X e t):QT X e t:=⟨PW.pt h3.out⟩
theorem jt(h4:QT X a tA):QW X (Expr.BoolOp BoolOp.And [a] pos) tA:=⟨GB h4.out⟩
theorem rJ(h4:QT X a tA):QW X (Expr.BoolOp BoolOp.Or [a] pos) tA:=⟨Ju h4.out⟩
theorem jh{X:Cx}{a:Expr}{b:Expr}{pos:Pos}{tA:TT}{tB':TT}{rest:List Expr}(h7:QT X a tA)(h8:QW X (Expr.BoolOp BoolOp.And (b ::rest) pos) tB'):QW X (Expr.BoolOp BoolOp.And (a ::b ::rest) pos) (KQ tA tB'):=⟨KJ h7.out h8.out⟩
theorem uD{X:Cx}{a:Expr}{b:Expr}{pos:Pos}{tA:TT}{tB':TT}{rest:List Expr}(h7:QT X a tA)(h8:QW X (Expr.BoolOp BoolOp.Or (b ::rest) pos) tB'):QW X (Expr.BoolOp BoolOp.Or (a ::b ::rest) pos) (tOr tA tB'):=⟨Mr h7.out h8.out⟩
theorem m8{X:Cx}(h6:Gl X (Str.ofString "range"))(h7:X.mg (Str.ofString "range")=none)(h8:QA X [a] ta)(h9:autoParam (starEach [a] X.env=[(false,eval a X.env)]) qau._auto_1):QI X tg (Expr.Call (Expr.Name (Str.ofString "range") p) [a] [] pos) (Cz ta):=⟨C1 h6 h7 h8.out h9⟩
theorem gU{X:Cx}(h4:QE X l tl):QI X tg l (zK X.K tl):=⟨Gz h4.out⟩
theorem Jl{X:Cx}(h4:QE X l tl):QI X tg l (K1 X.K tl):=⟨Kj h4.out⟩
theorem Lh{X:Cx}{pos:Pos}(h7:List.Nodup X.N)(h8:X.N[i]?=some x)(h9:Loc X.env.scope x)(h10:QE X e te)(h11:autoParam (swapsWith e (some (Expr.Name x pos')) pos.line X.env=pure false) qau._auto_1)(h12:autoParam (X.fn x=true \/ List.lookup x X.env.scope.names=some NameKind.local) qau._auto_1):QS X (Stmt.Assign [Expr.Name x pos'] e pos) (tH te (j8 i)):=⟨JQ h7 h8 h9 h10.out h11 h12⟩
theorem x5{X:Cx}{pos:Pos}(h6:QE X e te)(h7:QG X tg g)(h8:autoParam (swapsWithSole [tg] e pos.line X.env=pure false) qau._auto_1)(h9:autoParam (swappedStores [tg] e X.env=pure none) qau._auto_1)(h10:autoParam (List.map (fun x=>x.snd) (assignEach [tg] X.env)=[assign tg X.env]) qau._auto_1):QS X (Stmt.Assign [tg] e pos) (tH te g):=⟨KP h6.out h7.out h8 h9 h10⟩
theorem aT(h8:QT X c tc)(h9:QSs X a t)(h10:QSs X b u):QS X (Stmt.If c a b pos) (Gp tc t u):=⟨LU h8.out h9.out h10.out⟩
theorem aA(h4:QE X e te):QS X (Stmt.Return (some e) pos) (GY te):=⟨Kd h4.out⟩
theorem yA{X:Cx}{pos:Pos}(h4:QE X e te)(h5:autoParam (swapsWith e none pos.line X.env=pure false) qau._auto_1):QS X (Stmt.Expr e pos) (sQ te):=⟨Hn h4.out h5⟩
theorem vg{X:Cx}(h6:PassesOwn (model X.prog X.w) X.A X.env X.xe)(h7:QT X c tc)(h8:QSs X body tb):QS X (Stmt.While c body [] pos) (Bq tc tb):=⟨Fp h6 h7.out h8.out⟩
theorem mN{X:Cx}(h8:PassesOwn (model X.prog X.w) X.A X.env X.xe)(h9:X.calm=true)(h10:QI X tg iter wi)(h11:QG X tg g)(h12:QSs X body tb)(h13:autoParam (∀(x:Value),foldedSetIterable iter X.env x=pure x) qau._auto_1):QS X (Stmt.For tg iter body [] pos) (EL wi g tb):=⟨KY h8 h9 h10.out h11.out h12.out h13⟩
theorem jj{X:Cx}(h4:List.Nodup X.N)(h5:X.N[i]?=some x)(h6:Loc X.env.scope x)(h7:autoParam (X.fn x=true \/ List.lookup x X.env.scope.names=some NameKind.local) qau._auto_1):QG X (Expr.Name x pos) (j8 i):=⟨G6 h4 h5 h6 h7⟩
theorem aD:QSs X [] D8:=⟨GF ⟩
theorem au{X:Cx}{st:Stmt}{t:TS}(h3:QS X st t):QSs X [st] t:=⟨HR h3.out⟩
theorem aj{X:Cx}{st:Stmt}{rest:List Stmt}{t:TS}{u:TS}(h5:QS X st t)(h6:QSs X rest u):QSs X (st ::rest) (JB t u):=⟨FW h5.out h6.out⟩
end L2.E
namespace L2.P
open PySem PySem.Spec PyProof.Rows L2 L2.E
theorem fG{K:PySem.W.Frag}{cls:String->Option Addr}{P:Program}{w:World}{mg:Str->Option Value}{base:Heap}{x qual:Str}{st:Stmt}{f:Addr}{fd:FuncData}{N ps:List Str}{k:Nat}{m:ag->OS}(F:Fun K x qual st f fd)(Sc:aW N ps (aC st))
  (hbody:∀(cdv:Value) (A:Around) (outer:List Env) (s:Shared) (H:Hp) (E:XK),ik k (A.deeper (envOfC qual (aC st) s.heap.objs.size f cdv)) ->
    ∃ t,QSs (tR (CXE P w) P w K mg base N qual (aC st) f cdv A outer s H E) (dF st) t /\ JS K cls (fun C a _ H=>∀ H',aK H H'->E C a H') t m):cq P w K mg base (CXE P w) (k+1) f fd ps (spP K cls (fnP ps.length N.length m)):=
 Nq F Sc fun cdv A outer s H E hr=>let ⟨t,h1,h2⟩:=hbody cdv A outer s H E hr;⟨t,h1.out,h2⟩
end L2.P
namespace L2.E
open PySem PySem.Spec PyProof.Rows L2
end L2.E
namespace L2.P
open PySem PySem.Spec PyProof.Rows L2 L2.E
end L2.P
namespace L2.E
open PySem PySem.Spec PyProof.Rows L2
section
variable{prog:Program}{w:World}{A:Around}{E:Value->Shared->Prop}{s:Shared}{K:PySem.W.Frag}{x C:Addr}{name:Str}{v:Value}
open PySem.W in
open PySem.W in
end
noncomputable def L7(a C:Addr)(dx:Option Addr)(h:Heap):Prop:=∃ o t,h.get? a=some o /\ o.cls=.ref C /\ o.dict=dx /\ o.data=.fields #[.ref t,.none,.none,.none,.bool false,.none]
theorem L7.exc{a C:Addr}{dx:Option Addr}{h:Heap}(x:L7 a C dx h):Lm a C dx h:=let ⟨o,t,e,c,d,f⟩:=x;⟨o,_,e,c,d,f,rfl⟩
section
variable{prog:Program}{w:World}{A:Around}{E:Value->Shared->Prop}{s:Shared}{K:PySem.W.Frag}{x C:Addr}{name:Str}{v:Value}{tk:Tok}
open PySem.W in
end
section
variable{prog:Program}{w:World}{A:Around}{E:Value->Shared->Prop}{hh:Heap}{g:Array GenState}{d:Drawn}{t:Nat}{os:OsState}{K:PySem.W.Frag}{x C:Addr}{name:Str}{v:Value}{tk:Tok}
open PySem.W in
end
section
variable{prog:Program}{w:World}{A:Around}{E:Value->Shared->Prop}{s:Shared}{K:PySem.W.Frag}{x C:Addr}{name:Str}{v:Value}
open PySem.W in
end
section
variable{prog:Program}{w:World}{A:Around}{E:Value->Shared->Prop}{h:Heap}{g:Array GenState}{d:Drawn}{t:Nat}{os:OsState}{K:PySem.W.Frag}
variable{nm q:Str}{C N:Addr}{bs bm bmB:List Value}{hdct:Bool}{sn:List Str}{sub:List Value}{ab:Bool}{col:Option Bool}{dd:Option Addr}{k0 k1 k2 k3 k5:Option Value}{B newId initId:String}
open PySem.W in
open PySem.W in
end
theorem xY{X:Cx}{o i:Expr}{to ti:TE}{t:GH}{pos:Pos}(ho:QE X o to)(hi:QE X i ti)(hs:KD X t)
  (ha:∀ v,assign (.Subscript o i pos) X.env v=(do
    let ov <- holding [v] (eval o X.env)
    let iv <- holding [v,ov] (eval i X.env)
    standAt pos
    holding [v,ov,iv] (setItem ov iv v)
    release [v,ov,iv] []):=by intro _;rfl):QG X (.Subscript o i pos) (Jq to ti t):=⟨Jo ho.out hi.out hs ha⟩
end L2.E
namespace L2.P
open PySem PySem.Spec PyProof.Rows L2 L2.E
end L2.P
namespace L2.P
open PySem
inductive Stp where
 |ix (k:Nat)|fd (f:Str)
noncomputable def o3:List Str->List OV->Str->Option OV
 |k ::ks,t ::ts,f=>if k=f then some t else o3 ks ts f
 |_,_,_=>none
noncomputable def wG:List Str->List OV->Str->OV->List OV
 |k ::ks,t ::ts,f,u=>if k=f then u ::ts else t ::wG ks ts f u
 |_,ts,_,_=>ts
noncomputable def OV.at1:OV->Stp->Option OV
 |.ol ts,.ix k=>ts[k]?
 |.ob _ ks ts,.fd f=>o3 ks ts f
 |_,_=>none
noncomputable def OV.kF:OV->Stp->OV->OV
 |.ol ts,.ix k,u=>.ol (ts.set k u)
 |.ob c ks ts,.fd f,u=>.ob c ks (wG ks ts f u)
 |t,_,_=>t
noncomputable def OV.get:OV->List Stp->Option OV
 |t,[]=>some t
 |t,s ::π=>(t.at1 s).bind fun u=>u.get π
noncomputable def OV.put:OV->List Stp->OV->OV
 |_,[],u=>u
 | t,s ::π,u=>match t.at1 s with
   |some t'=>t.kF s (t'.put π u)
   |none=>t
noncomputable def slT:Sl->Option OV
 |.tr _ t=>some t
 |.bo t=>some t
 |_=>none
noncomputable def fO(i:Nat)(ρ:ag):Option OV:=match ρ[i]? with
 |some (some s)=>slT s
 |_=>none
abbrev MP:=ag->Option (List Stp)
noncomputable def aI:MP:=fun _=>some []
noncomputable def pIx(i:Nat)(mp:MP)(mk:ag->OE):MP:=fun ρ=>match fO i ρ with
 | some t=>(match mp ρ with
   | some π=>(match t.get π with
     | some (.ol ts)=>(match mk ρ with
       | .ok r=>(match r.pv with
         |.int k=>(ixP ts.length k).map fun j=>π++[.ix j]
         |_=>none)
       |_=>none)
     |_=>none)
   |none=>none)
 |none=>none
noncomputable def subAt(i:Nat)(mp:MP)(ρ:ag):Option OV:=match fO i ρ with
 | some t=>(match mp ρ with
   |some π=>t.get π
   |none=>none)
 |none=>none
noncomputable def pFd(i:Nat)(mp:MP)(f:Str)(ok:String->Bool):MP:=fun ρ=>match subAt i mp ρ with
 |some (.ob c ks ts)=>if(ok c&&(o3 ks ts f).isSome)=true then(mp ρ).map fun π=>π++[.fd f]else none
 |_=>none
noncomputable def v3:List OV->Option (List PV)
 |[]=>some []
 |.sh x ::r=>(v3 r).map (x ::·)
 |_ ::_=>none
@[simp] theorem tu(xs:List PV):v3 (xs.map .sh)=some xs:=by
  induction xs with
  |nil=>rfl
  |cons x xs ih=>show(v3 (xs.map .sh)).map (x ::·)=_;rw[ih];rfl
noncomputable def cF(i:Nat)(mp:MP):ag->OE:=fun ρ=>match subAt i mp ρ with
 |some (.sh x)=>.ok (.sh x)
 | some (.ol ts)=>(match v3 ts with
   |some xs=>.ok (.al xs)
   |none=>.bad)
 |_=>.bad
noncomputable def dv(i:Nat)(mp:MP):ag->OT:=fun ρ=>match subAt i mp ρ with
 |some (.ol ts)=>.ok (!ts.isEmpty)
 |_=>.bad
noncomputable def gb(i:Nat)(mp:MP):ag->OE:=fun ρ=>match subAt i mp ρ with
 |some (.ol ts)=>.ok (.sh (.int ts.length))
 |_=>.bad
inductive OD where
 |ok (t:OV)|exc (c:String) (fs:XF)|bad
inductive ODs where
 |ok (ts:List OV)|exc (c:String) (fs:XF)|bad
noncomputable def mD(me:ag->OE):ag->OD:=fun ρ=>match me ρ with
 |.ok (.sh x)=>.ok (.sh x)
 |.ok (.fr xs)=>.ok (.ol (xs.map .sh))
 |.ok (.al _)=>.bad
 |.exc c fs=>.exc c fs
 |.bad=>.bad
noncomputable def mDn:ag->ODs:=fun _=>.ok []
noncomputable def mDc(md:ag->OD)(mr:ag->ODs):ag->ODs:=fun ρ=>match md ρ with
 | .ok t=>(match mr ρ with
   |.ok ts=>.ok (t ::ts)
   |.exc c fs=>.exc c fs
   |.bad=>.bad)
 |.exc c fs=>.exc c fs
 |.bad=>.bad
noncomputable def mDl(mr:ag->ODs):ag->OD:=fun ρ=>match mr ρ with
 |.ok ts=>if ts.length<=lim then .ok (.ol ts)else .bad
 |.exc c fs=>.exc c fs
 |.bad=>.bad
noncomputable def j6(i:Nat)(md:ag->OD):ag->OS:=fun ρ=>match md ρ with
 |.ok t=>.nx (ρ.set i (some (.tr false t)))
 |.exc c fs=>.exc ρ c fs
 |.bad=>.bad
noncomputable def uf(i:Nat)(mp:MP)(ρ:ag)(k:OV->(OV->ag)->OS):OS:=match ρ[i]? with
 | some (some (.tr io t))=>(match mp ρ with
   | some π=>(match t.get π with
     |some u=>k u fun u'=>ρ.set i (some (.tr io (t.put π u')))
     |none=>.bad)
   |none=>.bad)
 |_=>.bad
noncomputable def b0(i:Nat)(mp:MP)(md:ag->OD):ag->OS:=fun ρ=>uf i mp ρ fun u put=>match u with
 | .ol ts=>(match md ρ with
   |.ok x=>if ts.length<lim then .nx (put (.ol (ts++[x])))else .bad
   |.exc c fs=>.exc ρ c fs
   |.bad=>.bad)
 |_=>.bad
noncomputable def pC(i:Nat)(mp:MP)(mk:ag->OE)(md:ag->OD):ag->OS:=fun ρ=>match md ρ with
 | .ok x=>uf i mp ρ fun u put=>(match u with
   | .ol ts=>(mk ρ).cX ρ fun r=>(match r.pv with
     | .int k=>(match ixP ts.length k with
       |some j=>.nx (put (.ol (ts.set j x)))
       |none=>.bad)
     |_=>.bad)
   |_=>.bad)
 |.exc c fs=>.exc ρ c fs
 |.bad=>.bad
noncomputable def Fh(i:Nat)(mp:MP)(f:Str)(okc:String->Bool)(md:ag->OD):ag->OS:=fun ρ=>match md ρ with
 | .ok x=>uf i mp ρ fun u put=>(match u with
   |.ob c ks ts=>if(okc c&&decide (ks.length<1000))=true then(if ks.contains f=true then .nx (put (.ob c ks (wG ks ts f x)))else .nx (put (.ob c (ks++[f]) (ts++[x]))))else .bad
   |_=>.bad)
 |.exc c fs=>.exc ρ c fs
 |.bad=>.bad
inductive OX where
 |ok (ρ:ag) (s:Sl)|exc (ρ:ag) (c:String) (fs:XF)|bad
noncomputable def slO:OV->Sl
 |.sh x=>.sh x
 |t=>.tr false t
noncomputable def qO(i:Nat)(mp:MP):ag->OX:=fun ρ=>match ρ[i]? with
 | some (some (.tr io t))=>(match mp ρ with
   | some π=>(match t.get π with
     | some (.ol ts)=>(match ts.getLast? with
       |some x=>.ok (ρ.set i (some (.tr io (t.put π (.ol ts.dropLast))))) (slO x)
       |none=>.bad)
     |_=>.bad)
   |none=>.bad)
 |_=>.bad
noncomputable def nio:Sl->Bool
 |.tr true _=>false
 |.bo _=>false
 |_=>true
noncomputable def hJ(i:Nat)(m:ag->OX):ag->OS:=fun ρ=>match m ρ with
 |.ok ρ' s=>if nio s then .nx (ρ'.set i (some s))else .bad
 |.exc ρ' c fs=>.exc ρ' c fs
 |.bad=>.bad
noncomputable def HH(neg:Bool)(m:ag->OX)(a b:ag->OS):ag->OS:=fun ρ=>match m ρ with
 | .ok ρ' (.sh x)=>(match tT x with
   |some k=>if(k != neg)=true then a ρ' else b ρ'
   |none=>.bad)
 |.ok _ _=>.bad
 |.exc ρ' c fs=>.exc ρ' c fs
 |.bad=>.bad
mutual
noncomputable def pvO:OV->Option PV
 |.sh x=>some x
 |.ol ts=>(uJ ts).map .lst
 |.ob _ _ _=>none
 |.di _=>none
 |.dt _=>none
noncomputable def uJ:List OV->Option (List PV)
 |[]=>some []
 |t ::ts=>(pvO t).bind fun x=>(uJ ts).map (x ::·)
end
noncomputable def nY(i:Nat)(ρ:ag):ag:=match ρ[i]? with
 | some (some (.tr false t))=>(match pvO t with
   |some x=>ρ.set i (some (.sh x))
   |none=>ρ)
 |_=>ρ
noncomputable def lC(i:Nat)(m:ag->OS):ag->OS:=fun ρ=>m (nY i ρ)
inductive OI where
 |ok (x:PV) (outs:List (Option OV))|exc (c:String) (fs:XF) (outs:List (Option OV))|bad
inductive Arg where
 |e (me:ag->OE)|t (i:Nat) (mp:MP)|b (i:Nat) (mp:MP)
noncomputable def pV:Option Sl->Option OV
 |some (.tr true t)=>some t
 |_=>none
noncomputable def tM(np:Nat):OS->OI
 |.nx ρ=>.ok .non ((ρ.take np).map pV)
 |.rt ρ (.sh x)=>.ok x ((ρ.take np).map pV)
 |.exc ρ c fs=>.exc c fs ((ρ.take np).map pV)
 |_=>.bad
noncomputable def kx(n:Nat)(as:List Sl):ag:=as.map some++List.replicate (n - as.length) none
noncomputable def fnI(np n:Nat)(m:ag->OS)(as:List Sl):OI:=if as.length=np then tM np (m (kx n as))else .bad
noncomputable def kA(a:Arg)(ρ:ag):Option Sl:=match a with
 | .e me=>(match me ρ with
   |.ok r=>(m3 r).map .sh
   |_=>none)
 | .t i mp=>(match ρ[i]? with
   |some (some (.tr _ t))=>((mp ρ).bind fun π=>t.get π).map (.tr true)
   |_=>none)
 |.b i mp=>(subAt i mp ρ).map .bo
noncomputable def jy:List Arg->ag->Option (List Sl)
 |[],_=>some []
 |a ::as,ρ=>(kA a ρ).bind fun s=>(jy as ρ).map (s ::·)
noncomputable def jR(ρ₀:ag):Arg->Option OV->ag->ag
 | .t i mp,some u,ρ=>(match ρ[i]? with
   | some (some (.tr io t))=>(match mp ρ₀ with
     |some π=>ρ.set i (some (.tr io (t.put π u)))
     |none=>ρ.set i none)
   |_=>ρ.set i none)
 |.t i _,none,ρ=>ρ.set i none
 |_,_,ρ=>ρ
noncomputable def eZ(ρ₀:ag):List Arg->List (Option OV)->ag->ag
 |[],_,ρ=>ρ
 |a ::as,us,ρ=>eZ ρ₀ as us.tail (jR ρ₀ a us.head?.join ρ)
noncomputable def iG(f:List Sl->OI)(as:List Arg):ag->OX:=fun ρ=>match jy as ρ with
 | some ss=>(match f ss with
   |.ok x outs=>.ok (eZ ρ as outs ρ) (.sh x)
   |.exc c fs outs=>.exc (eZ ρ as outs ρ) c fs
   |.bad=>.bad)
 |none=>.bad
noncomputable def xQ(f:List Sl->OI)(as:List Arg):ag->OE:=fun ρ=>match jy as ρ with
 | some ss=>(match f ss with
   |.ok x _=>.ok (.sh x)
   |.exc c fs _=>.exc c fs
   |.bad=>.bad)
 |none=>.bad
noncomputable def recv(c:String)(m:Str):Option Sl->Bool
 |some (.tr true (.ob c' ks _))=>c'==c && !ks.contains m
 |some (.bo (.ob c' ks _))=>c'==c && !ks.contains m
 |_=>false
noncomputable def lJ(c:String)(m:Str)(f:List Sl->OI)(as:List Arg):ag->OX:=fun ρ=>match as with
 |a ::_=>if recv c m (kA a ρ)=true then iG f as ρ else .bad
 |[]=>.bad
noncomputable def n9(c:String)(m:Str)(f:List Sl->OI)(as:List Arg):ag->OE:=fun ρ=>match as with
 |a ::_=>if recv c m (kA a ρ)=true then xQ f as ρ else .bad
 |[]=>.bad
noncomputable def sy(c:String)(f:List Sl->OI):ag->OD:=fun _=>match f [.tr true (.ob c [] [])]with
 |.ok .non (some t ::_)=>.ok t
 |_=>.bad
noncomputable def nz(i j:Nat)(mb:ag->OS):List PV->ag->OS
 |[],ρ=>.nx ρ
 |.tup [x,y] ::xs,ρ=>(mb ((ρ.set i (some (.sh x))).set j (some (.sh y)))).turn (nz i j mb xs)
 |_ ::_,_=>.bad
noncomputable def uB(k:Nat):List PV->List PV
 |[]=>[]
 |x ::xs=>.tup [.int k,x] ::uB (k+1) xs
noncomputable def Ci(i j:Nat)(ml:ag->OE)(mb:ag->OS):ag->OS:=fun ρ=>(ml ρ).cX ρ fun r=>match za r with
 |some xs=>nz i j mb (uB 0 xs) ρ
 |none=>.bad
noncomputable def vD(ml:ag->OE)(ι:List Nat)(me:ag->OE):ag->OE:=fun ρ=>(ml ρ).bind fun r=>match r.pv with
 |.tup xs=>noX (dh me (dk ι ρ) xs)
 |_=>.bad
noncomputable def fZ(mc:ag->OT)(me:ag->OE)(ρ:ag):List PV->OA
 |[]=>.ok []
 | x ::xs=>(match mc (ρ++[some (.sh x)])with
   | .ok true=>(me (ρ++[some (.sh x)])).fJ fun r=>(match m3 r with
     |some y=>(fZ mc me ρ xs).fJ fun ys=>.ok (y ::ys)
     |none=>.bad)
   |.ok false=>fZ mc me ρ xs
   |_=>.bad)
noncomputable def ke(ml:ag->OE)(ι:List Nat)(mc:ag->OT)(me:ag->OE):ag->OE:=fun ρ=>(ml ρ).bind fun r=>match r.pv with
 |.lst xs=>noX (fZ mc me (dk ι ρ) xs)
 |_=>.bad
noncomputable def C4(ma ms:ag->OE):ag->OE:=fun ρ=>(ma ρ).bind fun a=>(ms ρ).bind fun k=>match a.pv,k.pv with
 |.lst xs,.int k=>if k=-1 then .ok (.fr xs.reverse)else .bad
 |_,_=>.bad
noncomputable def mJ:PV->Option RV
 |.lst xs=>some (.sh (.tup xs))
 |.tup xs=>some (.sh (.tup xs))
 |_=>none
mutual
noncomputable def ky:PV->PV->Bool
 |.non,y=>(match y with|.non=>true|_=>false)
 |.bl a,y=>(match y with|.bl b=>a==b|.int j=>(if a then 1 else 0)==j|_=>false)
 |.int i,y=>(match y with|.bl b=>i==(if b then 1 else 0)|.int j=>i==j|_=>false)
 |.str x,y=>(match y with|.str z=>x==z|_=>false)
 |.lst xs,y=>(match y with|.lst ys=>Fg xs ys|_=>false)
 |.tup xs,y=>(match y with|.tup ys=>Fg xs ys|_=>false)
noncomputable def Fg:List PV->List PV->Bool
 |[],ys=>(match ys with|[]=>true|_ ::_=>false)
 |x ::xs,ys=>(match ys with|y ::ys=>ky x y&&Fg xs ys|[]=>false)
end
noncomputable def eT:PV->Bool
 |.lst _=>false
 |.tup _=>false
 |_=>true
noncomputable def nO:PV->PV->Option Bool
 |x,.tup ys=>if ys.all eT=true then some (ys.any fun y=>ky y x)else none
 |x,.lst ys=>if ys.all eT=true then some (ys.any fun y=>ky y x)else none
 |_,_=>none
noncomputable def gIn:PV->PV->Option RV:=fun x y=>(nO x y).map fun b=>.sh (.bl b)
noncomputable def tJ:PV->PV->Option RV:=fun x y=>(nO x y).map fun b=>.sh (.bl (!b))
noncomputable def gy(kvs:List (Int×PV)):PV->Option RV
 |.int n=>some (.sh ((kvs.lookup n).getD .non))
 |_=>none
end L2.P
namespace L2
open PySem PySem.Spec PyProof.Rows
section
variable{X:Cx}{pins:List (Addr×Obj)}{σ:St}{H:Hp}{s:Shared}{h':Heap}
theorem Inv.Dv{t':Nat}{its:List Addr}{a:Addr}{o:HO}(I:Inv X pins σ H s)(k:∀ b u,b∉its->s.heap.get? b=some u->h'.get? b=some u)(hf:∀ b∈its,m4 X pins H b)
  (hp:s.heap.objs.size<=a) (new:hU X.prog X.w (upd H a o) h' a o):Inv X pins σ (upd H a o) { s with heap:=h',toks:=t' }:=by
 have hn:=I.hok.fresh hp
 have nit:∀ b u,H b=some u->b∉its:=fun b u e z=>by rw[(hf b z).1]at e;cases e
 refine I.step (g':=s.gens) (d':=s.drawn) (ch:=its) (fun b hb=>?_) (fun b u _ _ hc e _=>k b u hc e) (fun b u _ _ hc e _=>⟨u.slots,k b u hc e⟩)
  (fun b u _ q n=>by rw[bH (Nat.ne_of_lt (Nat.lt_of_lt_of_le (Heap.lt_size q) hp))];exact n)
  (fun b u hc e=>⟨u,k b u hc e⟩) (fun b xs q=>by rw[bH (eN q hn)];exact q) (fun b u xs q=>by rw[bH (eN q hn)];exact q) (fun b ps q=>⟨#[],by rw[bH (eN q hn),q];simp⟩) (fun m hm=>?_) (fun b u e=>?_) I.bare
 . obtain⟨_,f1,f2,f3,f4,f5⟩:=hf b hb
   exact⟨f3,f1,f4,f5⟩
 . obtain⟨ob,es,ep,ho,r⟩:=hm
   exact⟨ob,es,ep,k _ ob (fun z=>(hf _ z).2.1 rfl) ho,r⟩
 . by_cases hb:b=a
   . subst hb;rw[bP]at e;cases e;exact new
   . rw[bH hb]at e
     refine(I.hok b u e).uM (fun c v hc q=>k c v ?_ q) (fun c q=>by rw[bH (eN q hn)];exact q) fun c xs q=>by rw[bH (eN q hn)];exact q
     rcases hc with z|z
     . rw[z];exact nit b u e
     . exact nit c _ z
end
noncomputable def Ite(K:PySem.W.Frag)(a:Addr):It:=
 ⟨fun i H=>∃ xs x,SqL K H a xs /\ xs[i]?=some x,fun i H v H'=>∃ t x,(∀ xs,SqL K H a xs->xs[i]?=some x) /\ H t=none /\ v=.ref t /\ H'=upd H t (.tup [.int i,x]),fun i H=>∃ xs,SqL K H a xs /\ xs.length<=i⟩
theorem DG{P:Program}{w:World}{K:PySem.W.Frag}{elts:List Expr}{k:Nat}{pos:Pos}(a e it:Addr)(hei:e≠it):
  Turn P w K (.Tuple elts k pos) (Ite K a) [e,it] e (fun i h=>(∃ old,IsEnum h e it i old) /\ h.IsListIter it a i) where
 mem:=by simp
 obj:=fun i h st b hb=>by
  obtain⟨⟨old,h1⟩,o,h2,c,d⟩:=st
  rcases List.mem_cons.mp hb with z|z
  . subst z;exact⟨_,h1,fun v z=>by cases z⟩
  . have z':b=it:=by simpa using z
    subst z';exact⟨o,h2,fun v z=>by rw[d]at z;cases z⟩
 keep:=fun i h h' st k=>by
  obtain⟨⟨old,h1⟩,h2⟩:=st
  exact⟨⟨old,k e (by simp) _ h1⟩,h2.at fun o x=>k it (by simp) o x⟩
 item:=by
  intro X hP hw hK hc i pins s σ H E I hf st hg;subst hP hw hK;obtain⟨xs,x,hq,hx⟩:=hg;obtain⟨its,rv,p,hz⟩:=I.list hq;obtain⟨u,hu,ru⟩:=rv.get hx;obtain⟨⟨old,he⟩,hit⟩:=st
  refine wpAny_pyNext_enum_item he hit p.isList (x:=u) (by simpa using hu) hei fun h1 ho hit1 hT hsz hk=>⟨_,rfl,?_⟩
  refine wpAny_letOwnedTupleGo_enum ho fun h2 he2 hs2=>?_
  have hT2:h2.get? s.heap.objs.size=some { cls:=.type "tuple",data:=.seq #[.int i s.toks,u] }:=(hs2.2 _ (Nat.ne_of_gt (Heap.lt_size he))).trans hT
  have nH:H s.heap.objs.size=none:=I.hok.fresh (Nat.le_refl _)
  refine⟨.ref s.heap.objs.size,upd H s.heap.objs.size (.tup [.int i,x]),I.Dv (its:=[e,it]) (t':=s.toks+1) (fun b o hb q=>?_) hf (Nat.le_refl _) ?_,rfl,⟨_,x,fun ys hy=>by rw[I.zt hy hq];exact hx,nH,rfl,rfl⟩,⟨⟨u,by simpa using he2⟩,?_⟩,fun b hb=>?_⟩
  . have nb:b≠e /\ b≠it:=by simpa using hb
    exact(hs2.2 b nb.1).trans (hk b o nb.1 nb.2 q)
  . exact⟨⟨by show 2<=sizeLine;decide,.of hT2 rfl⟩,[.int i s.toks,u],.cons ⟨_,rfl⟩ (.cons ru .nil),⟨_,hT2,rfl,_,rfl⟩⟩
  . exact hit1.at fun o y=>(hs2.2 it hei.symm).trans y
  . have:b < s.heap.objs.size:=by
     rcases List.mem_cons.mp hb with z|z
     . subst z;exact Heap.lt_size he
     . have z':b=it:=by simpa using z
       subst z';obtain⟨_,y,_⟩:=hit;exact Heap.lt_size y
    rw[bH (Nat.ne_of_lt this)]
    exact(hf b hb).1
 done:=by
  intro X hP hw hK hc i pins s σ H E I hf st hg;subst hP hw hK;obtain⟨xs,hq,hx⟩:=hg;obtain⟨its,rv,p,hz⟩:=I.list hq;obtain⟨⟨old,he⟩,hit⟩:=st;obtain⟨f0,f1,f2,f3,f4,f5⟩:=hf it (by simp);have hl:=rv.length
  exact wpAny_pyNext_enum_end (I.ok.hd hc) he hit p.isList (by simp;omega) fun h' eb=>⟨rfl,I.turned (t':=s.toks) (fun b o hb e=>eb b o hb e) f0 f1 f3 f4 f5⟩
 self:=fun _ _ _ _ _ st h=>by
  obtain⟨⟨old,he⟩,_⟩:=st;exact wpAny_pyIter_enum he h
section
variable{X:Cx}
noncomputable def Fx(K:PySem.W.Frag)(ta:TA):TI:=fun σ H R=>ta σ H fun vs H1=>∃ a,vs=[.ref a] /\ (∃ xs,SqL K H1 a xs) /\ R (Ite K a) H1
theorem Hf{elts:List Expr}{k:Nat}{tp:Pos}{a:Expr}{ta:TA}{p pos:Pos}(hg:Gl X "enumerate")(hm:X.mg "enumerate" = none)(ha:PA X [a] ta)(hs:starEach [a] X.env=[(false,eval a X.env)]:=by rfl):
  PI X (.Tuple elts k tp) (.Call (.Name "enumerate" p) [a] [] pos) (Fx X.K ta):=by
 intro pins s σ H R I h;refine Call_ (wa I hg hm (show bootBuiltins "enumerate" = some (.type "enumerate") by rfl) (PyProof.Rows.callWith_type1 (thn (ha pos pins s σ H _ I h) fun us s1 ⟨vs,H1,I1,r1,q1⟩=>?_) hs rfl));obtain⟨l,e,⟨xs,hq⟩,q⟩:=q1;subst e
 cases r1 with
 | cons r rr=>
   cases rr;cases r;obtain⟨its,rv,p,hz⟩:=I1.list hq
   refine call_enumerate_list p.isList fun h' he hit hsz hk=>?_
   refine wpAny_pyIter_enum he ?_
   have I2:Inv X pins σ H1 { s1 with heap:=h' }:=I1.kept (t':=s1.toks) hk
   refine⟨s1.heap.objs.size+1,[s1.heap.objs.size+1,s1.heap.objs.size],_,_,H1,rfl,I2,DG l _ _ (Nat.succ_ne_self _),⟨⟨.none,he⟩,hit⟩,fun b hb=>?_,q⟩
   have:s1.heap.objs.size<=b:=by
    rcases List.mem_cons.mp hb with z|z
    . subst z;exact Nat.le_succ _
    . have z':b=s1.heap.objs.size:=by simpa using z
      subst z';exact Nat.le_refl _
   exact I1.AE this (I1.hok.fresh this)
end
theorem EE{K:PySem.W.Frag}{a:Addr}{xs:List V}{g:TG}{tb:TS}{D:Ends}{σ:St}{H:Hp}(Pv:Nat->St->Hp->Prop)(h0:Pv 0 σ H)(hl:∀ i σ H,i<=xs.length->Pv i σ H->SqL K H a xs)
  (hs:∀ i x σ H t,xs[i]?=some x->Pv i σ H->H t=none->g (.ref t) σ (upd H t (.tup [.int i,x])) fun σ2 H2=>tb { D with nx:=Pv (i+1),ct:=Pv (i+1),bk:=D.nx } σ2 H2) (hd:∀ σ H,Pv xs.length σ H->D.nx σ H):
  ∃ W:Nat->Nat->St->Hp->Prop,(∃ m,W 0 m σ H) /\ ∀ i m σ H,W i m σ H ->
    ((Ite K a).stop i H /\ D.nx σ H) \/ ((Ite K a).go i H /\ ∃ N:St->Hp->Prop,(∀ σ' H',N σ' H'->∃ m',m'<m /\ W (i+1) m' σ' H') /\ ∀ x H',(Ite K a).yld i H x H'->g x σ H' fun σ2 H2=>tb { D with nx:=N,ct:=N,bk:=D.nx } σ2 H2):=by
 refine⟨fun i m σ H=>m=xs.length - i /\ i<=xs.length /\ Pv i σ H,⟨xs.length,by simp,Nat.zero_le _,h0⟩,?_⟩
 rintro i m σ H ⟨rfl,hi,p⟩
 have q:=hl i σ H hi p
 by_cases hlt:i<xs.length
 . refine .inr ⟨⟨xs,xs[i],q,by simp[hlt]⟩,Pv (i+1),fun σ' H' p'=>⟨xs.length - (i+1),by omega,rfl,hlt,p'⟩,fun x H' y=>?_⟩;obtain⟨t,z,y1,y3,e1,e2⟩:=y;subst e1 e2;exact hs i z σ _ t (y1 xs q) p y3
 . have e:i=xs.length:=by omega
   subst e;exact .inl ⟨⟨xs,q,Nat.le_refl _⟩,hd σ H p⟩
end L2
namespace L2.P
open PySem PySem.Spec PyProof.Rows L2 L2.E PySem.SeqAt
section
variable{K:PySem.W.Frag}{S H:Hp}
theorem RdV.rep{x:PV}{v:V}(h:RdV K S H x v)(s:aK S H):Rep K H x v:=by
 cases x with
 |lst xs=>obtain⟨p,vs,e,q,r⟩:=h;exact⟨p,vs,e,q,r.mono s⟩
 |non=>exact Rep.mono s h
 |bl b=>exact Rep.mono s h
 |int i=>exact Rep.mono s h
 |str x=>exact Rep.mono s h
 |tup xs=>exact Rep.mono s h
end
section
variable{X:Cx}{K:PySem.W.Frag}{S H:Hp}
theorem we{x:PV}{v:V}(h:Rep K H x v)(f:eT x=true):qT v=true:=by
 cases x with
 |lst xs=>cases f
 |tup xs=>cases f
 |non=>unfold Rep at h;subst h;rfl
 |bl b=>unfold Rep at h;subst h;rfl
 |int b=>unfold Rep at h;subst h;rfl
 |str b=>unfold Rep at h;subst h;rfl
theorem HI{x y:PV}{v u:V}(h:Rep K H x v)(k:Rep K H y u)(f:eT x=true)(g:eT y=true):eqV u v=ky y x:=by
 cases x<;>first|(cases f;done)|skip
 all_goals(unfold Rep at h;subst h;cases y<;>first|(cases g;done)|(unfold Rep at k;subst k;simp[eqV,ky]))
theorem xi{xs:List PV}{vs:List V}(h:bw K H xs vs)(f:xs.all eT=true):vs.all qT=true:=by
 induction xs generalizing vs with
 |nil=>rw[h.nil_inv];rfl
 | cons x xs ih=>
   obtain⟨v,r,rfl,h1,h2⟩:=h.cons_inv
   rw[List.all_cons,Bool.and_eq_true]at f ⊢
   exact⟨we h1 f.1,ih h2 f.2⟩
theorem zl{x:PV}{v:V}{xs:List PV}{vs:List V}(hx:Rep K H x v)(g:eT x=true)(h:bw K H xs vs)(f:xs.all eT=true):inV v vs=xs.any fun y=>ky y x:=by
 induction xs generalizing vs with
 |nil=>rw[h.nil_inv];rfl
 | cons y xs ih=>
   obtain⟨u,r,rfl,h1,h2⟩:=h.cons_inv;rw[List.all_cons,Bool.and_eq_true]at f;have:=ih h2 f.2
   unfold inV at this ⊢
   rw[List.any_cons,List.any_cons,this,HI hx h1 g f.1]
theorem zZ{x:PV}{xs:List PV}(g:eT x=false)(f:xs.all eT=true):(xs.any fun y=>ky y x)=false:=by
 induction xs with
 |nil=>rfl
 | cons y xs ih=>
   rw[List.all_cons,Bool.and_eq_true]at f;rw[List.any_cons,ih f.2,Bool.or_false];have f1:=f.1
   cases y<;>first|(cases f1;done)|(cases x<;>first|(cases g;done)|simp[ky])
theorem sJ{A:Around}{s:Shared}{pins:List (Addr×Obj)}{σ:St}(I:Inv X pins σ H s)(hu:A.units<cLine){x:PV}{v:V}{a:Value}(hx:Rep X.K H x v)(ra:RelV v a)(g:eT x=false):
  ∀{xs:List PV} {vs:List V} {us:List Value},bw X.K H xs vs->Vals vs us->xs.all eT=true->∀ u∈us,EqAt A s u a false:=by
 intro xs
 induction xs with
 |nil=>intro vs us h r _ u hu;rw[h.nil_inv]at r;cases r;cases hu
 | cons y xs ih=>
   intro vs us h r f u hm;obtain⟨w,t,rfl,h1,h2⟩:=h.cons_inv;rw[List.all_cons,Bool.and_eq_true]at f
   cases r with
   | cons r1 r2=>
     rcases List.mem_cons.mp hm with rfl|hm
     . cases x with
       |non=>cases g
       |bl b=>cases g
       |int b=>cases g
       |str b=>cases g
       | lst zs=>
         obtain⟨p,us',rfl,hq,_⟩:=hx;cases ra;obtain⟨its,_,pl,_⟩:=I.list hq
         cases y with
         |non=>unfold Rep at h1;subst h1;cases r1;exact EqAt.none_list pl.isList hu
         |bl b=>unfold Rep at h1;subst h1;cases r1;exact EqAt.bool_list b pl.isList hu
         |int b=>unfold Rep at h1;subst h1;obtain⟨t',rfl⟩:=r1;exact EqAt.int_list b t' pl.isList hu
         |str b=>unfold Rep at h1;subst h1;obtain⟨t',rfl⟩:=r1;exact EqAt.str_list b t' pl.isList hu
         |lst _=>cases f.1
         |tup _=>cases f.1
       | tup zs=>
         obtain⟨p,us',rfl,hq,_⟩:=hx;cases ra;obtain⟨its,_,pl,_⟩:=I.tuple hq
         cases y with
         |non=>unfold Rep at h1;subst h1;cases r1;exact EqAt.none_tuple pl hu
         |bl b=>unfold Rep at h1;subst h1;cases r1;exact EqAt.bool_tuple b pl hu
         |int b=>unfold Rep at h1;subst h1;obtain⟨t',rfl⟩:=r1;exact EqAt.int_tuple b t' pl hu
         |str b=>unfold Rep at h1;subst h1;obtain⟨t',rfl⟩:=r1;exact EqAt.str_tuple b t' pl hu
         |lst _=>cases f.1
         |tup _=>cases f.1
     . grind
noncomputable def Eg(K:PySem.W.Frag)(A:Around)(neg:Bool):R2:=fun v u H Q=>∃ x ys p vs,Rep K H x v /\ u=.ref p /\ (SqL K H p vs \/ SqT K H p vs) /\ bw K H ys vs /\ ys.all eT=true /\ A.units+64<cLine /\ Q (.bl (if neg then !(ys.any fun y=>ky y x)else ys.any fun y=>ky y x)) H
theorem lE:OpR X (compareOp .In) (Eg X.K X.A false):=by
 intro pins s σ H v u a b Q I rx ry h;obtain⟨x,ys,p,vs,hx,rfl,hq,hr,hf,hu,q⟩:=h
 cases g:eT x with
 |true=>exact C9 pins s σ H v _ a b Q I rx ry ⟨p,vs,rfl,hq,we hx g,xi hr hf,by rw[zl hx g hr hf];exact q⟩
 | false=>
   rw[zZ g hf]at q;cases ry
   rcases hq with hq|hq
   . obtain⟨its,r,pl,hz⟩:=I.list hq;refine SeqAt.in_listAt (fun _=>false) pl.isList (fun w hw=>sJ I (by show X.A.units+1<cLine;omega) hx rx g hr r hf w (by simpa using hw)) ⟨.bl _,H,I,rfl,?_⟩
     grind
   . obtain⟨its,r,pl,hz⟩:=I.tuple hq;refine SeqAt.in_tupleAt (fun _=>false) pl (fun w hw=>sJ I (by show X.A.units+1<cLine;omega) hx rx g hr r hf w (by simpa using hw)) ⟨.bl _,H,I,rfl,?_⟩
     grind
theorem xu:OpR X (compareOp .NotIn) (Eg X.K X.A true):=by
 intro pins s σ H v u a b Q I rx ry h;obtain⟨x,ys,p,vs,hx,rfl,hq,hr,hf,hu,q⟩:=h
 cases g:eT x with
 |true=>exact yo pins s σ H v _ a b Q I rx ry ⟨p,vs,rfl,hq,we hx g,xi hr hf,by rw[zl hx g hr hf];exact q⟩
 | false=>
   rw[zZ g hf]at q;cases ry
   rcases hq with hq|hq
   . obtain⟨its,r,pl,hz⟩:=I.list hq;refine SeqAt.notIn_listAt (fun _=>false) pl.isList (fun w hw=>sJ I (by show X.A.units+1<cLine;omega) hx rx g hr r hf w (by simpa using hw)) ⟨.bl _,H,I,rfl,?_⟩
     grind
   . obtain⟨its,r,pl,hz⟩:=I.tuple hq;refine SeqAt.notIn_tupleAt (fun _=>false) pl (fun w hw=>sJ I (by show X.A.units+1<cLine;omega) hx rx g hr r hf w (by simpa using hw)) ⟨.bl _,H,I,rfl,?_⟩
     grind
theorem BP{A:Around}{neg:Bool}{x y:PV}{v u:V}{b:Bool}{Q:VK}(hu:A.units+64<cLine)(I:aK S H)(hx:RdV K S H x v)(hy:RdV K S H y u)(e:nO x y=some b)(k:∀ z S' H',bq S H S' H'->m9 K H S' H' (.sh (.bl (if neg then !b else b))) z->Q z H'):Eg K A neg v u H Q:=by
 cases y with
 | tup ys=>
   simp only[nO]at e
   by_cases hf:ys.all eT=true
   . rw[if_pos hf]at e;cases e;obtain⟨p,vs,rfl,hq,hr⟩:=n4 hy
     exact⟨x,ys,p,vs,hx.rep I,rfl,.inr (aK.tup I hq),hr.mono I,hf,hu,k _ S H (bq.refl I) pf⟩
   . simp_all
 | lst ys=>
   simp only[nO]at e
   by_cases hf:ys.all eT=true
   . rw[if_pos hf]at e;cases e;obtain⟨p,vs,rfl,hq,hr⟩:=gK hy
     exact⟨x,ys,p,vs,hx.rep I,rfl,.inl hq,hr.mono I,hf,hu,k _ S H (bq.refl I) pf⟩
   . simp_all
 |_=>simp only[nO]at e;cases e
theorem pP{A:Around}(hu:A.units+64<cLine):JR K (Eg K A false) gIn:=by
 intro S H x y v u rr Q I hx hy e k;obtain⟨b,e1,e2⟩:=Option.map_eq_some_iff.mp e;subst e2;exact BP hu I hx hy e1 k
theorem zg{A:Around}(hu:A.units+64<cLine):JR K (Eg K A true) tJ:=by
 intro S H x y v u rr Q I hx hy e k;obtain⟨b,e1,e2⟩:=Option.map_eq_some_iff.mp e;subst e2;exact BP hu I hx hy e1 k
end
end L2.P
namespace L2.P
open PySem PySem.Spec PyProof.Rows L2 L2.E
section
variable{K:PySem.W.Frag}{cls:String->Option Addr}{W:XW}{Av G S₀ S S' H H' B B':Hp}{ρ:ag}{σ:St}{Q:VK}
noncomputable abbrev g2(K:PySem.W.Frag)(i j:Nat):TG:=JG K 2 (BG (j8 i) (BG (j8 j) JN))
theorem Bm{mb:ag->OS}{D:Ends}{N:St->Hp->Prop}(hb:JS K cls W tb mb)(I:SR K cls Av G S₀ ρ σ S H)(hx:Rep K S x v)(hy:Rep K S y u)(ht:SqT K H t [v,u])
  (p:ji K cls W Av G S₀ S D (nz i j mb (.tup [x,y] ::xs) ρ)) (hN:∀ ρ' σ' S' H',SR K cls Av G S₀ ρ' σ' S' H'->aK S S'->ji K cls W Av G S₀ S' D (nz i j mb xs ρ')->N σ' H'):
  g2 K i j (.ref t) σ H fun σ2 H2=>tb { D with nx:=N,ct:=N,bk:=D.nx } σ2 H2:=by
 refine⟨t,_,rfl,ht,rfl,_,_,rfl,_,_,rfl,rfl,?_⟩
 refine hb Av G S₀ _ _ S H _ ((I.BK hx).BK hy) ?_;unfold nz at p
 cases e:mb ((ρ.set i (some (.sh x))).set j (some (.sh y)))with
 |nx ρ'=>rw[e]at p;exact fun σ' S' H' I' s'=>hN ρ' σ' S' H' I' s' (p.back s')
 |ct ρ'=>rw[e]at p;exact fun σ' S' H' I' s'=>hN ρ' σ' S' H' I' s' (p.back s')
 |bk ρ'=>rw[e]at p;exact p
 |rt ρ' r=>rw[e]at p;exact p
 |exc ρ' c fs=>rw[e]at p;exact p
 |bad=>rw[e]at p;exact p
theorem A8(xs:List PV):∀(k n:Nat) (y:PV),xs[k]?=some y->uB (n+k) (xs.drop k)=.tup [.int ((n+k:Nat):Int),y] ::uB (n+(k+1)) (xs.drop (k+1)):=by
 intro k n y hy
 have hk:k<xs.length:=(List.getElem?_eq_some_iff.mp hy).1
 rw[List.drop_eq_getElem_cons hk]
 have:xs[k]=y:=(List.getElem?_eq_some_iff.mp hy).2
 rw[this];rfl
theorem GW{ml:ag->OE}{mb:ag->OS}(hl:JE K cls W tl ml)(hb:JS K cls W tb mb):JS K cls W (EL (Fx K (iX tl kO)) (g2 K i j) tb) (Ci i j ml mb):=by
 intro Av G S₀ ρ σ S H D I p;refine hl Av G S₀ ρ σ S H _ I ?_;unfold Ci at p
 cases em:ml ρ with
 |exc c fs=>rw[em]at p;exact fun a C S' H' w x=>p a C σ S' H' (I.grow w) w.s x
 |bad=>rw[em]at p;exact p
 | ok r=>
   rw[em]at p;intro v S1 H1 w1 r1;simp only[OE.cX]at p
   cases ei:za r with
   |none=>rw[ei]at p;exact p.elim
   | some xs=>
     rw[ei]at p
     have es:m3 r=some (.lst xs):=by
      cases r with
      |sh y=>cases y<;>cases ei<;>rfl
      |fr ys=>cases ei;rfl
      |al ys=>cases ei
     obtain⟨S2,w2,s2,rx⟩:=r1.share w1 es;have I2:=I.grow w2;unfold Rep at rx;obtain⟨a,vs,rfl,hq,hr⟩:=rx
     show ∃ a',[V.ref a]=[V.ref a'] /\ _
     refine⟨a,rfl,⟨vs,aK.seq I2.sh hq⟩,?_⟩
     refine EE (xs:=vs) (fun k σ' H'=>∃ ρ' S',SR K cls Av G S₀ ρ' σ' S' H' /\ aK S2 S' /\ ji K cls W Av G S₀ S' D (nz i j mb (uB (0+k) (xs.drop k)) ρ'))
      ⟨ρ,S2,I2,aK.refl _,p.back w2.s⟩ ?_ ?_ ?_
     . rintro k σ' H' _ ⟨ρ',S',I',s',_⟩
       exact aK.seq (s'.trans I'.sh) hq
     . rintro k x σ' H' t hx ⟨ρ',S',I',s',p'⟩ ht
       obtain⟨y,hy,ry⟩:=hr.Mi hx;rw[A8 xs k 0 y hy]at p'
       have w3:bq S' H' S' (upd H' t (.tup [.int k,x])):=bq.heap I'.sh ht
       refine Bm hb (I'.grow w3) (x:=.int ((0+k:Nat):Int)) (v:=.int k) (by unfold Rep;rw[Nat.zero_add]) (Rep.mono s' ry) (SqT.new bP) p' fun ρ2 σ2 S3 H3 I3 s3 p3=>⟨ρ2,S3,I3,s'.trans s3,p3⟩
     . rintro σ' H' ⟨ρ',S',I',s',p'⟩
       rw[List.drop_of_length_le (by rw[hr.length];exact Nat.le_refl _)]at p';exact p' σ' S' H' I' (aK.refl _)
end
end L2.P
namespace L2.E
open PySem PySem.Spec PyProof.Rows L2
theorem Gu{X:Cx}(hg:Gl X "enumerate")(hm:X.mg "enumerate" = none)(ha:QA X [a] ta)(hs:starEach [a] X.env=[(false,eval a X.env)]:=by rfl):
  QI X (.Tuple elts k tp) (.Call (.Name "enumerate" p) [a] [] pos) (Fx X.K ta):=⟨Hf hg hm ha.out hs⟩
structure QGs(X:Cx)(es:List Expr)(t:TGs):Prop where
 out:PGs X es t
theorem GK:QGs X [] JN:=⟨Hv⟩
theorem yU{X:Cx}(h1:QG X e t)(h2:QGs X es u)
  (hs:(assignEach (e ::es) X.env).map (·.2)=assign e X.env ::(assignEach es X.env).map (·.2):=by rfl):QGs X (e ::es) (BG t u):=⟨Ey h1.out h2.out hs⟩
theorem Kl{X:Cx}(hc:X.calm=true)(h:QGs X es t)
  (hn:(assignEach es X.env).length=n:=by rfl) (hst:(assignEach es X.env).findIdx? (·.1)=none:=by rfl):QG X (.Tuple es k pos) (JG X.K n t):=⟨K0 hc h.out hn hst⟩
end L2.E
namespace L2.P
open PySem PySem.Spec PyProof.Rows L2 L2.E
section
variable{K:PySem.W.Frag}{cls:String->Option Addr}{W:XW}{Av G S₀ S S' H H' B B':Hp}{ρ:ag}{σ:St}{Q:VK}{F:Nat->List Addr}
theorem bK.length{ts:List OV}{vs:List V}(h:bK K cls S H ts vs f):vs.length=ts.length:=by
 induction ts generalizing vs f with
 |nil=>unfold bK at h;rw[h.1];rfl
 | cons t ts ih=>
   unfold bK at h
   grind
theorem bK.cons_inv(h:bK K cls S H (t ::ts) vs fp):∃ v r f1 f2,vs=v ::r /\ fp=f1++f2 /\ bU K cls S H t v f1 /\ bK K cls S H ts r f2:=by unfold bK at h;exact h
theorem bK.cons(h:bU K cls S H t v f1)(r:bK K cls S H ts vs f2):bK K cls S H (t ::ts) (v ::vs) (f1++f2):=by unfold bK;exact⟨v,vs,f1,f2,rfl,rfl,h,r⟩
theorem bK.nil:bK K cls S H [] [] []:=by unfold bK;exact⟨rfl,rfl⟩
theorem bK.append(h:bK K cls S H ts vs f)(k:bK K cls S H us ws g):bK K cls S H (ts++us) (vs++ws) (f++g):=by
 induction ts generalizing vs f with
 |nil=>unfold bK at h;rw[h.1,h.2];exact k
 | cons t ts ih=>
   obtain⟨v,r,f1,f2,rfl,rfl,h1,h2⟩:=h.cons_inv;have:=bK.cons h1 (ih h2)
   simp_all
theorem bK.shs{xs:List PV}(h:bw K S xs vs):bK K cls S H (xs.map .sh) vs []:=by
 induction xs generalizing vs with
 |nil=>rw[h.nil_inv];exact .nil
 | cons x xs ih=>
   obtain⟨v,r,rfl,h1,h2⟩:=h.cons_inv;exact bK.cons (f1:=[]) (by unfold bU;exact⟨rfl,h1⟩) (ih h2)
theorem bK.flat(e:v3 ts=some xs)(h:bK K cls S H ts vs f):bw K S xs vs /\ f=[]:=by
 induction ts generalizing xs vs f with
 |nil=>cases e;rw[h.1,h.2];exact⟨.nil,rfl⟩
 | cons t ts ih=>
   cases t with
   | sh x=>
     obtain⟨ys,e1,e2⟩:=Option.map_eq_some_iff.mp e;subst e2;obtain⟨v,r,f1,f2,rfl,rfl,h1,h2⟩:=h.cons_inv;obtain⟨h3,h4⟩:=ih e1 h2
     exact⟨.cons h1.2 h3,by rw[h1.1,h4];rfl⟩
   |ol _=>cases e
   |ob _ _ _=>cases e
   |di _=>cases e
   |dt _=>cases e
theorem bK.at{ts:List OV}{vs:List V}{f:List Addr}(h:bK K cls S H ts vs f)(e:ts[k]?=some u):
  ∃ w f1 rest,vs[k]?=some w /\ bU K cls S H u w f1 /\ f.Perm (f1++rest) /\
    ∀ S' H' u' w' f',aK S S'->bU K cls S' H' u' w' f'->(∀ a∈rest,∀ o,H a=some o->H' a=some o)->∃ g,bK K cls S' H' (ts.set k u') (vs.set k w') g /\ g.Perm (f'++rest):=by
 induction ts generalizing vs f k with
 |nil=>simp at e
 | cons t ts ih=>
   obtain⟨v,r,f1,f2,rfl,rfl,h1,h2⟩:=h.cons_inv
   cases k with
   | zero=>
     simp at e;subst e
     refine⟨v,f1,f2,rfl,h1,List.Perm.refl _,fun S' H' u' w' f' s r' g=>?_⟩
     exact⟨f'++f2,bK.cons r' (h2.mono s g),List.Perm.refl _⟩
   | succ k=>
     obtain⟨w,g1,rest,e1,r1,p1,c1⟩:=ih h2 e
     refine⟨w,g1,f1++rest,by simpa using e1,r1,?_,fun S' H' u' w' f' s r' g=>?_⟩
     . grind
     . obtain⟨g2,r2,p2⟩:=c1 S' H' u' w' f' s r' fun a ha=>g a (List.mem_append_right _ ha)
       refine⟨f1++g2,bK.cons (h1.mono s fun a ha=>g a (List.mem_append_left _ ha)) r2,?_⟩
       grind
theorem B4{ts:List OV}(h:o3 ks ts f=some u):∃ k,ts[k]?=some u /\ ks[k]?=some f /\ (∀ u',wG ks ts f u'=ts.set k u') /\ ∀{α:Type} (us:List (Str×α)),us.map (·.1)=ks->us.lookup f=(us.map (·.2))[k]?:=by
 induction ks generalizing ts with
 |nil=>simp[o3]at h
 | cons g ks ih=>
   cases ts with
   |nil=>simp[o3]at h
   | cons t ts=>
     unfold o3 at h;split at h
     . rename_i e;subst e;cases h
       refine⟨0,rfl,rfl,fun u'=>by simp[wG],fun us eu=>?_⟩
       cases us with
       |nil=>cases eu
       |cons q us=>grind
     . rename_i ne;obtain⟨k,e1,e2,e3,e4⟩:=ih h
       refine⟨k+1,by simpa using e1,by simpa using e2,fun u'=>by simp[wG,ne,e3],fun us eu=>?_⟩
       cases us with
       |nil=>cases eu
       |cons q us=>grind
noncomputable def wZ(H:Hp):Stp->V->V->Prop
 |.ix k,v,w=>∃ p vs,v=.ref p /\ H p=some (.lst vs) /\ vs[k]?=some w
 |.fd f,v,w=>∃ p C dx us,v=.ref p /\ H p=some (.ins C dx us) /\ us.lookup f=some w
noncomputable def kf(H:Hp):V->List Stp->V->Prop
 |v,[],w=>w=v
 |v,s ::π,w=>∃ u,wZ H s v u /\ kf H u π w
theorem wZ.inj(h:wZ H s v w)(k:wZ H s v w'):w=w':=by
 cases s with
 | ix n=>
   obtain⟨p,vs,rfl,e1,e2⟩:=h;obtain⟨p',vs',e3,e4,e5⟩:=k
   simp_all
 | fd f=>
   obtain⟨p,C,dx,us,rfl,e1,e2⟩:=h;obtain⟨p',C',dx',us',e3,e4,e5⟩:=k
   simp_all
theorem kf.inj:∀{v w w':V},kf H v π w->kf H v π w'->w=w':=by
 induction π with
 |nil=>intro v w w' h k;rw[h,k]
 | cons s π ih=>
   rintro v w w' ⟨u,h1,h2⟩ ⟨u',k1,k2⟩
   have:=h1.inj k1
   grind
theorem kf.snoc:∀{v w u:V},kf H v π w->wZ H s w u->kf H v (π++[s]) u:=by
 induction π with
 |nil=>intro v w u h k;rw[h]at k;exact⟨u,k,rfl⟩
 | cons t π ih=>
   rintro v w u ⟨x,h1,h2⟩ k
   exact⟨x,h1,ih h2 k⟩
theorem kf.mono(g:aK H H'):∀{v w:V},kf H v π w->kf H' v π w:=by
 induction π with
 |nil=>intro v w h;exact h
 | cons t π ih=>
   rintro v w ⟨x,h1,h2⟩
   refine⟨x,?_,ih h2⟩
   cases t with
   |ix k=>obtain⟨p,vs,e,e1,e2⟩:=h1;exact⟨p,vs,e,g _ _ e1,e2⟩
   |fd f=>obtain⟨p,C,dx,us,e,e1,e2⟩:=h1;exact⟨p,C,dx,us,e,g _ _ e1,e2⟩
theorem bU.step{t u:OV}{fp:List Addr}(h:bU K cls S H t v fp)(e:t.at1 s=some u):
  ∃ w f1 rest,wZ H s v w /\ bU K cls S H u w f1 /\ fp.Perm (f1++rest) /\
    ∀ S' H' u' f',aK S S'->bU K cls S' H' u' w f'->(∀ a∈rest,∀ o,H a=some o->H' a=some o)->∃ g,bU K cls S' H' (t.kF s u') v g /\ g.Perm (f'++rest):=by
 cases t with
 |sh x=>cases s<;>cases e
 |di x=>cases s<;>cases e
 |dt x=>cases s<;>cases e
 | ol ts=>
   cases s with
   |fd f=>cases e
   | ix k=>
     obtain⟨p,vs,f,rfl,hp,rfl,r⟩:=h;obtain⟨w,f1,rest,e1,r1,p1,c1⟩:=r.at e
     refine⟨w,f1,p ::rest,⟨p,vs,rfl,hp,e1⟩,r1,?_,fun S' H' u' f' s r' g=>?_⟩
     . grind
     . obtain⟨g2,r2,p2⟩:=c1 S' H' u' w f' s r' fun a ha=>g a (by simp[ha])
       refine⟨p ::g2,?_,(List.Perm.cons p p2).trans List.perm_middle.symm⟩
       rw[lK e1]at r2;unfold OV.kF bU
       simp_all
 | ob c ks ts=>
   cases s with
   |ix k=>cases e
   | fd f=>
     obtain⟨p,C,dx,us,ff,rfl,hc,hp,hd,hk,rfl,r⟩:=h;obtain⟨k,e1,e2,e3,e4⟩:=B4 e;obtain⟨w,f1,rest,q1,r1,p1,c1⟩:=r.at e1
     refine⟨w,f1,p ::dx ::rest,⟨p,C,dx,us,rfl,hp,by rw[e4 us hk];exact q1⟩,r1,?_,fun S' H' u' f' s r' g=>?_⟩
     . grind
     . obtain⟨g2,r2,p2⟩:=c1 S' H' u' w f' s r' fun a ha=>g a (by simp[ha])
       rw[lK q1]at r2;unfold OV.kF bU
       grind
theorem bU.focus:∀{t u:OV} {v:V} {fp:List Addr},bU K cls S H t v fp->t.get π=some u ->
  ∃ w f1 rest,kf H v π w /\ bU K cls S H u w f1 /\ fp.Perm (f1++rest) /\
    ∀ S' H' u' f',aK S S'->bU K cls S' H' u' w f'->(∀ a∈rest,∀ o,H a=some o->H' a=some o)->∃ g,bU K cls S' H' (t.put π u') v g /\ g.Perm (f'++rest):=by
 induction π with
 | nil=>
   intro t u v fp h e;cases e
   exact⟨v,fp,[],rfl,h,by simp,fun S' H' u' f' _ r' _=>⟨f',by unfold OV.put;exact r',by simp⟩⟩
 | cons s π ih=>
   intro t u v fp h e;obtain⟨t1,e1,e2⟩:=Option.bind_eq_some_iff.mp e;obtain⟨w1,f1,rest1,st,r1,p1,c1⟩:=h.step e1;obtain⟨w,f2,rest2,wk,r2,p2,c2⟩:=ih r1 e2
   refine⟨w,f2,rest2++rest1,⟨w1,st,wk⟩,r2,?_,fun S' H' u' f' s' r' g=>?_⟩
   . grind
   . obtain⟨g1,q1,k1⟩:=c2 S' H' u' f' s' r' fun a ha=>g a (List.mem_append_left _ ha)
     obtain⟨g2,q2,k2⟩:=c1 S' H' _ g1 s' q1 fun a ha=>g a (List.mem_append_right _ ha)
     refine⟨g2,?_,?_⟩
     . unfold OV.put
       simp_all
     . grind
theorem SR.tree(I:SR K cls Av G S₀ ρ σ S H)(e:fO i ρ=some t):∃ v fp,σ[i]?=some (some v) /\ bU K cls S H t v fp:=by
 obtain⟨F,J⟩:=I;unfold fO at e
 cases q:ρ[i]? with
 |none=>rw[q]at e;cases e
 | some o=>
   cases o with
   |none=>rw[q]at e;cases e
   | some s=>
     rw[q]at e;obtain⟨v,e1,r⟩:=J.own i s q
     cases s with
     |tr io t'=>cases e;exact⟨v,_,e1,r.1⟩
     | bo t'=>
       cases e;obtain⟨_,f,r⟩:=r
       exact⟨v,f,e1,r.mono (aK.refl _) fun _ _ _ h=>J.gh _ _ h⟩
     |sh x=>cases e
     |ow xs=>cases e
     |ex c fs=>cases e
noncomputable def JP(K:PySem.W.Frag)(cls:String->Option Addr)(te:TE)(i:Nat)(mp:MP):Prop:=∀ Av G S₀ ρ σ S H Q v0 t π,SR K cls Av G S₀ ρ σ S H->fO i ρ=some t->σ[i]?=some (some v0)->mp ρ=some π->(t.get π).isSome=true ->
 (∀ w S' H',bq S H S' H'->kf H' v0 π w->Q w H')->te σ H Q
theorem aP:JP K cls (Aj i) i aI:=by
 intro Av G S₀ ρ σ S H Q v0 t π I e ev ep _ k;cases ep
 exact⟨v0,ev,k v0 S H (bq.refl I.sh) rfl⟩
theorem L0{mk:ag->OE}(hp:JP K cls te i mp)(hk:JE K cls W tk mk):JP K cls (tOp (Gy K) te tk) i (pIx i mp mk):=by
 intro Av G S₀ ρ σ S H Q v0 t π I e ev ep hs k;unfold pIx at ep;rw[e]at ep
 dsimp only at ep
 split at ep
 . rename_i π0 e0;split at ep
   . rename_i ts e1;split at ep
     . rename_i r er;split at ep
       . rename_i n en;obtain⟨j,ej,e2⟩:=Option.map_eq_some_iff.mp ep;subst e2
         refine hp Av G S₀ ρ σ S H _ v0 t π0 I e ev e0 (by rw[e1];rfl) fun w S1 H1 w1 wk=>?_
         refine hk Av G S₀ ρ σ S1 H1 _ (I.grow w1) ?_;rw[er];intro u S2 H2 w2 ru;have I2:=(I.grow w1).grow w2
         have hu:u=.int n:=by have:=ru.rd I2.sh;rw[en]at this;exact dD this
         subst hu;obtain⟨v,fp,ev',ro⟩:=I2.tree e;rw[ev]at ev';cases ev';obtain⟨w',f1,rest,wk',r',_,_⟩:=ro.focus e1;have:=(wk.mono w2.g).inj wk';subst this;obtain⟨p,vs,f,rfl,hl,rfl,rs⟩:=r'
         have hj:j<ts.length:=by
          unfold ixP at ej
          grind
         have hjv:j<vs.length:=by rw[rs.length];exact hj
         have hx:vs[j]?=some vs[j]:=by simp
         refine⟨p,vs,n,vs[j],rfl,rfl,SqL.new hl,?_,k _ S2 H2 (w1.trans w2) (wk'.snoc ⟨p,vs,rfl,hl,hx⟩)⟩
         show(ixP vs.length n).bind _=_
         rw[rs.length,ej];exact hx
       . grind
     . grind
   . grind
 . grind
theorem JP.sub(hp:JP K cls te i mp)(I:SR K cls Av G S₀ ρ σ S H)(e:subAt i mp ρ=some u)
  (k:∀ w S' H' f,bq S H S' H'->SR K cls Av G S₀ ρ σ S' H'->bU K cls S' H' u w f->Q w H'):te σ H Q:=by
 unfold subAt at e;split at e
 . rename_i t et;split at e
   . rename_i π eπ;obtain⟨v0,fp0,ev,_⟩:=I.tree et
     refine hp Av G S₀ ρ σ S H _ v0 t π I et ev eπ (by rw[e];rfl) fun w S1 H1 w1 wk=>?_
     obtain⟨v,fp,ev',ro⟩:=(I.grow w1).tree et;rw[ev]at ev';cases ev';obtain⟨w',f1,rest,wk',r',_,_⟩:=ro.focus e;have:=wk.inj wk';subst this;exact k w S1 H1 f1 w1 (I.grow w1) r'
   . grind
 . grind
theorem wI{ok:String->Bool}(hp:JP K cls te i mp)(ha:∀ c C,cls c=some C->ok c=true->Cls K C /\ mR K C f):JP K cls (Ji K te f) i (pFd i mp f ok):=by
 intro Av G S₀ ρ σ S H Q v0 t π I e ev ep hs k;unfold pFd at ep;split at ep
 . rename_i c ks ts es;split at ep
   . rename_i hok;rw[Bool.and_eq_true]at hok;obtain⟨π0,e0,rfl⟩:=Option.map_eq_some_iff.mp ep
     have e1:t.get π0=some (.ob c ks ts):=by
      unfold subAt at es;rw[e]at es
      dsimp only at es
      rw[e0]at es;exact es
     refine hp Av G S₀ ρ σ S H _ v0 t π0 I e ev e0 (by rw[e1];rfl) fun w S1 H1 w1 wk=>?_
     have I1:=I.grow w1;obtain⟨v,fp,ev',ro⟩:=I1.tree e;rw[ev]at ev';cases ev';obtain⟨w',f1,rest,wk',r',_,_⟩:=ro.focus e1;have:=wk.inj wk';subst this;unfold bU at r';obtain⟨p,C,dx,us,ff,rfl,hcl,hp',hd,hk,rfl,r⟩:=r';obtain⟨a1,a2⟩:=ha c C hcl hok.1
     cases q:o3 ks ts f with
     |none=>rw[q]at hok;cases hok.2
     | some u=>
       obtain⟨n,h1,h2,h3,h4⟩:=B4 q
       have hn:n<(us.map (·.2)).length:=by rw[r.length];exact(List.getElem?_eq_some_iff.mp h1).1
       have hx:us.lookup f=some (us.map (·.2))[n]:=by rw[h4 us hk];exact List.getElem?_eq_getElem hn
       exact⟨p,C,dx,us,_,rfl,hp',a1,a2,hx,k _ S1 H1 w1 (wk'.snoc ⟨p,C,dx,us,rfl,hp',hx⟩)⟩
   . cases ep
 . cases ep
theorem fN(hp:JP K cls te i mp):JE K cls W te (cF i mp):=by
 intro Av G S₀ ρ σ S H Q I p;unfold cF at p;split at p
 . rename_i x e
   refine hp.sub I e fun w S1 H1 f w1 _ r=>?_
   exact p w S1 H1 w1 r.2
 . rename_i ts e;split at p
   . rename_i xs ex
     refine hp.sub I e fun w S1 H1 f w1 _ r=>?_
     obtain⟨q,vs,ff,rfl,hq,_,rs⟩:=r;exact p _ S1 H1 w1 ⟨q,vs,rfl,SqL.new hq,(rs.flat ex).1⟩
   . exact p.elim
 . exact p.elim
theorem g8(hp:JP K cls te i mp):JT K cls W (fun σ H Q=>te σ H fun x H'=>∃ k,AQ K x H' k /\ Q k H') (dv i mp):=by
 intro Av G S₀ ρ σ S H Q I p;unfold dv at p;split at p
 . rename_i ts e
   refine hp.sub I e fun w S1 H1 f w1 _ r=>?_
   obtain⟨q,vs,ff,rfl,hq,_,rs⟩:=r
   refine⟨_,.inl ⟨vs,SqL.new hq,rfl⟩,?_⟩
   have:vs.isEmpty=ts.isEmpty:=by
    have:=rs.length
    cases vs<;>cases ts<;>simp_all
   rw[this];exact p S1 H1 w1
 . exact p.elim
theorem j0(hp:JP K cls te i mp):JE K cls W (tCB (fun xs H Q=>∃ p ys,xs=[.ref p] /\ (SqL K H p ys \/ SqT K H p ys) /\ Q (.int ys.length) H) (iX te kO)) (gb i mp):=by
 intro Av G S₀ ρ σ S H Q I p;unfold gb at p;split at p
 . rename_i ts e
   refine hp.sub I e fun w S1 H1 f w1 _ r=>?_
   obtain⟨q,vs,ff,rfl,hq,_,rs⟩:=r
   exact⟨q,vs,rfl,.inl (SqL.new hq),p _ S1 H1 w1 (by show Rep K S1 _ _;unfold Rep;rw[rs.length])⟩
 . exact p.elim
end
section
variable{K:PySem.W.Frag}{cls:String->Option Addr}{W:XW}{Av G S₀ S S' H H' B B':Hp}{ρ:ag}{σ:St}{Q:VK}{F:Nat->List Addr}
theorem SRF.part{t u:OV}(J:SRF K cls Av G S₀ ρ σ S H F)(hi:ρ[i]?=some (some (.tr io t)))(hv:σ[i]?=some (some v0))(e:t.get π=some u):
  ∃ w f1 rest,kf H v0 π w /\ bU K cls S H u w f1 /\ (F i).Perm (f1++rest) /\ (f1++rest).Nodup /\ (∀ a∈f1,G a=none /\ S a=none) /\
    ∀ S' H' u' f',aK S S'->aK S' H'->aK G H'->(∀ b,S' b≠none->S₀ b≠none \/ G b=none)->bU K cls S' H' u' w f'->f'.Nodup->(∀ a∈f',a∈f1 \/ H a=none)->(∀ a∈f',S' a=none) ->
      (∀ a o,a∉f1->H a=some o->H' a=some o)->(∀ a,S' a≠none->S a≠none \/ H a=none \/ a∈f1) ->
      ∃ g,SRF K cls Av G S₀ (ρ.set i (some (.tr io (t.put π u')))) σ S' H' (oK F i g) /\ g.Perm (f'++rest):=by
 obtain⟨v,ev,ro,nd,gs,hio⟩:=J.own i _ hi;rw[hv]at ev;cases ev;obtain⟨w,f1,rest,wk,r1,p1,c1⟩:=ro.focus e;have nd1:=p1.nodup_iff.mp nd
 have in1:∀ a,a∈f1->a∈F i:=fun a ha=>p1.mem_iff.mpr (List.mem_append_left _ ha)
 have inr:∀ a,a∈rest->a∈F i:=fun a ha=>p1.mem_iff.mpr (List.mem_append_right _ ha)
 have off1:∀ a,a∈rest->a∉f1:=fun a ha hb=>(List.nodup_append.mp nd1).2.2 a hb a ha rfl
 refine⟨w,f1,rest,wk,r1,p1,nd1,fun a ha=>gs a (in1 a ha),fun S' H' u' f' s sh gh new r' nd' fr nS keep nw=>?_⟩
 obtain⟨g,rg,pg⟩:=c1 S' H' u' f' s r' fun a ha o h=>keep a o (off1 a ha) h
 have noS:∀ j a,a∈F j->a∉f1->S' a=none:=fun j a ha hb=>by
  cases q:S' a with
  |none=>rfl
  | some o=>
    obtain⟨⟨o',h1,_⟩,_,h3⟩:=J.live j a ha
    grind
 have J1:SRF K cls Av G S₀ (ρ.set i none) (σ.set i none) S H (oK F i []):=J.put (fun t e=>nomatch e) (fun a ha=>nomatch ha) fun j a _ ha=>nomatch ha
 have off:∀ j a,a∈oK F i [] j->a∉f1 /\ j≠i:=fun j a ha=>by
  by_cases ej:j=i
  . subst ej;rw[js]at ha;cases ha
  . rw[fA ej]at ha
    exact⟨fun hb=>ej (J.apart j i a ha (in1 a hb)),ej⟩
 have J2:=J1.change (S':=S') (H':=H') gh s sh new (fun j a ha o h=>keep a o (off j a ha).1 h)
  (fun b o hx h=>keep b o (fun hb=>by
    obtain⟨⟨o',h1,h2⟩,_⟩:=J.live i b (in1 b hb)
    rw[h]at h1;cases h1;rw[hx]at h2;cases h2) h)
  fun j a ha=>by
   have hj:=off j a ha;rw[fA hj.2]at ha
   grind
 have mem:∀ a,a∈g->a∈f' \/ a∈rest:=fun a ha=>List.mem_append.mp (pg.mem_iff.mp ha)
 have hlive:∀ a∈g,(∃ o,H' a=some o /\ isX o=false) /\ G a=none /\ S' a=none:=fun a ha=>by
  refine⟨rg.live a ha,?_,?_⟩
  . rcases mem a ha with z|z
    . rcases fr a z with y|y
      . simp_all
      . exact J.gh.free y
    . simp_all
  . grind
 have ndg:=pg.nodup_iff.mpr (List.nodup_append.mpr ⟨nd',(List.nodup_append.mp nd1).2.1,fun a ha b hb z=>by
  subst z
  rcases fr a ha with y|y
  . simp_all
  . obtain⟨⟨o',h1,_⟩,_⟩:=J.live i a (inr a hb)
    rw[y]at h1;cases h1⟩)
 have J3:=J2.put (s:=some (.tr io (t.put π u'))) (fun t' e=>by
  cases e
  exact⟨v0,rfl,rg,ndg,fun a ha=>⟨(hlive a ha).2.1,(hlive a ha).2.2⟩,hio⟩) hlive fun j a hj ha hz=>by
   rw[fA hj]at hz
   rcases mem a ha with z|z
   . rcases fr a z with y|y
     . exact hj (J.apart j i a hz (in1 a y))
     . obtain⟨⟨o',h1,_⟩,_⟩:=J.live j a hz
       simp_all
   . exact hj (J.apart j i a hz (inr a z))
 rw[List.set_set,List.set_set,lK hv]at J3
 have eF:oK (oK F i []) i g=oK F i g:=by
  funext j
  by_cases ej:j=i
  . subst ej;rw[js,js]
  . rw[fA ej,fA ej,fA ej]
 grind
theorem SRF.more(I:SRF K cls Av G S₀ ρ σ S H F)(h:∀ t,s=some t->∃ v,u=some v /\ uH K cls Av G S H ρ.length t v fp)
  (hl:∀ a∈fp,(∃ o,H a=some o /\ isX o=false) /\ G a=none /\ S a=none) (ap:∀ j a,j<ρ.length->a∈fp->a∉F j):∃ F',SRF K cls Av G S₀ (ρ++[s]) (σ++[u]) S H F':=by
 refine⟨fun j=>if j<ρ.length then F j else if j=ρ.length then fp else[],I.gh,I.s0,I.sh,I.new,fun j t e=>?_,fun j k a h1 h2=>?_,fun j a ha=>?_,by simp[I.len]⟩
 . by_cases hj:j<ρ.length
   . rw[List.getElem?_append_left hj]at e;rw[List.getElem?_append_left (by rw[<- I.len];exact hj)];simp only[hj];exact I.own j t e
   . rw[List.getElem?_append_right (Nat.le_of_not_lt hj)]at e
     have h0:j - ρ.length=0:=by
      grind
     rw[h0]at e
     have ej:j=ρ.length:=by omega
     obtain⟨v,e2,r⟩:=h t (Option.some.inj e)
     refine⟨v,?_,?_⟩
     . rw[List.getElem?_append_right (by rw[<- I.len];omega),<- I.len,h0,e2];rfl
     . simp_all
 . by_cases hj:j<ρ.length
   . simp only[hj]at h1
     by_cases hk:k<ρ.length
     . simp only[hk]at h2;exact I.apart j k a h1 h2
     . simp_all
   . grind
 . by_cases hj:j<ρ.length
   . simp only[hj]at ha;exact I.live j a ha
   . simp_all
theorem SR.fold(I:SR K cls Av G S₀ (ρ++[some s]) (σ++[some v]) S H)(hs:nio s=true):SR K cls Av G S₀ (ρ.set i (some s)) (σ.set i (some v)) S H:=by
 obtain⟨F,J⟩:=I
 have hlen:ρ.length=σ.length:=by have:=J.len;simpa using this
 obtain⟨v',ev,r⟩:=J.own ρ.length s (by simp)
 have ev':v'=v:=by
  simp_all
 subst ev'
 have J1:SRF K cls Av G S₀ ρ σ S H (fun j=>if j<ρ.length then F j else[]):=by
  refine⟨J.gh,J.s0,J.sh,J.new,fun j t e=>?_,fun j k a h1 h2=>?_,fun j a ha=>?_,hlen⟩
  . have hj:j<ρ.length:=(List.getElem?_eq_some_iff.mp e).1
    obtain⟨v2,e2,r2⟩:=J.own j t (by rw[List.getElem?_append_left hj];exact e)
    grind
  . split at h1
    . split at h2
      . exact J.apart j k a h1 h2
      . grind
    . grind
  . split at ha
    . exact J.live j a ha
    . grind
 refine⟨_,J1.put (fp:=F ρ.length) (fun t e=>?_) (fun a ha=>J.live _ a ha) fun j a hj ha hz=>?_⟩
 . cases e
   refine⟨v',rfl,?_⟩
   cases s with
   |sh x=>exact r
   |ow xs=>exact r
   |ex c fs=>exact r
   | tr io t=>
     cases io with
     |true=>cases hs
     |false=>exact⟨r.1,r.2.1,r.2.2.1,fun z=>nomatch z⟩
   |bo t=>cases hs
 . split at hz
   . rename_i hj';have:=J.apart j ρ.length a hz ha;omega
   . grind
theorem SR.B1(I:SR K cls Av G S₀ (ρ++[s]) (σ++[u]) S H):SR K cls Av G S₀ ρ σ S H:=by
 obtain⟨F,J⟩:=I
 have hlen:ρ.length=σ.length:=by have:=J.len;simpa using this
 refine⟨F,J.gh,J.s0,J.sh,J.new,fun j t e=>?_,J.apart,J.live,hlen⟩
 have hj:j<ρ.length:=(List.getElem?_eq_some_iff.mp e).1
 obtain⟨v2,e2,r2⟩:=J.own j t (by rw[List.getElem?_append_left hj];exact e)
 grind
noncomputable def F6(K:PySem.W.Frag)(cls:String->Option Addr)(B S H:Hp)(t:OV)(v:V):Prop:=∃ fp,bU K cls S H t v fp /\ fp.Nodup /\ ∀ a∈fp,B a=none /\ S a=none
noncomputable def LP(K:PySem.W.Frag)(cls:String->Option Addr)(B S H:Hp)(ts:List OV)(vs:List V):Prop:=∃ fp,bK K cls S H ts vs fp /\ fp.Nodup /\ ∀ a∈fp,B a=none /\ S a=none
noncomputable def LY(K:PySem.W.Frag)(cls:String->Option Addr)(W:XW)(σ:St)(S H:Hp)(Q:VK):OD->Prop
 |.ok t=>∀ v S' H',bq S H S' H'->F6 K cls H S' H' t v->Q v H'
 |.exc c fs=>∀ a C S' H',bq S H S' H'->pR K cls S' H' c fs a C->W (.ref C) (some a) σ H'
 |.bad=>False
noncomputable def JI(K:PySem.W.Frag)(cls:String->Option Addr)(W:XW)(σ:St)(S H:Hp)(Q:List V->Hp->Prop):ODs->Prop
 |.ok ts=>∀ vs S' H',bq S H S' H'->LP K cls H S' H' ts vs->Q vs H'
 |.exc c fs=>∀ a C S' H',bq S H S' H'->pR K cls S' H' c fs a C->W (.ref C) (some a) σ H'
 |.bad=>False
noncomputable def JD(K:PySem.W.Frag)(cls:String->Option Addr)(W:XW)(te:TE)(m:ag->OD):Prop:=∀ Av G S₀ ρ σ S H Q,SR K cls Av G S₀ ρ σ S H->LY K cls W σ S H Q (m ρ)->te σ H Q
noncomputable def JDs(K:PySem.W.Frag)(cls:String->Option Addr)(W:XW)(te:TA)(m:ag->ODs):Prop:=∀ Av G S₀ ρ σ S H Q,SR K cls Av G S₀ ρ σ S H->JI K cls W σ S H Q (m ρ)->te σ H Q
theorem F6.grow(h:F6 K cls B S H t v)(w:bq S H S1 H1):F6 K cls B S1 H1 t v:=by
 obtain⟨fp,r,nd,g⟩:=h
 refine⟨fp,r.mono w.s fun a _ o z=>w.g _ _ z,nd,fun a ha=>⟨(g a ha).1,?_⟩⟩
 obtain⟨o,h1,_⟩:=r.live a ha
 cases q:S1 a with
 |none=>rfl
 | some o'=>
   rcases w.new a (by rw[q];simp)with z|z
   . simp_all
   . simp_all
theorem lM{me:ag->OE}(h:JE K cls W te me):JD K cls W te (mD me):=by
 intro Av G S₀ ρ σ S H Q I p;refine h Av G S₀ ρ σ S H Q I ?_;unfold mD at p
 cases e:me ρ with
 |exc c fs=>rw[e]at p;exact p
 |bad=>rw[e]at p;exact p
 | ok r=>
   rw[e]at p
   cases r with
   |sh x=>exact fun v S' H' w r=>p v S' H' w ⟨[],by unfold bU;exact⟨rfl,r⟩,List.nodup_nil,fun a ha=>nomatch ha⟩
   |al xs=>exact p.elim
   | fr xs=>
     intro v S' H' w r;obtain⟨q,vs,rfl,hB,hS,hH,hr⟩:=r;refine p _ S' H' w ⟨[q],by unfold bU;exact⟨q,vs,[],rfl,hH,rfl,.shs hr⟩,by simp,fun a ha=>?_⟩
     simp_all
theorem Gm:JDs K cls W kO mDn:=fun Av G S₀ ρ σ S H Q I p=>p [] S H (bq.refl I.sh) ⟨[],.nil,List.nodup_nil,fun a ha=>nomatch ha⟩
theorem sj{md:ag->OD}{mr:ag->ODs}(hd:JD K cls W te md)(ht:JDs K cls W t mr):JDs K cls W (iX te t) (mDc md mr):=by
 intro Av G S₀ ρ σ S H Q I p;refine hd Av G S₀ ρ σ S H _ I ?_;unfold mDc at p
 cases e:md ρ with
 |exc c fs=>rw[e]at p;exact p
 |bad=>rw[e]at p;exact p
 | ok x=>
   rw[e]at p;intro v S1 H1 w1 r1;refine ht Av G S₀ ρ σ S1 H1 _ (I.grow w1) ?_
   cases e2:mr ρ with
   |exc c fs=>rw[e2]at p;exact fun a C S' H' w x=>p a C S' H' (w1.trans w) x
   |bad=>rw[e2]at p;exact p
   | ok ts=>
     rw[e2]at p;intro vs S2 H2 w2 r2;obtain⟨f2,q2,n2,g2⟩:=r2;obtain⟨f0,q0,n0,g0⟩:=r1;refine p (v ::vs) S2 H2 (w1.trans w2) ⟨f0++f2,.cons (q0.mono w2.s fun a _ o z=>w2.g _ _ z) q2,List.nodup_append.mpr ⟨n0,n2,fun a ha b hb z=>?_⟩,fun a ha=>?_⟩
     . subst z;obtain⟨o,h1,_⟩:=q0.live a ha
       simp_all
     . rcases List.mem_append.mp ha with z|z
       . refine⟨(g0 a z).1,?_⟩
         obtain⟨o,h1,_⟩:=q0.live a z
         cases q:S2 a with
         |none=>rfl
         | some o'=>
           rcases w2.new a (by rw[q];simp)with y|y
           . simp_all
           . simp_all
       . exact⟨w1.g.free (g2 a z).1,(g2 a z).2⟩
theorem Lv{mr:ag->ODs}(h:JDs K cls W t mr):JD K cls W (Ie t) (mDl mr):=by
 intro Av G S₀ ρ σ S H Q I p;refine h Av G S₀ ρ σ S H _ I ?_;unfold mDl at p
 cases e:mr ρ with
 |exc c fs=>rw[e]at p;exact p
 |bad=>rw[e]at p;exact p
 | ok ts=>
   rw[e]at p
   dsimp only at p
   split at p
   . rename_i hl;intro vs S1 H1 w1 r1;obtain⟨fp,r,nd,g⟩:=r1
     refine⟨by rw[r.length];exact hl,fun q hq=>?_⟩
     have w2:bq S1 H1 S1 (upd H1 q (.lst vs)):=bq.heap w1.sh hq
     refine p (.ref q) S1 _ (w1.trans w2) ⟨q ::fp,by unfold bU;exact⟨q,vs,fp,rfl,bP,rfl,r.mono (aK.refl _) fun a _ o z=>w2.g _ _ z⟩,List.nodup_cons.mpr ⟨fun z=>?_,nd⟩,fun a ha=>?_⟩
     . obtain⟨o,h1,_⟩:=r.live q z
       simp_all
     . rcases List.mem_cons.mp ha with z|z
       . subst z;exact⟨w1.g.free hq,w1.sh.free hq⟩
       . simp_all
   . exact p.elim
theorem SR.Mv(I:SR K cls Av G S₀ ρ σ S H)(w:bq S H S' H')(h:F6 K cls H S' H' t v):SR K cls Av G S₀ (ρ.set i (some (.tr false t))) (σ.set i (some v)) S' H':=by
 obtain⟨F,J⟩:=I;obtain⟨fp,r,nd,g⟩:=h
 refine⟨_,(J.grow w).put (fun t' e=>by cases e;exact⟨v,rfl,r,nd,fun a ha=>⟨J.gh.free (g a ha).1,(g a ha).2⟩,fun z=>nomatch z⟩) (fun a ha=>⟨r.live a ha,J.gh.free (g a ha).1,(g a ha).2⟩) fun j a _ ha hz=>?_⟩
 obtain⟨⟨o,h1,_⟩,_⟩:=J.live j a hz
 simp_all
theorem nN{md:ag->OD}(h:JD K cls W te md):JS K cls W (tH te (j8 i)) (j6 i md):=by
 intro Av G S₀ ρ σ S H D I p;refine h Av G S₀ ρ σ S H _ I ?_;unfold j6 at p
 cases e:md ρ with
 |exc c fs=>rw[e]at p;exact fun a C S' H' w x=>p a C σ S' H' (I.grow w) w.s x
 |bad=>rw[e]at p;exact p
 |ok t=>rw[e]at p;exact fun v S1 H1 w1 r1=>p _ S1 H1 (I.Mv w1 r1) w1.s
end
section
variable{K:PySem.W.Frag}{cls:String->Option Addr}{W:XW}{Av G S₀ S S' H H' B B':Hp}{ρ:ag}{σ:St}{Q:VK}{F:Nat->List Addr}
theorem bU.Ej{ts:List OV}{v:V}{fp:List Addr}(h:bU K cls S H (.ol ts) v fp):∃ p vs f,v=.ref p /\ H p=some (.lst vs) /\ fp=p ::f /\ bK K cls S H ts vs f:=by unfold bU at h;exact h
theorem SRF.r6{i:Nat}{io:Bool}{t:OV}{ts:List OV}{v0:V}{π:List Stp}(J:SRF K cls Av G S₀ ρ σ S H F)(hi:ρ[i]?=some (some (.tr io t)))(hv:σ[i]?=some (some v0))(e:t.get π=some (.ol ts)):
  ∃ q vs ff rest,kf H v0 π (.ref q) /\ H q=some (.lst vs) /\ vs.length=ts.length /\ bK K cls S H ts vs ff /\ (F i).Perm ((q ::ff)++rest) /\ ((q ::ff)++rest).Nodup /\
    ∀ S' H' ts' vs' f',bq S H S' H'->bK K cls S' H' ts' vs' f'->f'.Nodup->(∀ a∈f',a∈ff \/ (H a=none /\ S' a=none)) ->
      ∃ g,SRF K cls Av G S₀ (ρ.set i (some (.tr io (t.put π (.ol ts'))))) σ S' (upd H' q (.lst vs')) (oK F i g) /\ g.Perm ((q ::f')++rest):=by
 obtain⟨w,f1,rest,wk,r1,p1,nd1,gs,c⟩:=J.part hi hv e;obtain⟨q,vs,ff,rfl,hq,rfl,rs⟩:=r1.Ej
 refine⟨q,vs,ff,rest,wk,hq,rs.length,rs,p1,nd1,fun S' H' ts' vs' f' wg r' nd' fr=>?_⟩
 have hGq:=(gs q (by simp)).1
 have hS'q:S' q=none:=by
  cases z:S' q with
  |none=>rfl
  | some o=>
    rcases wg.new q (by rw[z];simp)with y|y
    . simp_all
    . simp_all
 have nq:q∉f':=fun z=>by
  grind
 have nS:∀ a∈f',S' a=none:=fun a ha=>by
  rcases fr a ha with y|y
  . cases z:S' a with
    |none=>rfl
    | some o=>
      obtain⟨o',h1,_⟩:=rs.live a y
      rcases wg.new a (by rw[z];simp)with k|k
      . simp_all
      . simp_all
  . grind
 refine c S' (upd H' q (.lst vs')) (.ol ts') (q ::f') wg.s (wg.sh.upd hS'q) ((J.gh.trans wg.g).upd hGq) (fun b h=>?_) ?_ (List.nodup_cons.mpr ⟨nq,nd'⟩) (fun a ha=>?_) (fun a ha=>?_) (fun a o hn h=>?_) fun a h=>?_
 . rcases wg.new b h with z|z
   . exact J.new b z
   . exact .inr (J.gh.free z)
 . unfold bU
   exact⟨q,vs',f',rfl,bP,rfl,r'.mono (aK.refl _) fun a ha o h=>by rw[bH (fun z=>nq (by rw[<- z];exact ha))];exact h⟩
 . grind
 . rcases List.mem_cons.mp ha with z|z
   . subst z;exact hS'q
   . exact nS a z
 . rw[bH (fun z=>hn (by rw[z];simp))];exact wg.g _ _ h
 . rcases wg.new a h with z|z
   . exact .inl z
   . exact .inr (.inl z)
theorem JP.at{i:Nat}{te:TE}{mp:MP}{io:Bool}{t u:OV}{v0:V}{π:List Stp}{Q:VK}(hp:JP K cls te i mp)(I:SR K cls Av G S₀ ρ σ S H)(hi:ρ[i]?=some (some (.tr io t)))(hv:σ[i]?=some (some v0))(e0:mp ρ=some π)(e1:t.get π=some u)
  (k:∀ w S' H',bq S H S' H'->SR K cls Av G S₀ ρ σ S' H'->kf H' v0 π w->Q w H'):te σ H Q:=
 hp Av G S₀ ρ σ S H Q v0 t π I (by unfold fO;rw[hi];rfl) hv e0 (by rw[e1];rfl) fun w S1 H1 w1 wk=>k w S1 H1 w1 (I.grow w1) wk
theorem oS{i:Nat}{mp:MP}{k:OV->(OV->ag)->OS}{D:Ends}(p:ji K cls W Av G S₀ S D (uf i mp ρ k)):∃ io t π u,ρ[i]?=some (some (.tr io t)) /\ mp ρ=some π /\ t.get π=some u /\ ji K cls W Av G S₀ S D (k u fun u'=>ρ.set i (some (.tr io (t.put π u')))):=by
 unfold uf at p;split at p
 . rename_i io t hi;split at p
   . rename_i π e0;split at p
     . grind
     . exact p.elim
   . exact p.elim
 . exact p.elim
theorem SR.val{i:Nat}{s:Sl}(I:SR K cls Av G S₀ ρ σ S H)(e:ρ[i]?=some (some s)):∃ v,σ[i]?=some (some v):=let ⟨v,h,_⟩:=I.good i s e;⟨v,h⟩
theorem eP{i:Nat}{te tx:TE}{mp:MP}{md:ag->OD}(hp:JP K cls te i mp)(hx:JD K cls W tx md):JS K cls W (sQ (tBM K "list" yw te (iX tx kO))) (b0 i mp md):=by
 intro Av G S₀ ρ σ S H D I p;obtain⟨io,t,π,u,hi,e0,e1,p⟩:=oS p;obtain⟨v0,hv⟩:=I.val hi
 cases u with
 |sh x=>exact p.elim
 |ob c ks us=>exact p.elim
 |di x=>exact p.elim
 |dt x=>exact p.elim
 | ol ts=>
   refine hp.at I hi hv e0 e1 fun w S1 H1 w1 I1 wk=>?_
   obtain⟨F,J1⟩:=I1;obtain⟨q,vs,ff,rest,wk',hq,hl,rs,_,nd,c⟩:=J1.r6 hi hv e1;have:=wk.inj wk';subst this
   refine⟨.inl ⟨rfl,_,SqL.new hq⟩,?_⟩
   refine hx Av G S₀ ρ σ S1 H1 _ ⟨F,J1⟩ ?_
   cases ed:md ρ with
   |exc c fs=>rw[ed]at p;exact fun a C S' H' w x=>p a C σ S' H' (SR.grow ⟨F,J1⟩ w) (w1.s.trans w.s) x
   |bad=>rw[ed]at p;exact p
   | ok x=>
     rw[ed]at p
     dsimp only at p
     split at p
     . rename_i hlt;intro v S2 H2 w2 r2;obtain⟨fx,rx,ndx,gx⟩:=r2
       refine⟨q,vs,v,rfl,rfl,w2.g _ _ hq,by rw[hl];exact hlt,?_⟩
       have ndf:ff.Nodup:=(List.nodup_cons.mp (List.nodup_append.mp nd).1).2
       have apx:∀ a∈ff,a∉fx:=fun a ha hb=>by
        obtain⟨o,h1,_⟩:=rs.live a ha
        simp_all
       obtain⟨g,J3,_⟩:=c S2 H2 (ts++[x]) (vs++[v]) (ff++(fx++[])) w2 ((rs.mono w2.s fun a _ o h=>w2.g _ _ h).append (.cons rx .nil)) (by
         rw[List.append_nil]
         exact List.nodup_append.mpr ⟨ndf,ndx,fun a ha b hb z=>by subst z;exact apx a ha hb⟩) (fun a ha=>by
         rw[List.append_nil]at ha
         rcases List.mem_append.mp ha with z|z
         . simp_all
         . exact .inr (gx a z))
       exact p σ S2 _ ⟨_,J3⟩ (w1.s.trans w2.s)
     . exact p.elim
end
section
variable{K:PySem.W.Frag}{cls:String->Option Addr}{W:XW}{Av G S₀ S S' H H' B B':Hp}{ρ:ag}{σ:St}{Q:VK}{F:Nat->List Addr}
theorem u5{i:Nat}{te tk tx:TE}{mp:MP}{mk:ag->OE}{md:ag->OD}(hp:JP K cls te i mp)(hk:JE K cls W tk mk)(hx:JD K cls W tx md):JS K cls W (tH tx (Jq te tk Ik)) (pC i mp mk md):=by
 intro Av G S₀ ρ σ S H D I p;refine hx Av G S₀ ρ σ S H _ I ?_;unfold pC at p
 cases ed:md ρ with
 |exc c fs=>rw[ed]at p;exact fun a C S' H' w x=>p a C σ S' H' (I.grow w) w.s x
 |bad=>rw[ed]at p;exact p
 | ok x=>
   rw[ed]at p;obtain⟨io,t,π,u,hi,e0,e1,p⟩:=oS p;obtain⟨v0,hv⟩:=I.val hi
   cases u with
   |sh x=>exact p.elim
   |ob c ks us=>exact p.elim
   |di x=>exact p.elim
   |dt x=>exact p.elim
   | ol ts=>
     intro v S1 H1 w1 r1
     refine hp.at (I.grow w1) hi hv e0 e1 fun w S2 H2 w2 I2 wk=>?_
     have p2:=p.back (w1.s.trans w2.s)
     refine hk.goS I2 p2 fun r z S3 H3 I3 w3 r3 p3=>?_
     cases en:r.pv with
     | int n=>
       rw[en]at p3
       dsimp only at p3
       cases ej:ixP ts.length n with
       |none=>rw[ej]at p3;exact p3.elim
       | some j=>
         rw[ej]at p3;obtain⟨F,J⟩:=id I;obtain⟨q,vs,ff,rest,wk',hq,hl,rs,_,nd,c⟩:=J.r6 hi hv e1;have:=wk.inj (wk'.mono (w1.g.trans w2.g));subst this
         have hz:z=.int n:=by have:=r3.rd I3.sh;rw[en]at this;exact dD this
         subst hz
         have wg:bq S H S3 H3:=(w1.trans w2).trans w3
         have hj:j<ts.length:=by
          unfold ixP at ej
          grind
         have ndf:ff.Nodup:=(List.nodup_cons.mp (List.nodup_append.mp nd).1).2
         obtain⟨fx,rx,ndx,gx⟩:=(r1.grow w2).grow w3;obtain⟨w0,f1,rs',e1',r1',p1',c1⟩:=rs.at (k:=j) (u:=ts[j]) (by simp)
         obtain⟨g,rg,pg⟩:=c1 S3 H3 x v fx wg.s rx fun a _ o h=>wg.g _ _ h
         have inff:∀ a∈rs',a∈ff:=fun a ha=>p1'.mem_iff.mpr (List.mem_append_right _ ha)
         have ndr:rs'.Nodup:=(List.nodup_append.mp (p1'.nodup_iff.mp ndf)).2.1
         have ndg:=pg.nodup_iff.mpr (List.nodup_append.mpr ⟨ndx,ndr,fun a ha b hb z=>by
          subst z;obtain⟨o,h1,_⟩:=rs.live a (inff a hb)
          rw[(gx a ha).1]at h1;cases h1⟩)
         obtain⟨g2,J3,_⟩:=c S3 H3 (ts.set j x) (vs.set j v) g wg rg ndg fun a ha=>by
          grind
         exact⟨q,vs,n,j,rfl,rfl,wg.g _ _ hq,by rw[hl];exact ej,p3 σ S3 _ ⟨_,J3⟩ (aK.refl _)⟩
     |_=>rw[en]at p3;exact p3.elim
noncomputable def Ir(K:PySem.W.Frag)(cls:String->Option Addr)(W:XW)(Av G S₀:Hp)(σ:St)(S:Hp)(Q:VK):OX->Prop
 |.ok ρ' s=>∀ v S' H',SR K cls Av G S₀ (ρ'++[some s]) (σ++[some v]) S' H'->aK S S'->Q v H'
 |.exc ρ' c fs=>∀ a C S' H',SR K cls Av G S₀ ρ' σ S' H'->aK S S'->pR K cls S' H' c fs a C->W (.ref C) (some a) σ H'
 |.bad=>False
noncomputable def JX(K:PySem.W.Frag)(cls:String->Option Addr)(W:XW)(te:TE)(m:ag->OX):Prop:=∀ Av G S₀ ρ σ S H Q,SR K cls Av G S₀ ρ σ S H->Ir K cls W Av G S₀ σ S Q (m ρ)->te σ H Q
theorem nG{i:Nat}{te:TE}{m:ag->OX}(h:JX K cls W te m):JS K cls W (tH te (j8 i)) (hJ i m):=by
 intro Av G S₀ ρ σ S H D I p;refine h Av G S₀ ρ σ S H _ I ?_;unfold hJ at p
 cases e:m ρ with
 |exc ρ' c fs=>rw[e]at p;exact fun a C S' H' I' s' x=>p a C σ S' H' I' s' x
 |bad=>rw[e]at p;exact p
 | ok ρ' s=>
   rw[e]at p
   dsimp only at p
   split at p
   . rename_i hs
     exact fun v S' H' I' s'=>p _ S' H' (I'.fold hs) s'
   . exact p.elim
theorem SR.Ks{x:PV}{v:V}(I:SR K cls Av G S₀ (ρ++[some (.sh x)]) (σ++[some v]) S H):Rep K S x v:=by
 obtain⟨F,J⟩:=I
 have hlen:ρ.length=σ.length:=by have:=J.len;simpa using this
 obtain⟨v',ev,r⟩:=J.own ρ.length (.sh x) (by simp);rw[List.getElem?_append_right (by rw[hlen];exact Nat.le_refl _),hlen,Nat.sub_self]at ev;cases ev;exact r.2
theorem Ht{te:TE}{m:ag->OX}{ta tb:TS}{ma mb:ag->OS}(h:JX K cls W te m)(ha:JS K cls W ta ma)(hb:JS K cls W tb mb):
  JS K cls W (Gp (Ih (fun σ H Q=>te σ H fun x H'=>∃ k,AQ K x H' k /\ Q k H')) ta tb) (HH true m ma mb):=by
 intro Av G S₀ ρ σ S H D I p;refine h Av G S₀ ρ σ S H _ I ?_;unfold HH at p
 cases e:m ρ with
 |exc ρ' c fs=>rw[e]at p;exact fun a C S' H' I' s' x=>p a C σ S' H' I' s' x
 |bad=>rw[e]at p;exact p
 | ok ρ' s=>
   rw[e]at p
   cases s with
   | sh x=>
     dsimp only at p
     intro v S' H' I' s'
     cases et:tT x with
     |none=>rw[et]at p;exact p.elim
     | some k=>
       rw[et]at p
       refine⟨k,BS I'.sh (I'.Ks.rd I'.sh) et,?_⟩
       cases k with
       |false=>exact Ap (ha Av G S₀ ρ' σ S' H' D I'.B1 (p.back s'))
       |true=>exact zV (hb Av G S₀ ρ' σ S' H' D I'.B1 (p.back s'))
   |ow xs=>exact p.elim
   |ex c fs=>exact p.elim
   |tr io t=>exact p.elim
   |bo t=>exact p.elim
theorem bK.last{ts:List OV}{vs:List V}{f:List Addr}{x:OV}(h:bK K cls S H ts vs f)(e:ts.getLast?=some x):∃ y f1 f2,vs[vs.length - 1]?=some y /\ bK K cls S H ts.dropLast vs.dropLast f1 /\ bU K cls S H x y f2 /\ f=f1++f2:=by
 induction ts generalizing vs f with
 |nil=>cases e
 | cons t ts ih=>
   obtain⟨v,r,f1,f2,rfl,rfl,h1,h2⟩:=h.cons_inv
   cases ts with
   | nil=>
     obtain⟨rfl,rfl⟩:=h2;simp at e;subst e
     exact⟨v,[],f1,rfl,.nil,h1,by simp⟩
   | cons t2 ts2=>
     obtain⟨y,g1,g2,e1,r1,r2,rfl⟩:=ih h2 e
     have hr:r≠[]:=by intro z;subst z;have:=h2.length;simp at this
     refine⟨y,f1++g1,g2,?_,?_,r2,by simp⟩
     . grind
     . cases r with
       |nil=>exact absurd rfl hr
       |cons a r'=>exact bK.cons h1 r1
theorem HK{x:OV}{v:V}{fp:List Addr}{i:Nat}(h:bU K cls S H x v fp)(nd:fp.Nodup)(g:∀ a∈fp,G a=none /\ S a=none):uH K cls Av G S H i (slO x) v fp:=by
 cases x with
 |sh y=>unfold bU at h;exact h
 |ol ts=>exact⟨h,nd,g,fun z=>nomatch z⟩
 |ob c ks ts=>exact⟨h,nd,g,fun z=>nomatch z⟩
 |di x=>exact⟨h,nd,g,fun z=>nomatch z⟩
 |dt x=>exact⟨h,nd,g,fun z=>nomatch z⟩
theorem B6{i:Nat}{te:TE}{mp:MP}(hp:JP K cls te i mp):JX K cls W (Ho K "list" Mb te) (qO i mp):=by
 intro Av G S₀ ρ σ S H Q I p;unfold qO at p;split at p
 . rename_i io t hi;split at p
   . rename_i π e0;split at p
     . rename_i ts e1;split at p
       . rename_i x ex;obtain⟨v0,hv⟩:=I.val hi
         refine hp.at I hi hv e0 e1 fun w S1 H1 w1 I1 wk=>?_
         obtain⟨F,J1⟩:=id I1;obtain⟨q,vs,ff,rest,wk',hq,hl,rs,pF,nd,c⟩:=J1.r6 hi hv e1;have:=wk.inj wk';subst this;obtain⟨y,f1,f2,ey,ri,rx,rfl⟩:=rs.last ex
         have ndf:(f1++f2).Nodup:=(List.nodup_cons.mp (List.nodup_append.mp nd).1).2
         have nq:q∉f1++f2:=(List.nodup_cons.mp (List.nodup_append.mp nd).1).1
         refine⟨.inl ⟨rfl,_,SqL.new hq⟩,q,vs,y,rfl,rfl,hq,ey,?_⟩
         obtain⟨g,J3,pg⟩:=c S1 H1 ts.dropLast vs.dropLast f1 (bq.refl J1.sh) ri (List.nodup_append.mp ndf).1 fun a ha=>.inl (List.mem_append_left _ ha)
         have in2:∀ a∈f2,a∈F i:=fun a ha=>pF.mem_iff.mpr (by simp[ha])
         have rx':bU K cls S1 (upd H1 q (.lst vs.dropLast)) x y f2:=rx.mono (aK.refl _) fun a ha o h=>by rw[bH (fun z=>nq (by rw[<- z];simp[ha]))];exact h
         have gs2:∀ a∈f2,G a=none /\ S1 a=none:=fun a ha=>(J1.live i a (in2 a ha)).2
         obtain⟨F',J4⟩:=J3.more (s:=some (slO x)) (fun t' e=>by cases e;exact⟨y,rfl,HK rx' (List.nodup_append.mp ndf).2.1 gs2⟩) (fun a ha=>⟨rx'.live a ha,gs2 a ha⟩) fun j a hj ha hz=>by
          by_cases ej:j=i
          . subst ej;rw[js]at hz
            grind
          . rw[fA ej]at hz;exact ej (J1.apart j i a hz (in2 a ha))
         exact p y S1 _ ⟨F',J4⟩ w1.s
       . exact p.elim
     . exact p.elim
   . exact p.elim
 . exact p.elim
end
section
variable{K:PySem.W.Frag}{cls:String->Option Addr}{W:XW}{Av G S₀ S S' H H' B B':Hp}{ρ:ag}{σ:St}{Q:VK}{F:Nat->List Addr}
mutual
theorem bU.frozen(s:aK S S'):∀{t:OV} {v:V} {fp:List Addr} {x:PV},bU K cls S H t v fp->pvO t=some x->(∀ a∈fp,S' a=H a)->Rep K S' x v
 | .sh y,v,fp,x,h,e,g=>by
   unfold pvO at e;cases e;unfold bU at h;exact Rep.mono s h.2
 | .ol ts,v,fp,x,h,e,g=>by
   unfold pvO at e;obtain⟨xs,e1,rfl⟩:=Option.map_eq_some_iff.mp e;obtain⟨p,vs,f,rfl,hp,rfl,rs⟩:=h.Ej;unfold Rep
   exact⟨p,vs,rfl,SqL.new (by rw[g p (by simp)];exact hp),bK.frozen s rs e1 fun a ha=>g a (by simp[ha])⟩
 |.ob c ks ts,v,fp,x,h,e,g=>by unfold pvO at e;cases e
 |.di c,v,fp,x,h,e,g=>by unfold pvO at e;cases e
 |.dt c,v,fp,x,h,e,g=>by unfold pvO at e;cases e
theorem bK.frozen(s:aK S S'):∀{ts:List OV} {vs:List V} {fp:List Addr} {xs:List PV},bK K cls S H ts vs fp->uJ ts=some xs->(∀ a∈fp,S' a=H a)->bw K S' xs vs
 | [],vs,fp,xs,h,e,g=>by
   unfold uJ at e;cases e;unfold bK at h;rw[h.1];exact .nil
 | t ::ts,vs,fp,xs,h,e,g=>by
   unfold uJ at e;obtain⟨x,e1,e2⟩:=Option.bind_eq_some_iff.mp e;obtain⟨ys,e3,rfl⟩:=Option.map_eq_some_iff.mp e2;obtain⟨v,r,f1,f2,rfl,rfl,h1,h2⟩:=h.cons_inv;exact .cons (bU.frozen s h1 e1 fun a ha=>g a (by simp[ha])) (bK.frozen s h2 e3 fun a ha=>g a (by simp[ha]))
end
theorem SR.Lq{i:Nat}{t:OV}{x:PV}(I:SR K cls Av G S₀ ρ σ S H)(hi:ρ[i]?=some (some (.tr false t)))(ex:pvO t=some x):∃ S',aK S S' /\ SR K cls Av G S₀ (ρ.set i (some (.sh x))) σ S' H:=by
 obtain⟨F,J⟩:=I;obtain⟨v,hv,ro,nd,gs,_⟩:=J.own i _ hi
 have J1:SRF K cls Av G S₀ (ρ.set i none) (σ.set i none) S H (oK F i []):=J.put (fun t e=>nomatch e) (fun a ha=>nomatch ha) fun j a _ ha=>nomatch ha
 let S':Hp:=fun a=>if a∈F i then H a else S a
 have sS:aK S S':=fun b u h=>by
  show(if b∈F i then H b else S b)=some u
  rw[if_neg (fun z=>by rw[(gs b z).2]at h;cases h)];exact h
 have sH:aK S' H:=fun b u h=>by
  have h':(if b∈F i then H b else S b)=some u:=h
  split at h'
  . exact h'
  . exact J.sh b u h'
 have off:∀ j a,a∈oK F i [] j->a∉F i:=fun j a ha z=>by
  by_cases ej:j=i
  . subst ej;rw[js]at ha;cases ha
  . rw[fA ej]at ha;exact ej (J.apart j i a ha z)
 have J2:=J1.change (S':=S') (H':=H) J.gh sS sH (fun b h=>by
   have h':(if b∈F i then H b else S b)≠none:=h
   split at h'
   . rename_i hb;exact .inr (gs b hb).1
   . exact J.new b h') (fun _ _ _ _ h=>h) (fun _ _ _ h=>h) fun j a ha=>by
     show(if a∈F i then H a else S a)=none
     rw[if_neg (off j a ha)];exact(J1.live j a ha).2.2
 have J3:=J2.put (i:=i) (s:=some (.sh x)) (u:=some v) (fp:=[]) (fun t' e=>by
  cases e
  exact⟨_,rfl,rfl,ro.frozen sS ex fun a ha=>by show(if a∈F i then H a else S a)=H a;rw[if_pos ha]⟩) (fun a ha=>nomatch ha) fun j a _ ha=>nomatch ha
 rw[List.set_set,List.set_set,lK hv]at J3
 exact⟨S',sS,_,J3⟩
theorem qY{i:Nat}{ts:TS}{m:ag->OS}(h:JS K cls W ts m):JS K cls W ts (lC i m):=by
 intro Av G S₀ ρ σ S H D I p;unfold lC nY at p;split at p
 . rename_i t e;split at p
   . rename_i x ex;obtain⟨S',s,J⟩:=I.Lq e ex;exact h Av G S₀ _ σ S' H D J (p.back s)
   . exact h Av G S₀ ρ σ S H D I p
 . exact h Av G S₀ ρ σ S H D I p
theorem Hz{ks:List Str}{us:List (Str×V)}{f:Str}{y:V}(hk:us.map (·.1)=ks){k:Nat}(hf:∀ j,ks[j]?=some f->k<=j)(he:ks[k]?=some f):(kz f y us).map (·.1)=ks /\ (kz f y us).map (·.2)=(us.map (·.2)).set k y:=by
 induction us generalizing ks k with
 |nil=>subst hk;cases he
 | cons q us ih=>
   obtain⟨g,x⟩:=q;subst hk;unfold kz
   by_cases e:g=f
   . rw[if_pos e]
     have k0:k=0:=by have:=hf 0 (by simp[e]);omega
     subst k0
     exact⟨rfl,rfl⟩
   . rw[if_neg e]
     cases k with
     |zero=>simp at he;exact absurd he e
     | succ k=>
       obtain⟨h1,h2⟩:=ih (ks:=us.map (·.1)) (k:=k) rfl (fun j hj=>by have:=hf (j+1) (by simpa using hj);omega) (by simpa using he);simp[h1,h2]
theorem Gk{us:List (Str×V)}{f:Str}{y:V}(h:f∉us.map (·.1)):kz f y us=us++[(f,y)]:=by
 induction us with
 |nil=>rfl
 | cons q us ih=>
   obtain⟨g,x⟩:=q;simp at h;unfold kz;rw[if_neg (fun z=>h.1 z.symm),ih (by simpa using h.2)];rfl
theorem A9{ks:List Str}{ts:List OV}{f:Str}(hl:ts.length=ks.length)(h:f∈ks):∃ k,ks[k]?=some f /\ (∀ j,ks[j]?=some f->k<=j) /\ k<ts.length /\ ∀ u,wG ks ts f u=ts.set k u:=by
 induction ks generalizing ts with
 |nil=>cases h
 | cons g ks ih=>
   cases ts with
   |nil=>cases hl
   | cons t ts=>
     by_cases e:g=f
     . subst e
       exact⟨0,rfl,fun j _=>Nat.zero_le _,by simp,fun u=>by simp[wG]⟩
     . obtain ⟨k,h1,h2,h3,h4⟩:=ih (ts:=ts) (by simpa using hl) (by
        rcases List.mem_cons.mp h with z|z
        . exact absurd z.symm e
        . exact z)
       refine⟨k+1,by simpa using h1,fun j hj=>?_,by simpa using h3,fun u=>by simp[wG,e,h4]⟩
       cases j with
       |zero=>simp at hj;exact absurd hj e
       |succ j=>have:=h2 j (by simpa using hj);omega
theorem GC{i:Nat}{te tx:TE}{mp:MP}{f:Str}{okc:String->Bool}{md:ag->OD}(hp:JP K cls te i mp)(hx:JD K cls W tx md)(ha:∀ c C,cls c=some C->okc c=true->Cls K C /\ mR K C f):JS K cls W (Ly K te tx f) (Fh i mp f okc md):=by
 intro Av G S₀ ρ σ S H D I p;refine hx Av G S₀ ρ σ S H _ I ?_;unfold Fh at p
 cases ed:md ρ with
 |exc c fs=>rw[ed]at p;exact fun a C S' H' w x=>p a C σ S' H' (I.grow w) w.s x
 |bad=>rw[ed]at p;exact p
 | ok x=>
   rw[ed]at p
   dsimp only at p
   obtain⟨io,t,π,u,hi,e0,e1,p⟩:=oS p;obtain⟨v0,hv⟩:=I.val hi
   cases u with
   |sh x=>exact p.elim
   |ol ts=>exact p.elim
   |di x=>exact p.elim
   |dt x=>exact p.elim
   | ob c ks ts=>
     dsimp only at p
     split at p
     . rename_i hok;rw[Bool.and_eq_true,decide_eq_true_eq]at hok;intro v S1 H1 w1 r1
       refine hp.at (I.grow w1) hi hv e0 e1 fun w S2 H2 w2 I2 wk=>?_
       obtain⟨F,J⟩:=id I;obtain⟨w0,f1,rest,wk',ro,pF,nd,gs,cc⟩:=J.part hi hv e1
       have wg:bq S H S2 H2:=w1.trans w2
       have:=wk.inj (wk'.mono wg.g);subst this;unfold bU at ro;obtain⟨q,C,dx,us,ff,rfl,hcl,hq,hd,hk,rfl,rs⟩:=ro;obtain⟨a1,a2⟩:=ha c C hcl hok.1;have nd1:=(List.nodup_append.mp nd).1
       have nq:q∉dx ::ff:=(List.nodup_cons.mp nd1).1
       have ndx':dx∉ff:=(List.nodup_cons.mp (List.nodup_cons.mp nd1).2).1
       have ndf:ff.Nodup:=(List.nodup_cons.mp (List.nodup_cons.mp nd1).2).2
       have hlen:us.length<1000:=by have:=congrArg List.length hk;simp at this;omega
       obtain⟨fx,rx,nx,gx⟩:=r1.grow w2
       refine⟨q,C,dx,us,rfl,wg.g _ _ hq,a1,a2,hlen,?_⟩
       have noS:∀ a∈q ::dx ::ff,S2 a=none:=fun a ha=>by
        cases z:S2 a with
        |none=>rfl
        | some o=>
          obtain⟨⟨o',h1,_⟩,_,h3⟩:=J.live i a (pF.mem_iff.mpr (List.mem_append_left _ ha))
          rcases wg.new a (by rw[z];simp)with y|y
          . exact absurd h3 y
          . rw[h1]at y;cases y
       have fin:∀ ks' ts' f',(kz f v us).map (·.1)=ks'->bK K cls S2 H2 ts' ((kz f v us).map (·.2)) f'->f'.Nodup->(∀ a∈f',a∈ff \/ (H a=none /\ S2 a=none)) ->
         SR K cls Av G S₀ (ρ.set i (some (.tr io (t.put π (.ob c ks' ts'))))) σ S2 (upd H2 q (.ins C dx (kz f v us))):=by
        intro ks' ts' f' hk' rs' nd' fr
        have nqf:q∉f':=fun z=>by
         rcases fr q z with y|y
         . exact nq (by simp[y])
         . rw[y.1]at hq;cases hq
        have ndf':dx∉f':=fun z=>by
         rcases fr dx z with y|y
         . exact ndx' y
         . rw[y.1]at hd;cases hd
        have ndq:dx≠q:=fun z=>nq (by simp[z])
        obtain⟨g,J3,_⟩:=cc S2 (upd H2 q (.ins C dx (kz f v us))) (.ob c ks' ts') (q ::dx ::f') wg.s (wg.sh.upd (noS q (by simp))) ((J.gh.trans wg.g).upd (gs q (by simp)).1) (fun b h=>by
          rcases wg.new b h with z|z
          . exact J.new b z
          . exact .inr (J.gh.free z)) (by
          unfold bU
          exact⟨q,C,dx,_,f',rfl,hcl,bP,by rw[bH ndq];exact wg.g _ _ hd,hk',rfl,rs'.mono (aK.refl _) fun a ha o h=>by rw[bH (fun z=>nqf (by rw[<- z];exact ha))];exact h⟩)
         (List.nodup_cons.mpr ⟨fun z=>by
           rcases List.mem_cons.mp z with z|z
           . exact ndq z.symm
           . exact nqf z,List.nodup_cons.mpr ⟨ndf',nd'⟩⟩) (fun a ha=>by
           rcases List.mem_cons.mp ha with z|z
           . subst z;exact .inl (by simp)
           . rcases List.mem_cons.mp z with z|z
             . subst z;exact .inl (by simp)
             . rcases fr a z with y|y
               . exact .inl (by simp[y])
               . exact .inr y.1) (fun a ha=>by
           rcases List.mem_cons.mp ha with z|z
           . subst z;exact noS _ (by simp)
           . rcases List.mem_cons.mp z with z|z
             . subst z;exact noS _ (by simp)
             . rcases fr a z with y|y
               . exact noS a (by simp[y])
               . exact y.2) (fun a o hn h=>by rw[bH (fun z=>hn (by rw[z];simp))];exact wg.g _ _ h) fun a h=>by
           rcases wg.new a h with z|z
           . exact .inl z
           . exact .inr (.inl z)
        exact⟨_,J3⟩
       have hlts:ts.length=ks.length:=by rw[<- rs.length,<- hk];simp
       split at p
       . rename_i hc;obtain⟨k,h1,h2,h3,h4⟩:=A9 hlts (by simpa using hc);obtain⟨k1,k2⟩:=Hz (y:=v) hk h2 h1;obtain⟨w3,g1,rest3,e3,r3,p3,c3⟩:=rs.at (k:=k) (u:=ts[k]) (by simp[h3])
         obtain⟨g,rg,pg⟩:=c3 S2 H2 x v fx wg.s rx fun a _ o h=>wg.g _ _ h
         have inff:∀ a∈rest3,a∈ff:=fun a ha=>p3.mem_iff.mpr (List.mem_append_right _ ha)
         have ndr:rest3.Nodup:=(List.nodup_append.mp (p3.nodup_iff.mp ndf)).2.1
         have ndg:g.Nodup:=pg.nodup_iff.mpr (List.nodup_append.mpr ⟨nx,ndr,fun a ha b hb z=>by
          subst z;obtain⟨o,h1,_⟩:=rs.live a (inff a hb)
          rw[(gx a ha).1]at h1;cases h1⟩)
         have q1:=fin ks (ts.set k x) g k1 (by rw[k2];exact rg) ndg fun a ha=>by
          rcases List.mem_append.mp (pg.mem_iff.mp ha)with z|z
          . exact .inr (gx a z)
          . exact .inl (inff a z)
         rw[h4]at p;exact p σ S2 _ q1 wg.s
       . rename_i hc
         have hn:f∉us.map (·.1):=by rw[hk];simpa using hc
         have e2:=Gk (y:=v) hn
         have ndg:(ff++(fx++[])).Nodup:=by
          rw[List.append_nil]
          exact List.nodup_append.mpr ⟨ndf,nx,fun a ha b hb z=>by
           subst z;obtain⟨o,h1,_⟩:=rs.live a ha
           rw[(gx a hb).1]at h1;cases h1⟩
         have q1:=fin (ks++[f]) (ts++[x]) (ff++(fx++[])) (by rw[e2];simp[hk]) (by rw[e2,List.map_append];exact(rs.mono wg.s fun a _ o h=>wg.g _ _ h).append (.cons rx .nil)) ndg fun a ha=>by
          rw[List.append_nil]at ha
          rcases List.mem_append.mp ha with z|z
          . exact .inl z
          . exact .inr (gx a z)
         exact p σ S2 _ q1 wg.s
     . exact p.elim
end
open Classical in
noncomputable def minus(H:Hp)(Fc:Nat->List Addr):Hp:=fun a=>if ∃ k,a∈Fc k then none else H a
section
variable{K:PySem.W.Frag}{cls:String->Option Addr}{W:XW}{Av G S₀ S S' H H' B B':Hp}{ρ:ag}{σ:St}{Q:VK}{F Fc Fc':Nat->List Addr}
theorem yX(h:a∈Fc k):minus H Fc a=none:=by unfold minus;rw[if_pos ⟨k,h⟩]
theorem jQ(h:∀ k,a∉Fc k):minus H Fc a=H a:=by unfold minus;rw[if_neg (fun ⟨k,z⟩=>h k z)]
theorem vM:aK (minus H Fc) H:=fun b u h=>by
 unfold minus at h;split at h
 . cases h
 . exact h
theorem nV(h:minus H Fc a=none):H a=none \/ ∃ k,a∈Fc k:=by
 unfold minus at h
 grind
noncomputable def NN(K:PySem.W.Frag)(cls:String->Option Addr)(S H Hm:Hp):Sl->V->List Addr->Prop
 |.sh x,v,fp=>fp=[] /\ Rep K S x v
 |.tr true t,v,fp=>bU K cls S H t v fp /\ fp.Nodup
 |.bo t,v,fp=>fp=[] /\ ∃ f,bU K cls S Hm t v f
 |_,_,_=>False
structure EF(K:PySem.W.Frag)(cls:String->Option Addr)(vs:List V)(S H:Hp)(Fc:Nat->List Addr)(outs:List (Option OV))(S' H':Hp)(Fc':Nat->List Addr):Prop where
 s:aK S S'
 sh:aK S' H'
 keep:aK (minus H Fc) H'
 new:∀ b,S' b≠none->S b≠none \/ H b=none \/ ∃ k,b∈Fc k
 out:∀ k t',outs[k]?=some (some t')->∃ u,vs[k]?=some u /\ bU K cls S' H' t' u (Fc' k) /\ (Fc' k).Nodup
 apart:∀ j k a,a∈Fc' j->a∈Fc' k->j=k
 live:∀ k a,a∈Fc' k->minus H Fc a=none /\ S' a=none
noncomputable def Mp(K:PySem.W.Frag)(cls:String->Option Addr)(vs:List V)(S H:Hp)(Fc:Nat->List Addr)(Q:VK)(E:XK):OI->Prop
 |.ok x outs=>∀ v S' H' Fc',EF K cls vs S H Fc outs S' H' Fc'->Rep K S' x v->Q v H'
 |.exc c fs outs=>∀ a C S' H' Fc',EF K cls vs S H Fc outs S' H' Fc'->pR K cls S' H' c fs a C->E (.ref C) (some a) H'
 |.bad=>False
structure Ga(K:PySem.W.Frag)(cls:String->Option Addr)(as:List Sl)(vs:List V)(S H:Hp)(Fc:Nat->List Addr):Prop where
 sh:aK S H
 len:as.length=vs.length
 rel:∀(k:Nat) (s:Sl),as[k]?=some s->∃ v,vs[k]?=some v /\ NN K cls S H (minus H Fc) s v (Fc k)
 apart:∀ j k a,a∈Fc j->a∈Fc k->j=k
 live:∀ k a,a∈Fc k->(∃ o,H a=some o /\ isX o=false) /\ S a=none
noncomputable def spI(K:PySem.W.Frag)(cls:String->Option Addr)(f:List Sl->OI):Sp:=fun vs H Q E=>∃ S as Fc,Ga K cls as vs S H Fc /\ Mp K cls vs S H Fc Q E (f as)
theorem HJ{as:List Sl}{vs:List V}{N:List Str}{i:Nat}{s:Sl}(hl:as.length=vs.length)(e:(kx N.length as)[i]?=some (some s)):as[i]?=some s /\ (L2.start N vs)[i]?=some ((vs[i]?)):=by
 unfold kx at e
 by_cases hi:i<as.length
 . rw[List.getElem?_append_left (by simpa using hi),List.getElem?_map]at e;unfold L2.start
   grind
 . grind
noncomputable def FZ(vs:List V):Hp:=fun i=>(vs[i]?).map fun v=>.lst [v]
theorem SR.JL{ρ':ag}(A:aK S H)(I:SR K cls (FZ vs) (minus H Fc) S ρ' σ' S' H'):∃ Fc',EF K cls vs S H Fc ((ρ'.take np).map pV) S' H' Fc':=by
 obtain⟨F,J⟩:=I
 refine⟨F,J.s0,J.sh,J.gh,fun b h=>?_,fun k t' e=>?_,J.apart,fun k a ha=>(J.live k a ha).2⟩
 . rcases J.new b h with z|z
   . simp_all
   . rcases nV z with y|y
     . simp_all
     . simp_all
 . rw[List.getElem?_map]at e;obtain⟨s,e1,e2⟩:=Option.map_eq_some_iff.mp e
   have e3:ρ'[k]?=some s:=by
    grind
   cases s with
   |none=>cases e2
   | some s=>
     cases s with
     | tr io t=>
       cases io with
       |false=>cases e2
       | true=>
         cases e2;obtain⟨v,ev,ro,nd,_,hio⟩:=J.own k _ e3;have:=hio rfl;unfold FZ at this
         simp_all
     |sh x=>cases e2
     |ow x=>cases e2
     |ex c fs=>cases e2
     |bo t=>cases e2
theorem wt{P:Program}{w:World}{mg:Str->Option Value}{base:Heap}{x qual:Str}{st:Stmt}{f:Addr}{fd:FuncData}{N ps:List Str}{k:Nat}{m:ag->OS}(Fn:Fun K x qual st f fd)(Sc:aW N ps (aC st))
  (hbody:∀(cdv:Value) (A:Around) (outer:List Env) (s:Shared) (H:Hp) (E:XK),ik k (A.deeper (envOfC qual (aC st) s.heap.objs.size f cdv)) ->
    ∃ t,QSs (tR (CXE P w) P w K mg base N qual (aC st) f cdv A outer s H E) (dF st) t /\ JS K cls (fun C a _ H=>∀ H',aK H H'->E C a H') t m):cq P w K mg base (CXE P w) (k+1) f fd ps (spI K cls (fnI ps.length N.length m)):=by
 refine okX Fn Sc (fun vs H Q E h=>?_) fun cdv A outer s H vs Q E hr h=>?_
 . obtain⟨S,as,Fc,a,q⟩:=h;unfold fnI at q;split at q
   . rw[<- a.len];assumption
   . exact q.elim
 . obtain⟨S,as,Fc,a,q⟩:=h;unfold fnI at q;split at q
   . rename_i hl;obtain⟨t,ht,J⟩:=hbody cdv A outer s H E hr
     refine⟨t,ht.out,?_⟩
     have start:SR K cls (FZ vs) (minus H Fc) S (kx N.length as) (L2.start N vs) S H:=by
      refine⟨Fc,vM,aK.refl _,a.sh,fun _ z=>.inl z,fun i s e=>?_,a.apart,fun i b hb=>⟨(a.live i b hb).1,yX hb,(a.live i b hb).2⟩,?_⟩
      . obtain⟨e1,e2⟩:=HJ a.len e;obtain⟨v,ev,r⟩:=a.rel i s e1;rw[ev]at e2
        refine⟨v,e2,?_⟩
        cases s with
        |sh x=>exact r
        |ow x=>exact r.elim
        |ex c fs=>exact r.elim
        | tr io t=>
          cases io with
          |false=>exact r.elim
          |true=>exact⟨r.1,r.2,fun b hb=>⟨yX hb,(a.live i b hb).2⟩,fun _=>by unfold FZ;rw[ev];rfl⟩
        |bo t=>exact r
      . unfold kx L2.start;simp[a.len]
     refine J (FZ vs) (minus H Fc) S (kx N.length as) (L2.start N vs) S H _ start ?_
     cases e:m (kx N.length as)with
     |nx ρ'=>rw[e]at q;exact fun σ' S' H' I' s'=>let ⟨Fc',E'⟩:=I'.JL a.sh;q .non S' H' Fc' E' (by unfold Rep;rfl)
     |bk ρ'=>rw[e]at q;exact q.elim
     |ct ρ'=>rw[e]at q;exact q.elim
     |bad=>rw[e]at q;exact q.elim
     | rt ρ' r=>
       rw[e]at q
       cases r with
       |al ys=>exact q.elim
       |fr ys=>exact q.elim
       |sh y=>exact fun v σ' S' H' I' s' rr=>let ⟨Fc',E'⟩:=I'.JL a.sh;q v S' H' Fc' E' rr
     | exc ρ' c fs=>
       rw[e]at q
       exact fun b C σ' S' H' I' s' x H2 g2=>let ⟨Fc',E'⟩:=(I'.same g2).JL a.sh;q b C S' H2 Fc' E' (x.mono (aK.refl _) g2)
   . exact q.elim
noncomputable def AR1(K:PySem.W.Frag)(S H:Hp)(ρ:ag)(σ:St):Arg->Sl->V->Prop
 |.e _,.sh x,v=>Rep K S x v
 |.t i mp,.tr true u,v=>∃ io t π v0,ρ[i]?=some (some (.tr io t)) /\ mp ρ=some π /\ t.get π=some u /\ σ[i]?=some (some v0) /\ kf H v0 π v
 |.b i mp,.bo u,v=>∃ t π v0,fO i ρ=some t /\ mp ρ=some π /\ t.get π=some u /\ σ[i]?=some (some v0) /\ kf H v0 π v
 |_,_,_=>False
noncomputable def ARs(K:PySem.W.Frag)(S H:Hp)(ρ:ag)(σ:St):List Arg->List Sl->List V->Prop
 |[],ss,vs=>ss=[] /\ vs=[]
 |a ::as,ss,vs=>∃ s sr v vr,ss=s ::sr /\ vs=v ::vr /\ AR1 K S H ρ σ a s v /\ ARs K S H ρ σ as sr vr
theorem AR1.mono(h:AR1 K S H ρ σ a s v)(s1:aK S S')(g:aK H H'):AR1 K S' H' ρ σ a s v:=by
 cases a with
 |e me=>cases s<;>first|exact h.elim|exact Rep.mono s1 h
 | t i mp=>
   cases s with
   | tr io u=>
     cases io with
     |false=>exact h.elim
     |true=>obtain⟨io,t,π,v0,h1,h2,h3,h4,h5⟩:=h;exact⟨io,t,π,v0,h1,h2,h3,h4,h5.mono g⟩
   |_=>exact h.elim
 | b i mp=>
   cases s with
   |bo u=>obtain⟨t,π,v0,h1,h2,h3,h4,h5⟩:=h;exact⟨t,π,v0,h1,h2,h3,h4,h5.mono g⟩
   |_=>exact h.elim
theorem ARs.at:∀{ss:List Sl} {vs:List V} {k:Nat} {a:Arg},ARs K S H ρ σ as ss vs->as[k]?=some a->∃ s v,ss[k]?=some s /\ vs[k]?=some v /\ AR1 K S H ρ σ a s v:=by
 induction as with
 |nil=>intro ss vs k a _ e;simp at e
 | cons b as ih=>
   rintro ss vs k a ⟨s,sr,v,vr,rfl,rfl,h1,h2⟩ e
   grind
theorem ARs.len{as:List Arg}:∀{ss:List Sl} {vs:List V},ARs K S H ρ σ as ss vs->ss.length=as.length /\ vs.length=as.length:=by
 induction as with
 |nil=>intro ss vs h;rw[h.1,h.2];exact⟨rfl,rfl⟩
 | cons b as ih=>
   rintro ss vs ⟨s,sr,v,vr,rfl,rfl,h1,h2⟩
   grind
noncomputable def JAI(K:PySem.W.Frag)(cls:String->Option Addr)(t:TA)(as:List Arg):Prop:=∀ Av G S₀ ρ σ S H Q ss,SR K cls Av G S₀ ρ σ S H->jy as ρ=some ss->(∀ vs S' H',bq S H S' H'->ARs K S' H' ρ σ as ss vs->Q vs H')->t σ H Q
noncomputable def JA1(K:PySem.W.Frag)(cls:String->Option Addr)(te:TE)(a:Arg):Prop:=∀ Av G S₀ ρ σ S H Q s,SR K cls Av G S₀ ρ σ S H->kA a ρ=some s->(∀ v S' H',bq S H S' H'->AR1 K S' H' ρ σ a s v->Q v H')->te σ H Q
theorem zW{me:ag->OE}(h:JE K cls W te me):JA1 K cls te (.e me):=by
 intro Av G S₀ ρ σ S H Q s I e k;unfold kA at e
 dsimp only at e
 refine h Av G S₀ ρ σ S H Q I ?_
 cases em:me ρ with
 |exc c fs=>rw[em]at e;cases e
 |bad=>rw[em]at e;cases e
 | ok r=>
   rw[em]at e;obtain⟨x,e1,rfl⟩:=Option.map_eq_some_iff.mp e;intro v S1 H1 w1 r1;obtain⟨S2,w2,s2,rx⟩:=r1.share w1 e1;exact k v S2 H1 w2 rx
theorem oF(h:JP K cls te i mp):JA1 K cls te (.t i mp):=by
 intro Av G S₀ ρ σ S H Q s I e k;unfold kA at e
 dsimp only at e
 split at e
 . rename_i io t hi;obtain⟨u,e1,rfl⟩:=Option.map_eq_some_iff.mp e;obtain⟨π,e2,e3⟩:=Option.bind_eq_some_iff.mp e1;obtain⟨v0,hv⟩:=I.val hi
   exact h.at I hi hv e2 e3 fun w S1 H1 w1 I1 wk=>k w S1 H1 w1 ⟨io,t,π,v0,hi,e2,e3,hv,wk⟩
 . grind
theorem IL(h:JP K cls te i mp):JA1 K cls te (.b i mp):=by
 intro Av G S₀ ρ σ S H Q s I e k;unfold kA at e
 dsimp only at e
 obtain⟨u,e1,rfl⟩:=Option.map_eq_some_iff.mp e;unfold subAt at e1;split at e1
 . rename_i t et;split at e1
   . rename_i π eπ;obtain⟨v0,fp,hv,_⟩:=I.tree et
     exact h Av G S₀ ρ σ S H Q v0 t π I et hv eπ (by rw[e1];rfl) fun w S1 H1 w1 wk=>k w S1 H1 w1 ⟨t,π,v0,et,eπ,e1,hv,wk⟩
   . cases e1
 . cases e1
theorem lT:JAI K cls kO []:=by
 intro Av G S₀ ρ σ S H Q ss I e k;cases e;exact k [] S H (bq.refl I.sh) ⟨rfl,rfl⟩
theorem fh(h:JA1 K cls te a)(r:JAI K cls t as):JAI K cls (iX te t) (a ::as):=by
 intro Av G S₀ ρ σ S H Q ss I e k;obtain⟨s,e1,e2⟩:=Option.bind_eq_some_iff.mp e;obtain⟨sr,e3,rfl⟩:=Option.map_eq_some_iff.mp e2
 refine h Av G S₀ ρ σ S H _ s I e1 fun v S1 H1 w1 h1=>?_
 refine r Av G S₀ ρ σ S1 H1 _ sr (I.grow w1) e3 fun vs S2 H2 w2 h2=>?_
 exact k (v ::vs) S2 H2 (w1.trans w2) ⟨s,sr,v,vs,rfl,rfl,h1.mono w2.s w2.g,h2⟩
end
section
variable{K:PySem.W.Frag}{cls:String->Option Addr}{W:XW}{Av G S₀ S S' H H' B B':Hp}{ρ:ag}{σ:St}{Q:VK}{F Fc Fc':Nat->List Addr}
noncomputable def dn:List Arg->List Nat
 |[]=>[]
 |.t i _ ::as=>i ::dn as
 |_ ::as=>dn as
noncomputable def tI:List Arg->List Nat
 |[]=>[]
 |.b i _ ::as=>i ::tI as
 |_ ::as=>tI as
noncomputable def argsOk(as:List Arg):Bool:=decide (dn as).Nodup&&(tI as).all fun i=>!(dn as).contains i
theorem gO{as:List Arg}{k i:Nat}{mp:MP}(h:as[k]?=some (.t i mp)):i∈dn as:=by
 induction as generalizing k with
 |nil=>simp at h
 | cons a as ih=>
   cases k with
   |zero=>simp at h;subst h;simp[dn]
   | succ k=>
     have:=ih h
     cases a<;>simp[dn,this]
theorem Bl{as:List Arg}{k i:Nat}{mp:MP}(h:as[k]?=some (.b i mp)):i∈tI as:=by
 induction as generalizing k with
 |nil=>simp at h
 | cons a as ih=>
   cases k with
   |zero=>simp at h;subst h;simp[tI]
   | succ k=>
     have:=ih h
     cases a<;>simp[tI,this]
theorem nX{as:List Arg}(nd:(dn as).Nodup){j k i:Nat}{mp mp':MP}(h:as[j]?=some (.t i mp))(h':as[k]?=some (.t i mp')):j=k:=by
 induction as generalizing j k with
 |nil=>simp at h
 | cons a as ih=>
   cases j with
   | zero=>
     simp at h;subst h
     cases k with
     |zero=>rfl
     | succ k=>
       simp at h';have:=gO h';simp[dn]at nd
       simp_all
   | succ j=>
     cases k with
     | zero=>
       simp at h';subst h';simp at h;have:=gO h;simp[dn]at nd
       simp_all
     | succ k=>
       have nd':(dn as).Nodup:=by
        cases a with
        |t i' mp=>simp[dn]at nd;exact nd.2
        |e me=>exact nd
        |b i' mp=>exact nd
       grind
theorem sY{as:List Arg}{i:Nat}(h:i∈dn as):∃(k:Nat) (mp:MP),as[k]?=some (.t i mp):=by
 induction as with
 |nil=>simp[dn]at h
 | cons a as ih=>
   cases a with
   | t j mp=>
     simp[dn]at h
     rcases h with h|h
     . subst h;exact⟨0,mp,rfl⟩
     . obtain⟨k,mp',e⟩:=ih h;exact⟨k+1,mp',by simpa using e⟩
   |e me=>obtain⟨k,mp',e⟩:=ih h;exact⟨k+1,mp',by simpa using e⟩
   |b j mp=>obtain⟨k,mp',e⟩:=ih h;exact⟨k+1,mp',by simpa using e⟩
theorem uh{as:List Arg}{ρ₀:ag}:∀{us:List (Option OV)} {ρ:ag} {i:Nat},i∉dn as->(eZ ρ₀ as us ρ)[i]?=ρ[i]?:=by
 induction as with
 |nil=>intro us ρ i _;rfl
 | cons a as ih=>
   intro us ρ i h;unfold eZ
   cases a with
   |e me=>rw[ih h];rfl
   |b j mp=>rw[ih h];rfl
   | t j mp=>
     simp[dn]at h;rw[ih h.2]
     have:∀ x:Option Sl,(ρ.set j x)[i]?=ρ[i]?:=fun x=>List.getElem?_set_ne (Ne.symm h.1)
     cases us.head?.join with
     |none=>exact this _
     | some u=>
       unfold jR
       grind
theorem AN{as:List Arg}{ρ₀:ag}:∀{us:List (Option OV)} {ρ:ag} {i k:Nat} {mp:MP} {s:Sl},(dn as).Nodup->as[k]?=some (.t i mp)->(eZ ρ₀ as us ρ)[i]?=some (some s) ->
  ∃ io t π u,us[k]?=some (some u) /\ ρ[i]?=some (some (.tr io t)) /\ mp ρ₀=some π /\ s=.tr io (t.put π u):=by
 induction as with
 |nil=>intro us ρ i k mp s _ h;simp at h
 | cons a as ih=>
   intro us ρ i k mp s nd h e;unfold eZ at e
   cases k with
   | zero=>
     simp at h;subst h;simp[dn]at nd;rw[uh nd.1]at e
     cases us with
     | nil=>
       unfold jR at e
       grind
     | cons u us=>
       cases u with
       | none=>
         unfold jR at e
         grind
       | some u=>
         unfold jR at e
         grind
   | succ k=>
     have nd':(dn as).Nodup:=by
      cases a with
      |t i' mp=>simp[dn]at nd;exact nd.2
      |e me=>exact nd
      |b i' mp=>exact nd
     obtain⟨io,t,π,u,e1,e2,e3,e4⟩:=ih nd' h e
     refine⟨io,t,π,u,?_,?_,e3,e4⟩
     . simp_all
     . cases a with
       |e me=>exact e2
       |b j mp=>exact e2
       | t j mp'=>
         have hij:i≠j:=by
          intro z;subst z;simp[dn]at nd;exact nd.1 (gO h)
         have:∀ x:Option Sl,(ρ.set j x)[i]?=ρ[i]?:=fun x=>List.getElem?_set_ne (Ne.symm hij)
         cases q:us.head?.join with
         |none=>rw[q]at e2;unfold jR at e2;rw[this]at e2;exact e2
         | some u=>
           unfold jR at e2
           grind
theorem zR{as:List Arg}{ρ₀:ag}:∀{us:List (Option OV)} {ρ:ag},(eZ ρ₀ as us ρ).length=ρ.length:=by
 induction as with
 |nil=>intro us ρ;rfl
 | cons a as ih=>
   intro us ρ;unfold eZ;unfold jR
   grind
theorem SR.LO{as:List Arg}{ss:List Sl}{vs:List V}(I:SR K cls Av G S₀ ρ σ S H)(ok:argsOk as=true)(h:ARs K S H ρ σ as ss vs):
  ∃ Fc,Ga K cls ss vs S H Fc /\ ∀ outs S' H' Fc',EF K cls vs S H Fc outs S' H' Fc'->SR K cls Av G S₀ (eZ ρ as outs ρ) σ S' H':=by
 obtain⟨F,J⟩:=I;unfold argsOk at ok;rw[Bool.and_eq_true,decide_eq_true_eq]at ok;obtain⟨nd,hb⟩:=ok
 have cell:∀ k:Nat,∃ d:List Addr×List Addr,(∀ i mp,as[k]?=some (.t i mp)->∃ io t π u v0 w,ss[k]?=some (.tr true u) /\ vs[k]?=some w /\ ρ[i]?=some (some (.tr io t)) /\ mp ρ=some π /\ t.get π=some u /\ σ[i]?=some (some v0) /\ bU K cls S H u w d.1 /\ (F i).Perm (d.1++d.2) /\ (d.1++d.2).Nodup /\ (io=true->Av i=some (.lst [v0])) /\
   ∀ S' H' u' f',aK S S'->bU K cls S' H' u' w f'->(∀ a∈d.2,∀ o,H a=some o->H' a=some o)->∃ g,bU K cls S' H' (t.put π u') v0 g /\ g.Perm (f'++d.2)) /\ ((∀ i mp,as[k]?≠some (.t i mp))->d=([],[])):=by
  intro k
  by_cases hk:∃ i mp,as[k]?=some (.t i mp)
  . obtain⟨i,mp,e⟩:=hk;obtain⟨s,w,es,ev,r⟩:=h.at e
    cases s with
    | tr io' u=>
      cases io' with
      |false=>exact r.elim
      | true=>
        obtain⟨io,t,π,v0,h1,h2,h3,h4,h5⟩:=r;obtain⟨v,ev',ro,ndf,gs,hio⟩:=J.own i _ h1;rw[h4]at ev';cases ev';obtain⟨w',f1,rest,wk,r1,p1,c1⟩:=ro.focus h3;have:=h5.inj wk;subst this
        refine⟨(f1,rest),fun i' mp' e'=>?_,fun z=>absurd e (z i mp)⟩
        grind
    |sh x=>exact r.elim
    |ow x=>exact r.elim
    |ex c fs=>exact r.elim
    |bo x=>exact r.elim
  . simp_all
 obtain⟨d,hd⟩:=Classical.axiomOfChoice cell
 have tOf:∀ k a,a∈(d k).1->∃ i mp,as[k]?=some (.t i mp) /\ a∈F i:=by
  grind
 have hlen:=h.len
 have uM:∀ i a,a∈F i->(∀ k mp,as[k]?=some (.t i mp)->a∉(d k).1)->∀ k,a∉(d k).1:=by
  intro i a ha hn k hk;obtain⟨i',mp,e,ha'⟩:=tOf k a hk;have:=J.apart i i' a ha ha';subst this;exact hn k mp e hk
 refine⟨fun k=>(d k).1,⟨J.sh,by rw[hlen.1,hlen.2],fun k s es=>?_,fun j k a h1 h2=>?_,fun k a ha=>?_⟩,fun outs S' H' Fc' E=>?_⟩
 . have hk:k<as.length:=by rw[<- hlen.1];exact(List.getElem?_eq_some_iff.mp es).1
   obtain⟨s',w,es',ev,r⟩:=h.at (k:=k) (a:=as[k]) (by simp[hk]);rw[es]at es';cases es'
   refine⟨w,ev,?_⟩
   cases q:as[k]with
   | e me=>
     rw[q]at r
     have hz:=(hd k).2 fun i mp e=>by rw[List.getElem?_eq_getElem hk,q]at e;cases e
     cases s<;>first|exact r.elim|exact⟨by rw[hz],r⟩
   | t i mp=>
     have eq:as[k]?=some (.t i mp):=by rw[List.getElem?_eq_getElem hk,q]
     obtain⟨io,t,π,u,v0,w',es',ev',_,_,_,_,r1,_,nd1,_⟩:=(hd k).1 i mp eq;rw[es]at es';cases es';rw[ev]at ev';cases ev'
     exact⟨r1,(List.nodup_append.mp nd1).1⟩
   | b i mp=>
     have eq:as[k]?=some (.b i mp):=by rw[List.getElem?_eq_getElem hk,q]
     rw[q]at r
     have hz:=(hd k).2 fun i mp e=>by rw[eq]at e;cases e
     cases s with
     | bo u=>
       obtain⟨t,π,v0,h1,h2,h3,h4,h5⟩:=r
       refine⟨by rw[hz],?_⟩
       have nt:i∉dn as:=by
        have:=List.all_eq_true.mp hb i (Bl eq)
        simpa using this
       have ro:∃ f,bU K cls S (minus H fun k=>(d k).1) t v0 f:=by
        unfold fO at h1
        cases q1:ρ[i]? with
        |none=>rw[q1]at h1;cases h1
        | some o=>
          cases o with
          |none=>rw[q1]at h1;cases h1
          | some s1=>
            rw[q1]at h1;obtain⟨v,ev',r⟩:=J.own i s1 q1;rw[h4]at ev';cases ev'
            cases s1 with
            | tr io t'=>
              cases h1
              exact⟨_,r.1.mono (aK.refl _) fun a ha o ho=>by
               rw[jQ (uM i a ha fun k' mp' e'=>absurd (gO e') nt)];exact ho⟩
            | bo t'=>
              cases h1;obtain⟨_,f,r⟩:=r
              exact⟨f,r.mono (aK.refl _) fun a ha o ho=>by
               rw[jQ fun k' hk'=>?_]
               . exact J.gh _ _ ho
               . obtain⟨i',mp',_,ha'⟩:=tOf k' a hk'
                 rw[(J.live i' a ha').2.1]at ho;cases ho⟩
            |sh x=>cases h1
            |ow x=>cases h1
            |ex c fs=>cases h1
       obtain⟨f,ro⟩:=ro;obtain⟨w',f1,rest,wk,r1,_,_⟩:=ro.focus h3;have:=h5.inj (wk.mono vM);subst this
       exact⟨f1,r1⟩
     |sh x=>exact r.elim
     |ow x=>exact r.elim
     |ex c fs=>exact r.elim
     |tr io x=>exact r.elim
 . obtain⟨i,mp,e1,m1⟩:=tOf j a h1;obtain⟨i',mp',e2,m2⟩:=tOf k a h2;have:=J.apart i i' a m1 m2;subst this;exact nX nd e1 e2
 . obtain⟨i,mp,e1,m1⟩:=tOf k a ha
   exact⟨(J.live i a m1).1,(J.live i a m1).2.2⟩
 .
  have noS:∀ i a,a∈F i->(∀ k,a∉(d k).1)->S' a=none:=fun i a ha hn=>by
   cases z:S' a with
   |none=>rfl
   | some o=>
     obtain⟨⟨o',h1,_⟩,_,h3⟩:=J.live i a ha
     rcases E.new a (by rw[z];simp)with y|y|⟨k,y⟩
     . exact absurd h3 y
     . rw[h1]at y;cases y
     . exact absurd y (hn k)
  have keep:∀ a o,(∀ k,a∉(d k).1)->H a=some o->H' a=some o:=fun a o hn ho=>E.keep a o (by rw[jQ hn];exact ho)
  have restOff:∀ k i mp,as[k]?=some (.t i mp)->∀ a∈(d k).2,a∈F i /\ ∀ k',a∉(d k').1:=fun k i mp e a ha=>by
   obtain⟨io,t,π,u,v0,w,_,_,_,_,_,_,_,p1,nd1,_⟩:=(hd k).1 i mp e
   have m:a∈F i:=p1.mem_iff.mpr (List.mem_append_right _ ha)
   refine⟨m,uM i a m fun k' mp' e' hk'=>?_⟩
   have:=nX nd e e';subst this
   exact(List.nodup_append.mp nd1).2.2 a hk' a ha rfl
  have gcell:∀ k:Nat,∃ g:List Addr,∀ i mp u',as[k]?=some (.t i mp)->outs[k]?=some (some u')->∀ io t π,ρ[i]?=some (some (.tr io t))->mp ρ=some π->∃ v0,σ[i]?=some (some v0) /\ (io=true->Av i=some (.lst [v0])) /\ bU K cls S' H' (t.put π u') v0 g /\ g.Perm (Fc' k++(d k).2):=by
   intro k
   by_cases hk:∃ i mp u',as[k]?=some (.t i mp) /\ outs[k]?=some (some u')
   . obtain⟨i,mp,u',e,eo⟩:=hk;obtain⟨io,t,π,u,v0,w,es,ev,h1,h2,h3,h4,r1,p1,nd1,hio,c1⟩:=(hd k).1 i mp e;obtain⟨w',ew,r',ndf'⟩:=E.out k u' eo;rw[ev]at ew;cases ew
     obtain⟨g,rg,pg⟩:=c1 S' H' u' (Fc' k) E.s r' fun a ha o ho=>keep a o (restOff k i mp e a ha).2 ho
     refine⟨g,fun i' mp' u'' e' eo' io' t' π' h1' h2'=>?_⟩
     rw[e]at e';cases e';rw[eo]at eo';cases eo';rw[h1]at h1';cases h1';rw[h2]at h2';cases h2'
     exact⟨v0,h4,hio,rg,pg⟩
   . exact⟨[],fun i mp u' e eo=>absurd ⟨i,mp,u',e,eo⟩ hk⟩
  obtain⟨g,hg⟩:=Classical.axiomOfChoice gcell
  have fcell:∀ i:Nat,∃ f:List Addr,(i∉dn as->f=F i) /\ ∀ k mp,as[k]?=some (.t i mp)->((∃ io t π u',ρ[i]?=some (some (.tr io t)) /\ mp ρ=some π /\ outs[k]?=some (some u'))->f=g k) /\ ((¬ ∃ io t π u',ρ[i]?=some (some (.tr io t)) /\ mp ρ=some π /\ outs[k]?=some (some u'))->f=[]):=by
   intro i
   by_cases hi:i∈dn as
   . obtain⟨k,mp,e⟩:=sY hi
     by_cases hx:∃ io t π u',ρ[i]?=some (some (.tr io t)) /\ mp ρ=some π /\ outs[k]?=some (some u')
     . refine⟨g k,fun z=>absurd hi z,fun k' mp' e'=>?_⟩
       have:=nX nd e e';subst this;rw[e]at e';cases e'
       exact⟨fun _=>rfl,fun z=>absurd hx z⟩
     . refine⟨[],fun z=>absurd hi z,fun k' mp' e'=>?_⟩
       have:=nX nd e e';subst this;rw[e]at e';cases e'
       exact⟨fun z=>absurd z hx,fun _=>rfl⟩
   . exact⟨F i,fun _=>rfl,fun k mp e=>absurd (gO e) hi⟩
  obtain⟨F',hF'⟩:=Classical.axiomOfChoice fcell
  have memF:∀ i a,a∈F' i->(i∉dn as /\ a∈F i /\ ∀ k,a∉(d k).1) \/ (∃ k mp,as[k]?=some (.t i mp) /\ F' i=g k /\ ((a∈Fc' k) \/ (a∈F i /\ ∀ k,a∉(d k).1)) /\ ∃ io t π u',ρ[i]?=some (some (.tr io t)) /\ mp ρ=some π /\ outs[k]?=some (some u')):=by
   intro i a ha
   by_cases hi:i∈dn as
   . obtain⟨k,mp,e⟩:=sY hi
     by_cases hx:∃ io t π u',ρ[i]?=some (some (.tr io t)) /\ mp ρ=some π /\ outs[k]?=some (some u')
     . have e1:=((hF' i).2 k mp e).1 hx;refine .inr ⟨k,mp,e,e1,?_,hx⟩;obtain⟨io,t,π,u',h1,h2,h3⟩:=hx;obtain⟨v0,_,_,rg,pg⟩:=hg k i mp u' e h3 io t π h1 h2;rw[e1]at ha
       rcases List.mem_append.mp (pg.mem_iff.mp ha)with z|z
       . exact .inl z
       . exact .inr (restOff k i mp e a z)
     . rw[((hF' i).2 k mp e).2 hx]at ha;cases ha
   . have e1:=(hF' i).1 hi;rw[e1]at ha;exact .inl ⟨hi,ha,uM i a ha fun k mp e=>absurd (gO e) hi⟩
  refine⟨F',?_,J.s0.trans E.s,E.sh,fun b hbn=>?_,fun i s e=>?_,fun i j a h1 h2=>?_,fun i a ha=>?_,?_⟩
  . intro b u hu;refine keep b u (fun k hk=>?_) (J.gh b u hu);obtain⟨i,mp,_,m⟩:=tOf k b hk;rw[(J.live i b m).2.1]at hu;cases hu
  . rcases E.new b hbn with z|z|⟨k,z⟩
    . exact J.new b z
    . exact .inr (J.gh.free z)
    . obtain⟨i,mp,_,m⟩:=tOf k b z;exact .inr (J.live i b m).2.1
  . by_cases hi:i∈dn as
    . obtain⟨k,mp,ek⟩:=sY hi;obtain⟨io,t,π,u,e1,e2,e3,rfl⟩:=AN nd ek e;obtain⟨v0,h1,hio,rg,pg⟩:=hg k i mp u ek e1 io t π e2 e3;have e4:=((hF' i).2 k mp ek).1 ⟨io,t,π,u,e2,e3,e1⟩;rw[e4];obtain⟨w',ew,r',ndf'⟩:=E.out k u e1
      refine⟨v0,h1,rg,pg.nodup_iff.mpr (List.nodup_append.mpr ⟨ndf',?_,fun a ha b hb' z=>?_⟩),fun a ha=>?_,hio⟩
      . obtain⟨_,_,_,_,_,_,_,_,_,_,_,_,_,_,nd1,_⟩:=(hd k).1 i mp ek
        exact(List.nodup_append.mp nd1).2.1
      . subst z;obtain⟨m,off⟩:=restOff k i mp ek a hb';have:=(E.live k a ha).1;rw[jQ off]at this;obtain⟨⟨o,ho,_⟩,_⟩:=J.live i a m;rw[this]at ho;cases ho
      . rcases List.mem_append.mp (pg.mem_iff.mp ha)with z|z
        . refine⟨?_,(E.live k a z).2⟩
          rcases nV (E.live k a z).1 with y|⟨k',y⟩
          . exact J.gh.free y
          . obtain⟨i',mp',_,m⟩:=tOf k' a y
            exact(J.live i' a m).2.1
        . obtain⟨m,off⟩:=restOff k i mp ek a z
          exact⟨(J.live i a m).2.1,noS i a m off⟩
    . rw[uh hi]at e;obtain⟨v,ev,r⟩:=J.own i s e;rw[(hF' i).1 hi]
      have off:∀ a∈F i,∀ k,a∉(d k).1:=fun a ha=>uM i a ha fun k mp e=>absurd (gO e) hi
      exact⟨v,ev,r.mono E.s (fun a ha o ho=>keep a o (off a ha) ho) (fun b o hx ho=>keep b o (fun k hk=>by
       obtain⟨i',mp',_,m⟩:=tOf k b hk;obtain⟨⟨o',h1,h2⟩,_⟩:=J.live i' b m
       rw[ho]at h1;cases h1;rw[hx]at h2;cases h2) ho) fun a ha=>noS i a ha (off a ha)⟩
  .
   have key:∀ i j a,a∈F' i->a∈F' j->(∃ k,a∈Fc' k)->∃ k mp,as[k]?=some (.t i mp) /\ a∈Fc' k:=by
    intro i j a ha _ ⟨k0,hk0⟩
    have no:∀ i',a∈F i'->¬ ∀ k,a∉(d k).1:=fun i' m off=>by
     have:=(E.live k0 a hk0).1;rw[jQ off]at this;obtain⟨⟨o,ho,_⟩,_⟩:=J.live i' a m;rw[this]at ho;cases ho
    rcases memF i a ha with⟨_,m,off⟩|⟨k,mp,e,_,z,_⟩
    . exact absurd off (no i m)
    . rcases z with z|⟨m,off⟩
      . exact⟨k,mp,e,z⟩
      . exact absurd off (no i m)
   by_cases hk:∃ k,a∈Fc' k
   . obtain⟨k1,mp1,e1,z1⟩:=key i j a h1 h2 hk;obtain⟨k2,mp2,e2,z2⟩:=key j i a h2 h1 hk;have:=E.apart k1 k2 a z1 z2;subst this;rw[e1]at e2;cases e2;rfl
   . have fromF:∀ i,a ∈ F' i -> a ∈ F i:=fun i ha=>by
      rcases memF i a ha with⟨_,m,_⟩|⟨k,mp,e,_,z,_⟩
      . exact m
      . rcases z with z|⟨m,_⟩
        . exact absurd ⟨k,z⟩ hk
        . exact m
     exact J.apart i j a (fromF i h1) (fromF j h2)
  . rcases memF i a ha with⟨_,m,off⟩|⟨k,mp,e,eg,z,io,t,π,u',x1,x2,x3⟩
    . obtain⟨⟨o,ho,hx⟩,hg',_⟩:=J.live i a m
      exact⟨⟨o,keep a o off ho,hx⟩,hg',noS i a m off⟩
    . obtain⟨v0,_,_,rg,pg⟩:=hg k i mp u' e x3 io t π x1 x2;rw[eg]at ha
      refine⟨rg.live a ha,?_⟩
      rcases z with z|⟨m,off⟩
      . refine⟨?_,(E.live k a z).2⟩
        rcases nV (E.live k a z).1 with y|⟨k',y⟩
        . exact J.gh.free y
        . obtain⟨i',mp',_,m⟩:=tOf k' a y
          exact(J.live i' a m).2.1
      . exact⟨(J.live i a m).2.1,noS i a m off⟩
  . rw[zR];exact J.len
end
end L2.P
namespace L2.E
open PySem PySem.Spec PyProof.Rows L2
section
variable{X:Cx}{k:Nat}{f C:Addr}{fd:FuncData}{ps:List Str}{sp:Sp}{ds:List Value}{W:XW}{x m:Str}{p pos apos:Pos}{e o:Expr}{es:List Expr}{ta:TE}{t:TA}
noncomputable def yD(C:Addr)(m:Str)(sp:Sp)(W:XW)(ta:TE)(t:TA):TE:=fun σ H Q=>ta σ H fun x H1=>∃ a dx fs,x=.ref a /\ H1 a=some (.ins C dx fs) /\ fs.lookup m=none /\
 t σ H1 fun vs H2=>sp (x ::vs) H2 Q fun C a H'=>W C a σ H'
theorem vJ{pl:Sem Bool}(he:QE X o ta)(c:Cls X.K C)(hm:Meth X.K C m f)(F:cq X.prog X.w X.K X.mg X.base (CXE X.prog X.w) k f fd ps sp)(hr:ik k X.A)(hb:Binds X.K fd ps [])(hx:Thr X W)(ha:QA X (e ::es) t)
  (hst:starEach (e ::es) X.env=(false,eval e X.env) ::starEach es X.env:=by rfl) (hpl:(backTo pos (starEach es X.env)).any (·.1)=false:=by rfl)
  (ht:eval (.Call (.Attribute o m apos) (e ::es) [] pos) X.env=(do
    let ov <- eval o X.env
    standAt apos.atName
    let (f,first) <- holding [ov] (getMethod ov m pl)
    callWith pos f first (backTo pos (starEach (e ::es) X.env)) (backToKw pos (keywordEach [] X.env))):=by rfl):
  QE X (.Call (.Attribute o m apos) (e ::es) [] pos) (yD C m sp W ta t):=⟨by
 intro pins s σ H Q I h;refine PySem.W.methodCall_KW (pl:=pl) (thn (he.out pins s σ H _ I h) fun u s1 ⟨x,H1,I1,rx,a,dx,fs,ex,ea,l,q⟩=>?_) ht;subst ex
 obtain rfl:u=Value.ref a:=rx
 refine vB I1 ea c hm l ?_;refine PySem.W.callWith_K (first:=[.ref a]) (h₀:=X.base) I.ok.mod.kin hm.kp (thn (ha.out pos pins s1 σ H1 _ I1 q) fun us s2 ⟨vs,H2,I2,r,q2⟩=>⟨I2.kIn,?_⟩) hst hpl
 exact uX (us:=.ref a ::us) (vs:=.ref a ::vs) (dvs:=[]) F hr hb .nil hx I2 (.cons rfl r) (by rw[List.append_nil];exact q2)⟩
theorem xb{pl:Sem Bool}(he:QE X o ta)(c:Cls X.K C)(hm:Meth X.K C m f)(F:cq X.prog X.w X.K X.mg X.base (CXE X.prog X.w) k f fd ps sp)(hr:ik k X.A)(hb:Binds X.K fd ps [])(hx:Thr X W)
  (ht:eval (.Call (.Attribute o m apos) [] [] pos) X.env=(do
    let ov <- eval o X.env
    standAt apos.atName
    let (f,first) <- holding [ov] (getMethod ov m pl)
    callWith pos f first (backTo pos (starEach [] X.env)) (backToKw pos (keywordEach [] X.env))):=by rfl):
  QE X (.Call (.Attribute o m apos) [] [] pos) (yD C m sp W ta kO):=⟨by
 intro pins s σ H Q I h;refine PySem.W.methodCall_KW (pl:=pl) (thn (he.out pins s σ H _ I h) fun u s1 ⟨x,H1,I1,rx,a,dx,fs,ex,ea,l,q⟩=>?_) ht;subst ex
 obtain rfl:u=Value.ref a:=rx
 refine vB I1 ea c hm l ?_
 exact PySem.W.callWith_K0 (first:=[.ref a]) I1.kIn hm.kp (uX (us:=[.ref a]) (vs:=[.ref a]) (dvs:=[]) F hr hb .nil hx I1 (.cons rfl .nil) q)⟩
theorem wH(F:cq X.prog X.w X.K X.mg X.base (CXE X.prog X.w) k f fd ps sp)(hr:ik k X.A)(hg:Gl X x)(hm:X.mg x=some (.ref f))(hk:PySem.W.keepIn X.K (.ref f)=true)(hb:Binds X.K fd ps [])(hx:Thr X W)
  (hdb:(x==("__debug__":Str))=false:=by decide):QE X (.Call (.Name x p) [] [] pos) (rB sp [] W kO):=⟨C2 F hr hg hm hk hb .nil hx hdb⟩
theorem zB(M:Mk X.K C f)(F:cq X.prog X.w X.K X.mg X.base (CXE X.prog X.w) k f fd ps sp)(hr:ik (k+1) X.A)(hg:Gl X x)(hm:X.mg x=some (.ref C))(hb:Binds X.K fd ps [])(hdb:(x==("__debug__":Str))=false:=by decide):
  QE X (.Call (.Name x p) [] [] pos) (FU C sp [] (fun _ _ _=>False) kO):=⟨FQ M F hr hg hm hb .nil (fun pins σ H s e s' I h=>by obtain⟨a,C,dx,H',_,_,_,_,_,_,z⟩:=h;exact z.elim) hdb⟩
theorem tP{f:Str}(he:QE X e ta)(hb:attributeBase e f X.env (eval e X.env)=eval e X.env:=by rfl):QE X (.Attribute e f pos) (Ji X.K ta f):=⟨Kv he.out hb⟩
theorem Li{f:Str}{value:Expr}{tv:TE}{pos':Pos}(ha:QE X o ta)(hv:QE X value tv)(hs:swapsWith value (some (.Attribute o f pos')) pos.line X.env=pure false:=by rfl):QS X (.Assign [.Attribute o f pos'] value pos) (Ly X.K ta tv f):=⟨K5 ha.out hv.out hs⟩
end
end L2.E
namespace L2.P
open PySem PySem.Spec PyProof.Rows L2 L2.E
section
variable{K:PySem.W.Frag}{cls:String->Option Addr}{W:XW}{Av G S₀ S S' H H' B B':Hp}{ρ:ag}{σ:St}{Q:VK}{F Fc Fc':Nat->List Addr}
theorem SR.more(I:SR K cls Av G S₀ ρ σ S H)(h:Rep K S x v):SR K cls Av G S₀ (ρ++[some (.sh x)]) (σ++[some v]) S H:=by
 obtain⟨F,J⟩:=I
 exact J.more (fp:=[]) (fun t e=>by cases e;exact⟨v,rfl,rfl,h⟩) (fun a ha=>nomatch ha) fun j a _ ha=>nomatch ha
theorem vk{f:List Sl->OI}(ok:argsOk as=true)(I:SR K cls Av G S₀ ρ σ S1 H1)(s1:aK S S1)(ar:ARs K S1 H1 ρ σ as ss vs)
  (p:Ir K cls W Av G S₀ σ S Q (match f ss with
    |.ok x outs=>.ok (eZ ρ as outs ρ) (.sh x)
    |.exc c fs outs=>.exc (eZ ρ as outs ρ) c fs
    |.bad=>.bad)):spI K cls f vs H1 Q fun C a H'=>W C a σ H':=by
 obtain⟨Fc,A,fin⟩:=I.LO ok ar
 refine⟨S1,ss,Fc,A,?_⟩
 cases e:f ss with
 |bad=>rw[e]at p;exact p
 |ok x outs=>rw[e]at p;exact fun v S' H' Fc' E r=>p v S' H' ((fin outs S' H' Fc' E).more r) (s1.trans E.s)
 |exc c fs outs=>rw[e]at p;exact fun a C S' H' Fc' E r=>p a C S' H' (fin outs S' H' Fc' E) (s1.trans E.s) r
theorem vQ{f:List Sl->OI}(ok:argsOk as=true)(h:JAI K cls t as):JX K cls W (rB (spI K cls f) [] W t) (iG f as):=by
 intro Av G S₀ ρ σ S H Q I p;unfold iG at p
 cases e:jy as ρ with
 |none=>rw[e]at p;exact p.elim
 | some ss=>
   rw[e]at p
   refine h Av G S₀ ρ σ S H _ ss I e fun vs S1 H1 w1 ar=>?_
   rw[List.append_nil];exact vk ok (I.grow w1) w1.s ar p
theorem BO(hc:cls c=some C)(I:SR K cls Av G S₀ ρ σ S H)(r:AR1 K S H ρ σ a s v)(h:recv c m (some s)=true):∃ q dx us,v=.ref q /\ H q=some (.ins C dx us) /\ us.lookup m=none:=by
 have main:∀(ks:List Str) (ts:List OV) (f:List Addr),(c==c && !ks.contains m)=true->bU K cls S H (.ob c ks ts) v f->∃ q dx us,v=.ref q /\ H q=some (.ins C dx us) /\ us.lookup m=none:=by
  intro ks ts f hk ro;unfold bU at ro;obtain⟨q,C',dx,us,ff,rfl,hcl,hq,hd,hks,rfl,rs⟩:=ro;rw[hc]at hcl;cases hcl
  refine⟨q,dx,us,rfl,hq,?_⟩
  have hn:m∉us.map (·.1):=by rw[hks];simpa using hk
  clear hks hk rs hq
  induction us with
  |nil=>rfl
  | cons p us ih=>
    obtain⟨g,y⟩:=p;simp at hn
    have:(m==g)=false:=by simpa using hn.1
    simp[List.lookup,this,ih (by simpa using hn.2)]
 cases a with
 |e me=>cases s<;>first|exact r.elim|cases h
 | t i mp=>
   cases s with
   | tr io u=>
     cases io with
     |false=>cases h
     | true=>
       cases u with
       |sh x=>cases h
       |ol ts=>cases h
       |di x=>cases h
       |dt x=>cases h
       | ob c' ks ts=>
         obtain⟨io,t,π,v0,h1,h2,h3,h4,h5⟩:=r
         have h':(c'==c && !ks.contains m)=true:=h
         have hcc:c'=c:=by rw[Bool.and_eq_true]at h';simpa using h'.1
         subst hcc;obtain⟨v',fp,ev,ro⟩:=I.tree (i:=i) (t:=t) (by unfold fO;rw[h1];rfl);rw[h4]at ev;cases ev;obtain⟨w,f1,rest,wk,r1,_,_⟩:=ro.focus h3;have:=h5.inj wk;subst this;exact main ks ts f1 h' r1
   |sh x=>exact r.elim
   |ow x=>exact r.elim
   |ex c fs=>exact r.elim
   |bo x=>exact r.elim
 | b i mp=>
   cases s with
   | bo u=>
     cases u with
     |sh x=>cases h
     |ol ts=>cases h
     |di x=>cases h
     |dt x=>cases h
     | ob c' ks ts=>
       obtain⟨t,π,v0,h1,h2,h3,h4,h5⟩:=r
       have h':(c'==c && !ks.contains m)=true:=h
       have hcc:c'=c:=by rw[Bool.and_eq_true]at h';simpa using h'.1
       subst hcc;obtain⟨v',fp,ev,ro⟩:=I.tree h1;rw[h4]at ev;cases ev;obtain⟨w,f1,rest,wk,r1,_,_⟩:=ro.focus h3;have:=h5.inj wk;subst this;exact main ks ts f1 h' r1
   |sh x=>exact r.elim
   |ow x=>exact r.elim
   |ex c fs=>exact r.elim
   |tr io x=>exact r.elim
theorem vt{f:List Sl->OI}(hc:cls c=some C)(ok:argsOk (a ::as)=true)(ha:JA1 K cls ta a)(h:JAI K cls t as):JX K cls W (yD C m (spI K cls f) W ta t) (lJ c m f (a ::as)):=by
 intro Av G S₀ ρ σ S H Q I p;unfold lJ at p
 dsimp only at p
 split at p
 . rename_i hr;unfold iG at p
   cases e:jy (a ::as) ρ with
   |none=>rw[e]at p;exact p.elim
   | some ss=>
     rw[e]at p
     have e':=e
     unfold jy at e';obtain⟨s,e1,e2⟩:=Option.bind_eq_some_iff.mp e';obtain⟨sr,e3,rfl⟩:=Option.map_eq_some_iff.mp e2;rw[e1]at hr
     refine ha Av G S₀ ρ σ S H _ s I e1 fun v S1 H1 w1 r1=>?_
     have I1:=I.grow w1;obtain⟨q,dx,us,rfl,hq,hl⟩:=BO hc I1 r1 hr
     refine⟨q,dx,us,rfl,hq,hl,?_⟩
     refine h Av G S₀ ρ σ S1 H1 _ sr I1 e3 fun vs S2 H2 w2 ar=>?_
     exact vk (ss:=s ::sr) ok (I1.grow w2) (w1.s.trans w2.s) ⟨s,sr,_,vs,rfl,rfl,r1.mono w2.s w2.g,ar⟩ p
 . exact p.elim
theorem AO{f:List Sl->OI}(ok:dn as=[])(I:SR K cls Av G S₀ ρ σ S H)(ar:ARs K S H ρ σ as ss vs)
  (p:lV K cls W σ S H Q (match f ss with
    |.ok x _=>.ok (.sh x)
    |.exc c fs _=>.exc c fs
    |.bad=>.bad)):spI K cls f vs H Q fun C a H'=>W C a σ H':=by
 have hm:minus H (fun _=>[])=H:=by funext a;exact jQ fun k h=>nomatch h
 have hlen:=ar.len
 refine⟨S,ss,fun _=>[],⟨I.sh,by rw[hlen.1,hlen.2],fun k s es=>?_,fun j k a h=>(nomatch h),fun k a h=>(nomatch h)⟩,?_⟩
 . have hk:k<as.length:=by rw[<- hlen.1];exact(List.getElem?_eq_some_iff.mp es).1
   obtain⟨s',w,es',ev,r⟩:=ar.at (k:=k) (a:=as[k]) (by simp[hk]);rw[es]at es';cases es'
   refine⟨w,ev,?_⟩
   cases q:as[k]with
   | e me=>
     rw[q]at r
     cases s<;>first|exact r.elim|exact⟨rfl,r⟩
   | t i mp=>
     have:=gO (as:=as) (k:=k) (i:=i) (mp:=mp) (by rw[List.getElem?_eq_getElem hk,q]);rw[ok]at this;cases this
   | b i mp=>
     rw[q]at r
     cases s with
     | bo u=>
       obtain⟨t,π,v0,h1,h2,h3,h4,h5⟩:=r;obtain⟨v',fp,ev',ro⟩:=I.tree h1;rw[h4]at ev';cases ev';obtain⟨w',f1,rest,wk,r1,_,_⟩:=ro.focus h3;have:=h5.inj wk;subst this
       exact⟨rfl,f1,by rw[hm];exact r1⟩
     |sh x=>exact r.elim
     |ow x=>exact r.elim
     |ex c fs=>exact r.elim
     |tr io x=>exact r.elim
 . have gr:∀ {outs S' H' Fc'},EF K cls vs S H (fun _=>[]) outs S' H' Fc' -> bq S H S' H':=fun {outs S' H' Fc'} E=>⟨E.s,by have:=E.keep; rwa [hm] at this,E.sh,fun b hb=>by
    rcases E.new b hb with z|z|⟨k,z⟩
    . exact .inl z
    . exact .inr z
    . cases z⟩
   cases e:f ss with
   |bad=>rw[e]at p;exact p
   |ok x outs=>rw[e]at p;exact fun v S' H' Fc' E r=>p v S' H' (gr E) r
   |exc c fs outs=>rw[e]at p;exact fun a C S' H' Fc' E r=>p a C S' H' (gr E) r
theorem zf{f:List Sl->OI}(hc:cls c=some C)(ok:dn (a ::as)=[])(ha:JA1 K cls ta a)(h:JAI K cls t as):JE K cls W (yD C m (spI K cls f) W ta t) (n9 c m f (a ::as)):=by
 intro Av G S₀ ρ σ S H Q I p;unfold n9 at p
 dsimp only at p
 split at p
 . rename_i hr;unfold xQ at p
   cases e:jy (a ::as) ρ with
   |none=>rw[e]at p;exact p.elim
   | some ss=>
     rw[e]at p
     have e':=e
     unfold jy at e';obtain⟨s,e1,e2⟩:=Option.bind_eq_some_iff.mp e';obtain⟨sr,e3,rfl⟩:=Option.map_eq_some_iff.mp e2;rw[e1]at hr
     refine ha Av G S₀ ρ σ S H _ s I e1 fun v S1 H1 w1 r1=>?_
     have I1:=I.grow w1;obtain⟨q,dx,us,rfl,hq,hl⟩:=BO hc I1 r1 hr
     refine⟨q,dx,us,rfl,hq,hl,?_⟩
     refine h Av G S₀ ρ σ S1 H1 _ sr I1 e3 fun vs S2 H2 w2 ar=>?_
     exact AO (ss:=s ::sr) ok (I1.grow w2) ⟨s,sr,_,vs,rfl,rfl,r1.mono w2.s w2.g,ar⟩ (p.back (w1.trans w2))
 . exact p.elim
theorem B9{f:List Sl->OI}(hc:cls c=some C):JD K cls W (FU C (spI K cls f) [] (fun _ _ _=>False) kO) (sy c f):=by
 intro Av G S₀ ρ σ S H Q I p;unfold sy at p
 show ∀ x dx,H x=none->H dx=none->dx≠x->_
 intro x dx hx hdx ne
 have gS:∀ a,H a=none->S a=none:=fun a h=>I.sh.free h
 let H1:=upd (upd H dx (.own x)) x (.ins C dx [])
 have h1x:H1 x=some (.ins C dx []):=bP
 have h1d:H1 dx=some (.own x):=by show upd _ x _ dx=_;rw[bH ne,bP]
 have h1o:∀ a,a≠x->a≠dx->H1 a=H a:=fun a n1 n2=>by show upd _ x _ a=_;rw[bH n1,bH n2]
 let Fc:Nat->List Addr:=fun k=>if k=0 then[x,dx]else[]
 have mF:∀ k a,a∈Fc k->k=0 /\ (a=x \/ a=dx):=fun k a h=>by
  have h':a∈(if k=0 then[x,dx]else[]):=h
  split at h'
  . rename_i e;exact⟨e,by simpa using h'⟩
  . cases h'
 have A:Ga K cls [.tr true (.ob c [] [])] [.ref x] S H1 Fc:=by
  refine⟨fun b u h=>?_,rfl,fun k s e=>?_,fun j k a h1 h2=>?_,fun k a h=>?_⟩
  . have hb:=I.sh b u h;rw[h1o b (fun z=>by rw[z,hx]at hb;cases hb) (fun z=>by rw[z,hdx]at hb;cases hb)];exact hb
  . cases k with
    | zero=>
      cases e
      refine⟨.ref x,rfl,?_,?_⟩
      . unfold bU
        exact⟨x,C,dx,[],[],rfl,hc,h1x,h1d,rfl,rfl,.nil⟩
      . show[x,dx].Nodup
        simp[Ne.symm ne]
    |succ k=>simp at e
  . rw[(mF j a h1).1,(mF k a h2).1]
  . rcases(mF k a h).2 with z|z
    . subst z;exact⟨⟨_,h1x,rfl⟩,gS _ hx⟩
    . subst z;exact⟨⟨_,h1d,rfl⟩,gS _ hdx⟩
 refine⟨S,_,Fc,A,?_⟩
 have free:∀ a,minus H1 Fc a=none->H a=none:=fun a h=>by
  rcases nV h with z|⟨k,z⟩
  . by_cases n1:a=x
    . rw[n1];exact hx
    . by_cases n2:a=dx
      . rw[n2];exact hdx
      . rw[h1o a n1 n2]at z;exact z
  . rcases(mF k a z).2 with y|y
    . rw[y];exact hx
    . rw[y];exact hdx
 cases e:f [.tr true (.ob c [] [])]with
 |bad=>rw[e]at p;exact p.elim
 |exc c fs outs=>rw[e]at p;exact p.elim
 | ok y outs=>
   rw[e]at p
   cases y with
   | non=>
     cases outs with
     |nil=>exact p.elim
     | cons o outs=>
       cases o with
       |none=>exact p.elim
       | some t=>
         dsimp only at p
         intro v S' H' Fc' E r;unfold Rep at r
         refine⟨r,p (.ref x) S' H' ⟨E.s,fun b u h=>?_,E.sh,fun b h=>?_⟩ ?_⟩
         . have n1:b≠x:=fun z=>by rw[z,hx]at h;cases h
           have n2:b≠dx:=fun z=>by rw[z,hdx]at h;cases h
           refine E.keep b u ?_;rw[jQ fun k z=>?_]
           . exact(h1o b n1 n2).trans h
           . rcases(mF k b z).2 with y|y
             . exact n1 y
             . exact n2 y
         . rcases E.new b h with z|z|⟨k,z⟩
           . exact .inl z
           . refine .inr ?_
             by_cases n1:b=x
             . rw[n1];exact hx
             . by_cases n2:b=dx
               . rw[n2];exact hdx
               . exact(h1o b n1 n2).symm.trans z
           . rcases(mF k b z).2 with y|y
             . rw[y];exact .inr hx
             . rw[y];exact .inr hdx
         . obtain⟨u,eu,ro,nd⟩:=E.out 0 t rfl;cases eu
           exact⟨Fc' 0,ro,nd,fun a ha=>⟨free a (E.live 0 a ha).1,(E.live 0 a ha).2⟩⟩
   |bl b=>exact p.elim
   |int b=>exact p.elim
   |str b=>exact p.elim
   |lst b=>exact p.elim
   |tup b=>exact p.elim
end
end L2.P
namespace L2.E
open PySem PySem.Spec PyProof.Rows L2
noncomputable def sq(wi:TI)(ι:List Nat)(tc:TT)(te:TE):TE:=fun σ H Q=>wi σ H fun J H1=>∀ D,H1 D=none->∃ W:Nat->Nat->List V->Hp->Prop,(∃ m,W 0 m [] (upd H1 D (.lst []))) /\ ∀ i m ys H,W i m ys H ->
 H D=some (.lst ys) /\ ((J.stop i H /\ Q (.ref D) H) \/ (J.go i H /\ ∀ x H',J.yld i H x H'->tc (pick ι σ++[some x]) H' fun b H3=>H3 D=some (.lst ys) /\ if b=true then
   te (pick ι σ++[some x]) H3 fun y H2=>H2 D=some (.lst ys) /\ ys.length<sizeLine /\ ∃ m',m'<m /\ W (i+1) m' (ys++[y]) (upd H2 D (.lst (ys++[y])))else ∃ m',m'<m /\ W (i+1) m' ys H3))
section
variable{X:Cx}{scope:Scope}{cl:List (Str×Addr)}{M:List Str}{ι:List Nat}{x:Str}
theorem Dx{elt iter c:Expr}{px pos:Pos}{wi:TI}{tc:TT}{te:TE}(S:lD X scope cl M ι x)(hc:X.calm=true)(hi:PI X (.Name x px) iter wi)(hcd:∀ C s₀ H₀ ex,PT (blk X scope cl (M++[x]) C s₀ H₀ ex) c tc)(he:∀ C s₀ H₀ ex,PE (blk X scope cl (M++[x]) C s₀ H₀ ex) elt te)
  (hs:∀ v,foldedSetIterable iter X.env v=pure v:=by intro _;rfl):PE X (.ListComp elt [⟨.Name x px,iter,[c],0⟩] scope pos) (sq wi ι tc te):=by
 intro pins s σ H Q I h;rw[eval_ListComp];refine wpAny_comprehension_free (use:=none) rfl hs S.clos S.kind (fun y hy hl=>?_) (wpAny_mono (hi pins s σ H _ I h) (fun v s1 h1=>wpAny_mono h1 (fun itv s2 h2=>?_) fun _ _ z=>z) fun _ _ z=>z)
 . have q:=List.all_eq_true.mp S.locs y hy
   simp_all
 obtain⟨it,fp,tn,J,H2,rfl,I2,T,st2,f2,hW⟩:=h2;have I3:=I2.Et (ys:=[]) (its:=[]) (t':=s2.toks) .nil (Nat.zero_le _);obtain⟨W,⟨m0,w0⟩,turn⟩:=hW s2.heap.objs.size I2.fresh
 have fpo:∀ b∈fp,b<s2.heap.objs.size:=fun b hb=>let ⟨_,e,_⟩:=T.obj _ _ st2 b hb;Heap.lt_size e
 have f3:∀ b∈fp,m4 X pins (upd H2 s2.heap.objs.size (.lst [])) b:=fun b hb=>by
  obtain⟨q0,q⟩:=f2 b hb
  exact⟨by rw[bH (Nat.ne_of_lt (fpo b hb))];exact q0,q⟩
 show wpAny _ _ (newObj (.type "list") _ none) _ _ s2;refine wpAny_newObj_type (wpAny_newFunctionEnv (fun y hy=>?_) (by intro y hy;simp at hy) (fun h₁ hn₁ sb₁=>?_) S.kind)
 . have q:=List.all_eq_true.mp S.nocell y hy
   simpa using q
 have hsz:(s2.heap.push { cls:=.type "list",dict:=none,data:=.seq ([]:List Value).toArray }).objs.size=s2.heap.objs.size+1:=Heap.size_push ..
 have hk₁:∀ b o,(s2.heap.push { cls:=.type "list",dict:=none,data:=.seq ([]:List Value).toArray }).get? b=some o->h₁.get? b=some o:=fun b o e=>
  (sb₁.2 b (Nat.ne_of_lt (Heap.lt_size e))).trans (Heap.get?_push_of_some _ e)
 have J0:=xV (t':=s2.toks+([]:List (Str×Value)).length) S I3 (ex:=fp) (fun b hb=>⟨f3 b hb,Nat.lt_of_lt_of_le (fpo b hb) (by rw[hsz];exact Nat.le_succ _)⟩) hn₁ hk₁
 have old:∀ b∈fp,∀ o,s2.heap.get? b=some o->h₁.get? b=some o:=fun b _ o e=>hk₁ b o (Heap.get?_push_of_some _ e)
 have st₁:tn 0 h₁:=T.keep _ _ _ st2 old
 have loop:codeAny (model X.prog X.w) X.A (.compLoop (.ListComp elt [⟨.Name x px,iter,[c],0⟩] scope pos) 0 (.ref it) (.ref s2.heap.objs.size) (compEnvC scope cl (s2.heap.objs.size+1) X.env))
   (compPost (model X.prog X.w) X.A X.xe none (EP X pins σ Q) (.ref s2.heap.objs.size) (s2.heap.objs.size+1)) { s2 with heap:=h₁,toks:=s2.toks+([]:List (Str×Value)).length }:=by
  rw[hsz]at J0
  refine codeAny_loop rfl (fun n s'=>∃ i H' ys v,Inv (blk X scope cl (M++[x]) (s2.heap.objs.size+1) { s2 with heap:=s2.heap.push { cls:=.type "list",data:=.seq ([]:List Value).toArray },toks:=s2.toks } (upd H2 s2.heap.objs.size (.lst [])) fp) [] (pick ι σ++[v]) H' s' /\ tn i s'.heap /\ (∀ b∈fp,H' b=none) /\ W i n ys H')
   (fun n s' hI=>?_) m0 ⟨0,_,[],none,J0,st₁,fun b hb=>(f3 b hb).1,w0⟩
  obtain⟨i,H',ys,v,J',st',fr',w'⟩:=hI;obtain⟨hD,alt⟩:=turn i n ys H' w'
  have fpY:∀{G:Hp},(∀ b∈fp,G b=none)->∀ b∈fp,m4 (blk X scope cl (M++[x]) (s2.heap.objs.size+1) { s2 with heap:=s2.heap.push { cls:=.type "list",data:=.seq ([]:List Value).toArray },toks:=s2.toks } (upd H2 s2.heap.objs.size (.lst [])) fp) [] G b:=fun hG b hb=>
   ⟨hG b hb,(J'.ok.exf b hb).1,J'.ok.exfs b hb,.inl hb,(J'.ok.exf b hb).2,fun p hp=>absurd (show p∈([]:List (Addr×Obj)) from hp) (by simp)⟩
  show wpAny _ _ ((compTurn _ 0 (.ref it) (.ref s2.heap.objs.size) (compEnvC scope cl (s2.heap.objs.size+1) X.env)).onRaise _) _ _ s';refine wpAny_noted (wpAny_noRaise ?_);rw[compTurn_list];refine wpAny_bind (wpAny_standAt (wpAny_bind ?_))
  rcases alt with⟨stop,qn⟩|⟨go,step⟩
  . refine thn (T.done (blk X scope cl (M++[x]) (s2.heap.objs.size+1) _ _ fp) rfl rfl rfl hc i [] s' _ H' _ J' (fpY fr') st' stop) fun r s4 ⟨hr,J4⟩=>?_
    subst hr;refine wpAny_pure ?_;obtain⟨m,hm,_⟩:=id J4.loc
    refine⟨m,hm,fun h' sb=>⟨.ref s2.heap.objs.size,H',u1 I3 hsz.symm f3 J4 sb,rfl,qn⟩⟩
  . refine thn (T.item (blk X scope cl (M++[x]) (s2.heap.objs.size+1) _ _ fp) rfl rfl rfl hc i [] s' _ H' _ J' (fpY fr') st' go) fun r s4 ⟨u,hr,h4⟩=>?_
    subst hr;refine wpAny_bind (thn h4 fun _ s5 ⟨z,H5,J5,r5,y5,st5,fr5⟩=>?_)
    have J5':=J5.pinned (fpY fr5) (T.obj _ _ st5)
    have hxN:(M++[x])[M.length]?=some x:=by simp
    refine wpAny_bind ?_;refine wpAny_assign_Name ?_;refine kd (X:=blk X scope cl (M++[x]) (s2.heap.objs.size+1) _ _ fp) (i:=M.length) (v:=z) J5' S.nd hxN (.inl (lookup_relabel_local S.var)) r5 (fun s6 J6=>?_) (.inr (lookup_relabel_local S.var))
    have hlp:(pick ι σ).length=M.length:=by
     have q:=congrArg List.length S.names;rw[List.length_map,List.length_map]at q;unfold pick
     simp_all
    have hset:(pick ι σ++[v]).set M.length (some z)=pick ι σ++[some z]:=by
     rw[<- hlp,List.set_append_right _ _ (Nat.le_refl _),Nat.sub_self];rfl
    rw[hset]at J6;refine wpAny_bind (wpAny_tests_one (thn (hcd _ _ _ _ _ s6 _ H5 _ J6 (step z H5 y5)) fun b s7 ⟨H7,J7,hD7,q7⟩=>?_))
    cases b with
    | true=>
      rw[if_pos rfl]at q7;refine wpAny_bind (wpAny_bind (thn (he _ _ _ _ _ s7 _ H7 _ J7 q7) fun yv s8 ⟨y,H8,J8,r8,hD8,hz8,m',hm',w8⟩=>?_));refine wpAny_bind (thn (ck (X:=blk X scope cl (M++[x]) (s2.heap.objs.size+1) _ _ fp) _ s8 _ H8 (.ref s2.heap.objs.size) [y] (.ref s2.heap.objs.size) [yv] (fun _ G=>G=upd H8 s2.heap.objs.size (.lst (ys++[y]))) J8 rfl (.cons r8 .nil) ⟨_,_,y,rfl,rfl,hD8,hz8,rfl⟩) fun _ s9 ⟨_,H9,J9,_,e9⟩=>?_);subst e9;refine wpAny_pure (wpAny_pure ⟨rfl,m',hm',i+1,_,_,some z,J9.gQ,?_,fun b hb=>?_,w8⟩)
      . exact T.keep _ _ _ st5 fun b hb o e=>(J9.pin (b,o) (List.mem_append_right _ (List.mem_append_right _ (cQ hb e)))).1
      . obtain⟨o,e,d⟩:=T.obj _ _ st5 b hb
        exact(J9.pin (b,o) (List.mem_append_right _ (List.mem_append_right _ (cQ hb e)))).2.1
    | false=>
      rw[if_neg (by decide)]at q7;obtain⟨m',hm',w8⟩:=q7;refine wpAny_pure ⟨rfl,m',hm',i+1,_,_,some z,J7.gQ,?_,fun b hb=>?_,w8⟩
      . exact T.keep _ _ _ st5 fun b hb o e=>(J7.pin (b,o) (List.mem_append_right _ (List.mem_append_right _ (cQ hb e)))).1
      . obtain⟨o,e,d⟩:=T.obj _ _ st5 b hb
        exact(J7.pin (b,o) (List.mem_append_right _ (List.mem_append_right _ (cQ hb e)))).2.1
 rw[hsz]at *;exact codeAny_compStart_list loop (T.self X.A 0 _ _ _ st₁ loop)
end
theorem EY(its:List Value):slicePick its.toArray none none (some (-1))=its.reverse.toArray:=by
 unfold slicePick
 have hb:sliceBounds none none (some (-1)) its.toArray.size=((its.length:Int) - 1,-1,-1):=by simp[sliceBounds]
 rw[hb]
 congr 1
 have hr:sliceRange ((its.length:Int) - 1) (-1) (-1)=(List.range its.length).map fun i=>its.length - 1 - i:=by
  unfold sliceRange;rw[if_neg (by decide)]
  have hc:(if((its.length:Int) - 1) > -1 then(((its.length:Int) - 1) - -1 - -1 - 1)/(- -1)else 0).toNat=its.length:=by
   split
   . rw[show(- -1:Int)=1 by decide,Int.ediv_one];omega
   . omega
  dsimp only;rw[hc]
  refine List.map_congr_left fun k hk=>?_
  have:=List.mem_range.mp hk;omega
 rw[hr];apply List.ext_getElem?;intro n;rw[List.filterMap_map]
 have hall:∀ m,m<=its.length->List.filterMap ((fun x=>its.toArray[x]?) ∘ fun i=>its.length - 1 - i) (List.range m)=(its.reverse).take m:=by
  intro m
  induction m with
  |zero=>intro _;simp
  | succ m ih=>
    intro hm;rw[List.range_succ,List.filterMap_append,ih (by omega)]
    have h1:its.length - 1 - m<its.length:=by omega
    have h2:m<its.reverse.length:=by rw[List.length_reverse];omega
    rw[List.take_succ_eq_append_getElem h2]
    congr 1
    simp[h1]
 rw[hall its.length (Nat.le_refl _),List.take_of_length_le (by simp)]
theorem zS:∀{xs:List V} {us:List Value},Vals xs us->Vals xs.reverse us.reverse
 |_,_,.nil=>.nil
 | _,_,.cons r t=>by
   rw[List.reverse_cons,List.reverse_cons]
   exact(zS t).append (.cons r .nil)
section
variable{X:Cx}{e st:Expr}{te ts:TE}{pos p2:Pos}
noncomputable def Kf(K:PySem.W.Frag)(te ts:TE):TE:=fun σ H Q=>te σ H fun x H1=>ts σ H1 fun k H2=>k=.int (-1) /\ ∃ a xs,x=.ref a /\ SqL K H2 a xs /\ ∀ p,H2 p=none->Q (.ref p) (upd H2 p (.lst xs.reverse))
theorem Lo(he:PE X e te)(hk:PE X st ts):PE X (.Subscript e (.Slice none none (some st) p2) pos) (Kf X.K te ts):=by
 intro pins s σ H Q I h;refine Subscript_ (thn (he pins s σ H _ I h) fun v s1 ⟨x,H1,I1,r1,q1⟩=>?_);refine wpAny_Slice ?_;rw[evalPart_none];refine wpAny_pure (wpAny_pure ?_);rw[evalPart_some]
 refine thn (hk pins s1 σ H1 _ I1 q1) fun u s3 ⟨k,H3,I3,r3,q3⟩=>?_
 obtain⟨rfl,a,xs,rfl,hq,q⟩:=q3;obtain⟨t,rfl⟩:=r3;cases r1
 have I4:Inv X pins σ H3 { s3 with heap:=s3.heap.push { cls:=.type "slice",data:=.fields #[.none,.none,.int (-1) t] } }:=I3.kept (t':=s3.toks) fun b ob q=>Heap.get?_push_of_some _ q
 obtain⟨its,r,ht,hz⟩:=I4.list hq;have hlen:=r.length;show wpAny (model X.prog X.w) X.A (subscriptTail e (.Slice none none (some st) p2) (.ref a) (.ref s3.heap.objs.size)) (EP X pins σ Q) X.xe { s3 with heap:=s3.heap.push { cls:=.type "slice",data:=.fields #[.none,.none,.int (-1) t] } };refine tail_any (ops:=[.ref a,.ref s3.heap.objs.size]) ht.isList.typeIs slot_list_getitem.lookup ?_ (by with_unfolding_all rfl);refine wpAny_getItem_list_slice ht.isList (Heap.IsSliceOf.new ..) .none .none (.int (-1) t) (by decide) ?_ (by rw[List.size_toArray]<;>omega);rw[EY]
 refine⟨.ref _,_,I4.laid (t':=s3.toks) (o:=.lst xs.reverse) (fun b ob q=>Heap.get?_push_of_some _ q) (Nat.le_refl _) ?_,rfl,q _ (I4.hok.fresh (Nat.le_refl _))⟩
 refine⟨by rw[List.length_reverse];exact hz,its.reverse,0,zS r,Heap.get?_push_size _ rfl⟩
end
section
variable{X:Cx}{scope:Scope}{cl:List (Str×Addr)}{M:List Str}{ι:List Nat}{x:Str}
theorem HY{i:Nat}{y:Str}{py spos:Pos}{elt iter:Expr}{px pos:Pos}{wi:TI}{te:TE}(S:lD X scope cl M ι x)(hc:X.calm=true)(hi:PI X (.Name x px) iter wi)(he:∀ C s₀ H₀ ex,PE (blk X scope cl (M++[x]) C s₀ H₀ ex) elt te)
  (hN:X.N.Nodup) (hiy:X.N[i]?=some y) (hy:Loc X.env.scope y) (hsw:swapsWith (.ListComp elt [⟨.Name x px,iter,[],0⟩] scope pos) (some (.Name y py)) spos.line X.env=pure true) (hf:X.fn y=true \/ X.env.scope.names.lookup y=some .local:=by first|exact .inl rfl|exact .inr rfl|assumption)
  (hs:∀ v,foldedSetIterable iter X.env v=pure v:=by intro _;rfl):PS X (.Assign [.Name y py] (.ListComp elt [⟨.Name x px,iter,[],0⟩] scope pos) spos) (tH (ux wi ι te) (j8 i)):=by
 intro pins s σ H D0 I h;rw[exec_Assign_Name_used _ _ _ _ hsw];refine wpAny_bind (wpAny_standAt (wpAny_bind ?_));show wpAny _ _ (do let _ <- comprehension (.ListComp elt [⟨.Name x px,iter,[],0⟩] scope pos) scope X.env _ (newList []) false (eval iter X.env) (some (assign (.Name y py) X.env))) _ _ s;refine wpAny_bind (wpAny_mono (wpAny_comprehension_free (use:=some (assign (.Name y py) X.env)) (Q:=fun _ s'=>∃ σ' H',Inv X pins σ' H' s' /\ D0.nx σ' H') rfl hs S.clos S.kind (fun y hy hl=>?_) (wpAny_mono (hi pins s σ H _ I h) (fun v s1 h1=>wpAny_mono h1 (fun itv s2 h2=>?_) fun _ _ z=>z) fun _ _ z=>z)) (fun _ s' hq=>wpAny_pure (wpAny_pure hq)) fun _ _ e=>e)
 . have q:=List.all_eq_true.mp S.locs y hy
   simp_all
 obtain⟨it,fp,tn,J,H2,rfl,I2,T,st2,f2,hW⟩:=h2;have I3:=I2.Et (ys:=[]) (its:=[]) (t':=s2.toks) .nil (Nat.zero_le _);obtain⟨W,⟨m0,w0⟩,turn⟩:=hW s2.heap.objs.size I2.fresh
 have fpo:∀ b∈fp,b<s2.heap.objs.size:=fun b hb=>let ⟨_,e,_⟩:=T.obj _ _ st2 b hb;Heap.lt_size e
 have f3:∀ b∈fp,m4 X pins (upd H2 s2.heap.objs.size (.lst [])) b:=fun b hb=>by
  obtain⟨q0,q⟩:=f2 b hb
  exact⟨by rw[bH (Nat.ne_of_lt (fpo b hb))];exact q0,q⟩
 show wpAny _ _ (newObj (.type "list") _ none) _ _ s2;refine wpAny_newObj_type (wpAny_newFunctionEnv (fun y hy=>?_) (by intro y hy;simp at hy) (fun h₁ hn₁ sb₁=>?_) S.kind)
 . have q:=List.all_eq_true.mp S.nocell y hy
   simpa using q
 have hsz:(s2.heap.push { cls:=.type "list",dict:=none,data:=.seq ([]:List Value).toArray }).objs.size=s2.heap.objs.size+1:=Heap.size_push ..
 have hk₁:∀ b o,(s2.heap.push { cls:=.type "list",dict:=none,data:=.seq ([]:List Value).toArray }).get? b=some o->h₁.get? b=some o:=fun b o e=>
  (sb₁.2 b (Nat.ne_of_lt (Heap.lt_size e))).trans (Heap.get?_push_of_some _ e)
 have J0:=xV (t':=s2.toks+([]:List (Str×Value)).length) S I3 (ex:=fp) (fun b hb=>⟨f3 b hb,Nat.lt_of_lt_of_le (fpo b hb) (by rw[hsz];exact Nat.le_succ _)⟩) hn₁ hk₁
 have old:∀ b∈fp,∀ o,s2.heap.get? b=some o->h₁.get? b=some o:=fun b _ o e=>hk₁ b o (Heap.get?_push_of_some _ e)
 have st₁:tn 0 h₁:=T.keep _ _ _ st2 old
 have loop:codeAny (model X.prog X.w) X.A (.compLoop (.ListComp elt [⟨.Name x px,iter,[],0⟩] scope pos) 0 (.ref it) (.ref s2.heap.objs.size) (compEnvC scope cl (s2.heap.objs.size+1) X.env))
   (compPost (model X.prog X.w) X.A X.xe (some (assign (.Name y py) X.env)) (fun _ s'=>∃ σ' H',Inv X pins σ' H' s' /\ D0.nx σ' H') (.ref s2.heap.objs.size) (s2.heap.objs.size+1)) { s2 with heap:=h₁,toks:=s2.toks+([]:List (Str×Value)).length }:=by
  rw[hsz]at J0
  refine codeAny_loop rfl (fun n s'=>∃ i H' ys v,Inv (blk X scope cl (M++[x]) (s2.heap.objs.size+1) { s2 with heap:=s2.heap.push { cls:=.type "list",data:=.seq ([]:List Value).toArray },toks:=s2.toks } (upd H2 s2.heap.objs.size (.lst [])) fp) [] (pick ι σ++[v]) H' s' /\ tn i s'.heap /\ (∀ b∈fp,H' b=none) /\ W i n ys H')
   (fun n s' hI=>?_) m0 ⟨0,_,[],none,J0,st₁,fun b hb=>(f3 b hb).1,w0⟩
  obtain⟨i,H',ys,v,J',st',fr',w'⟩:=hI;obtain⟨hD,alt⟩:=turn i n ys H' w'
  have fpY:∀{G:Hp},(∀ b∈fp,G b=none)->∀ b∈fp,m4 (blk X scope cl (M++[x]) (s2.heap.objs.size+1) { s2 with heap:=s2.heap.push { cls:=.type "list",data:=.seq ([]:List Value).toArray },toks:=s2.toks } (upd H2 s2.heap.objs.size (.lst [])) fp) [] G b:=fun hG b hb=>
   ⟨hG b hb,(J'.ok.exf b hb).1,J'.ok.exfs b hb,.inl hb,(J'.ok.exf b hb).2,fun p hp=>absurd (show p∈([]:List (Addr×Obj)) from hp) (by simp)⟩
  show wpAny _ _ ((compTurn _ 0 (.ref it) (.ref s2.heap.objs.size) (compEnvC scope cl (s2.heap.objs.size+1) X.env)).onRaise _) _ _ s';refine wpAny_noted (wpAny_noRaise ?_);rw[xr];refine wpAny_bind (wpAny_standAt (wpAny_bind ?_))
  rcases alt with⟨stop,qn⟩|⟨go,step⟩
  . refine thn (T.done (blk X scope cl (M++[x]) (s2.heap.objs.size+1) _ _ fp) rfl rfl rfl hc i [] s' _ H' _ J' (fpY fr') st' stop) fun r s4 ⟨hr,J4⟩=>?_
    subst hr;refine wpAny_pure ?_;obtain⟨m,hm,_⟩:=id J4.loc
    have I4:Inv X pins σ H' s4:=u1 (h':=s4.heap) I3 hsz.symm f3 J4 ⟨rfl,fun _ _=>rfl⟩
    obtain⟨oC,es,ep,hoC,rC⟩:=id hm
    have fC:m4 X pins H' (s2.heap.objs.size+1):=I3.AE (by rw[hsz];exact Nat.le_refl _) J4.free
    obtain⟨_,c1,c2,c3,c4,c5⟩:=id fC
    have I5:=I4.pinned (fp:=[s2.heap.objs.size+1]) (fun b hb=>by
     have z:b=s2.heap.objs.size+1:=by simpa using hb
     subst z;exact fC) fun b hb=>by
     have z:b=s2.heap.objs.size+1:=by simpa using hb
     subst z
     exact⟨oC,hoC,fun v z=>by rw[rC.1]at z;cases z⟩
    show wpAny _ _ (assign (.Name y py) X.env (.ref s2.heap.objs.size)) _ _ s4;refine wpAny_assign_Name (kd I5 hN hiy hy (v:=.ref s2.heap.objs.size) rfl (fun s5 I6=>?_) hf)
    have hC5:s5.heap.get? (s2.heap.objs.size+1)=some oC:=(I6.pin (_,oC) (List.mem_append_right _ (List.mem_append_right _ (cQ (List.mem_singleton.mpr rfl) hoC)))).1
    refine⟨m,⟨oC,es,ep,hC5,rC⟩,fun h' sb=>⟨_,H',(I6.gQ).turned (t':=s5.toks) (it:=s2.heap.objs.size+1) (fun b o hb e=>(sb.2 b hb).trans e) J4.free c1 c3 c4 c5,qn⟩⟩
  . refine thn (T.item (blk X scope cl (M++[x]) (s2.heap.objs.size+1) _ _ fp) rfl rfl rfl hc i [] s' _ H' _ J' (fpY fr') st' go) fun r s4 ⟨u,hr,h4⟩=>?_
    subst hr;refine wpAny_bind (thn h4 fun _ s5 ⟨z,H5,J5,r5,y5,st5,fr5⟩=>?_)
    have J5':=J5.pinned (fpY fr5) (T.obj _ _ st5)
    have hxN:(M++[x])[M.length]?=some x:=by simp
    refine wpAny_bind ?_;refine wpAny_assign_Name ?_;refine kd (X:=blk X scope cl (M++[x]) (s2.heap.objs.size+1) _ _ fp) (i:=M.length) (v:=z) J5' S.nd hxN (.inl (lookup_relabel_local S.var)) r5 (fun s6 J6=>?_) (.inr (lookup_relabel_local S.var))
    have hlp:(pick ι σ).length=M.length:=by
     have q:=congrArg List.length S.names;rw[List.length_map,List.length_map]at q;unfold pick;rw[List.length_map,q]
    have hset:(pick ι σ++[v]).set M.length (some z)=pick ι σ++[some z]:=by
     rw[<- hlp,List.set_append_right _ _ (Nat.le_refl _),Nat.sub_self];rfl
    rw[hset]at J6;refine wpAny_bind (wpAny_bind (thn (he _ _ _ _ _ s6 _ H5 _ J6 (step z H5 y5)) fun yv s7 ⟨y,H7,J7,r7,hD7,hz7,m',hm',w7⟩=>?_));refine wpAny_bind (thn (ck (X:=blk X scope cl (M++[x]) (s2.heap.objs.size+1) _ _ fp) _ s7 _ H7 (.ref s2.heap.objs.size) [y] (.ref s2.heap.objs.size) [yv] (fun _ G=>G=upd H7 s2.heap.objs.size (.lst (ys++[y]))) J7 rfl (.cons r7 .nil) ⟨_,_,y,rfl,rfl,hD7,hz7,rfl⟩) fun _ s8 ⟨_,H8,J8,_,e8⟩=>?_);subst e8;refine wpAny_pure (wpAny_pure ⟨rfl,m',hm',i+1,_,_,some z,J8.gQ,?_,fun b hb=>?_,w7⟩)
    . exact T.keep _ _ _ st5 fun b hb o e=>(J8.pin (b,o) (List.mem_append_right _ (List.mem_append_right _ (cQ hb e)))).1
    . obtain⟨o,e,d⟩:=T.obj _ _ st5 b hb
      exact(J8.pin (b,o) (List.mem_append_right _ (List.mem_append_right _ (cQ hb e)))).2.1
 rw[hsz]at *;exact codeAny_compStart_list loop (T.self X.A 0 _ _ _ st₁ loop)
theorem CT{i:Nat}{y:Str}{py spos:Pos}{elt iter c:Expr}{px pos:Pos}{wi:TI}{tc:TT}{te:TE}(S:lD X scope cl M ι x)(hc:X.calm=true)(hi:PI X (.Name x px) iter wi)(hcd:∀ C s₀ H₀ ex,PT (blk X scope cl (M++[x]) C s₀ H₀ ex) c tc)(he:∀ C s₀ H₀ ex,PE (blk X scope cl (M++[x]) C s₀ H₀ ex) elt te)
  (hN:X.N.Nodup) (hiy:X.N[i]?=some y) (hy:Loc X.env.scope y) (hsw:swapsWith (.ListComp elt [⟨.Name x px,iter,[c],0⟩] scope pos) (some (.Name y py)) spos.line X.env=pure true) (hf:X.fn y=true \/ X.env.scope.names.lookup y=some .local:=by first|exact .inl rfl|exact .inr rfl|assumption)
  (hs:∀ v,foldedSetIterable iter X.env v=pure v:=by intro _;rfl):PS X (.Assign [.Name y py] (.ListComp elt [⟨.Name x px,iter,[c],0⟩] scope pos) spos) (tH (sq wi ι tc te) (j8 i)):=by
 intro pins s σ H D0 I h;rw[exec_Assign_Name_used _ _ _ _ hsw];refine wpAny_bind (wpAny_standAt (wpAny_bind ?_));show wpAny _ _ (do let _ <- comprehension (.ListComp elt [⟨.Name x px,iter,[c],0⟩] scope pos) scope X.env _ (newList []) false (eval iter X.env) (some (assign (.Name y py) X.env))) _ _ s;refine wpAny_bind (wpAny_mono (wpAny_comprehension_free (use:=some (assign (.Name y py) X.env)) (Q:=fun _ s'=>∃ σ' H',Inv X pins σ' H' s' /\ D0.nx σ' H') rfl hs S.clos S.kind (fun y hy hl=>?_) (wpAny_mono (hi pins s σ H _ I h) (fun v s1 h1=>wpAny_mono h1 (fun itv s2 h2=>?_) fun _ _ z=>z) fun _ _ z=>z)) (fun _ s' hq=>wpAny_pure (wpAny_pure hq)) fun _ _ e=>e)
 . have q:=List.all_eq_true.mp S.locs y hy;rw[hl]at q
   simpa using q
 obtain⟨it,fp,tn,J,H2,rfl,I2,T,st2,f2,hW⟩:=h2;have I3:=I2.Et (ys:=[]) (its:=[]) (t':=s2.toks) .nil (Nat.zero_le _);obtain⟨W,⟨m0,w0⟩,turn⟩:=hW s2.heap.objs.size I2.fresh
 have fpo:∀ b∈fp,b<s2.heap.objs.size:=fun b hb=>let ⟨_,e,_⟩:=T.obj _ _ st2 b hb;Heap.lt_size e
 have f3:∀ b∈fp,m4 X pins (upd H2 s2.heap.objs.size (.lst [])) b:=fun b hb=>by
  obtain⟨q0,q⟩:=f2 b hb
  exact⟨by rw[bH (Nat.ne_of_lt (fpo b hb))];exact q0,q⟩
 show wpAny _ _ (newObj (.type "list") _ none) _ _ s2;refine wpAny_newObj_type (wpAny_newFunctionEnv (fun y hy=>?_) (by intro y hy;simp at hy) (fun h₁ hn₁ sb₁=>?_) S.kind)
 . have q:=List.all_eq_true.mp S.nocell y hy
   simpa using q
 have hsz:(s2.heap.push { cls:=.type "list",dict:=none,data:=.seq ([]:List Value).toArray }).objs.size=s2.heap.objs.size+1:=Heap.size_push ..
 have hk₁:∀ b o,(s2.heap.push { cls:=.type "list",dict:=none,data:=.seq ([]:List Value).toArray }).get? b=some o->h₁.get? b=some o:=fun b o e=>
  (sb₁.2 b (Nat.ne_of_lt (Heap.lt_size e))).trans (Heap.get?_push_of_some _ e)
 have J0:=xV (t':=s2.toks+([]:List (Str×Value)).length) S I3 (ex:=fp) (fun b hb=>⟨f3 b hb,Nat.lt_of_lt_of_le (fpo b hb) (by rw[hsz];exact Nat.le_succ _)⟩) hn₁ hk₁
 have old:∀ b∈fp,∀ o,s2.heap.get? b=some o->h₁.get? b=some o:=fun b _ o e=>hk₁ b o (Heap.get?_push_of_some _ e)
 have st₁:tn 0 h₁:=T.keep _ _ _ st2 old
 have loop:codeAny (model X.prog X.w) X.A (.compLoop (.ListComp elt [⟨.Name x px,iter,[c],0⟩] scope pos) 0 (.ref it) (.ref s2.heap.objs.size) (compEnvC scope cl (s2.heap.objs.size+1) X.env))
   (compPost (model X.prog X.w) X.A X.xe (some (assign (.Name y py) X.env)) (fun _ s'=>∃ σ' H',Inv X pins σ' H' s' /\ D0.nx σ' H') (.ref s2.heap.objs.size) (s2.heap.objs.size+1)) { s2 with heap:=h₁,toks:=s2.toks+([]:List (Str×Value)).length }:=by
  rw[hsz]at J0
  refine codeAny_loop rfl (fun n s'=>∃ i H' ys v,Inv (blk X scope cl (M++[x]) (s2.heap.objs.size+1) { s2 with heap:=s2.heap.push { cls:=.type "list",data:=.seq ([]:List Value).toArray },toks:=s2.toks } (upd H2 s2.heap.objs.size (.lst [])) fp) [] (pick ι σ++[v]) H' s' /\ tn i s'.heap /\ (∀ b∈fp,H' b=none) /\ W i n ys H')
   (fun n s' hI=>?_) m0 ⟨0,_,[],none,J0,st₁,fun b hb=>(f3 b hb).1,w0⟩
  obtain⟨i,H',ys,v,J',st',fr',w'⟩:=hI;obtain⟨hD,alt⟩:=turn i n ys H' w'
  have fpY:∀{G:Hp},(∀ b∈fp,G b=none)->∀ b∈fp,m4 (blk X scope cl (M++[x]) (s2.heap.objs.size+1) { s2 with heap:=s2.heap.push { cls:=.type "list",data:=.seq ([]:List Value).toArray },toks:=s2.toks } (upd H2 s2.heap.objs.size (.lst [])) fp) [] G b:=fun hG b hb=>
   ⟨hG b hb,(J'.ok.exf b hb).1,J'.ok.exfs b hb,.inl hb,(J'.ok.exf b hb).2,fun p hp=>absurd (show p∈([]:List (Addr×Obj)) from hp) (by simp)⟩
  show wpAny _ _ ((compTurn _ 0 (.ref it) (.ref s2.heap.objs.size) (compEnvC scope cl (s2.heap.objs.size+1) X.env)).onRaise _) _ _ s';refine wpAny_noted (wpAny_noRaise ?_);rw[compTurn_list];refine wpAny_bind (wpAny_standAt (wpAny_bind ?_))
  rcases alt with⟨stop,qn⟩|⟨go,step⟩
  . refine thn (T.done (blk X scope cl (M++[x]) (s2.heap.objs.size+1) _ _ fp) rfl rfl rfl hc i [] s' _ H' _ J' (fpY fr') st' stop) fun r s4 ⟨hr,J4⟩=>?_
    subst hr;refine wpAny_pure ?_;obtain⟨m,hm,_⟩:=id J4.loc
    have I4:Inv X pins σ H' s4:=u1 (h':=s4.heap) I3 hsz.symm f3 J4 ⟨rfl,fun _ _=>rfl⟩
    obtain⟨oC,es,ep,hoC,rC⟩:=id hm
    have fC:m4 X pins H' (s2.heap.objs.size+1):=I3.AE (by rw[hsz];exact Nat.le_refl _) J4.free
    obtain⟨_,c1,c2,c3,c4,c5⟩:=id fC
    have I5:=I4.pinned (fp:=[s2.heap.objs.size+1]) (fun b hb=>by
     have z:b=s2.heap.objs.size+1:=by simpa using hb
     subst z;exact fC) fun b hb=>by
     have z:b=s2.heap.objs.size+1:=by simpa using hb
     subst z
     exact⟨oC,hoC,fun v z=>by rw[rC.1]at z;cases z⟩
    show wpAny _ _ (assign (.Name y py) X.env (.ref s2.heap.objs.size)) _ _ s4;refine wpAny_assign_Name (kd I5 hN hiy hy (v:=.ref s2.heap.objs.size) rfl (fun s5 I6=>?_) hf)
    have hC5:s5.heap.get? (s2.heap.objs.size+1)=some oC:=(I6.pin (_,oC) (List.mem_append_right _ (List.mem_append_right _ (cQ (List.mem_singleton.mpr rfl) hoC)))).1
    refine⟨m,⟨oC,es,ep,hC5,rC⟩,fun h' sb=>⟨_,H',(I6.gQ).turned (t':=s5.toks) (it:=s2.heap.objs.size+1) (fun b o hb e=>(sb.2 b hb).trans e) J4.free c1 c3 c4 c5,qn⟩⟩
  . refine thn (T.item (blk X scope cl (M++[x]) (s2.heap.objs.size+1) _ _ fp) rfl rfl rfl hc i [] s' _ H' _ J' (fpY fr') st' go) fun r s4 ⟨u,hr,h4⟩=>?_
    subst hr;refine wpAny_bind (thn h4 fun _ s5 ⟨z,H5,J5,r5,y5,st5,fr5⟩=>?_)
    have J5':=J5.pinned (fpY fr5) (T.obj _ _ st5)
    have hxN:(M++[x])[M.length]?=some x:=by simp
    refine wpAny_bind ?_;refine wpAny_assign_Name ?_;refine kd (X:=blk X scope cl (M++[x]) (s2.heap.objs.size+1) _ _ fp) (i:=M.length) (v:=z) J5' S.nd hxN (.inl (lookup_relabel_local S.var)) r5 (fun s6 J6=>?_) (.inr (lookup_relabel_local S.var))
    have hlp:(pick ι σ).length=M.length:=by
     have q:=congrArg List.length S.names;rw[List.length_map,List.length_map]at q;unfold pick;rw[List.length_map,q]
    have hset:(pick ι σ++[v]).set M.length (some z)=pick ι σ++[some z]:=by
     rw[<- hlp,List.set_append_right _ _ (Nat.le_refl _),Nat.sub_self];rfl
    rw[hset]at J6;refine wpAny_bind (wpAny_tests_one (thn (hcd _ _ _ _ _ s6 _ H5 _ J6 (step z H5 y5)) fun b s7 ⟨H7,J7,hD7,q7⟩=>?_))
    cases b with
    | true=>
      rw[if_pos rfl]at q7;refine wpAny_bind (wpAny_bind (thn (he _ _ _ _ _ s7 _ H7 _ J7 q7) fun yv s8 ⟨y,H8,J8,r8,hD8,hz8,m',hm',w8⟩=>?_));refine wpAny_bind (thn (ck (X:=blk X scope cl (M++[x]) (s2.heap.objs.size+1) _ _ fp) _ s8 _ H8 (.ref s2.heap.objs.size) [y] (.ref s2.heap.objs.size) [yv] (fun _ G=>G=upd H8 s2.heap.objs.size (.lst (ys++[y]))) J8 rfl (.cons r8 .nil) ⟨_,_,y,rfl,rfl,hD8,hz8,rfl⟩) fun _ s9 ⟨_,H9,J9,_,e9⟩=>?_);subst e9;refine wpAny_pure (wpAny_pure ⟨rfl,m',hm',i+1,_,_,some z,J9.gQ,?_,fun b hb=>?_,w8⟩)
      . exact T.keep _ _ _ st5 fun b hb o e=>(J9.pin (b,o) (List.mem_append_right _ (List.mem_append_right _ (cQ hb e)))).1
      . obtain⟨o,e,d⟩:=T.obj _ _ st5 b hb
        exact(J9.pin (b,o) (List.mem_append_right _ (List.mem_append_right _ (cQ hb e)))).2.1
    | false=>
      rw[if_neg (by decide)]at q7;obtain⟨m',hm',w8⟩:=q7;refine wpAny_pure ⟨rfl,m',hm',i+1,_,_,some z,J7.gQ,?_,fun b hb=>?_,w8⟩
      . exact T.keep _ _ _ st5 fun b hb o e=>(J7.pin (b,o) (List.mem_append_right _ (List.mem_append_right _ (cQ hb e)))).1
      . obtain⟨o,e,d⟩:=T.obj _ _ st5 b hb
        exact(J7.pin (b,o) (List.mem_append_right _ (List.mem_append_right _ (cQ hb e)))).2.1
 rw[hsz]at *;exact codeAny_compStart_list loop (T.self X.A 0 _ _ _ st₁ loop)
end
end L2.E
namespace L2.P
open PySem PySem.Spec PyProof.Rows L2 L2.E
section
variable{K:PySem.W.Frag}{cls:String->Option Addr}{W:XW}{Av G S₀ S S' H H' B B':Hp}{ρ:ag}{σ:St}{Q:VK}
theorem Ed{ml me:ag->OE}{ι:List Nat}(hι:ι.Nodup)(hl:JE K cls W tl ml)(he:JE K cls (fun _ _ _ _=>False) te me):JE K cls W (ux (K1 K tl) ι te) (vD ml ι me):=by
 intro Av G S₀ ρ σ S H Q I p
 refine hl.go I p fun r v S1 H1 I1 w1 r1 p1=>?_
 have ra:=r1.rd I1.sh
 cases e:r.pv with
 | tup xs=>
   rw[e]at p1 ra;obtain⟨a,vs,rfl,hq,hr⟩:=n4 ra
   refine⟨a,rfl,⟨vs,aK.tup I1.sh hq⟩,?_⟩
   dsimp only at p1
   cases em:dh me (dk ι ρ) xs with
   |exc c fs=>rw[em]at p1;exact p1.elim
   |bad=>rw[em]at p1;exact p1.elim
   | ok ys=>
     rw[em]at p1;simp only[noX]at p1;split at p1
     . rename_i hlen
       refine p8 hι he I1 em hlen (fun k H' x g hx=>?_) (fun H' g=>⟨vs,aK.tup (I1.sh.trans g) hq,by rw[hr.length];exact Nat.le_refl _⟩) fun D S' H' w nD sD ⟨us,hD,rr⟩=>p1 (.ref D) S' H' w ⟨D,us,rfl,nD,sD,hD,rr⟩
       obtain⟨u,hu,ru⟩:=hr.get hx
       refine⟨⟨vs,u,aK.tup (I1.sh.trans g) hq,hu⟩,?_⟩
       rintro v' H2 ⟨rfl,hv⟩
       have:=hv vs (aK.tup (I1.sh.trans g) hq)
       simp_all
     . exact p1.elim
 |_=>rw[e]at p1;exact p1.elim
theorem zv{J:It}{ι:List Nat}{mc:ag->OT}{me:ag->OE}{xs ys:List PV}(hι:ι.Nodup)(hc:JT K cls (fun _ _ _ _=>False) tc mc)(he:JE K cls (fun _ _ _ _=>False) te me)(I:SR K cls Av G S₀ ρ σ S H)(hy:fZ mc me (dk ι ρ) xs=.ok ys)(hl:ys.length<=lim)
  (go:∀ k H' x,aK H H'->xs[k]?=some x->J.go k H' /\ ∀ v H2,J.yld k H' v H2->H2=H' /\ Rep K S x v) (stop:∀ H',aK H H'->J.stop xs.length H')
  (hQ:∀ D S' H',bq S H S' H'->H D=none->S' D=none->(∃ us,H' D=some (.lst us) /\ bw K S' ys us)->Q (.ref D) H'):
  ∀ D,H D=none->∃ W:Nat->Nat->List V->Hp->Prop,(∃ m,W 0 m [] (upd H D (.lst []))) /\ ∀ i m us H',W i m us H' ->
    H' D=some (.lst us) /\ ((J.stop i H' /\ Q (.ref D) H') \/ (J.go i H' /\ ∀ x H2,J.yld i H' x H2->tc (L2.E.pick ι σ++[some x]) H2 fun b H4=>H4 D=some (.lst us) /\ if b=true then te (L2.E.pick ι σ++[some x]) H4 fun y H3=>H3 D=some (.lst us) /\ us.length<sizeLine /\ ∃ m',m'<m /\ W (i+1) m' (us++[y]) (upd H3 D (.lst (us++[y])))else ∃ m',m'<m /\ W (i+1) m' us H4)):=by
 intro D nD
 refine⟨fun k m us H'=>m+k=xs.length /\ H' D=some (.lst us) /\ ∃ S' zs ws,aK S S' /\ aK H H' /\ aK S' H' /\ (∀ b,S' b≠none->S b≠none \/ (H b=none /\ b≠D)) /\ bw K S' zs us /\ fZ mc me (dk ι ρ) (xs.drop k)=.ok ws /\ ys=zs++ws,
  ⟨xs.length,rfl,bP,S,[],ys,aK.refl _,aK.new nD,I.sh.trans (aK.new nD),fun b z=>.inl z,.nil,hy,rfl⟩,?_⟩
 rintro k m us H' ⟨hm,hD,S',zs,ws,s1,g1,sh1,n1,r1,e1,rfl⟩
 refine⟨hD,?_⟩
 have hSD:S' D=none:=by
  cases q:S' D with
  |none=>rfl
  | some o=>
    rcases n1 D (by rw[q];simp)with z|⟨_,z⟩
    . exact absurd (I.sh.free nD) z
    . simp_all
 by_cases hk:k<xs.length
 . refine .inr ?_
   have hx:xs[k]?=some xs[k]:=by simp[hk]
   obtain⟨hgo,hyld⟩:=go k H' xs[k] g1 hx
   refine⟨hgo,fun v H2 hv=>?_⟩
   obtain⟨rfl,rv⟩:=hyld v H2 hv;rw[List.drop_eq_getElem_cons hk]at e1
   have I1:SR K cls Av G S₀ ρ σ S' H2:=I.grow ⟨s1,g1,sh1,fun b z=>by
    rcases n1 b z with z|⟨z,_⟩
    . simp_all
    . exact .inr z⟩
   have Ip:=I1.pick hι (Rep.mono s1 rv);refine hc _ G S₀ _ _ S' H2 _ Ip ?_;unfold fZ at e1;split at e1
   . rename_i ec;rw[ec];intro S2 H3 w2
     have hSD2:S2 D=none:=by
      cases q:S2 D with
      |none=>rfl
      | some o=>
        rcases w2.new D (by rw[q];simp)with z|z
        . simp_all
        . grind
     refine⟨w2.g _ _ hD,?_⟩
     rw[if_pos rfl];refine he _ G S₀ _ _ S2 H3 _ (Ip.grow w2) ?_
     cases em:me (dk ι ρ++[some (.sh xs[k])])with
     |exc c fs=>rw[em]at e1;cases e1
     |bad=>rw[em]at e1;cases e1
     | ok r=>
       rw[em]at e1;simp only[OE.fJ]at e1
       cases es:m3 r with
       |none=>rw[es]at e1;cases e1
       | some y=>
         rw[es]at e1
         dsimp only at e1
         cases e2:fZ mc me (dk ι ρ) (xs.drop (k+1))with
         |exc c fs=>rw[e2]at e1;cases e1
         |bad=>rw[e2]at e1;cases e1
         | ok zs'=>
           rw[e2]at e1;simp only[OA.fJ]at e1;cases e1;intro u S4 H4 w4 r4;obtain⟨S3,w3,s3,ru⟩:=r4.share w4 es
           have hl2:(zs++y ::zs').length<=lim:=hl
           have w5:=w2.trans w3
           have hSD3:S3 D=none:=by
            cases q:S3 D with
            |none=>rfl
            | some o=>
              rcases w3.new D (by rw[q];simp)with z|z
              . exact absurd hSD2 z
              . rw[w2.g _ _ hD]at z;cases z
           refine⟨w5.g _ _ hD,?_,m - 1,by omega,by omega,bP,S3,zs++[y],zs',s1.trans w5.s,(g1.trans w5.g).upd nD,w3.sh.upd hSD3,fun b z=>?_,(r1.mono w5.s).append (.cons ru .nil),e2,by simp⟩
           . rw[r1.length,<- Fz];rw[List.length_append,List.length_cons]at hl2;omega
           . rcases w5.new b z with z|z
             . exact n1 b z
             . refine .inr ⟨g1.free z,fun e=>?_⟩;rw[e,hD]at z;cases z
   . rename_i ec;rw[ec];intro S2 H3 w2
     refine⟨w2.g _ _ hD,?_⟩
     rw[if_neg (by decide)]
     refine⟨m - 1,by omega,by omega,w2.g _ _ hD,S2,zs,ws,s1.trans w2.s,g1.trans w2.g,w2.sh,fun b z=>?_,r1.mono w2.s,e1,rfl⟩
     rcases w2.new b z with z|z
     . exact n1 b z
     . refine .inr ⟨g1.free z,fun e=>?_⟩;rw[e,hD]at z;cases z
   . cases e1
 . have hk':k=xs.length:=by omega
   subst hk';refine .inl ⟨stop H' g1,?_⟩;rw[List.drop_length]at e1;cases e1
   exact hQ D S' H' ⟨s1,g1,sh1,fun b z=>by
    rcases n1 b z with z|⟨z,_⟩
    . exact .inl z
    . exact .inr z⟩ nD hSD ⟨us,hD,by rw[List.append_nil];exact r1⟩
theorem rM{ml me:ag->OE}{mc:ag->OT}{ι:List Nat}(hι:ι.Nodup)(hl:JE K cls W tl ml)(hc:JT K cls (fun _ _ _ _=>False) tc mc)(he:JE K cls (fun _ _ _ _=>False) te me):JE K cls W (sq (zK K tl) ι tc te) (ke ml ι mc me):=by
 intro Av G S₀ ρ σ S H Q I p
 refine hl.go I p fun r v S1 H1 I1 w1 r1 p1=>?_
 have ra:=r1.rd I1.sh
 cases e:r.pv with
 | lst xs=>
   rw[e]at p1 ra;obtain⟨a,vs,rfl,hq,hr⟩:=gK ra
   refine⟨a,rfl,⟨vs,hq⟩,?_⟩
   dsimp only at p1
   cases em:fZ mc me (dk ι ρ) xs with
   |exc c fs=>rw[em]at p1;exact p1.elim
   |bad=>rw[em]at p1;exact p1.elim
   | ok ys=>
     rw[em]at p1;simp only[noX]at p1;split at p1
     . rename_i hlen
       refine zv hι hc he I1 em hlen (fun k H' x g hx=>?_) (fun H' g=>⟨vs,aK.seq g hq,by rw[hr.length];exact Nat.le_refl _⟩) fun D S' H' w nD sD ⟨us,hD,rr⟩=>p1 (.ref D) S' H' w ⟨D,us,rfl,nD,sD,hD,rr⟩
       obtain⟨u,hu,ru⟩:=hr.get hx
       refine⟨⟨vs,u,aK.seq g hq,hu⟩,?_⟩
       rintro v' H2 ⟨rfl,hv⟩
       have:=hv vs (aK.seq g hq);rw[hu]at this;cases this
       exact⟨rfl,ru⟩
     . exact p1.elim
 |_=>rw[e]at p1;exact p1.elim
theorem D4{ma ms:ag->OE}(ha:JE K cls W ta ma)(hs:JE K cls W ts ms):JE K cls W (Kf K ta ts) (C4 ma ms):=by
 intro Av G S₀ ρ σ S H Q I p
 refine ha.go I p fun a v S1 H1 I1 w1 r1 p1=>hs.go I1 p1 fun k u S2 H2 I2 w2 r2 p2=>?_
 have ra:=(r1.rd I1.sh).mono w2.s w2.g;have rk:=r2.rd I2.sh;split at p2
 . rename_i xs n ea ek;split at p2
   . rename_i hn;rw[ea]at ra;rw[ek]at rk;obtain⟨q,vs,rfl,hq,hr⟩:=gK ra
     refine⟨by rw[dD rk,hn],q,vs,rfl,hq,fun l hl=>?_⟩
     refine p2 _ S2 _ (bq.heap I2.sh hl) ⟨l,_,rfl,hl,I2.sh.free hl,bP,?_⟩;clear ea p2 hq ra
     induction xs generalizing vs with
     |nil=>rw[hr.nil_inv];exact .nil
     | cons x xs ih=>
       obtain⟨y,t,rfl,h1,h2⟩:=hr.cons_inv;rw[List.reverse_cons,List.reverse_cons]
       exact(ih _ h2).append (.cons h1 .nil)
   . exact p2.elim
 . exact p2.elim
theorem xD:JU K (fun xs H Q=>∃ p ys,xs=[.ref p] /\ ((SqL K H p ys /\ ∀ l,H l=none->Q (.ref l) (upd H l (.tup ys))) \/ (SqT K H p ys /\ Q (.ref p) H))) mJ:=by
 intro S H x v rr Q I hx e k
 cases x with
 | lst xs=>
   cases e;obtain⟨p,vs,rfl,hq,r⟩:=gK hx
   refine⟨p,vs,rfl,.inl ⟨hq,fun l hl=>k _ _ _ (bq.both I hl) ?_⟩⟩
   exact⟨l,vs,rfl,SqT.new bP,r.mono (bq.both I hl).s⟩
 | tup xs=>
   cases e;obtain⟨p,vs,rfl,hq,r⟩:=n4 hx
   refine⟨p,vs,rfl,.inr ⟨aK.tup I hq,k _ S H (bq.refl I) ?_⟩⟩
   show Rep K _ _ _;unfold Rep
   grind
 |_=>cases e
end
end L2.P
namespace L2.E
open PySem PySem.Spec PyProof.Rows L2
theorem xq{X:Cx}{cl:List (Str×Addr)}(S:lD X scope cl M ι x)(hc:X.calm=true)(hi:QI X (.Name x px) iter wi)(hcd:∀ C s₀ H₀ ex,QT (blk X scope cl (M++[x]) C s₀ H₀ ex) c tc)(he:∀ C s₀ H₀ ex,QE (blk X scope cl (M++[x]) C s₀ H₀ ex) elt te)
  (hs:∀ v,foldedSetIterable iter X.env v=pure v:=by intro _;rfl):QE X (.ListComp elt [⟨.Name x px,iter,[c],0⟩] scope pos) (sq wi ι tc te):=⟨Dx S hc hi.out (fun a b c d=>(hcd a b c d).out) (fun a b c d=>(he a b c d).out) hs⟩
theorem Ei{X:Cx}{e st:Expr}{te ts:TE}{pos p2:Pos}(he:QE X e te)(hk:QE X st ts):QE X (.Subscript e (.Slice none none (some st) p2) pos) (Kf X.K te ts):=⟨Lo he.out hk.out⟩
theorem Hb{X:Cx}{cl:List (Str×Addr)}{py spos:Pos}(hN:X.N.Nodup)(hiy:X.N[i]?=some y)(hy:Loc X.env.scope y)(S:lD X scope cl M ι x)(hc:X.calm=true)(hi:QI X (.Name x px) iter wi)(he:∀ C s₀ H₀ ex,QE (blk X scope cl (M++[x]) C s₀ H₀ ex) elt te)
  (hsw:swapsWith (.ListComp elt [⟨.Name x px,iter,[],0⟩] scope pos) (some (.Name y py)) spos.line X.env=pure true:=by rfl) (hf:X.fn y=true \/ X.env.scope.names.lookup y=some .local:=by first|exact .inl rfl|exact .inr rfl|assumption)
  (hs:∀ v,foldedSetIterable iter X.env v=pure v:=by intro _;rfl):QS X (.Assign [.Name y py] (.ListComp elt [⟨.Name x px,iter,[],0⟩] scope pos) spos) (tH (ux wi ι te) (j8 i)):=⟨HY S hc hi.out (fun a b c d=>(he a b c d).out) hN hiy hy hsw hf hs⟩
theorem CG{X:Cx}{cl:List (Str×Addr)}{py spos:Pos}(hN:X.N.Nodup)(hiy:X.N[i]?=some y)(hy:Loc X.env.scope y)(S:lD X scope cl M ι x)(hc:X.calm=true)(hi:QI X (.Name x px) iter wi)(hcd:∀ C s₀ H₀ ex,QT (blk X scope cl (M++[x]) C s₀ H₀ ex) c tc)(he:∀ C s₀ H₀ ex,QE (blk X scope cl (M++[x]) C s₀ H₀ ex) elt te)
  (hsw:swapsWith (.ListComp elt [⟨.Name x px,iter,[c],0⟩] scope pos) (some (.Name y py)) spos.line X.env=pure true:=by rfl) (hf:X.fn y=true \/ X.env.scope.names.lookup y=some .local:=by first|exact .inl rfl|exact .inr rfl|assumption)
  (hs:∀ v,foldedSetIterable iter X.env v=pure v:=by intro _;rfl):QS X (.Assign [.Name y py] (.ListComp elt [⟨.Name x px,iter,[c],0⟩] scope pos) spos) (tH (sq wi ι tc te) (j8 i)):=⟨CT S hc hi.out (fun a b c d=>(hcd a b c d).out) (fun a b c d=>(he a b c d).out) hN hiy hy hsw hf hs⟩
noncomputable def Mj(p:Int×V)(e:DictEntry):Prop:=e.hash=hashInt p.1 /\ (∃ t,e.key=.int p.1 t) /\ RelV p.2 e.val
noncomputable def DKI(K:PySem.W.Frag)(d:Addr)(kvs:List (Int×V)):Prop:=(d==sysModules)=false /\ (kvs.map (·.1)).Nodup /\ ∃(es:List DictEntry) (ep:Nat),K.lookup d=some ⟨.type "dict",none,.dict es.toArray ep,#[]⟩ /\ Paired Mj kvs es
theorem zm{prog:Program}{w:World}:∀{kvs:List (Int×V)} {es:List DictEntry},Paired Mj kvs es ->
  ∃ us:List (Int×Value),us.map (·.1)=kvs.map (·.1) /\ Pairs (intKind prog w) es us /\ (∀ e∈es,∃ k,(intKind prog w).is k e.key=true /\ e.hash=(intKind prog w).hash k) /\
    ∀ n,match kvs.lookup n with
      |some v=>∃ u,valueAt us n=some u /\ RelV v u
      |none=>valueAt us n=none
 |_,_,.nil=>⟨[],rfl,.nil,fun e he=>(nomatch he),fun n=>rfl⟩
 | (n,v) ::kvs,e ::es,.cons h t=>by
   obtain⟨us,h1,h2,h3,h4⟩:=zm t;obtain⟨k1,⟨tk,k2⟩,k3⟩:=h
   have hk:(intKind prog w).is n e.key=true:=by rw[k2];show Value.isInt n (.int n tk)=true;simp[Value.isInt]
   refine⟨(n,e.val) ::us,by simp[h1],.cons hk rfl h2,fun e' he'=>?_,fun m=>?_⟩
   . rcases List.mem_cons.mp he' with z|z
     . subst z;exact⟨n,hk,k1⟩
     . simp_all
   . have:=h4 m
     by_cases hm:m=n
     . subst hm;simp[valueAt];exact k3
     . have hb:(m==n)=false:=by simpa using hm
       have hn:¬ n=m:=fun z=>hm z.symm
       simp only[List.lookup,hb]
       unfold valueAt at this ⊢
       simp_all
theorem DKI.at{X:Cx}{pins:List (Addr×Obj)}{σ:St}{H:Hp}{s:Shared}{d:Addr}{kvs:List (Int×V)}(D:DKI X.K d kvs)(I:Inv X pins σ H s):
  ∃ us:List (Int × Value),s.heap.DictOf (intKind X.prog X.w) d us /\ ∀ n,match kvs.lookup n with
     |some v=>∃ u,valueAt us n=some u /\ RelV v u
     |none=>valueAt us n=none:=by
 obtain⟨_,nd,es,ep,hk,pr⟩:=D;obtain⟨us,h1,h2,h3,h4⟩:=zm pr
 exact⟨us,⟨_,es.toArray,ep,I.kIn d _ hk,⟨rfl,rfl,rfl⟩,rfl,fun e he=>h3 e (by simpa using he),by simpa using h2,by rw[h1];exact nd⟩,h4⟩
section
variable{X:Cx}
noncomputable def Em(K:PySem.W.Frag)(td te:TE):TE:=fun σ H Q=>td σ H fun x H1=>∃ d kvs,x=.ref d /\ DKI K d kvs /\ te σ H1 fun y H2=>∃ n,y=.int n /\ Q ((kvs.lookup n).getD .non) H2
theorem zu{o e:Expr}{td te:TE}{apos cpos:Pos}(ho:QE X o td)(he:QE X e te)(hbase:attributeBase o "get" X.env (eval o X.env)=eval o X.env:=by rfl)
  (few:((backTo cpos (starEach [e] X.env)).all (fun x=>!x.1)&&(backToKw cpos (keywordEach [] X.env)).all (fun x=>x.1.isSome)&&decide (([e]:List Expr).length+([]:List Keyword).length+(if([]:List Keyword).isEmpty then 0 else 1)<30))=true:=by rfl)
  (line:(apos.endLine==cpos.line)=true:=by rfl) (trees:backTo cpos (starEach [e] X.env)=[(false,eval e X.env)]:=by rfl):QE X (.Call (.Attribute o "get" apos) [e] [] cpos) (Em X.K td te):=⟨by
 intro pins s σ H Q I h;refine wpAny_Call_method hbase few line PySem.F.plainAttrs_dict PySem.F.slot_dict_get PySem.F.type_dict_get (thn (ho.out pins s σ H _ I h) fun u s1 ⟨x,H1,I1,rx,d,kvs,ex,D,q1⟩=>?_);subst ex
 obtain rfl:u=Value.ref d:=rx
 obtain⟨us,dd,hv⟩:=D.at I1;obtain⟨_,nd,es,ep,hk,pr⟩:=id D
 refine⟨dd.typeIs,fun b hb=>by cases hb;exact⟨_,I1.kIn d _ hk,rfl⟩,?_⟩
 rw[trees];refine Calls.callWith_builtin rfl (Calls.evalArgs_plain (Calls.spliced_cons (thn (he.out pins s1 σ H1 _ I1 q1) fun iv s2 ⟨y,H2,I2,ry,n,ey,q2⟩=>Calls.spliced_nil ?_)));subst ey;obtain⟨t,rfl⟩:=ry;obtain⟨us2,dd2,hv2⟩:=D.at I2;refine call_meetsIn PySem.F.slot_dict_get dd2.typeIs PySem.F.entry_dict_get (PySem.F.args_dict_get_2 _ _) (meets_dict_get (intKind X.prog X.w) d (by show Value.isInt n (.int n t)=true;simp[Value.isInt]) D.1) ⟨_,dd2.mapOf,⟨_,H2,I2.tok _,?_,q2⟩⟩;have h2:=hv2 n
 cases q:kvs.lookup n with
 |none=>rw[q]at h2;rw[h2];rfl
 |some v=>rw[q]at h2;obtain⟨u,e,r⟩:=h2;rw[e];exact r⟩
end
end L2.E
namespace L2.P
open PySem PySem.Spec PyProof.Rows L2 L2.E
section
variable{K:PySem.W.Frag}{cls:String->Option Addr}{W:XW}{Av G S₀ S S' H H' B B':Hp}{ρ:ag}{σ:St}{Q:VK}
noncomputable def DKP(K:PySem.W.Frag)(d:Addr)(kvs:List (Int×PV)):Prop:=∃ us,DKI K d us /\ Paired (fun (p:Int×PV) (q:Int×V)=>p.1=q.1 /\ ∀ S,Rep K S p.2 q.2) kvs us
theorem DKP.look{d:Addr}:∀{kvs:List (Int×PV)} {us:List (Int×V)},Paired (fun (p:Int×PV) (q:Int×V)=>p.1=q.1 /\ ∀ S,Rep K S p.2 q.2) kvs us->∀ n,match kvs.lookup n with
  |some x=>∃ v,us.lookup n=some v /\ ∀ S,Rep K S x v
  |none=>us.lookup n=none
 |_,_,.nil,n=>rfl
 | (k,x) ::kvs,(k',v) ::us,.cons h t,n=>by
   obtain⟨rfl,hr⟩:=h;have:=DKP.look (d:=d) t n
   grind
theorem zj{d:Addr}{kvs:List (Int×PV)}{ta:TE}{ma:ag->OE}(D:DKP K d kvs)(ha:JE K cls W ta ma):JE K cls W (Em K (tC (.ref d)) ta) (mUn (gy kvs) ma):=by
 intro Av G S₀ ρ σ S H Q I p;obtain⟨us,D1,pr⟩:=D
 refine⟨d,us,rfl,D1,?_⟩
 refine ha.go I p fun a v S1 H1 I1 w1 r1 p1=>?_
 have ra:=r1.rd I1.sh
 cases e:a.pv with
 | int n=>
   rw[e]at p1 ra;have:=DKP.look (d:=d) pr n;simp only[gy]at p1
   refine⟨n,dD ra,?_⟩
   cases q:kvs.lookup n with
   | none=>
     rw[q]at p1 this;rw[this];exact p1 _ S1 H1 (bq.refl I1.sh) (by show Rep K S1 _ _;rfl)
   | some x=>
     rw[q]at p1 this;obtain⟨u,eu,hr⟩:=this;rw[eu];exact p1 _ S1 H1 (bq.refl I1.sh) (hr S1)
 |_=>rw[e]at p1;exact p1.elim
end
end L2.P
namespace L2.E
open PySem PySem.Spec PyProof.Rows L2
end L2.E
namespace L2.P
open PySem PySem.Spec PyProof.Rows L2 L2.E
end L2.P
namespace L2.P
open PySem
end L2.P
namespace L2.P
open PySem PySem.Spec PyProof.Rows L2 L2.E
end L2.P
namespace L2.P
open PySem
noncomputable def yO(x:Str):List PV:=x.cps.toList.map fun c=>.str ⟨#[c]⟩
noncomputable def o4(ml:ag->OE)(ι:List Nat)(me:ag->OE):ag->OE:=fun ρ=>(ml ρ).bind fun r=>match r.pv with
 |.str x=>noX (dh me (dk ι ρ) (yO x))
 |_=>.bad
@[simp] theorem ET(ml:ag->OE)(ι:List Nat)(me:ag->OE)(ρ:ag):o4 ml ι me ρ=((ml ρ).bind fun r=>match r.pv with
  |.str x=>noX (dh me (dk ι ρ) (yO x))
  |_=>.bad):=rfl
noncomputable def EN:PV->Option RV
 |.str x=>if x.length=1 then some (.sh (.int (x.cps.getD 0 0:Nat)))else none
 |_=>none
noncomputable def o1:PV->Option RV
 |.int i=>if i.natAbs.log2<1920 then some (.sh (.str (toString i)))else none
 |_=>none
end L2.P
namespace L2
open PySem PySem.Spec PyProof.Rows
noncomputable def Its(x:Str):It:=⟨fun i _=>i<x.cps.size,fun i H v H'=>H'=H /\ ∃ c,x.cps[i]?=some c /\ v=.str ⟨#[c]⟩,fun i _=>x.cps.size<=i⟩
theorem Ar{P:Program}{w:World}{K:PySem.W.Frag}{tg:Expr}{it:Addr}{x:Str}{t:Tok}{n:String}(hn:["enumerate","zip","dict_itemiterator","dict_reverseitemiterator","odict_iterator","itertools.zip_longest","itertools.pairwise"].contains n=false)
  (W:∀ A:Around,A.handled=none->Walks P w A it [it] [it] x.cps.size (SignAt x) (fun i h=>h.IsStrIter it n x t i))
  (De:∀(A:Around) (s:Shared) (i:Nat) (Q:Option Value->Shared->Prop) (E:Value->Shared->Prop),A.handled=none->s.heap.IsStrIter it n x t i->x.cps[i]?=none->(∀ h',Heap.ExtBut it s.heap h'->Q none { s with heap:=h' })->wpAny (model P w) A (pyNext (.ref it)) Q E s)
  (Se:∀(A:Around) (i:Nat) (s:Shared) (Q:Value->Shared->Prop) (E:Value->Shared->Prop),s.heap.IsStrIter it n x t i->Q (.ref it) s->wpAny (model P w) A (pyIter (.ref it)) Q E s):Turn P w K tg (Its x) [it] it (fun i h=>h.IsStrIter it n x t i) where
 mem:=by simp
 obj:=fun i h st b hb=>by
  obtain⟨o,e,c,d⟩:=st
  simp_all
 keep:=fun i h h' st k=>let ⟨o,e,r⟩:=st;⟨o,k it (by simp) o e,r⟩
 item:=by
  intro X hP hw hK hc i pins s σ H E I hf st hg;obtain⟨f0,f1,f2,f3,f4,f5⟩:=hf it (by simp)
  refine(W X.A (I.ok.hd hc)).item i s _ _ hg st fun v h' tk hv st' kk=>?_
  obtain⟨c,u,hc1,rfl⟩:=hv
  have I1:Inv X pins σ H { s with heap:=h',toks:=tk }:=I.turned (fun b o hb e=>kk b o (by simpa using hb) e) f0 f1 f3 f4 f5
  obtain⟨o,e,cc,d⟩:=id st'
  exact⟨_,rfl,Cq e cc d hn ⟨.str ⟨#[c]⟩,H,I1,⟨u,rfl⟩,⟨rfl,c,hc1,rfl⟩,st',fun b hb=>(hf b hb).1⟩⟩
 done:=by
  intro X hP hw hK hc i pins s σ H E I hf st hg;obtain⟨f0,f1,f2,f3,f4,f5⟩:=hf it (by simp)
  have hg':x.cps.size<=i:=hg
  exact De X.A s i _ _ (I.ok.hd hc) st (by simp;omega) fun h' eb=>⟨rfl,I.turned (t':=s.toks) (fun b o hb e=>eb b o hb e) f0 f1 f3 f4 f5⟩
 self:=fun A i s Q E st h=>Se A i s Q E st h
noncomputable def Ke(tl:TE):TI:=fun σ H R=>tl σ H fun v H1=>∃ x,v=.str x /\ R (Its x) H1
theorem Lj{X:Cx}{tg:Expr}{l:Expr}{tl:TE}(hl:PE X l tl):PI X tg l (Ke tl):=by
 intro pins s σ H R I h
 refine thn (hl pins s σ H _ I h) fun v s1 ⟨y,H1,I1,r1,q1⟩=>?_
 obtain⟨x,e,q⟩:=q1;subst e;obtain⟨t,rfl⟩:=r1
 have hf:∀ b∈[s1.heap.objs.size],m4 X pins H1 b:=fun b hb=>by
  have e:b=s1.heap.objs.size:=by simpa using hb
  subst e;exact I1.AE (Nat.le_refl _) (I1.hok.fresh (Nat.le_refl _))
 cases ha:x.cps.all (·<128)with
 | false=>
   exact wpAny_pyIter_wide ha ⟨s1.heap.objs.size,[s1.heap.objs.size],_,_,H1,rfl,I1.kept (t':=s1.toks) fun b o e=>Heap.get?_push_of_some _ e,
    Ar (by decide) (fun A' hA=>Walks.strWide hA _ x t) (fun A s i Q E hA st hx hQ=>wpAny_pyNext_wide_end hA st hx hQ) (fun A i s Q E st h=>wpAny_pyIter_striter_wide st h),⟨_,Heap.get?_push_size _ rfl,rfl,rfl⟩,hf,q⟩
 | true=>
   exact wpAny_pyIter_ascii ha ⟨s1.heap.objs.size,[s1.heap.objs.size],_,_,H1,rfl,I1.kept (t':=s1.toks) fun b o e=>Heap.get?_push_of_some _ e,
    Ar (by decide) (fun A' hA=>Walks.strAscii hA _ x t) (fun A s i Q E hA st hx hQ=>wpAny_pyNext_ascii_end hA st hx hQ) (fun A i s Q E st h=>wpAny_pyIter_striter_ascii st h),⟨_,Heap.get?_push_size _ rfl,rfl,rfl⟩,hf,q⟩
end L2
theorem L2.E.boot_ord:PySem.bootBuiltins "ord" = some (.builtin "ord"):=by decide +kernel
namespace L2.P
open PySem PySem.Spec PyProof.Rows L2 L2.E
theorem FA{X:L2.Cx}{tg l:Expr}{tl:TE}(h:QE X l tl):QI X tg l (Ke tl):=⟨Lj h.out⟩
section
variable{K:PySem.W.Frag}{cls:String->Option Addr}{W:XW}{Av G S₀ S S' H H' B B':Hp}{ρ:ag}{σ:St}{Q:VK}{F:Nat->List Addr}
theorem y4{tl te:TE}{ml me:ag->OE}{ι:List Nat}(hι:ι.Nodup)(hl:JE K cls W tl ml)(he:JE K cls (fun _ _ _ _=>False) te me):JE K cls W (ux (Ke tl) ι te) (o4 ml ι me):=by
 intro Av G S₀ ρ σ S H Q I p
 refine hl.go I p fun r v S1 H1 I1 w1 r1 p1=>?_
 have ra:=r1.rd I1.sh
 cases e:r.pv with
 | str x=>
   rw[e]at p1 ra;have hv:=jx ra;subst hv
   refine⟨x,rfl,?_⟩
   dsimp only at p1
   cases em:dh me (dk ι ρ) (yO x)with
   |exc c fs=>rw[em]at p1;exact p1.elim
   |bad=>rw[em]at p1;exact p1.elim
   | ok ys=>
     rw[em]at p1;simp only[noX]at p1;split at p1
     . rename_i hlen
       have hcl:(yO x).length=x.cps.size:=by simp[yO]
       refine p8 hι he I1 em hlen (fun k H' y g hx=>?_) (fun H' g=>by show x.cps.size<=(yO x).length;rw[hcl];exact Nat.le_refl _) fun D S' H' w nD sD ⟨us,hD,rr⟩=>p1 (.ref D) S' H' w ⟨D,us,rfl,nD,sD,hD,rr⟩
       have hk:k<x.cps.size:=by rw[<- hcl];exact(List.getElem?_eq_some_iff.mp hx).1
       refine⟨hk,?_⟩
       rintro v' H2 ⟨rfl,c,hc,rfl⟩
       refine⟨rfl,?_⟩
       have hy:y=.str ⟨#[c]⟩:=by
        unfold yO at hx
        simp_all
       subst hy;rfl
     . exact p1.elim
 |_=>rw[e]at p1;exact p1.elim
theorem Lc:JU K (fun xs H Q=>∃ x,xs=[.str x] /\ x.length=1 /\ Q (.int (x.cps.getD 0 0:Nat)) H) EN:=by
 intro S H x v rr Q I hx e k
 cases x with
 | str x=>
   by_cases hl:x.length=1
   . have e':EN (.str x)=some (.sh (.int (x.cps.getD 0 0:Nat))):=if_pos hl
     rw[e']at e;cases e
     exact⟨x,by rw[jx hx],hl,k _ S H (bq.refl I) (by show Rep K S _ _;rfl)⟩
   . have e':EN (.str x)=none:=if_neg hl
     simp_all
 |_=>cases e
theorem F7:JU K (fun xs H Q=>∃ i:Int,xs=[.int i] /\ i.natAbs.log2<1920 /\ Q (.str (toString i)) H) o1:=by
 intro S H x v rr Q I hx e k
 cases x with
 | int i=>
   by_cases hl:i.natAbs.log2<1920
   . have e':o1 (.int i)=some (.sh (.str (toString i))):=if_pos hl
     rw[e']at e;cases e
     exact⟨i,by rw[dD hx],hl,k _ S H (bq.refl I) (by show Rep K S _ _;rfl)⟩
   . have e':o1 (.int i)=none:=if_neg hl
     simp_all
 |_=>cases e
end
end L2.P
namespace HT
open PySem PyProof.Rows
end HT
namespace L2
open PySem PySem.Spec PyProof.Rows
end L2
namespace L2.P
open PySem PySem.Spec PyProof.Rows L2 L2.E
end L2.P
namespace HT
open PySem PyProof.Rows
open AutoSeq1 (wpAny_loadPart')
end HT
namespace L2
open PySem PySem.Spec PyProof.Rows
end L2
namespace L2.P
open PySem PySem.Spec PyProof.Rows L2 L2.E
end L2.P
namespace L2.P
open PySem
noncomputable def MI(kvs:List (Int×PV))(a b:RV):OE:=match a.pv,b with
 |.int n,.sh d=>.ok (.sh ((kvs.lookup n).getD d))
 |_,_=>.bad
noncomputable def Jv(kvs:List (Int×Int)):ag->OD:=fun _=>.ok (.di (kvs.map fun p=>(p.1,.int p.2)))
noncomputable def zr(neg:Bool)(me:ag->OE)(i:Nat)(mp:MP):ag->OE:=fun ρ=>(me ρ).bind fun r=>match r.pv with
 | .int n=>(match subAt i mp ρ with
   |some (.di kvs)=>.ok (.sh (.bl (if neg then !(kvs.lookup n).isSome else(kvs.lookup n).isSome)))
   |_=>.bad)
 |_=>.bad
noncomputable def Cc(i:Nat)(mp:MP)(me:ag->OE):ag->OE:=fun ρ=>match subAt i mp ρ with
 | some (.di kvs)=>(me ρ).bind fun r=>(match r.pv with
   |.int n=>oE ((kvs.lookup n).map .sh)
   |_=>.bad)
 |_=>.bad
noncomputable def F4:ag->OS:=fun _=>.bad
noncomputable def BN:PV->Option RV
 | .str x=>(match x.cps.toList with
   |[c]=>if 48<=c /\ c<=57 then some (.sh (.int ((c:Int) - 48)))else none
   |_=>none)
 |_=>none
noncomputable def dH(i:Nat)(mp:MP)(me:ag->OE):ag->OS:=fun ρ=>uf i mp ρ fun u put=>match u with
 | .ol ts=>(me ρ).cX ρ fun r=>(match r with
   |.fr ys=>if ts.length+ys.length<=lim then .nx (put (.ol (ts++ys.map .sh)))else .bad
   |.sh (.lst ys)=>if ts.length+ys.length<=lim then .nx (put (.ol (ts++ys.map .sh)))else .bad
   |_=>.bad)
 |_=>.bad
end L2.P
namespace L2
open PySem PySem.Spec PyProof.Rows
end L2
namespace L2.E
open PySem PySem.Spec PyProof.Rows L2
section
variable{X:Cx}
noncomputable def IA:TS:=fun _ _ _=>False
theorem HU{e:Stmt}:QS X e IA:=⟨fun _ _ _ _ _ _ h=>h.elim⟩
end
end L2.E
namespace L2.P
open PySem PySem.Spec PyProof.Rows L2 L2.E
section
variable{K:PySem.W.Frag}{cls:String->Option Addr}{W:XW}{S:Hp}
theorem bw.reverse{xs:List PV}{vs:List V}(h:bw K S xs vs):bw K S xs.reverse vs.reverse:=by
 induction xs generalizing vs with
 |nil=>rw[h.nil_inv];exact .nil
 | cons x xs ih=>
   obtain⟨v,r,rfl,q,h'⟩:=h.cons_inv;rw[List.reverse_cons,List.reverse_cons]
   exact(ih h').append (.cons q .nil)
theorem Hw:JS K cls W IA F4:=fun _ _ _ _ _ _ _ _ _ p=>p
end
end L2.P
namespace L2.E
open PySem PySem.Spec PyProof.Rows L2
section
variable{X:Cx}{o i:Expr}{td ty:TE}{pos:Pos}
theorem KL(hu:X.A.units+1<cLine)(hi:QE X i ty)(ho:QE X o td)(h1:behindInMarks .In o=false:=by first|exact An _ (by decide) (by decide)|rfl):QT X (.Compare i [.In] [o] pos) (tB (Ko ty td)):=⟨JJ (Lk hu hi.out ho.out) h1⟩
theorem Hx(hu:X.A.units+1<cLine)(ho:QE X o td)(hi:QE X i ty)(hs:KO i):QE X (.Subscript o i pos) (DY td ty):=⟨HF hu ho.out hi.out hs⟩
structure QPs(X:Cx)(pos:Pos)(keys:List (Option Expr))(values:List Expr)(trs:List (TE×TE)):Prop where
 out:PPs X pos keys values trs
theorem GA:QPs X pos [] [] []:=⟨HC⟩
theorem kg{ks:List (Option Expr)}{trs:List (TE×TE)}(hk:QE X k tk)(hv:QE X v tv)(hr:QPs X pos ks vs trs):QPs X pos (some k ::ks) (v ::vs) ((tk,tv) ::trs):=⟨FY hk.out hv.out hr.out⟩
theorem Ig{keys:List (Option Expr)}{values:List Expr}{trs:List (TE×TE)}(h:QPs X pos keys values trs)(hall:keys.all (·.isSome)=true:=by rfl)(hl:keys.length=values.length:=by rfl)(h0:keys≠[]:=by intro z;cases z)(h15:keys.length<=15:=by decide):QE X (.Dict keys values pos) (En trs):=⟨G5 h.out hall hl h0 h15⟩
end
end L2.E
namespace L2.P
open PySem PySem.Spec PyProof.Rows L2 L2.E
section
variable{K:PySem.W.Frag}{cls:String->Option Addr}{W:XW}{S H:Hp}
theorem Au(kvs:List (Int×Int))(σ:St):∀(H:Hp) (R:List (V×V)->Hp->Prop),R (kvs.map fun p=>(.int p.1,.int p.2)) H->xH (kvs.map fun p=>(tC (.int p.1),tC (.int p.2))) σ H R:=by
 induction kvs with
 |nil=>intro H R h;exact h
 |cons p kvs ih=>intro H R h;exact ih H _ h
theorem CZ(more:List (Key×V)):∀ kvs:List (Key×V),((kvs++more).map (·.1)).Nodup->pI kvs more=kvs++more:=by
 induction more with
 |nil=>intro kvs _;simp[pI]
 | cons p more ih=>
   intro kvs h
   have hn:oe kvs p.1=none:=by
    unfold oe
    grind
   show pI (putK kvs p.1 p.2) more=_;rw[EW _ hn,ih _ (by simpa using h)];simp
theorem KW{kvs:List (Int×Int)}(nd:(kvs.map (·.1)).Nodup)(h15:kvs.length<=15):JD K cls W (En (kvs.map fun p=>(tC (.int p.1),tC (.int p.2)))) (Jv kvs):=by
 intro Av G S₀ ρ σ S H Q I p;intro q hq;refine Au kvs σ _ _ ⟨bP,kvs.map fun p=>(Sum.inl p.1,V.int p.2),by simp[kV],by simpa using h15,?_⟩
 rw[He,CZ _ [] (by
  rw[List.nil_append,List.map_map]
  have:((fun x:Key×V=>x.1) ∘ fun p:Int×Int=>((Sum.inl p.1:Key),V.int p.2))=(fun k:Int=>(Sum.inl k:Key)) ∘ fun p:Int×Int=>p.1:=rfl
  rw[this,<- List.map_map]
  exact List.pairwise_map.mpr (List.Pairwise.imp (fun h z=>h (Sum.inl.inj z)) nd)),List.nil_append]
 refine p (.ref q) S _ (bq.heap I.sh hq) ⟨[q],?_,by simp,fun a ha=>?_⟩
 . unfold bU
   refine⟨q,_,rfl,bP,rfl,?_⟩
   clear nd h15 p
   induction kvs with
   |nil=>exact .nil
   |cons x kvs ih=>exact .cons ⟨rfl,by unfold Rep;rfl⟩ ih
 . have z:a=q:=by simpa using ha
   subst z
   exact⟨hq,I.sh.free hq⟩
theorem tE.look{kvs:List (Int×PV)}{us:List (Key×V)}(h:tE K S kvs us)(n:Int):match kvs.lookup n with
  |some x=>∃ v,oe us (Sum.inl n:Key)=some v /\ Rep K S x v
  |none=>oe us (Sum.inl n:Key)=none:=by
 induction h with
 |nil=>rfl
 | @cons p q ps qs h t ih=>
   obtain⟨h1,h2⟩:=h;obtain⟨k,x⟩:=p;obtain⟨k',v⟩:=q;subst h1
   by_cases hm:n=k
   . subst hm;simp[oe];exact h2
   . have hb:(n==k)=false:=by simpa using hm
     have hd:decide ((Sum.inl k:Key)=Sum.inl n)=false:=decide_eq_false fun z=>hm (Sum.inl.inj z).symm
     simp only[List.lookup,hb]
     have e:oe ((Sum.inl k,v) ::qs) (Sum.inl n:Key)=oe qs (Sum.inl n):=by
      unfold oe
      simp_all
     simp_all
theorem tE.Gn{kvs:List (Int×PV)}{us:List (Key×V)}(h:tE K S kvs us)(n:Int):(oe us (Sum.inl n:Key)).isSome=(kvs.lookup n).isSome:=by
 have:=h.look n
 grind
theorem Hl{ma:ag->OE}(ha:JE K cls W ta ma)(hp:JP K cls td i mp):JE K cls W (Ko ta td) (zr false ma i mp):=by
 intro Av G S₀ ρ σ S H Q I p
 refine ha.go I p fun a v S1 H1 I1 w1 r1 p1=>?_
 have ra:=r1.rd I1.sh
 cases e:a.pv with
 | int n=>
   rw[e]at p1 ra
   dsimp only at p1
   split at p1
   . rename_i kvs es
     refine hp.sub I1 es fun w S2 H2 f w2 _ r=>?_
     obtain⟨q,us,rfl,hq,_,hd⟩:=r;have hv:=dD ra;subst hv
     refine⟨q,_,rfl,xS.k (k:=Sum.inl n) hq,?_⟩
     rw[hd.Gn n];exact p1 _ S2 H2 w2 pf
   . exact p1.elim
 |_=>rw[e]at p1;exact p1.elim
theorem GV{ma:ag->OE}(hp:JP K cls td i mp)(ha:JE K cls W ta ma):JE K cls W (DY td ta) (Cc i mp ma):=by
 intro Av G S₀ ρ σ S H Q I p;unfold Cc at p;split at p
 . rename_i kvs es
   refine hp.sub I es fun w S2 H2 f w2 I2 r=>?_
   refine ha.go I2 (p.back w2) fun a v S1 H1 I1 w1 r1 p1=>?_
   have ra:=r1.rd I1.sh
   have r':=r.mono w1.s fun a _ o z=>w1.g _ _ z
   obtain⟨q,us,rfl,hq,_,hd⟩:=r'
   cases e:a.pv with
   | int n=>
     rw[e]at p1 ra
     dsimp only at p1
     have hv:=dD ra;subst hv;have hl:=hd.look n
     cases el:kvs.lookup n with
     |none=>rw[el]at p1;exact p1.elim
     | some x=>
       rw[el]at p1 hl;obtain⟨u,eu,ru⟩:=hl
       refine⟨q,u,rfl,by have:=xS.k (k:=(Sum.inl n:Key)) hq;rw[eu]at this;exact this,p1 u S1 H1 (bq.refl I1.sh) ru⟩
   |_=>rw[e]at p1;exact p1.elim
 . exact p.elim
end
end L2.P
namespace L2.E
open PySem PySem.Spec PyProof.Rows L2
end L2.E
namespace L2.P
open PySem PySem.Spec PyProof.Rows L2 L2.E
end L2.P
namespace L2.E
open PySem PySem.Spec PyProof.Rows L2
theorem DF{X:Cx}:oI X (.type "int") (fun xs H Q=>∃ x n,xs=[.str x] /\ PySem.intText? x=some n /\ x.length<=640 /\ Q (.int n) H):=by
 intro pins s σ H xs us Q I r h;obtain⟨x,n,rfl,h1,h2,q⟩:=h;obtain⟨u,rfl,t,rfl⟩:=vals1 r;exact PySem.W.KIN.call_text h1 h2 ⟨.int n,H,I.tok _,⟨_,rfl⟩,q⟩
theorem AG{x:Str}{c:Nat}(h:x.cps.toList=[c])(h1:48<=c)(h2:c<=57):PySem.intText? x=some ((c:Int) - 48) /\ x.length<=640:=by
 have e:x=⟨#[c]⟩:=by
  cases x with
  | mk a=>cases a with
    |mk l=>simp at h;subst h;rfl
 subst e
 have hc:c=48 \/ c=49 \/ c=50 \/ c=51 \/ c=52 \/ c=53 \/ c=54 \/ c=55 \/ c=56 \/ c=57:=by omega
 rcases hc with rfl|rfl|rfl|rfl|rfl|rfl|rfl|rfl|rfl|rfl<;>decide +kernel
end L2.E
namespace L2.P
open PySem PySem.Spec PyProof.Rows L2 L2.E
theorem HP{K:PySem.W.Frag}:JU K (fun xs H Q=>∃ x n,xs=[.str x] /\ PySem.intText? x=some n /\ x.length<=640 /\ Q (.int n) H) BN:=by
 intro S H x v rr Q sh r e k
 cases x with
 | str z=>
   have hv:v=.str z:=by have r':Rep K S (.str z) v:=r;exact r'
   subst hv;unfold BN at e
   dsimp only at e
   split at e
   . rename_i c hc;split at e
     . rename_i h;cases e;obtain⟨h1,h2⟩:=AG hc h.1 h.2
       exact⟨z,_,rfl,h1,h2,k _ S H (bq.refl sh) (by show Rep K S _ _;rfl)⟩
     . grind
   . grind
 |_=>cases e
end L2.P
namespace L2.E
open PySem PySem.Spec PyProof.Rows L2
theorem yC(l:Addr)(items:Array Value)(n:Nat)(b:Addr)(items2:Array Value)(n2:Nat)(dd2:Option Addr)(sl2:Array (Option Value))(hc0:¬(!items.isEmpty&&Builtin.List.listTooLong (items.size+items2.size))=true)(hc1:items.size<=sizeLine)(hs2:items.size+items2.size<=sizeLine+1):
  Meets (Builtin.«list.extend» ⟨[.ref l,.ref b],[]⟩) (fun _ R s=>s.heap.get? l=some { cls:=.type "list",dict:=none,data:=.seq items n,slots:=#[] } /\ s.heap.get? b=some { cls:=.type "list",dict:=dd2,data:=.seq items2 n2,slots:=sl2 } /\ R (.ok (.ret Value.none)) { s with heap:=s.heap.update l (Obj.mapSeq fun x=>x++items2),toks:=s.toks }):=
 .of_wp fun prog w A R s h=>by
  obtain⟨hp,g,d,tk,os⟩:=s;obtain⟨hl,hb,h⟩:=h
  have hz':(items++items2).size<=sizeLine+1:=by rw[Array.size_append];exact hs2
  wp_walk using (wpAny_updateSeq hl rfl (_hz':=hz')),wpAny_loadPart' hl,wpAny_loadPart' hb;exact⟨_,rfl,h⟩
noncomputable def ze(K:PySem.W.Frag):V->List V->Hp->VK->Prop:=fun x vs H Q=>∃ l b xs zs,x=.ref l /\ vs=[.ref b] /\ H l=some (.lst xs) /\ SqL K H b zs /\ xs.length+zs.length<=sizeLine /\ Q .non (upd H l (.lst (xs++zs)))
theorem fP{X:Cx}:MtM X "list.extend" (ze X.K):=by
 intro pins s σ H x vs v us Q I rx rv h;obtain⟨l,b,xs,zs,rfl,rfl,hH,hB,hz,q⟩:=h;cases rx;obtain⟨u,rfl,ru⟩:=rv.one;cases ru;obtain⟨z,its,n,r,hl,e⟩:=I.FO hH;obtain⟨its2,r2,pl2,z2⟩:=I.list hB;obtain⟨⟨cls2,dd2,data2,sl2⟩,ho2,hc2,n2,hd2⟩:=pl2.isList;subst hc2 hd2;have hl2:=r2.length
 have hsz:its.toArray.size+its2.toArray.size<=sizeLine:=by rw[List.size_toArray,List.size_toArray];omega
 have hlong:¬ (!its.toArray.isEmpty&&Builtin.List.listTooLong (its.toArray.size+its2.toArray.size))=true:=by
  rw[Ac hsz,Bool.and_false];simp
 refine call_meets F.slot_list_extend ⟨_,e,rfl⟩ F.entry_list_extend (F.args_list_extend_2 _ _)
  (yC l its.toArray n b its2.toArray n2 dd2 sl2 hlong (by rw[List.size_toArray];omega) (by omega)) ⟨e,ho2,?_⟩
 refine⟨.non,_,I.Fl (its':=its++its2) hH e (by simp) (r.append r2) ?_,rfl,q⟩
 simp_all
end L2.E
namespace L2.P
open PySem PySem.Spec PyProof.Rows L2 L2.E
section
variable{K:PySem.W.Frag}{cls:String->Option Addr}{W:XW}{Av G S₀ S S' H H' B B':Hp}{ρ:ag}{σ:St}{Q:VK}{F:Nat->List Addr}
theorem fU{i:Nat}{te tx:TE}{mp:MP}{me:ag->OE}(hp:JP K cls te i mp)(hx:JE K cls W tx me):JS K cls W (sQ (tBM K "list" (ze K) te (iX tx kO))) (dH i mp me):=by
 intro Av G S₀ ρ σ S H D I p;obtain⟨io,t,π,u,hi,e0,e1,p⟩:=oS p;obtain⟨v0,hv⟩:=I.val hi
 cases u with
 |sh x=>exact p.elim
 |ob c ks us=>exact p.elim
 |di x=>exact p.elim
 |dt x=>exact p.elim
 | ol ts=>
   refine hp.at I hi hv e0 e1 fun w S1 H1 w1 I1 wk=>?_
   have p1:=p.back w1.s;obtain⟨F,J1⟩:=id I1;obtain⟨q,vs,ff,rest,wk',hq,hl,rs,_,nd,c⟩:=J1.r6 hi hv e1;have:=wk.inj wk';subst this
   refine⟨.inl ⟨rfl,_,SqL.new hq⟩,?_⟩
   refine hx.goS I1 p1 fun r v S2 H2 I2 w2 r2 p2=>?_
   have ndf:ff.Nodup:=(List.nodup_cons.mp (List.nodup_append.mp nd).1).2
   cases r with
   |al ys=>exact p2.elim
   | sh x=>
     cases x with
     | lst ys=>
       dsimp only at p2
       split at p2
       . rename_i hlt;have r3:=r2;obtain⟨b,us,rfl,k3,k4⟩:=r3
         refine⟨q,b,vs,us,rfl,rfl,w2.g _ _ hq,aK.seq w2.sh k3,by rw[hl,k4.length];exact hlt,?_⟩
         obtain⟨g,J3,_⟩:=c S2 H2 (ts++ys.map .sh) (vs++us) (ff++[]) w2 ((rs.mono w2.s fun a _ o h=>w2.g _ _ h).append (.shs k4)) (by rw[List.append_nil];exact ndf) fun a ha=>.inl (by simpa using ha)
         exact p2 σ S2 _ ⟨_,J3⟩ (aK.refl _)
       . exact p2.elim
     |_=>exact p2.elim
   | fr ys=>
     dsimp only at p2
     split at p2
     . rename_i hlt;obtain⟨b,us,rfl,k1,k2,k3,k4⟩:=r2
       refine⟨q,b,vs,us,rfl,rfl,w2.g _ _ hq,SqL.new k3,by rw[hl,k4.length];exact hlt,?_⟩
       obtain⟨g,J3,_⟩:=c S2 H2 (ts++ys.map .sh) (vs++us) (ff++[]) w2 ((rs.mono w2.s fun a _ o h=>w2.g _ _ h).append (.shs k4)) (by rw[List.append_nil];exact ndf) fun a ha=>.inl (by simpa using ha)
       exact p2 σ S2 _ ⟨_,J3⟩ (aK.refl _)
     . exact p2.elim
end
end L2.P
namespace L2.E
open PySem PySem.Spec PyProof.Rows L2
theorem eK{N P:List Str}{sc:Scope}(a:sc.kind=.function:=by rfl)(b:sc.isCoroutine=false:=by rfl)(c:sc.isGenerator=false:=by rfl)(d:N.Nodup:=by decide +kernel)(e:N.take P.length=P:=by rfl)
  (f:∀ x∈P,sc.names.lookup x=some .local \/ sc.names.lookup x=some .cell:=by decide +kernel) (g:∀ y∈sc.names,y.2≠.free:=by decide +kernel):aW N P sc:=⟨a,b,c,d,e,f,g⟩
structure Ent(K:PySem.W.Frag)(mg:Str->Option Value)(x:Str)(st:Stmt)(f:Addr)(d:FuncData)(ps:List Str):Prop where
 F:Fun K x x st f d
 m:mg x=some (.ref f)
 b:Binds K d ps []
structure Fd(K:PySem.W.Frag)(x:Str)(st:Stmt)(f:Addr)(d:FuncData):Prop where
 a:PySem.W.nsIn K mainGlobals x=some (some (.ref f))
 F:Fun K x x st f d
section
variable{K:PySem.W.Frag}{mg:Str->Option Value}{h:Heap}{x:Str}{st:Stmt}{f:Addr}{d:FuncData}
theorem cV{oc:Value}{od an:Option Addr}{osl:Array (Option Value)}{kV doc pm cdv ct:Value}(a:PySem.W.nsIn K mainGlobals x=some (some (.ref f)))
  (l:K.lookup f=some ⟨oc,od,.func (PySem.W.fnOf x x (eR st) (dF st) (aC st) .none kV doc pm an cdv ct),osl⟩) (c:PySem.W.codeIn K cdv x=true) (k:PySem.W.keepIn K (.ref f)=true):
  Fd K x st f (PySem.W.fnOf x x (eR st) (dF st) (aC st) .none kV doc pm an cdv ct):=⟨a,lr l c k⟩
theorem Fd.e{ps:List Str}(H:Fd K x st f d)(X:K.In h)(G:h.Ns mainGlobals mg)
  (hb:∀(kV doc pm:Value) (an:Option Addr) (cdv ct:Value) (us:List Value),us.length=ps.length->bindArgs (PySem.W.fnOf x x (eR st) (dF st) (aC st) .none kV doc pm an cdv ct) ⟨us,[]⟩=pure (ps.zip us)):Ent K mg x st f d ps:=⟨H.F,PySem.W.mg_of X G H.a,H.F.binds hb⟩
theorem Fd.e0(H:Fd K x st f d)(X:K.In h)(G:h.Ns mainGlobals mg)
  (hb:∀(kV doc pm:Value) (an:Option Addr) (cdv ct:Value),bindArgs (PySem.W.fnOf x x (eR st) (dF st) (aC st) .none kV doc pm an cdv ct) ⟨[],[]⟩=pure []:=by intros;rfl):Ent K mg x st f d []:=
 H.e X G fun p q r s t u us hl=>match us,hl with|[],_=>hb p q r s t u
theorem Fd.e1{a:Str}(H:Fd K x st f d)(X:K.In h)(G:h.Ns mainGlobals mg)
  (hb:∀(kV doc pm:Value) (an:Option Addr) (cdv ct i:Value),bindArgs (PySem.W.fnOf x x (eR st) (dF st) (aC st) .none kV doc pm an cdv ct) ⟨[i],[]⟩=pure [(a,i)]:=by intros;rfl):Ent K mg x st f d [a]:=
 H.e X G fun p q r s t u us hl=>match us,hl with|[_],_=>hb p q r s t u _
theorem Fd.e2{a b:Str}(H:Fd K x st f d)(X:K.In h)(G:h.Ns mainGlobals mg)
  (hb:∀(kV doc pm:Value) (an:Option Addr) (cdv ct i j:Value),bindArgs (PySem.W.fnOf x x (eR st) (dF st) (aC st) .none kV doc pm an cdv ct) ⟨[i,j],[]⟩=pure [(a,i),(b,j)]:=by intros;rfl):Ent K mg x st f d [a,b]:=
 H.e X G fun p q r s t u us hl=>match us,hl with|[_,_],_=>hb p q r s t u _ _
theorem Fd.e3{a b c:Str}(H:Fd K x st f d)(X:K.In h)(G:h.Ns mainGlobals mg)
  (hb:∀(kV doc pm:Value) (an:Option Addr) (cdv ct i j k:Value),bindArgs (PySem.W.fnOf x x (eR st) (dF st) (aC st) .none kV doc pm an cdv ct) ⟨[i,j,k],[]⟩=pure [(a,i),(b,j),(c,k)]:=by intros;rfl):Ent K mg x st f d [a,b,c]:=
 H.e X G fun p q r s t u us hl=>match us,hl with|[_,_,_],_=>hb p q r s t u _ _ _
theorem Fd.e5{a b c e g:Str}(H:Fd K x st f d)(X:K.In h)(G:h.Ns mainGlobals mg)
  (hb:∀(kV doc pm:Value) (an:Option Addr) (cdv ct i j k l m:Value),bindArgs (PySem.W.fnOf x x (eR st) (dF st) (aC st) .none kV doc pm an cdv ct) ⟨[i,j,k,l,m],[]⟩=pure [(a,i),(b,j),(c,k),(e,l),(g,m)]:=by intros;rfl):Ent K mg x st f d [a,b,c,e,g]:=
 H.e X G fun p q r s t u us hl=>match us,hl with|[_,_,_,_,_],_=>hb p q r s t u _ _ _ _ _
end
theorem qz{X:Cx}{pos:Pos}(i:Nat)(h7:X.N.Nodup)(h10:QE X e te)(h8:X.N[i]?=some x:=by rfl)(h9:Loc X.env.scope x:=by first|exact Or.inl rfl|exact Or.inr rfl)
  (h11:autoParam (swapsWith e (some (.Name x pos')) pos.line X.env=pure false) L2.qau._auto_1) (h12:autoParam (X.fn x=true \/ X.env.scope.names.lookup x=some .local) L2.qau._auto_1):QS X (.Assign [.Name x pos'] e pos) (tH te (j8 i)):=Lh h7 h8 h9 h10 h11 h12
theorem qx{X:Cx}{j k:Nat}{f:Addr}{fd:FuncData}{ps:List Str}{sp:Sp}{W:XW}{x:Str}{st:Stmt}{p pos:Pos}{e:Expr}{es:List Expr}{t:TA}(h15:cq X.prog X.w X.K X.mg X.base (CXE X.prog X.w) j f fd ps sp)(E:Ent X.K X.mg x st f fd ps)(h16:ik k X.A)(h22:Thr X W)(h23:QA X (e ::es) t)
  (hj:j<=k:=by decide) (h17:Gl X x:=by rfl) (h24:autoParam ((x==Str.ofString "__debug__")=false) L2.qau._auto_1) (h25:autoParam (starEach (e ::es) X.env=(false,eval e X.env) ::starEach es X.env) L2.qau._auto_1) (h26:autoParam (((backTo pos (starEach es X.env)).any fun x=>x.1)=false) L2.qau._auto_1):
  QE X (.Call (.Name x p) (e ::es) [] pos) (rB sp [] W t):=EB (h15.mono hj) h16 h17 E.m E.F.kp E.b .nil h22 h23 h24 h25 h26
theorem qh{X:Cx}(h11:X.mg "len" = none)(h:QE X e te)(h10:Gl X "len":=by rfl)(hs:isStar e=false:=by rfl)(h16:autoParam (starEach [e] X.env=(false,eval e X.env) ::starEach [] X.env) L2.qau._auto_1)(h17:autoParam (((backTo pos (starEach [] X.env)).any fun x=>x.1)=false) L2.qau._auto_1):
  QE X (.Call (.Name "len" p) [e] [] pos) (tCB (fun xs H Q=>∃ p ys,xs=[.ref p] /\ (SqL X.K H p ys \/ SqT X.K H p ys) /\ Q (.int ys.length) H) (iX te kO)):=jv xJ h10 h11 boot_len (aa h av hs) (by decide) (by decide) h16 h17
theorem qi(h7:IxR X r)(h8:QE X a ta)(h9:QE X b tb)(h10:yd b:=by exact fun _ _=>rfl):QE X (.Subscript a b pos) (tOp r ta tb):=My h7 h8 h9 h10
theorem bu(h8:OpR X (compareOp op) r)(h9:QE X a ta)(h10:QE X b tb)(h11:behindInMarks op b=false:=by exact jE _):QT X (.Compare a [op] [b] pos) (xc (tOp r ta tb)):=iC h8 h9 h10 h11
theorem qap{X:Cx}{apos cpos pos:Pos}{r:V->List V->Hp->VK->Prop}(h15:MtR X "list.append" r)(h16:QE X o to)(h:QE X e te)(hs:isStar e=false:=by rfl)
  (h18:autoParam (attributeBase o "append" X.env (eval o X.env)=eval o X.env) L2.qau._auto_1) (h19:autoParam (((((backTo cpos (starEach [e] X.env)).all fun x=>!x.1)&&(backToKw cpos (keywordEach [] X.env)).all fun x=>x.1.isSome)&&decide (([e].length+([]:List Keyword).length+if([]:List Keyword).isEmpty=true then 0 else 1)<30))=true) L2.qau._auto_1)
  (h20:autoParam ((apos.endLine==cpos.line)=true) L2.qau._auto_1) (h21:autoParam (starEach [e] X.env=(false,eval e X.env) ::starEach [] X.env) L2.qau._auto_1) (h22:autoParam (((backTo cpos (starEach [] X.env)).any fun x=>x.1)=false) L2.qau._auto_1) (h5:autoParam (swapsWith (.Call (.Attribute o "append" apos) [e] [] cpos) none pos.line X.env=pure false) L2.qau._auto_1):
  QS X (.Expr (.Call (.Attribute o "append" apos) [e] [] cpos) pos) (sQ (tBM X.K "list" r to (iX te kO))):=yA (IK PySem.F.plainAttrs_list PySem.F.slot_list_append PySem.F.type_list_append h15 h16 (aa h av hs) h18 h19 h20 h21 h22) h5
theorem qex{X:Cx}{apos cpos pos:Pos}{r:V->List V->Hp->VK->Prop}(h15:MtR X "list.extend" r)(h16:QE X o to)(h:QE X e te)(hs:isStar e=false:=by rfl)
  (h18:autoParam (attributeBase o "extend" X.env (eval o X.env)=eval o X.env) L2.qau._auto_1) (h19:autoParam (((((backTo cpos (starEach [e] X.env)).all fun x=>!x.1)&&(backToKw cpos (keywordEach [] X.env)).all fun x=>x.1.isSome)&&decide (([e].length+([]:List Keyword).length+if([]:List Keyword).isEmpty=true then 0 else 1)<30))=true) L2.qau._auto_1)
  (h20:autoParam ((apos.endLine==cpos.line)=true) L2.qau._auto_1) (h21:autoParam (starEach [e] X.env=(false,eval e X.env) ::starEach [] X.env) L2.qau._auto_1) (h22:autoParam (((backTo cpos (starEach [] X.env)).any fun x=>x.1)=false) L2.qau._auto_1) (h5:autoParam (swapsWith (.Call (.Attribute o "extend" apos) [e] [] cpos) none pos.line X.env=pure false) L2.qau._auto_1):
  QS X (.Expr (.Call (.Attribute o "extend" apos) [e] [] cpos) pos) (sQ (tBM X.K "list" r to (iX te kO))):=yA (IK PySem.F.plainAttrs_list PySem.F.slot_list_extend PySem.F.type_list_extend h15 h16 (aa h av hs) h18 h19 h20 h21 h22) h5
end L2.E
namespace L2.P
open PySem PySem.Spec PyProof.Rows L2 L2.E
theorem jO{K:PySem.W.Frag}{cls:String->Option Addr}{mk:ag->OE}(h:JP K cls te i mp)(k:JE K cls (fun _ _ _ _=>False) tk mk):JP K cls (tOp (Gy K) te tk) i (pIx i mp mk):=L0 h k
end L2.P
namespace L2.P
open PySem
theorem OV.get_nil(t:OV):t.get []=some t:=by unfold OV.get;rfl
theorem OV.kR(t u:OV):t.put [] u=u:=by unfold OV.put;rfl
theorem OV.qZ{ts:List OV}{j:Nat}{u:OV}(h:ts[j]?=some u)(π:List Stp):(OV.ol ts).get (.ix j ::π)=u.get π:=by
 rw[OV.get];simp[OV.at1,h]
theorem OV.Bk{ts:List OV}{j:Nat}{u x:OV}(h:ts[j]?=some u)(π:List Stp):(OV.ol ts).put (.ix j ::π) x=.ol (ts.set j (u.put π x)):=by
 rw[OV.put];simp[OV.at1,h,OV.kF]
theorem bJ{ρ:ag}{i:Nat}{s:Sl}{t:OV}(h:ρ[i]?=some (some s))(hs:slT s=some t):fO i ρ=some t:=by
 unfold fO;rw[h];exact hs
theorem kM{ρ:ag}{i j:Nat}{ts:List OV}{mk:ag->OE}{r:RV}{k:Int}(h:fO i ρ=some (.ol ts))(hk:mk ρ=.ok r)(hr:r.pv=.int k)(hj:ixP ts.length k=some j):pIx i aI mk ρ=some [.ix j]:=by
 unfold pIx;rw[h];simp[aI,OV.get_nil,hk,hr,hj]
theorem yp{ρ:ag}{i j j2:Nat}{ts us:List OV}{mp:MP}{mk:ag->OE}{r:RV}{k:Int}(h:fO i ρ=some (.ol ts))(hp:mp ρ=some [.ix j])(hu:ts[j]?=some (.ol us))(hk:mk ρ=.ok r)(hr:r.pv=.int k)(hj:ixP us.length k=some j2):pIx i mp mk ρ=some [.ix j,.ix j2]:=by
 unfold pIx;rw[h,hp];simp[OV.qZ hu,OV.get_nil,hk,hr,hj]
theorem subAt_one{ρ:ag}{i j:Nat}{ts:List OV}{mp:MP}{u:OV}(h:fO i ρ=some (.ol ts))(hp:mp ρ=some [.ix j])(hu:ts[j]?=some u):subAt i mp ρ=some u:=by
 unfold subAt;rw[h,hp];simp[OV.qZ hu,OV.get_nil]
theorem tN{ρ:ag}{i j j2:Nat}{ts us:List OV}{mp:MP}{u:OV}(h:fO i ρ=some (.ol ts))(hp:mp ρ=some [.ix j,.ix j2])(hv:ts[j]?=some (.ol us))(hu:us[j2]?=some u):subAt i mp ρ=some u:=by
 unfold subAt;rw[h,hp];simp[OV.qZ hv,OV.qZ hu,OV.get_nil]
theorem iW{ρ:ag}{i:Nat}{t:OV}(h:fO i ρ=some t):subAt i aI ρ=some t:=by
 unfold subAt;rw[h];simp[aI,OV.get_nil]
theorem nL{ρ:ag}{i:Nat}{mp:MP}{x:PV}(h:subAt i mp ρ=some (.sh x)):cF i mp ρ=.ok (.sh x):=by unfold cF;rw[h]
theorem ve{ρ:ag}{i:Nat}{mp:MP}{ts:List OV}(h:subAt i mp ρ=some (.ol ts)):gb i mp ρ=.ok (.sh (.int ts.length)):=by unfold gb;rw[h]
theorem vj{ρ:ag}{i:Nat}{mp:MP}{ts:List OV}(h:subAt i mp ρ=some (.ol ts)):dv i mp ρ=.ok (!ts.isEmpty):=by unfold dv;rw[h]
theorem Hd{ρ:ag}{i:Nat}{io:Bool}{ts:List OV}{x:OV}(h:ρ[i]?=some (some (.tr io (.ol (ts++[x]))))):qO i aI ρ=.ok (ρ.set i (some (.tr io (.ol ts)))) (slO x):=by
 unfold qO;rw[h];simp[aI,OV.get_nil,OV.kR]
theorem u4{ρ:ag}{i:Nat}{io:Bool}{ts:List OV}{x:OV}{md:ag->OD}(h:ρ[i]?=some (some (.tr io (.ol ts))))(hd:md ρ=.ok x)(hl:ts.length<lim):b0 i aI md ρ=.nx (ρ.set i (some (.tr io (.ol (ts++[x]))))):=by
 unfold b0 uf;rw[h];simp only[aI,OV.get_nil,hd,hl,if_true,OV.kR]
theorem Cd{ρ:ag}{i j j2:Nat}{io:Bool}{ts us xs:List OV}{x:OV}{mp:MP}{md:ag->OD}(h:ρ[i]?=some (some (.tr io (.ol ts))))(hp:mp ρ=some [.ix j,.ix j2])(hv:ts[j]?=some (.ol us))(hu:us[j2]?=some (.ol xs))(hd:md ρ=.ok x)(hl:xs.length<lim):
  b0 i mp md ρ=.nx (ρ.set i (some (.tr io (.ol (ts.set j (.ol (us.set j2 (.ol (xs++[x]))))))))):=by
 unfold b0 uf;rw[h,hp];simp only[OV.qZ hv,OV.qZ hu,OV.get_nil,hd,hl,if_true,OV.Bk hv,OV.Bk hu,OV.kR]
theorem uO{ρ:ag}{i j j2:Nat}{io:Bool}{ts us:List OV}{x:OV}{mp:MP}{mk:ag->OE}{md:ag->OD}{r:RV}{k:Int}(h:ρ[i]?=some (some (.tr io (.ol ts))))(hp:mp ρ=some [.ix j])(hv:ts[j]?=some (.ol us))(hk:mk ρ=.ok r)(hr:r.pv=.int k)(hj:ixP us.length k=some j2)(hd:md ρ=.ok x):
  pC i mp mk md ρ=.nx (ρ.set i (some (.tr io (.ol (ts.set j (.ol (us.set j2 x))))))):=by
 unfold pC uf;rw[hd];rw[h,hp];simp only[OV.qZ hv,OV.get_nil,hk,ft,hr,hj,OV.Bk hv,OV.kR]
theorem EI{ρ:ag}{i:Nat}{io:Bool}{ts:List OV}{ys:List PV}{me:ag->OE}(h:ρ[i]?=some (some (.tr io (.ol ts))))(he:me ρ=.ok (.fr ys) \/ me ρ=.ok (.sh (.lst ys)))(hl:ts.length+ys.length<=lim):dH i aI me ρ=.nx (ρ.set i (some (.tr io (.ol (ts++ys.map .sh))))):=by
 unfold dH uf;rw[h]
 rcases he with he|he<;>simp only[aI,OV.get_nil,he,ft,hl,if_true,OV.kR]
theorem aY{m n:ag->OS}{ρ ρ':ag}(h:m ρ=.nx ρ'):aH m n ρ=n ρ':=by simp_all
theorem JW{m n:ag->OS}{ρ ρ':ag}{v:RV}(h:m ρ=.rt ρ' v):aH m n ρ=.rt ρ' v:=by simp_all
theorem p5(ρ:ag):aO ρ=.nx ρ:=rfl
theorem Fm{c:ag->OT}{a b:ag->OS}{ρ:ag}(h:c ρ=.ok true):bc c a b ρ=a ρ:=by simp_all
theorem AK{c:ag->OT}{a b:ag->OS}{ρ:ag}(h:c ρ=.ok false):bc c a b ρ=b ρ:=by simp_all
theorem p7{f:List PV->OE}{x y:PV}{r:RV}(h:f [x,y]=.ok r)(hr:∀ xs,r≠.al xs):aZ (br f (ak (ao 0) (ak (ao 1) aJ))) [some (.sh x),some (.sh y)]=.rt [some (.sh x),some (.sh y)] r:=by
 cases r with
 |al xs=>exact absurd rfl (hr xs)
 |sh z=>simp[h]
 |fr z=>simp[h]
theorem CV{f:List PV->OE}{x y:PV}{r:RV}(h:f [y]=.ok r)(hr:∀ xs,r≠.al xs):aZ (br f (ak (ao 1) aJ)) [some (.sh x),some (.sh y)]=.rt [some (.sh x),some (.sh y)] r:=by
 cases r with
 |al xs=>exact absurd rfl (hr xs)
 |sh z=>simp[h]
 |fr z=>simp[h]
theorem KG{ρ:ag}{r:RV}(hr:∀ xs,r≠.al xs):fin (.rt ρ r)=.ok r:=by
 cases r with
 |al xs=>exact absurd rfl (hr xs)
 |sh z=>rfl
 |fr z=>rfl
theorem sk{c:ag->OT}{a n:ag->OS}{ρ:ag}(h:c ρ=.ok false):aH (bc c a aO) n ρ=n ρ:=aY (Eq.trans (AK h) (p5 _))
theorem st{c:ag->OT}{a b n:ag->OS}{ρ ρ':ag}{r:RV}(h:c ρ=.ok true)(k:a ρ=.rt ρ' r):aH (bc c a b) n ρ=.rt ρ' r:=JW (Eq.trans (Fm h) k)
theorem kC{X:OS}{ρ:ag}{x:PV}(h:X=.rt ρ (.sh x)):fin X=.ok (.sh x):=by rw[h];rfl
noncomputable def tO(kvs:List (Str×PV))(a b:RV):OE:=match a.pv,b with
 |.str n,.sh x=>.ok (.sh ((kvs.lookup n).getD x))
 |_,_=>.bad
noncomputable def A3(kvs:List (Str×PV))(ma mb:ag->OE):ag->OE:=fun ρ=>(ma ρ).bind fun a=>(mb ρ).bind fun b=>tO kvs a b
@[simp] theorem Ms(kvs:List (Str×PV))(ma mb:ag->OE)(ρ:ag):A3 kvs ma mb ρ=(ma ρ).bind fun a=>(mb ρ).bind fun b=>tO kvs a b:=rfl
noncomputable def o7(i:Nat)(mp:MP)(me:ag->OE):ag->OS:=fun ρ=>uf i mp ρ fun u put=>match u with
 | .ol ts=>(me ρ).cX ρ fun r=>(match r with
   |.sh (.tup ys)=>if ts.length+ys.length<=lim then .nx (put (.ol (ts++ys.map .sh)))else .bad
   |_=>.bad)
 |_=>.bad
theorem ER{ρ:ag}{i:Nat}{io:Bool}{ts:List OV}{ys:List PV}{me:ag->OE}(h:ρ[i]?=some (some (.tr io (.ol ts))))(he:me ρ=.ok (.sh (.tup ys)))(hl:ts.length+ys.length<=lim):o7 i aI me ρ=.nx (ρ.set i (some (.tr io (.ol (ts++ys.map .sh))))):=by
 unfold o7 uf;rw[h];simp only[aI,OV.get_nil,he,ft,hl,if_true,OV.kR]
noncomputable def rN(i:Nat):ag->OS:=fun ρ=>match ρ[i]? with
 |some (some (.ow xs))=>.nx (ρ.set i (some (.ow xs.reverse)))
 |_=>.bad
end L2.P
namespace L2.E
open PySem PySem.Spec PyProof.Rows L2
noncomputable def MC(w:World)(p:Str×V)(e:DictEntry):Prop:=e.hash=hashStr w p.1 /\ (∃ t,e.key=.str p.1 t) /\ RelV p.2 e.val
noncomputable def DKT(w:World)(K:PySem.W.Frag)(d:Addr)(kvs:List (Str×V)):Prop:=(d==sysModules)=false /\ (kvs.map (·.1)).Nodup /\ ∃(es:List DictEntry) (ep:Nat),K.lookup d=some ⟨.type "dict",none,.dict es.toArray ep,#[]⟩ /\ Paired (MC w) kvs es
theorem wJ{prog:Program}{w:World}:∀{kvs:List (Str×V)} {es:List DictEntry},Paired (MC w) kvs es ->
  ∃ us:List (Str×Value),us.map (·.1)=kvs.map (·.1) /\ Pairs (strKind prog w) es us /\ (∀ e∈es,∃ k,(strKind prog w).is k e.key=true /\ e.hash=(strKind prog w).hash k) /\
    ∀ n,match kvs.lookup n with
      |some v=>∃ u,valueAt us n=some u /\ RelV v u
      |none=>valueAt us n=none
 |_,_,.nil=>⟨[],rfl,.nil,fun e he=>(nomatch he),fun n=>rfl⟩
 | (n,v) ::kvs,e ::es,.cons h t=>by
   obtain⟨us,h1,h2,h3,h4⟩:=wJ (prog:=prog) (w:=w) t;obtain⟨k1,⟨tk,k2⟩,k3⟩:=h
   have hk:(strKind prog w).is n e.key=true:=by rw[k2];show Value.isStrOf n (.str n tk)=true;simp[Value.isStrOf]
   refine⟨(n,e.val) ::us,by simp[h1],.cons hk rfl h2,fun e' he'=>?_,fun m=>?_⟩
   . rcases List.mem_cons.mp he' with z|z
     . subst z;exact⟨n,hk,k1⟩
     . exact h3 e' z
   . have:=h4 m
     by_cases hm:m=n
     . subst hm;simp[List.lookup,valueAt];exact k3
     . have hb:(m==n)=false:=by simpa using hm
       have hn:¬ n=m:=fun z=>hm z.symm
       simp only[List.lookup,hb]
       unfold valueAt at this ⊢
       simp only[List.find?_cons,hn,decide_false];exact this
theorem DKT.at{X:Cx}{pins:List (Addr×Obj)}{σ:St}{H:Hp}{s:Shared}{d:Addr}{kvs:List (Str×V)}(D:DKT X.w X.K d kvs)(I:Inv X pins σ H s):
  ∃ us:List (Str × Value),s.heap.DictOf (strKind X.prog X.w) d us /\ ∀ n,match kvs.lookup n with
     |some v=>∃ u,valueAt us n=some u /\ RelV v u
     |none=>valueAt us n=none:=by
 obtain⟨_,nd,es,ep,hk,pr⟩:=D;obtain⟨us,h1,h2,h3,h4⟩:=wJ (prog:=X.prog) (w:=X.w) pr
 exact⟨us,⟨_,es.toArray,ep,I.kIn d _ hk,⟨rfl,rfl,rfl⟩,rfl,fun e he=>h3 e (by simpa using he),by simpa using h2,by rw[h1];exact nd⟩,h4⟩
section
variable{X:Cx}
noncomputable def EJ(w:World)(K:PySem.W.Frag)(td te tf:TE):TE:=fun σ H Q=>td σ H fun x H1=>∃ d kvs,x=.ref d /\ DKT w K d kvs /\ te σ H1 fun y H2=>tf σ H2 fun z H3=>∃ n,y=.str n /\ Q ((kvs.lookup n).getD z) H3
theorem Gf{o e f:Expr}{td te tf:TE}{apos cpos:Pos}(ho:QE X o td)(he:QE X e te)(hf:QE X f tf)(hbase:attributeBase o "get" X.env (eval o X.env)=eval o X.env:=by rfl)
  (few:((backTo cpos (starEach [e,f] X.env)).all (fun x=>!x.1)&&(backToKw cpos (keywordEach [] X.env)).all (fun x=>x.1.isSome)&&decide (([e,f]:List Expr).length+([]:List Keyword).length+(if([]:List Keyword).isEmpty then 0 else 1)<30))=true:=by rfl)
  (line:(apos.endLine==cpos.line)=true:=by rfl) (trees:backTo cpos (starEach [e,f] X.env)=[(false,eval e X.env),(false,eval f X.env)]:=by rfl):QE X (.Call (.Attribute o "get" apos) [e,f] [] cpos) (EJ X.w X.K td te tf):=⟨by
 intro pins s σ H Q I h;refine wpAny_Call_method hbase few line PySem.F.plainAttrs_dict PySem.F.slot_dict_get PySem.F.type_dict_get (thn (ho.out pins s σ H _ I h) fun u s1 ⟨x,H1,I1,rx,d,kvs,ex,D,q1⟩=>?_);subst ex
 obtain rfl:u=Value.ref d:=rx
 obtain⟨us,dd,hv⟩:=D.at I1;obtain⟨_,nd,es,ep,hk,pr⟩:=id D
 refine⟨dd.typeIs,fun b hb=>by cases hb;exact⟨_,I1.kIn d _ hk,rfl⟩,?_⟩
 rw[trees];refine Calls.callWith_builtin rfl (Calls.evalArgs_plain (Calls.spliced_cons (thn (he.out pins s1 σ H1 _ I1 q1) fun iv s2 ⟨y,H2,I2,ry,q2⟩=>Calls.spliced_cons (thn (hf.out pins s2 σ H2 _ I2 q2) fun fv s3 ⟨z,H3,I3,rz,n,ey,q3⟩=>Calls.spliced_nil ?_))));subst ey;obtain⟨t,rfl⟩:=ry;obtain⟨us2,dd2,hv2⟩:=D.at I3;refine call_meetsIn PySem.F.slot_dict_get dd2.typeIs PySem.F.entry_dict_get (PySem.F.args_dict_get_3 _ _ _) (meets_dict_get_default (strKind X.prog X.w) d (k:=n) (key:=.str n t) (by show Value.isStrOf n (.str n t)=true;simp[Value.isStrOf]) D.1 fv) ⟨_,dd2.mapOf,_,H3,I3.tok _,?_,q3⟩;have h2:=hv2 n
 cases q:kvs.lookup n with
 |none=>rw[q]at h2;rw[h2];exact rz
 |some v=>rw[q]at h2;obtain⟨u,e,r⟩:=h2;rw[e];exact r⟩
end
end L2.E
namespace L2.P
open PySem PySem.Spec PyProof.Rows L2 L2.E
section
variable{K:PySem.W.Frag}{cls:String->Option Addr}{W:XW}{Av G S₀ S S' H H' B B':Hp}{ρ:ag}{σ:St}{Q:VK}
noncomputable def DTP(w:World)(K:PySem.W.Frag)(d:Addr)(kvs:List (Str×PV)):Prop:=∃ us,DKT w K d us /\ Paired (fun (p:Str×PV) (q:Str×V)=>p.1=q.1 /\ ∀ S,Rep K S p.2 q.2) kvs us
theorem DTP.look{d:Addr}:∀{kvs:List (Str×PV)} {us:List (Str×V)},Paired (fun (p:Str×PV) (q:Str×V)=>p.1=q.1 /\ ∀ S,Rep K S p.2 q.2) kvs us->∀ n,match kvs.lookup n with
  |some x=>∃ v,us.lookup n=some v /\ ∀ S,Rep K S x v
  |none=>us.lookup n=none
 |_,_,.nil,n=>rfl
 | (k,x) ::kvs,(k',v) ::us,.cons h t,n=>by
   obtain⟨rfl,hr⟩:=h;have:=DTP.look (d:=d) t n
   by_cases hm:n=k
   . subst hm;simp[List.lookup];exact hr
   . have hb:(n==k)=false:=by simpa using hm
     simp only[List.lookup,hb];exact this
theorem FK{w:World}{d:Addr}{kvs:List (Str×PV)}{ta tb:TE}{ma mb:ag->OE}(D:DTP w K d kvs)(ha:JE K cls W ta ma)(hb:JE K cls W tb mb):JE K cls W (EJ w K (tC (.ref d)) ta tb) (A3 kvs ma mb):=by
 intro Av G S₀ ρ σ S H Q I p;obtain⟨us,D1,pr⟩:=D
 refine⟨d,us,rfl,D1,?_⟩
 refine ha.go I p fun a v S1 H1 I1 w1 r1 p1=>hb.go I1 p1 fun b u S2 H2 I2 w2 r2 p2=>?_
 have ra:=(r1.rd I1.sh).mono w2.s w2.g
 cases e:a.pv with
 | str n=>
   rw[e]at ra;have:=DTP.look (d:=d) pr n
   cases b with
   |fr xs=>unfold tO at p2;rw[e]at p2;exact p2.elim
   |al xs=>unfold tO at p2;rw[e]at p2;exact p2.elim
   | sh x=>
     unfold tO at p2;rw[e]at p2
     refine⟨n,jx ra,?_⟩
     cases q:kvs.lookup n with
     | none=>
       simp only[q]at p2 this;rw[this];exact p2 _ S2 H2 (bq.refl I2.sh) r2
     | some y=>
       simp only[q]at p2 this;obtain⟨u,eu,hr⟩:=this;rw[eu];exact p2 _ S2 H2 (bq.refl I2.sh) (hr S2)
 |_=>unfold tO at p2;rw[e]at p2;exact p2.elim
end
end L2.P
namespace L2.E
open PySem PySem.Spec PyProof.Rows L2
theorem x6(l:Addr)(items:Array Value)(n:Nat)(b:Addr)(items2:Array Value)(n2:Nat)(dd2:Option Addr)(sl2:Array (Option Value))(hc0:¬(!items.isEmpty&&Builtin.List.listTooLong (items.size+items2.size))=true)(hc1:items.size<=sizeLine)(hs2:items.size+items2.size<=sizeLine+1):
  Meets (Builtin.«list.extend» ⟨[.ref l,.ref b],[]⟩) (fun _ R s=>s.heap.get? l=some { cls:=.type "list",dict:=none,data:=.seq items n,slots:=#[] } /\ s.heap.get? b=some { cls:=.type "tuple",dict:=dd2,data:=.seq items2 n2,slots:=sl2 } /\ R (.ok (.ret Value.none)) { s with heap:=s.heap.update l (Obj.mapSeq fun x=>x++items2),toks:=s.toks }):=
 .of_wp fun prog w A R s h=>by
  obtain⟨hp,g,d,tk,os⟩:=s;obtain⟨hl,hb,h⟩:=h;have f1:=AutoSeq1.idx_int;have f2:=AutoSeq1.sub_tuple_tuple;have f3:=AutoSeq1.sub_list_list;have f4:=AutoSeq1.sub_tuple_list;have f5:=AutoSeq1.sub_list_tuple
  have hz':(items++items2).size<=sizeLine+1:=by rw[Array.size_append];exact hs2
  wp_walk using (wpAny_updateSeq hl rfl (hz:=hc1) (_hz':=hz')),wpAny_loadPart' hl,wpAny_loadPart' hb;exact⟨_,rfl,h⟩
theorem Mn{K:PySem.W.Frag}{H H':Hp}{a:Addr}{xs:List V}(e:aK H H')(h:SqT K H a xs):SqT K H' a xs:=by
 rcases h with(h|⟨o,h⟩)|h
 . exact .inl (.inl (e _ _ h))
 . exact .inl (.inr ⟨o,e _ _ h⟩)
 . exact .inr h
noncomputable def Ad(K:PySem.W.Frag):V->List V->Hp->VK->Prop:=fun x vs H Q=>∃ l b xs zs,x=.ref l /\ vs=[.ref b] /\ H l=some (.lst xs) /\ SqT K H b zs /\ xs.length+zs.length<=sizeLine /\ Q .non (upd H l (.lst (xs++zs)))
theorem AX{X:Cx}:MtM X "list.extend" (Ad X.K):=by
 intro pins s σ H x vs v us Q I rx rv h;obtain⟨l,b,xs,zs,rfl,rfl,hH,hB,hz,q⟩:=h;cases rx;obtain⟨u,rfl,ru⟩:=rv.one;cases ru;obtain⟨z,its,n,r,hl,e⟩:=I.FO hH;obtain⟨its2,r2,pl2,z2⟩:=I.tuple hB;obtain⟨⟨cls2,dd2,data2,sl2⟩,ho2,hc2,n2,hd2⟩:=pl2;simp only at hc2 hd2;subst hc2 hd2;have hl2:=r2.length
 have hsz:its.toArray.size+its2.toArray.size<=sizeLine:=by rw[List.size_toArray,List.size_toArray];omega
 have hlong:¬ (!its.toArray.isEmpty&&Builtin.List.listTooLong (its.toArray.size+its2.toArray.size))=true:=by
  rw[Ac hsz,Bool.and_false];exact Bool.false_ne_true
 refine call_meets F.slot_list_extend ⟨_,e,rfl⟩ F.entry_list_extend (F.args_list_extend_2 _ _)
  (x6 l its.toArray n b its2.toArray n2 dd2 sl2 hlong (by rw[List.size_toArray];omega) (by omega)) ⟨e,ho2,?_⟩
 refine⟨.non,_,I.Fl (its':=its++its2) hH e (by simp) (r.append r2) ?_,rfl,q⟩
 rw[List.length_append];omega
end L2.E
namespace L2.P
open PySem PySem.Spec PyProof.Rows L2 L2.E
section
variable{K:PySem.W.Frag}{cls:String->Option Addr}{W:XW}{Av G S₀ S S' H H' B B':Hp}{ρ:ag}{σ:St}{Q:VK}{F:Nat->List Addr}
theorem Bu{i:Nat}{te tx:TE}{mp:MP}{me:ag->OE}(hp:JP K cls te i mp)(hx:JE K cls W tx me):JS K cls W (sQ (tBM K "list" (Ad K) te (iX tx kO))) (o7 i mp me):=by
 intro Av G S₀ ρ σ S H D I p;obtain⟨io,t,π,u,hi,e0,e1,p⟩:=oS p;obtain⟨v0,hv⟩:=I.val hi
 cases u with
 |sh x=>exact p.elim
 |ob c ks us=>exact p.elim
 |di x=>exact p.elim
 |dt x=>exact p.elim
 | ol ts=>
   dsimp only at p
   refine hp.at I hi hv e0 e1 fun w S1 H1 w1 I1 wk=>?_
   have p1:=p.back w1.s;obtain⟨F,J1⟩:=id I1;obtain⟨q,vs,ff,rest,wk',hq,hl,rs,_,nd,c⟩:=J1.r6 hi hv e1;have:=wk.inj wk';subst this
   refine⟨.inl ⟨rfl,_,SqL.new hq⟩,?_⟩
   refine hx.goS I1 p1 fun r v S2 H2 I2 w2 r2 p2=>?_
   have ndf:ff.Nodup:=(List.nodup_cons.mp (List.nodup_append.mp nd).1).2
   cases r with
   |al ys=>exact p2.elim
   |fr ys=>exact p2.elim
   | sh x=>
     cases x with
     | tup ys=>
       dsimp only at p2
       split at p2
       . rename_i hlt
         have r3:Rep K S2 (.tup ys) v:=r2
         unfold Rep at r3;obtain⟨b,us,rfl,k3,k4⟩:=r3
         refine⟨q,b,vs,us,rfl,rfl,w2.g _ _ hq,Mn w2.sh k3,by rw[hl,k4.length];exact hlt,?_⟩
         obtain⟨g,J3,_⟩:=c S2 H2 (ts++ys.map .sh) (vs++us) (ff++[]) w2 ((rs.mono w2.s fun a _ o h=>w2.g _ _ h).append (.shs k4)) (by rw[List.append_nil];exact ndf) fun a ha=>.inl (by simpa using ha)
         exact p2 σ S2 _ ⟨_,J3⟩ (aK.refl _)
       . exact p2.elim
     |_=>exact p2.elim
theorem Bg{i:Nat}:JS K cls W (sQ (Ho K "list" zX (Aj i))) (rN i):=by
 intro Av G S₀ ρ σ S H D I p;unfold rN at p;split at p
 . rename_i xs e;obtain⟨v,e1,a,vs,rfl,h1,h2,h3,h4⟩:=I.good i _ e
   refine⟨_,e1,.inl ⟨rfl,_,SqL.new h3⟩,?_⟩
   exact⟨a,vs,rfl,rfl,h3,p σ S _ (I.mut e e1 h4.reverse) (aK.refl _)⟩
 . exact p.elim
end
end L2.P
namespace L2.E
open PySem PySem.Spec PyProof.Rows L2
end L2.E
namespace L2.P
open PySem PySem.Spec PyProof.Rows L2 L2.E
end L2.P
namespace L2.P
open PySem PySem.Spec PyProof.Rows L2 L2.E PySem.SeqAt
end L2.P
namespace L2.P
open PySem
noncomputable def ins(n:Int):List Int->List Int
 |[]=>[n]
 |m ::ms=>if n<=m then n ::m ::ms else m ::ins n ms
end L2.P
namespace L2
open PySem PySem.Spec PyProof.Rows PySem.W
end L2
namespace L2.E
open PySem PySem.Spec PyProof.Rows L2
end L2.E
namespace L2.P
open PySem PySem.Spec PyProof.Rows L2 L2.E
section
variable{K:PySem.W.Frag}{cls:String->Option Addr}{W:XW}{Av G S₀ S S' H H' B B':Hp}{ρ:ag}{σ:St}{Q:VK}{F:Nat->List Addr}
theorem tE.uN{n:Int}{x:PV}{v:V}(hx:Rep K S x v):∀{kvs:List (Int×PV)} {us:List (Key×V)},tE K S kvs us->tE K S (kvs++[(n,x)]) (us++[(Sum.inl n,v)])
 |_,_,.nil=>.cons ⟨rfl,hx⟩ .nil
 |_ ::_,_ ::_,.cons h t=>.cons h (tE.uN hx t)
end
end L2.P
namespace L2.P
open PySem
end L2.P
namespace L2.E
open PySem PySem.Spec PyProof.Rows L2
end L2.E
namespace L2.P
open PySem PySem.Spec PyProof.Rows L2 L2.E
end L2.P
namespace L2.P
open PySem
abbrev DT:=List (List Int×PV)
end L2.P
namespace HT
open PySem PyProof.Rows
end HT
namespace L2
open PySem PySem.Spec PyProof.Rows
abbrev E3:=List Key×Addr×V
noncomputable def R3(p:E3)(q:List Key×Addr×Value):Prop:=p.1=q.1 /\ p.2.1=q.2.1 /\ RelV p.2.2 q.2.2
end L2
namespace L2.E
open PySem PySem.Spec PyProof.Rows L2
end L2.E
namespace L2.P
open PySem PySem.Spec PyProof.Rows L2 L2.E
end L2.P
namespace HT
open PySem PyProof.Rows
section
open PySem.SeqAt
open PySem.AutoSeq1 (wpAny_loadPart')
variable{prog:Program}{w:World}{A:Around}{E:Value->Shared->Prop}{s:Shared}
end
end HT
namespace PySem
end PySem
namespace L2
open PySem PySem.Spec PyProof.Rows
end L2
namespace L2.P
open PySem PySem.Spec PyProof.Rows L2 L2.E
end L2.P
namespace HT
open PySem PyProof.Rows
end HT
namespace L2
open PySem PySem.Spec PyProof.Rows
end L2
namespace L2.E
open PySem PySem.Spec PyProof.Rows L2
end L2.E
namespace L2.P
open PySem
end L2.P
namespace L2.P
open PySem PySem.Spec PyProof.Rows L2 L2.E
end L2.P
namespace L2.P
open PySem
end L2.P
namespace L2.P
open PySem PySem.Spec PyProof.Rows L2 L2.E
end L2.P
namespace L2.P
open PySem
end L2.P
namespace L2.P
open PySem PySem.Spec PyProof.Rows L2 L2.E PySem.SeqAt
end L2.P
namespace L2.P
open PySem
noncomputable def oM:List Int->List Int->Bool
 |[],[]=>false
 |[],_ ::_=>true
 |_ ::_,[]=>false
 |a ::as,b ::bs=>if a=b then oM as bs else decide (a<b)
theorem yP:∀ x,oM x x=false
 |[]=>rfl
 |a ::as=>by rw[oM,if_pos rfl,yP as]
theorem Az:∀{x y z:List Int},oM x y=true->oM y z=true->oM x z=true
 |[],[],_,h,_=>by simp[oM]at h
 |[],_ ::_,[],_,h=>by simp[oM]at h
 |[],_ ::_,_ ::_,_,_=>rfl
 |_ ::_,[],_,h,_=>by simp[oM]at h
 |_ ::_,_ ::_,[],_,h=>by simp[oM]at h
 | a ::as,b ::bs,c ::cs,h1,h2=>by
   rw[oM]at h1 h2 ⊢
   by_cases e1:a=b
   . subst e1
     by_cases e2:a=c
     . rw[if_pos rfl]at h1;rw[if_pos e2]at h2 ⊢;exact Az h1 h2
     . rw[if_neg e2]at h2 ⊢;exact h2
   . rw[if_neg e1]at h1;have l1:=of_decide_eq_true h1
     by_cases e2:b=c
     . subst e2;rw[if_neg e1];exact h1
     . rw[if_neg e2]at h2;have l2:=of_decide_eq_true h2;rw[if_neg (by omega)];exact decide_eq_true (by omega)
theorem AF:∀{x y:List Int},x≠y->oM x y=false->oM y x=true
 |[],[],h,_=>absurd rfl h
 |[],_ ::_,_,h=>by simp[oM]at h
 |_ ::_,[],_,_=>rfl
 | a ::as,b ::bs,h,h1=>by
   rw[oM]at h1 ⊢
   by_cases e1:a=b
   . subst e1
     rw[if_pos rfl]at h1 ⊢
     exact AF (fun z=>h (by rw[z])) h1
   . rw[if_neg e1]at h1;rw[if_neg (Ne.symm e1)];have:=of_decide_eq_false h1;exact decide_eq_true (by omega)
end L2.P
namespace HT
open PySem PyProof.Rows PySem.W
open L2.P (oM yP Az AF)
noncomputable def A6(h:Heap)(ns:List Int)(a:Addr):Prop:=∃ o its n,h.get? a=some o /\ o.cls=.type "tuple" /\ o.data=.seq its n /\ IntsAre its.toList ns
theorem A6.typeIs{s:Shared}{ns:List Int}{a:Addr}(x:A6 s.heap ns a):s.TypeIs (.ref a) "tuple":=let ⟨o,_,_,h1,h2,_⟩:=x;⟨o,h1,h2⟩
section
variable{prog:Program}{w:World}{A:Around}{E:Value->Shared->Prop}{s:Shared}
theorem lt_int{a b:Int}{t u:Tok}{Q:Value->Shared->Prop}(h:Q (.bool (decide (a<b))) s):wpAny (model prog w) A (richCompare .Lt (.int a t) (.int b u)) Q E s:=
 wpAny_richCompare_same (op:=.Lt) (typeIs_int s a t) (typeIs_int s b u) slot_int_lt (call_int_lt ⟨(fun e=>nomatch e),h⟩)
end
variable{n:Nat}{lt:Nat->Nat->Bool}
noncomputable abbrev Gt(p:Array Nat)(i:Nat):Nat:=p.getD i 0
noncomputable def Gd0(n:Nat)(p:Array Nat):Prop:=p.toList.Perm (List.range n)
variable{p:Array Nat}
theorem Gd0.size(h:Gd0 n p):p.size=n:=by have:=h.length_eq;simpa using this
open L2.P (oM yP Az AF)
noncomputable def L8(h:Heap)(vs:List Value)(ks:List (List Int)):Prop:=vs.length=ks.length /\ ∀(j:Nat) v k,vs[j]?=some v->ks[j]?=some k->∃ a,v=.ref a /\ A6 h k a
theorem L8.mem{h:Heap}{vs:List Value}{ks:List (List Int)}(t:L8 h vs ks):∀ v∈vs,∃ a ns,v=.ref a /\ A6 h ns a:=fun v hv=>by
 obtain⟨j,hj⟩:=List.mem_iff_getElem?.mp hv
 have hl:j<ks.length:=by rw[<- t.1];exact(List.getElem?_eq_some_iff.mp hj).1
 obtain⟨a,e,ti⟩:=t.2 j v _ hj (List.getElem?_eq_getElem hl)
 exact⟨a,_,e,ti⟩
end HT
namespace L2
open PySem PySem.Spec PyProof.Rows
open L2.P (oM)
end L2
namespace L2.P
open PySem PySem.Spec PyProof.Rows L2 L2.E
end L2.P
namespace L2
open PySem PySem.Spec PyProof.Rows
end L2
namespace L2.E
open PySem PySem.Spec PyProof.Rows L2
end L2.E
namespace L2.P
open PySem PySem.Spec PyProof.Rows L2 L2.E
end L2.P
namespace HT
open PySem PyProof.Rows
end HT
namespace L2
open PySem PySem.Spec PyProof.Rows
end L2
namespace L2.E
open PySem PySem.Spec PyProof.Rows L2
end L2.E
namespace L2.P
open PySem PySem.Spec PyProof.Rows L2 L2.E
end L2.P
namespace L2.P
open PySem
end L2.P
namespace HT
open PySem PyProof.Rows L2.P
theorem A6.key{prog:Program}{w:World}{h:Heap}{ns:List Int}{a:Addr}(x:A6 h ns a):IsTupleKey (intKind prog w) h ns a:=by
 obtain⟨o,its,n,h1,h2,h3,h4⟩:=x
 refine⟨o,its,n,h1,h2,h3,?_⟩
 have go:∀{vs:List Value} {ns:List Int},IntsAre vs ns->ItemsAre (intKind prog w) ns vs:=by
  intro vs ns i
  induction i with
  |nil=>exact .nil
  |cons n t _ ih=>exact .cons (intKind_is _ _ _ _) ih
 exact go h4
noncomputable def ElR(h:Heap)(e:Int×Value)(q:Int×List Int):Prop:=e.1=q.1 /\ ∃ a,e.2=.ref a /\ A6 h q.2 a
noncomputable abbrev Mh(h:Heap)(es:List (Int×Value))(qs:List (Int×List Int)):Prop:=Paired (ElR h) es qs
theorem Mh.hash{h:Heap}{es:List (Int×Value)}{qs:List (Int×List Int)}(r:Mh h es qs):es.map (·.1)=qs.map (·.1):=by
 induction r with
 |nil=>rfl
 |cons r t ih=>rw[List.map_cons,List.map_cons,r.1,ih]
end HT
namespace L2
open PySem PySem.Spec PyProof.Rows
end L2
namespace L2.E
open PySem PySem.Spec PyProof.Rows L2
end L2.E
namespace L2.P
open PySem PySem.Spec PyProof.Rows L2 L2.E
end L2.P
namespace L2.P
open PySem
end L2.P
namespace L2
open PySem PySem.Spec PyProof.Rows
end L2
namespace L2.E
open PySem PySem.Spec PyProof.Rows L2
end L2.E
namespace L2.P
open PySem PySem.Spec PyProof.Rows L2 L2.E
end L2.P
namespace L2.E
open PySem PySem.Spec PyProof.Rows L2
end L2.E
namespace PG
noncomputable def mM(n:Int):Bool:=(decide (0<=n)&&decide (n<55296))||(decide (57343<n)&&decide (n<=1114111))
noncomputable def bA(n:Int):List Int:=if n<128 then[n]else if n<2048 then[192+n/64,128+n%64]else if n<65536 then[224+n/4096,128+n/64%64,128+n%64]else[240+n/262144,128+n/4096%64,128+n/64%64,128+n%64]
noncomputable def cell(ns:List Int)(k:Int):Int:=if ns=[]then 0 else ns.getD (k%(ns.length:Int)).toNat 0
noncomputable def mix(ns:List Int)(k:Int):Int:=
 let a:=(cell ns k+104729*(k+1))%4294967291
 let b:=a*48271%4294967279
 (b/64*69621+b)%4294967231
noncomputable def menu:List Int:=[34,92,47,8,12,10,13,9,0,31,127]
noncomputable def point(n:Int):Int:=
 if n%8<2 then 32+n/8%95 else if n%8<4 then menu.getD (n/8%11).toNat 0 else if n%8=4 then 128+n/8%1920
 else if n%8=5 then 2048+n/8%53248 else if n%8=6 then 57344+n/8%8192 else 65536+n/8%1048576
noncomputable def vA(ns:List Int)(k:Int):Int:=if mix ns k/5%8=3 then mix ns k/40%14 else mix ns k%5
noncomputable def points(ns:List Int)(k:Int):List Int:=(List.range (vA ns k).toNat).map fun j:Nat=>point (mix ns (k+1+(j:Int)))
theorem AM(ns:List Int)(k:Int):0<=mix ns k /\ mix ns k<4294967231:=by unfold mix;dsimp only;omega
theorem zA(ns:List Int)(k:Int):0<=vA ns k /\ vA ns k<14:=by
 have:=AM ns k
 unfold vA;split<;>omega
theorem Ii(i:Nat)(h:i<11):0<=menu.getD i 0 /\ menu.getD i 0<128:=by
 revert h;revert i;decide
theorem F8(n:Int):mM (point n)=true:=by
 unfold point mM;have h11:=Ii (n/8%11).toNat (by omega);simp only[Bool.or_eq_true,Bool.and_eq_true,decide_eq_true_eq];split
 . omega
 . split
   . omega
   . split
     . omega
     . split
       . omega
       . split<;>omega
theorem p6(ns:List Int)(k:Int):(points ns k).all mM=true:=by
 rw[List.all_eq_true];intro x hx;unfold points at hx;obtain⟨j,_,rfl⟩:=List.mem_map.mp hx;exact F8 _
theorem q9(ns:List Int)(k:Int):(points ns k).length<14:=by
 have:=zA ns k;unfold points;rw[List.length_map,List.length_range];omega
end PG
namespace PG
noncomputable def NF(b:Int):Int×Int:=if b=224 then(160,191)else if b=237 then(128,159)else(128,191)
noncomputable def Ny(b:Int):Int×Int:=if b=240 then(144,191)else if b=244 then(128,143)else(128,191)
noncomputable def spans(b:Int):Option (List (Int×Int)):=if 0<=b /\ b<128 then some []else if 194<=b /\ b<224 then some [(128,191)]else if 224<=b /\ b<240 then some [NF b,(128,191)]else if 240<=b /\ b<245 then some [Ny b,(128,191),(128,191)]else none
noncomputable def mark(k:Nat):Int:=[0,192,224,240].getD k 0
noncomputable def val(b:Int)(cs:List Int):Int:=cs.foldl (fun n c=>n*64+c - 128) (b - mark cs.length)
theorem rl{n:Int}(h:mM n=true):0<=n /\ n<=1114111:=by
 unfold mM at h;simp only[Bool.or_eq_true,Bool.and_eq_true,decide_eq_true_eq]at h;omega
end PG
namespace L2.P
open PySem
theorem v7{i:Nat}{mb:ag->OS}{x:PV}{xs:List PV}{ρ ρ':ag}(h:mb (ρ.set i (some (.sh x)))=.nx ρ'):gP i mb (x ::xs) ρ=gP i mb xs ρ':=by rw[jF,h];rfl
@[simp] theorem get_nil(t:OV):t.get []=some t:=by cases t<;>rfl
@[simp] theorem kR(t u:OV):t.put [] u=u:=by cases t<;>rfl
theorem Hy(xs:List PV):uJ (xs.map .sh)=some xs:=by
 induction xs with
 |nil=>rfl
 |cons x xs ih=>show(pvO (.sh x)).bind _=_;simp[pvO,ih]
@[simp] theorem Je(s:String):(Str.ofString s).cps.all (·<0x110000)=true:=by
  rw[Str.ofString_eq_toList,List.all_toArray,List.all_map];rw[List.all_eq_true];intro c _;have:=c.valid;simp only[Function.comp,decide_eq_true_eq]
  rcases this with h|⟨_,h⟩
  . exact Nat.lt_of_lt_of_le h (by decide)
  . exact h
theorem toNat_inj:∀(xs ys:List Char),xs.map Char.toNat=ys.map Char.toNat->xs=ys
 |[],[],_=>rfl
 |[],_ ::_,h=>by cases h
 |_ ::_,[],h=>by cases h
 | x ::xs,y ::ys,h=>by
   rw[List.map_cons,List.map_cons]at h
   injection h with h1 h2
   have:x=y:=Char.ext (UInt32.toNat_inj.mp h1)
   rw[this,toNat_inj xs ys h2]
theorem aG(a b:String):Str.ofString a=Str.ofString b↔a=b:=by
 constructor
 . intro h;rw[Str.ofString_eq_toList,Str.ofString_eq_toList]at h
   injection h with h
   have h2:a.toList.map Char.toNat=b.toList.map Char.toNat:=by
    have:=congrArg Array.toList h
    simpa using this
   exact String.toList_inj.mp (toNat_inj _ _ h2)
 . intro h;rw[h]
@[simp] theorem GQ(a b:String):(Str.ofString a==Str.ofString b)=decide (a=b):=by
  by_cases h:a=b
  . subst h;simp
  . have:Str.ofString a≠Str.ofString b:=fun z=>h ((aG a b).mp z)
    simp[h,this]
@[simp] theorem MV(a b:String):ky (.str (Str.ofString a)) (.str (Str.ofString b))=decide (a=b):=by simp[ky]
end L2.P
namespace PG
open L2.P PySem
inductive It where
 |sp (lo hi:Int)|bg|value|lead|figures|fraction|exponent|sign|text|escape|code|coded|hex|hexd|hexcf|row|mrow|fields|mfields|name
 deriving DecidableEq
noncomputable def bt:It->PV
 |.sp lo hi=>.tup [.int lo,.int hi]
 |.bg=>.str "white" | .value=>.str "value" | .lead=>.str "lead" | .figures=>.str "figures" | .fraction=>.str "fraction" | .exponent=>.str "exponent" | .sign=>.str "sign"
 |.text=>.str "text" | .escape=>.str "escape" | .code=>.str "code" | .coded=>.str "code d" | .hex=>.str "hex" | .hexd=>.str "hex d" | .hexcf=>.str "hex c to f"
 |.row=>.str "row" | .mrow=>.str "more row" | .fields=>.str "fields" | .mfields=>.str "more fields" | .name=>.str "name"
noncomputable def loose:It->Bool
 |.bg=>true|.figures=>true|.fraction=>true|.exponent=>true|.sign=>true
 |_=>false
noncomputable def opn:It->Bool
 |.row=>true|.mrow=>true|.fields=>true|.mfields=>true
 |_=>false
noncomputable def wht(b:Int):Bool:=decide (9=b)||(decide (10=b)||(decide (13=b)||decide (32=b)))
noncomputable def fig(b:Int):Bool:=decide (48<=b)&&decide (b<=57)
noncomputable def ee(b:Int):Option Int:=if 48<=b /\ b<=57 then some (b - 48)else if 65<=b /\ b<=70 then some (b - 55)else if 97<=b /\ b<=102 then some (b - 87)else none
noncomputable def kn(b:Int):Option (List It):=if b=48 then some [.fraction,.exponent]else if 48<=b /\ b<=57 then some [.figures,.fraction,.exponent]else none
noncomputable def i5(b:Int):Option (List It):=
 if b=91 then some [.bg,.row]else if b=123 then some [.bg,.fields]else if b=34 then some [.text]else if b=45 then some [.lead]
 else if b=110 then some [.sp 117 117,.sp 108 108,.sp 108 108]else if b=116 then some [.sp 114 114,.sp 117 117,.sp 101 101]else if b=102 then some [.sp 97 97,.sp 108 108,.sp 115 115,.sp 101 101]
 else kn b
noncomputable def qL:List It:=[.bg,.sp 58 58,.bg,.value,.bg,.mfields]
noncomputable def tls(b:Int):Option (List It):=
 if 0<=b /\ b<128 then some []else if 194<=b /\ b<224 then some [.sp 128 191]
 else if 224<=b /\ b<240 then some [if b=224 then .sp 160 191 else if b=237 then .sp 128 159 else .sp 128 191,.sp 128 191]
 else if 240<=b /\ b<245 then some [if b=240 then .sp 144 191 else if b=244 then .sp 128 143 else .sp 128 191,.sp 128 191,.sp 128 191]
 else none
noncomputable def qU(b:Int):Option (List It):=if b=34 then some []else if b=92 then some [.escape,.text]else if b<32 then none else(tls b).map (·++[.text])
noncomputable def yn(b:Int):Bool:=b=34||b=92||b=47||b=98||b=102||b=110||b=114||b=116
noncomputable def Dg(b:Int):Option (List It):=if b=117 then some [.code]else if yn b then some []else none
noncomputable def ye(w:Int):Option (List It):=if w<8 then some [.hex,.hex]else if w<12 then some [.hex,.hex,.sp 92 92,.sp 117 117,.hexd,.hexcf,.hex,.hex]else none
noncomputable def bh:It->Int->Option (List It)
 |.sp lo hi,b=>if lo<=b /\ b<=hi then some []else none
 |.bg,b=>if wht b then some [.bg]else none
 |.value,b=>i5 b
 |.lead,b=>kn b
 |.figures,b=>if 48<=b /\ b<=57 then some [.figures]else none
 |.fraction,b=>if b=46 then some [.sp 48 57,.figures]else none
 |.exponent,b=>if b=101 \/ b=69 then some [.sign,.sp 48 57,.figures]else none
 |.sign,b=>if b=43 \/ b=45 then some []else none
 |.text,b=>qU b
 |.escape,b=>Dg b
 |.code,b=>(ee b).bind fun w=>if w=13 then some [.coded]else some [.hex,.hex,.hex]
 |.coded,b=>(ee b).bind ye
 |.hex,b=>(ee b).map fun _=>[]
 |.hexd,b=>(ee b).bind fun w=>if w=13 then some []else none
 |.hexcf,b=>(ee b).bind fun w=>if 12<=w then some []else none
 |.row,b=>if b=93 then some []else(i5 b).map (·++[.bg,.mrow])
 |.mrow,b=>if b=44 then some [.bg,.value,.bg,.mrow]else if b=93 then some []else none
 |.fields,b=>if b=125 then some []else if b=34 then some (.text ::qL)else none
 |.mfields,b=>if b=44 then some (.bg ::.name ::qL)else if b=125 then some []else none
 |.name,b=>if b=34 then some [.text]else none
noncomputable def cnt(st:List It):Nat:=(st.filter opn).length
noncomputable def gon:List It->Int->List It×Bool
 |[],_=>([],false)
 | it ::st,b=>match bh it b with
   |some l=>(l++st,decide (cnt (l++st)<=64))
   |none=>if loose it then gon st b else(st,false)
noncomputable def tk:List It->List Int->List It×Nat
 |st,[]=>(st,0)
 |st,b ::r=>if(gon st b).2 then((tk (gon st b).1 r).1,(tk (gon st b).1 r).2+1)else((gon st b).1,0)
noncomputable def st0:List It:=[.bg,.value,.bg]
noncomputable def flt(row:List Int):Option Nat:=if(tk st0 row).2=row.length /\ (tk st0 row).1.all loose=true then none else some (tk st0 row).2
noncomputable def wk(st:List It):OV:=.ob "Walk" ["coming"] [.ol ((st.reverse.map bt).map .sh)]
theorem FX(it:It)(b:Int)(l:List It)(h:bh it b=some l):l.length<=8:=by
 have hv:∀ l,i5 b=some l->l.length<=5:=by
  intro l h;unfold i5 kn at h
  repeat' split at h
  all_goals(first|(cases h;done)|(injection h with h;subst h;decide))
 have ht:∀ l,tls b=some l->l.length<=5:=by
  intro l h;unfold tls at h
  repeat' split at h
  all_goals(first|(cases h;done)|(injection h with h;subst h;simp))
 cases it with
 |value=>exact Nat.le_trans (hv l h) (by decide)
 | row=>
   simp only[bh]at h;split at h
   . injection h with h;subst h;decide
   . cases e:i5 b with
     |none=>rw[e]at h;cases h
     |some l'=>rw[e]at h;injection h with h;subst h;have:=hv l' e;simp;omega
 | text=>
   simp only[bh,qU]at h
   repeat' split at h
   all_goals first|(cases h;done)|(injection h with h;subst h;decide)|skip
   cases e:tls b with
   |none=>rw[e]at h;cases h
   |some l'=>rw[e]at h;injection h with h;subst h;have:=ht l' e;simp;omega
 | code=>
   simp only[bh]at h
   cases e:ee b with
   |none=>rw[e]at h;cases h
   |some w=>rw[e]at h;simp only[Option.bind_some]at h;split at h<;>(injection h with h;subst h;decide)
 | coded=>
   simp only[bh]at h
   cases e:ee b with
   |none=>rw[e]at h;cases h
   | some w=>
     rw[e]at h;simp only[Option.bind_some,ye]at h
     repeat' split at h
     all_goals first|(cases h;done)|(injection h with h;subst h;decide)
 | hex=>
   simp only[bh]at h
   cases e:ee b with
   |none=>rw[e]at h;cases h
   |some w=>rw[e]at h;injection h with h;subst h;simp
 | hexd=>
   simp only[bh]at h
   cases e:ee b with
   |none=>rw[e]at h;cases h
   |some w=>rw[e]at h;simp only[Option.bind_some]at h;split at h<;>first|(cases h;done)|(injection h with h;subst h;decide)
 | hexcf=>
   simp only[bh]at h
   cases e:ee b with
   |none=>rw[e]at h;cases h
   |some w=>rw[e]at h;simp only[Option.bind_some]at h;split at h<;>first|(cases h;done)|(injection h with h;subst h;decide)
 | _=>
   simp only[bh,kn,Dg,qL]at h
   repeat' split at h
   all_goals first|(cases h;done)|(injection h with h;subst h;decide)
theorem B0(st:List It)(b:Int):(gon st b).1.length<=st.length+8:=by
 induction st with
 |nil=>simp[gon]
 | cons it st ih=>
   unfold gon
   cases e:bh it b with
   |some l=>have:=FX it b l e;simp;omega
   | none=>
     dsimp only;split
     . simp;omega
     . simp;omega
end PG
namespace PG
inductive Sg where
 |pl (p:Int)|sh (c p:Int)|hx (a b c d:Int)|pr (a b c d e f g h:Int)
noncomputable def pts:Sg->List Int
 |.pl p=>[p]
 |.sh c _=>[92,c]
 |.hx a b c d=>[92,117,a,b,c,d]
 |.pr a b c d e f g h=>[92,117,a,b,c,d,92,117,e,f,g,h]
noncomputable def hv(b:Int):Int:=(ee b).getD 0
noncomputable def cod(a b c d:Int):Int:=16*(16*(16*hv a+hv b)+hv c)+hv d
noncomputable def Mw:Sg->Int
 |.pl p=>p
 |.sh _ p=>p
 |.hx a b c d=>cod a b c d
 |.pr a b c d e f g h=>65536+1024*(cod a b c d - 55296)+cod e f g h - 56320
noncomputable def shP:List (Int×Int):=[(34,34),(92,92),(47,47),(98,8),(102,12),(110,10),(114,13),(116,9)]
noncomputable def Sok:Sg->Prop
 |.pl p=>mM p=true /\ 32<=p /\ p≠34 /\ p≠92
 |.sh c p=>(c,p)∈shP
 |.hx a b c d=>(ee a).isSome=true /\ (ee b).isSome=true /\ (ee c).isSome=true /\ (ee d).isSome=true /\ ¬ (55296<=cod a b c d /\ cod a b c d<=57343)
 |.pr a b c d e f g h=>(ee a=some 13 /\ 8<=hv b /\ hv b<12 /\ (ee b).isSome=true /\ (ee c).isSome=true /\ (ee d).isSome=true) /\ ee e=some 13 /\ 12<=hv f /\ (ee f).isSome=true /\ (ee g).isSome=true /\ (ee h).isSome=true
noncomputable def oO(s:Sg):List Int:=(pts s).flatMap bA
theorem lF{b w:Int}(h:ee b=some w):0<=w /\ w<16 /\ 48<=b /\ b<=102 /\ b≠92 /\ b≠117:=by
 unfold ee at h;split at h
 . injection h with h;omega
 . split at h
   . injection h with h;omega
   . split at h
     . injection h with h;omega
     . cases h
theorem m6{b w:Int}(h:ee b=some w):hv b=w:=by unfold hv;rw[h];rfl
theorem lY{n:Int}(h:n<128):bA n=[n]:=by unfold bA;rw[if_pos h]
theorem cnt_cons(it:It)(st:List It):cnt (it ::st)=(if opn it then 1 else 0)+cnt st:=by
 unfold cnt
 cases e:opn it<;>simp[e]
 omega
theorem HN(l st:List It):cnt (l++st)=cnt l+cnt st:=by
 unfold cnt;rw[List.filter_append,List.length_append]
theorem Mo{st st':List It}{b:Int}{r:List Int}(h:gon st b=(st',true)):tk st (b ::r)=((tk st' r).1,(tk st' r).2+1):=by
 simp[tk,h]
theorem Hi{it:It}{st l:List It}{b:Int}{r:List Int}(h:bh it b=some l)(hl:cnt l=0)(hc:cnt st<=64):tk (it ::st) (b ::r)=((tk (l++st) r).1,(tk (l++st) r).2+1):=by
 refine Mo ?_
 have:cnt (l++st)<=64:=by rw[HN];omega
 simp[gon,h,this]
theorem GI{it:It}{st:List It}{b:Int}{r:List Int}(h:bh it b=none)(hl:loose it=true):tk (it ::st) (b ::r)=tk st (b ::r):=by
 simp[tk,gon,h,hl]
noncomputable def Goes(st:List It)(bs:List Int)(st':List It):Prop:=∀ r,tk st (bs++r)=((tk st' r).1,(tk st' r).2+bs.length)
theorem Goes.nil(st:List It):Goes st [] st:=fun r=>by simp
theorem Goes.trans{a b c:List It}{xs ys:List Int}(h:Goes a xs b)(k:Goes b ys c):Goes a (xs++ys) c:=fun r=>by
 rw[List.append_assoc,h,k,List.length_append]
 congr 1
 omega
theorem Goes.step{it:It}{st l st':List It}{b:Int}{bs:List Int}(h:bh it b=some l)(hl:cnt l=0)(hc:cnt st<=64)(k:Goes (l++st) bs st'):Goes (it ::st) (b ::bs) st':=fun r=>by
 rw[List.cons_append,Hi h hl hc,k,List.length_cons]
 congr 1
theorem HD{p:Int}{st:List It}(h:mM p=true)(h1:32<=p)(h2:p≠34)(h3:p≠92)(hc:cnt st<=64):Goes (.text ::st) (bA p) (.text ::st):=by
 have hr:=rl h
 have hs:p<55296 \/ 57343<p:=by
  unfold mM at h;simp only[Bool.or_eq_true,Bool.and_eq_true,decide_eq_true_eq]at h;omega
 have hc1:cnt (.text ::st)<=64:=by rw[cnt_cons];simp[opn];omega
 have hsp:∀ lo hi:Int,cnt (.sp lo hi ::.text ::st)<=64:=fun lo hi=>by rw[cnt_cons,cnt_cons];simp[opn];omega
 have b1:∀ b:Int,b≠34->b≠92->¬ b<32->bh .text b=(tls b).map (·++[.text]):=fun b g1 g2 g3=>by simp only[bh,qU,g1,g2,g3,if_false]
 unfold bA
 by_cases c1:p<128
 . rw[if_pos c1];refine Goes.step (l:=[.text]) ?_ rfl hc (.nil _);rw[b1 p h2 h3 (by omega)];unfold tls;rw[if_pos ⟨by omega,c1⟩];rfl
 . rw[if_neg c1]
   by_cases c2:p<2048
   . rw[if_pos c2];refine Goes.step (l:=[.sp 128 191,.text]) ?_ rfl hc ?_
     . rw[b1 _ (by omega) (by omega) (by omega)];unfold tls;rw[if_neg (by omega),if_pos (by omega)];rfl
     . refine Goes.step (l:=[]) ?_ rfl hc1 (.nil _);simp only[bh];rw[if_pos (by omega)]
   . rw[if_neg c2]
     by_cases c3:p<65536
     . rw[if_pos c3];refine Goes.step (l:=[if 224+p/4096=224 then .sp 160 191 else if 224+p/4096=237 then .sp 128 159 else .sp 128 191,.sp 128 191,.text]) ?_ ?_ hc ?_
       . rw[b1 _ (by omega) (by omega) (by omega)];unfold tls;rw[if_neg (by omega),if_neg (by omega),if_pos (by omega)];rfl
       . split
         . rfl
         . split<;>rfl
       . refine Goes.step (l:=[]) ?_ rfl (hsp _ _) ?_
         . split
           . simp only[bh];rw[if_pos (by omega)]
           . split
             . simp only[bh];rw[if_pos (by omega)]
             . simp only[bh];rw[if_pos (by omega)]
         . refine Goes.step (l:=[]) ?_ rfl hc1 (.nil _);simp only[bh];rw[if_pos (by omega)]
     . rw[if_neg c3]
       have hsp2:cnt (.sp 128 191 ::.sp 128 191 ::.text ::st)<=64:=by rw[cnt_cons,cnt_cons,cnt_cons];simp[opn];omega
       refine Goes.step (l:=[if 240+p/262144=240 then .sp 144 191 else if 240+p/262144=244 then .sp 128 143 else .sp 128 191,.sp 128 191,.sp 128 191,.text]) ?_ ?_ hc ?_
       . rw[b1 _ (by omega) (by omega) (by omega)];unfold tls;rw[if_neg (by omega),if_neg (by omega),if_neg (by omega),if_pos (by omega)];rfl
       . split
         . rfl
         . split<;>rfl
       . refine Goes.step (l:=[]) ?_ rfl hsp2 ?_
         . split
           . simp only[bh];rw[if_pos (by omega)]
           . split
             . simp only[bh];rw[if_pos (by omega)]
             . simp only[bh];rw[if_pos (by omega)]
         . refine Goes.step (l:=[]) ?_ rfl (hsp _ _) ?_
           . simp only[bh];rw[if_pos (by omega)]
           . refine Goes.step (l:=[]) ?_ rfl hc1 (.nil _);simp only[bh];rw[if_pos (by omega)]
theorem oh{b w:Int}(h:ee b=some w):bh .hex b=some []:=by simp[bh,h]
theorem some_of{b:Int}(h:(ee b).isSome=true):∃ w,ee b=some w:=Option.isSome_iff_exists.mp h
theorem nr{a b c d:Int}(ha:(ee a).isSome=true)(hb:(ee b).isSome=true)(hc:(ee c).isSome=true)(hd:(ee d).isSome=true):bA a=[a] /\ bA b=[b] /\ bA c=[c] /\ bA d=[d]:=by
 obtain⟨w1,e1⟩:=some_of ha;obtain⟨w2,e2⟩:=some_of hb;obtain⟨w3,e3⟩:=some_of hc;obtain⟨w4,e4⟩:=some_of hd;have:=lF e1;have:=lF e2;have:=lF e3;have:=lF e4
 exact⟨lY (by omega),lY (by omega),lY (by omega),lY (by omega)⟩
theorem G2(s:Sg)(h:Sok s)(st:List It)(hc:cnt st<=64):Goes (.text ::st) (oO s) (.text ::st):=by
 have hc1:cnt (.text ::st)<=64:=by rw[cnt_cons];simp[opn];omega
 have n0:∀ it:It,opn it=false->∀ st,cnt st<=64->cnt (it ::st)<=64:=fun it ho st h=>by rw[cnt_cons,ho];simp;omega
 cases s with
 | pl p=>
   obtain⟨h1,h2,h3,h4⟩:=h;show Goes _ (bA p++[]) _;rw[List.append_nil];exact HD h1 h2 h3 h4 hc
 | sh c p=>
   have hb:oO (.sh c p)=[92,c] /\ bh .escape c=some []:=by
    simp only[Sok,shP,List.mem_cons,Prod.mk.injEq,List.not_mem_nil,or_false]at h
    rcases h with h|h|h|h|h|h|h|h<;>(obtain⟨rfl,rfl⟩:=h;exact⟨rfl,rfl⟩)
   rw[hb.1];exact Goes.step (l:=[.escape,.text]) rfl rfl hc (Goes.step (l:=[]) hb.2 rfl hc1 (.nil _))
 | hx a b c d=>
   obtain⟨ha,hb,hcc,hd,hs⟩:=h;obtain⟨e1,e2,e3,e4⟩:=nr ha hb hcc hd
   have hby:oO (.hx a b c d)=[92,117,a,b,c,d]:=by
    show bA 92++(bA 117++(bA a++(bA b++(bA c++(bA d++[])))))=_;rw[e1,e2,e3,e4];rfl
   rw[hby];obtain⟨w1,f1⟩:=some_of ha;obtain⟨w2,f2⟩:=some_of hb;obtain⟨w3,f3⟩:=some_of hcc;obtain⟨w4,f4⟩:=some_of hd;refine Goes.step (l:=[.escape,.text]) rfl rfl hc (Goes.step (l:=[.code]) rfl rfl hc1 ?_)
   by_cases hw:w1=13
   . have h8:w2 < 8:=by
      have g2:=lF f2;have g3:=lF f3;have g4:=lF f4;simp only[cod,m6 f1,m6 f2,m6 f3,m6 f4]at hs;omega
     refine Goes.step (l:=[.coded]) (by simp[bh,f1,hw]) rfl hc1 (Goes.step (l:=[.hex,.hex]) (by simp[bh,f2,ye,h8]) rfl hc1 ?_);exact Goes.step (l:=[]) (oh f3) rfl (n0 _ rfl _ hc1) (Goes.step (l:=[]) (oh f4) rfl hc1 (.nil _))
   . refine Goes.step (l:=[.hex,.hex,.hex]) (by simp[bh,f1,hw]) rfl hc1 ?_;exact Goes.step (l:=[]) (oh f2) rfl (n0 _ rfl _ (n0 _ rfl _ hc1)) (Goes.step (l:=[]) (oh f3) rfl (n0 _ rfl _ hc1) (Goes.step (l:=[]) (oh f4) rfl hc1 (.nil _)))
 | pr a b c d e f g h'=>
   obtain⟨⟨f1,hb8,hb12,hb,hcc,hd⟩,f5,hf12,hf,hg,hh⟩:=h;obtain⟨e1,e2,e3,e4⟩:=nr (by rw[f1];rfl) hb hcc hd;obtain⟨e5,e6,e7,e8⟩:=nr (by rw[f5];rfl) hf hg hh
   have hby:oO (.pr a b c d e f g h')=[92,117,a,b,c,d,92,117,e,f,g,h']:=by
    show bA 92++(bA 117++(bA a++(bA b++(bA c++(bA d++(bA 92++(bA 117++(bA e++(bA f++(bA g++(bA h'++[])))))))))))=_;rw[e1,e2,e3,e4,e5,e6,e7,e8];rfl
   rw[hby];obtain⟨w2,f2⟩:=some_of hb;obtain⟨w3,f3⟩:=some_of hcc;obtain⟨w4,f4⟩:=some_of hd;obtain⟨w6,f6⟩:=some_of hf;obtain⟨w7,f7⟩:=some_of hg;obtain⟨w8,f8⟩:=some_of hh;rw[m6 f2]at hb8 hb12;rw[m6 f6]at hf12
   have hn8:¬ w2<8:=by omega
   refine Goes.step (l:=[.escape,.text]) rfl rfl hc (Goes.step (l:=[.code]) rfl rfl hc1 (Goes.step (l:=[.coded]) (by simp[bh,f1]) rfl hc1 (Goes.step (l:=[.hex,.hex,.sp 92 92,.sp 117 117,.hexd,.hexcf,.hex,.hex]) (by simp[bh,f2,ye,hn8,hb12]) rfl hc1 ?_)));have k1:=n0 .hex rfl _ hc1;have k2:=n0 .hex rfl _ k1;have k3:=n0 .hexcf rfl _ k2;have k4:=n0 .hexd rfl _ k3;have k5:=n0 (.sp 117 117) rfl _ k4;have k6:=n0 (.sp 92 92) rfl _ k5;have k7:=n0 .hex rfl _ k6;exact Goes.step (l:=[]) (oh f3) rfl k7 (Goes.step (l:=[]) (oh f4) rfl k6 (Goes.step (l:=[]) rfl rfl k5 (Goes.step (l:=[]) rfl rfl k4 (Goes.step (l:=[]) (by simp[bh,f5]) rfl k3 (Goes.step (l:=[]) (by simp[bh,f6,hf12]) rfl k2 (Goes.step (l:=[]) (oh f7) rfl k1 (Goes.step (l:=[]) (oh f8) rfl hc1 (.nil _))))))))
noncomputable def inner(ss:List Sg):List Int:=ss.flatMap oO
theorem DN(ss:List Sg)(h:∀ s∈ss,Sok s)(st:List It)(hc:cnt st<=64):Goes (.text ::st) (inner ss) (.text ::st):=by
 induction ss with
 |nil=>exact .nil _
 |cons s ss ih=>exact(G2 s (h s List.mem_cons_self) st hc).trans (ih fun x hx=>h x (List.mem_cons_of_mem _ hx))
theorem tm(ss:List Sg)(h:∀ s∈ss,Sok s)(st:List It)(hc:cnt st<=64):Goes (.text ::st) (inner ss++[34]) st:=
 (DN ss h st hc).trans (Goes.step (l:=[]) rfl rfl hc (.nil _))
theorem Goes.skip{it:It}{st st':List It}{b:Int}{bs:List Int}(h:bh it b=none)(hl:loose it=true)(k:Goes st (b ::bs) st'):Goes (it ::st) (b ::bs) st':=fun r=>by
 rw[List.cons_append,GI h hl,<- List.cons_append,k]
theorem Goes.flt{row:List Int}{st:List It}(h:Goes st0 row st)(hl:st.all loose=true):flt row=none:=by
 have e:=h [];rw[List.append_nil]at e;unfold PG.flt;rw[e];simp[tk,hl]
noncomputable def txt(ss:List Sg):List Int:=34 ::(inner ss++[34])
theorem BA{st:List It}(ss:List Sg)(h:∀ s∈ss,Sok s)(hc:cnt st<=64):Goes (.value ::st) (txt ss) st:=
 Goes.step (l:=[.text]) rfl rfl hc (tm ss h st hc)
end PG
namespace PG
noncomputable abbrev isF(b:Int):Prop:=48<=b /\ b<=57
noncomputable def cT(n:Nat):List Int:=if n<10 then[48+(n:Int)]else cT (n/10)++[48+((n%10:Nat):Int)]
termination_by n
decreasing_by omega
noncomputable def dz(n:Nat):List Int:=if n=0 then[]else cT n
theorem Kc(n:Nat):cT n=dz (n/10)++[48+((n%10:Nat):Int)]:=by
 rw[cT];unfold dz
 by_cases h:n<10
 . rw[if_pos h,if_pos (by omega),Nat.mod_eq_of_lt h];rfl
 . rw[if_neg h,if_neg (by omega)]
theorem Aq(n:Nat):∀ b∈cT n,isF b:=by
 induction n using Nat.strongRecOn with
 | _ n ih=>
   intro b hb;rw[cT]at hb;split at hb
   . simp at hb;unfold isF;omega
   . rcases List.mem_append.mp hb with z|z
     . exact ih (n/10) (by omega) b z
     . simp at z;unfold isF;omega
theorem Hg(n:Nat):cT n≠[]:=by rw[Kc];simp
theorem CD(n:Nat)(h:0<n):∃ d r,cT n=d ::r /\ 49<=d /\ d<=57 /\ ∀ b∈r,isF b:=by
 induction n using Nat.strongRecOn with
 | _ n ih=>
   rw[cT];split
   . exact⟨48+(n:Int),[],rfl,by omega,by omega,fun b hb=>by cases hb⟩
   . obtain⟨d,r,e,h1,h2,h3⟩:=ih (n/10) (by omega) (by omega);rw[e]
     refine⟨d,r++[48+((n%10:Nat):Int)],rfl,h1,h2,fun b hb=>?_⟩
     rcases List.mem_append.mp hb with z|z
     . exact h3 b z
     . simp at z;unfold isF;omega
theorem CK:cT 0=[48]:=by rw[cT];rfl
theorem pz(k:Nat):∀ n:Nat,n<10 ^ (k+1)->(cT n).length<=k+1:=by
 induction k with
 |zero=>intro n h;rw[cT,if_pos (by simpa using h)];simp
 | succ k ih=>
   intro n h;rw[cT];split
   . simp
   . have:n/10<10 ^ (k+1):=by rw[Nat.pow_succ]at h;omega
     have:=ih (n/10) this
     simp;omega
noncomputable def cv(ds:List Int):Int:=ds.foldl (fun n d=>10*n+d - 48) 0
theorem HE(ds:List Int)(d:Int):cv (ds++[d])=10*cv ds+d - 48:=by simp[cv]
theorem Ib(n:Nat):cv (cT n)=n:=by
 induction n using Nat.strongRecOn with
 | _ n ih=>
   rw[cT];split
   . simp[cv];omega
   . rw[HE,ih (n/10) (by omega)];omega
structure Nm where
 neg:Bool
 ip:List Int
 fr:List Int
 ex:Option (Int×List Int×List Int)
noncomputable def frB(fr:List Int):List Int:=if fr=[]then[]else 46 ::fr
noncomputable def exB:Option (Int×List Int×List Int)->List Int
 |none=>[]
 |some (e,s,ds)=>e ::(s++ds)
noncomputable def nb(m:Nm):List Int:=(if m.neg then[45]else[])++(m.ip++(frB m.fr++exB m.ex))
structure Nok(m:Nm):Prop where
 ip:(m.ip=[48]) \/ ∃ d r,m.ip=d ::r /\ 49<=d /\ d<=57 /\ ∀ b∈r,isF b
 fr:∀ b∈m.fr,isF b
 ex:∀ e s ds,m.ex=some (e,s,ds)->(e=101 \/ e=69) /\ (s=[] \/ s=[43] \/ s=[45]) /\ ds≠[] /\ ∀ b∈ds,isF b
noncomputable def nl:It->Bool
 |.figures=>true|.fraction=>true|.exponent=>true
 |_=>false
theorem tK{st:List It}(hc:cnt st<=64)(ds:List Int)(h:∀ b∈ds,isF b):Goes (.figures ::st) ds (.figures ::st):=by
 induction ds with
 |nil=>exact .nil _
 | cons d ds ih=>
   refine Goes.step (l:=[.figures]) ?_ rfl hc (ih fun b hb=>h b (List.mem_cons_of_mem _ hb));have:=h d List.mem_cons_self;simp only[bh];rw[if_pos this]
theorem E2{m:Nm}(h:Nok m){st:List It}(hc:cnt st<=64):∃ ls,ls.all nl=true /\ Goes (.value ::st) (nb m) (ls++st):=by
 have n1:∀ it:It,opn it=false->∀ st,cnt st<=64->cnt (it ::st)<=64:=fun it ho st h=>by rw[cnt_cons,ho];simp;omega
 have hlead:∃ ls,(ls=[.fraction,.exponent] \/ ls=[.figures,.fraction,.exponent]) /\ Goes (.lead ::st) m.ip (ls++st) /\ ∀ b r,m.ip=b ::r->bh .value b=bh .lead b:=by
  rcases h.ip with e|⟨d,r,e,h1,h2,h3⟩
  . exact⟨_,.inl rfl,by rw[e];exact Goes.step (l:=[.fraction,.exponent]) rfl rfl hc (.nil _),fun b r e2=>by rw[e]at e2;cases e2;rfl⟩
  . refine⟨_,.inr rfl,?_,fun b r' e2=>?_⟩
    . rw[e];refine Goes.step (l:=[.figures,.fraction,.exponent]) ?_ rfl hc ?_
      . simp only[bh,kn];rw[if_neg (by omega),if_pos (by omega)]
      . exact tK (n1 _ rfl _ (n1 _ rfl _ hc)) r h3
    . rw[e]at e2;cases e2;simp only[bh,i5];rw[if_neg (by omega),if_neg (by omega),if_neg (by omega),if_neg (by omega),if_neg (by omega),if_neg (by omega),if_neg (by omega)]
 obtain⟨ls,hls,g1,g2⟩:=hlead
 have g3:Goes (.value ::st) ((if m.neg then[45]else[])++m.ip) (ls++st):=by
  cases m.neg with
  |true=>exact Goes.step (l:=[.lead]) rfl rfl hc g1
  | false=>
    rw[if_neg (by decide),List.nil_append]
    rcases h.ip with e|⟨d,r,e,_⟩
    . intro q;have e1:=g1 q;have e2:=g2 48 [] e
      rw[e]at e1 ⊢
      rw[<- e1];simp[tk,gon,e2,loose]
    . intro q;have e1:=g1 q;have e2:=g2 d r e
      have ne:∃ l,bh .lead d=some l:=by
       rw[e]at e1
       cases e3:bh .lead d with
       |some l=>exact⟨l,rfl⟩
       |none=>simp[tk,gon,e3,loose]at e1
      obtain⟨l,hl⟩:=ne
      rw[e]at e1 ⊢
      rw[<- e1];simp[tk,gon,e2,hl]
 have g4:∃ ls',(ls'=[.figures,.exponent] \/ ls'=[.fraction,.exponent] \/ ls'=[.figures,.fraction,.exponent]) /\ Goes (ls++st) (frB m.fr) (ls'++st):=by
  unfold frB
  cases e:m.fr with
  | nil=>
    rw[if_pos rfl]
    refine⟨ls,?_,.nil _⟩
    rcases hls with z|z
    . exact .inr (.inl z)
    . exact .inr (.inr z)
  | cons d ds=>
    rw[if_neg (by simp)];have hf:=h.fr;rw[e]at hf
    refine⟨_,.inl rfl,?_⟩
    have base:Goes (.fraction ::.exponent ::st) (46 ::d ::ds) (.figures ::.exponent ::st):=by
     refine Goes.step (l:=[.sp 48 57,.figures]) rfl rfl (n1 _ rfl _ hc) (Goes.step (l:=[]) ?_ rfl (n1 _ rfl _ (n1 _ rfl _ hc)) (tK (n1 _ rfl _ hc) ds fun b hb=>hf b (List.mem_cons_of_mem _ hb)));have:=hf d List.mem_cons_self;simp only[bh];rw[if_pos this]
    rcases hls with z|z
    . subst z;exact base
    . subst z;exact Goes.skip rfl rfl base
 obtain⟨ls',hls',g5⟩:=g4
 have g6:∃ ls2,ls2.all nl=true /\ Goes (ls'++st) (exB m.ex) (ls2++st):=by
  cases e:m.ex with
  | none=>
    refine⟨ls',?_,.nil _⟩
    rcases hls' with z|z|z<;>(subst z;rfl)
  | some x=>
    obtain⟨eb,s,ds⟩:=x;obtain⟨he,hs,hd,hf⟩:=h.ex eb s ds e
    refine⟨[.figures],rfl,?_⟩
    have base:Goes (.exponent ::st) (eb ::(s++ds)) (.figures ::st):=by
     refine Goes.step (l:=[.sign,.sp 48 57,.figures]) (by rcases he with rfl|rfl<;>rfl) rfl hc ?_
     obtain⟨d,r,ed⟩:∃ d r,ds=d ::r:=by
      cases ds with
      |nil=>exact absurd rfl hd
      |cons d r=>exact⟨d,r,rfl⟩
     subst ed;have hd1:=hf d List.mem_cons_self
     have tail:Goes (.sp 48 57 ::.figures ::st) (d ::r) (.figures ::st):=by
      refine Goes.step (l:=[]) ?_ rfl (n1 _ rfl _ hc) (tK hc r fun b hb=>hf b (List.mem_cons_of_mem _ hb));simp only[bh];rw[if_pos hd1]
     rcases hs with rfl|rfl|rfl
     . refine Goes.skip ?_ rfl tail;unfold isF at hd1;simp only[bh];rw[if_neg (by omega)]
     . exact Goes.step (l:=[]) rfl rfl (n1 _ rfl _ (n1 _ rfl _ hc)) tail
     . exact Goes.step (l:=[]) rfl rfl (n1 _ rfl _ (n1 _ rfl _ hc)) tail
    have k1:bh .figures eb=none:=by rcases he with rfl|rfl<;>rfl
    have k2:bh .fraction eb=none:=by rcases he with rfl|rfl<;>rfl
    rcases hls' with z|z|z
    . subst z;exact Goes.skip k1 rfl base
    . subst z;exact Goes.skip k2 rfl base
    . subst z;exact Goes.skip k1 rfl (Goes.skip k2 rfl base)
 obtain⟨ls2,hl2,g7⟩:=g6
 refine⟨ls2,hl2,?_⟩
 have:=g3.trans (g5.trans g7);unfold nb
 simpa using this
theorem xf{ls st st':List It}{b:Int}{bs:List Int}(h:ls.all nl=true)(hb:bh .figures b=none /\ bh .fraction b=none /\ bh .exponent b=none)(k:Goes st (b ::bs) st'):Goes (ls++st) (b ::bs) st':=by
 induction ls with
 |nil=>exact k
 | cons it ls ih=>
   simp only[List.all_cons,Bool.and_eq_true]at h
   cases it with
   |figures=>exact Goes.skip hb.1 rfl (ih h.2)
   |fraction=>exact Goes.skip hb.2.1 rfl (ih h.2)
   |exponent=>exact Goes.skip hb.2.2 rfl (ih h.2)
   |_=>exact absurd h.1 (by simp[nl])
theorem zM{ls:List It}(h:ls.all nl=true):ls.all loose=true:=by
 rw[List.all_eq_true]at h ⊢
 intro it hi;have:=h it hi
 cases it<;>first|rfl|(exact absurd this (by simp[nl]))
end PG
namespace PG
open L2.P PySem
noncomputable def out:List Bool->List It
 |[]=>[.bg]
 |r ::fs=>.bg ::(if r then .mrow else .mfields) ::out fs
noncomputable def hd(r e:Bool):It:=if r then(if e then .row else .mrow)else(if e then .fields else .mfields)
noncomputable def stk(r e:Bool)(fs:List Bool):List It:=.bg ::hd r e ::out fs
theorem jr:∀ fs:List Bool,cnt (out fs)=fs.length
 |[]=>rfl
 | r ::fs=>by
   show cnt (.bg ::(if r then It.mrow else It.mfields) ::out fs)=fs.length+1;rw[cnt_cons,cnt_cons,jr fs]
   cases r<;>simp[opn]<;>omega
noncomputable def Gs(a:List It)(xs:List Int)(b:List It):Prop:=∃ ls,ls.all nl=true /\ Goes a xs (ls++b)
theorem Gs.of{a b:List It}{xs:List Int}(h:Goes a xs b):Gs a xs b:=⟨[],rfl,h⟩
noncomputable def xA(b:Int):Prop:=bh .figures b=none /\ bh .fraction b=none /\ bh .exponent b=none
theorem Gs.go{a b c:List It}{xs ys:List Int}{y:Int}(h:Gs a xs b)(hy:xA y)(k:Goes b (y ::ys) c):Goes a (xs++y ::ys) c:=by
 obtain⟨ls,hl,h⟩:=h;exact h.trans (xf hl hy k)
theorem Dr{b:Int}(h:wht b=true):xA b:=by
 unfold wht at h;simp only[Bool.or_eq_true,decide_eq_true_eq]at h
 refine⟨?_,?_,?_⟩<;>rcases h with h|h|h|h<;>subst h<;>rfl
theorem y7:xA 44:=⟨rfl,rfl,rfl⟩
theorem y6:xA 93:=⟨rfl,rfl,rfl⟩
theorem xj:xA 125:=⟨rfl,rfl,rfl⟩
theorem nJ{st:List It}(hc:cnt st<=64):∀ ws:List Int,(∀ b∈ws,wht b=true)->Goes (.bg ::st) ws (.bg ::st)
 |[],_=>Goes.nil _
 |w ::ws,h=>Goes.step (l:=[.bg]) (by simp[bh,h w (List.mem_cons_self)]) rfl hc (nJ hc ws fun b hb=>h b (List.mem_cons_of_mem _ hb))
theorem Gs.bg{a st:List It}{xs ws:List Int}(h:Gs a xs (.bg ::st))(hc:cnt st<=64)(hw:∀ b∈ws,wht b=true):Gs a (xs++ws) (.bg ::st):=by
 cases ws with
 |nil=>rw[List.append_nil];exact h
 |cons w ws=>exact .of (h.go (Dr (hw w List.mem_cons_self)) (nJ hc _ hw))
theorem Goes.past{st st':List It}{b:Int}{bs:List Int}(hb:wht b=false)(k:Goes st (b ::bs) st'):Goes (.bg ::st) (b ::bs) st':=
 Goes.skip (by simp[bh,hb]) rfl k
theorem Goes.one{it:It}{st l:List It}{b:Int}(h:bh it b=some l)(hc:cnt (l++st)<=64):Goes (it ::st) [b] (l++st):=fun r=>by
 have:gon (it ::st) b=(l++st,true):=by unfold gon;rw[h];simp[hc]
 show tk (it ::st) (b ::r)=_;rw[Mo this];rfl
theorem Gs.Di{a:List It}{xs:List Int}{fs:List Bool}(h:Gs a xs (stk true false fs))(hc:fs.length<64):Goes a (xs++[44]) (.bg ::.value ::out (true ::fs)):=by
 refine h.go y7 (.past rfl ?_)
 have:=Goes.one (it:=.mrow) (st:=out fs) (b:=44) (l:=[.bg,.value,.bg,.mrow]) rfl (by
  show cnt (.bg ::.value ::out (true ::fs))<=64
  rw[cnt_cons,cnt_cons,jr];simp[opn];omega)
 exact this
theorem Gs.yQ{a:List It}{xs:List Int}{fs:List Bool}(h:Gs a xs (stk false false fs))(hc:fs.length<64):Goes a (xs++[44]) (.bg ::.name ::.bg ::.sp 58 58 ::.bg ::.value ::out (false ::fs)):=by
 refine h.go y7 (.past rfl ?_)
 have:=Goes.one (it:=.mfields) (st:=out fs) (b:=44) (l:=.bg ::.name ::qL) rfl (by
  show cnt (.bg ::.name ::.bg ::.sp 58 58 ::.bg ::.value ::out (false ::fs))<=64
  simp only[cnt_cons,jr];simp[opn];omega)
 exact this
theorem Gs.close{a:List It}{xs:List Int}{fs:List Bool}(r e:Bool)(h:Gs a xs (stk r e fs))(hc:fs.length<=64):Goes a (xs++[if r then 93 else 125]) (out fs):=by
 refine h.go (by cases r;exact xj;exact y6) (.past (by cases r<;>rfl) ?_);exact Goes.one (it:=hd r e) (st:=out fs) (l:=[]) (by cases r<;>cases e<;>rfl) (by rw[List.nil_append,jr];exact hc)
theorem Dq{fs:List Bool}(r:Bool)(hc:fs.length<64):Goes (.value ::out fs) [if r then 91 else 123] (stk r true fs):=by
 have:=Goes.one (it:=.value) (st:=out fs) (b:=if r then 91 else 123) (l:=[.bg,hd r true]) (by cases r<;>rfl) (by
  show cnt (.bg ::hd r true ::out fs)<=64
  rw[cnt_cons,cnt_cons,jr];cases r<;>simp[opn,hd]<;>omega)
 exact this
theorem Bh{fs:List Bool}{b:Int}{bs:List Int}{st' l:List It}(hb:i5 b=some l)(hn:b≠93)(k:Goes (.value ::out (true ::fs)) (b ::bs) st'):Goes (.row ::out fs) (b ::bs) st':=fun r=>by
 rw[<- k r]
 have e1:bh .row b=some (l++[.bg,.mrow]):=by simp[bh,hn,hb]
 have e2:bh .value b=some l:=hb
 have:gon (.row ::out fs) b=gon (.value ::out (true ::fs)) b:=by
  unfold gon;rw[e1,e2];simp[out]
 show tk _ (b ::(bs++r))=tk _ (b ::(bs++r));unfold tk;rw[this]
inductive Wd where|null|tru|fal
noncomputable def wdb:Wd->List Int
 |.null=>[110,117,108,108]|.tru=>[116,114,117,101]|.fal=>[102,97,108,115,101]
theorem jf{c:Int}{st:List It}(hc:cnt st<=64):Goes (.sp c c ::st) [c] st:=by
 have:=Goes.one (it:=.sp c c) (st:=st) (b:=c) (l:=[]) (by simp[bh]) hc;exact this
theorem Dd{st:List It}(hc:cnt st<=64)(w:Wd):Goes (.value ::st) (wdb w) st:=by
 cases w with
 |null=>exact Goes.step (l:=[.sp 117 117,.sp 108 108,.sp 108 108]) rfl rfl hc (Goes.trans (xs:=[117]) (jf (by simpa [cnt_cons,opn]using hc)) (Goes.trans (xs:=[108]) (jf (by simpa [cnt_cons,opn]using hc)) (jf hc)))
 |tru=>exact Goes.step (l:=[.sp 114 114,.sp 117 117,.sp 101 101]) rfl rfl hc (Goes.trans (xs:=[114]) (jf (by simpa [cnt_cons,opn]using hc)) (Goes.trans (xs:=[117]) (jf (by simpa [cnt_cons,opn]using hc)) (jf hc)))
 |fal=>exact Goes.step (l:=[.sp 97 97,.sp 108 108,.sp 115 115,.sp 101 101]) rfl rfl hc (Goes.trans (xs:=[97]) (jf (by simpa [cnt_cons,opn]using hc)) (Goes.trans (xs:=[108]) (jf (by simpa [cnt_cons,opn]using hc)) (Goes.trans (xs:=[115]) (jf (by simpa [cnt_cons,opn]using hc)) (jf hc))))
inductive Lf where|wd(w:Wd)|nm(m:Nm)|tx(l:List Sg)
noncomputable def lfb:Lf->List Int
 |.wd w=>wdb w|.nm m=>nb m|.tx l=>txt l
noncomputable def Lok:Lf->Prop
 |.wd _=>True|.nm m=>Nok m|.tx l=>∀ s∈l,Sok s
theorem G1{st:List It}(hc:cnt st<=64)(x:Lf)(h:Lok x):Gs (.value ::st) (lfb x) st:=by
 cases x with
 |wd w=>exact .of (Dd hc w)
 |nm m=>exact E2 h hc
 |tx l=>exact .of (BA l h hc)
theorem Df{st:List It}(hc:cnt st<=64)(l:List Sg)(h:∀ s∈l,Sok s):Goes (.name ::st) (txt l) st:=
 Goes.step (l:=[.text]) rfl rfl hc (tm l h st hc)
theorem Ak{fs:List Bool}(hc:fs.length<64)(l:List Sg)(h:∀ s∈l,Sok s):Goes (.fields ::out fs) (txt l) (.bg ::.sp 58 58 ::.bg ::.value ::out (false ::fs)):=by
 have hcc:cnt (.bg ::.sp 58 58 ::.bg ::.value ::out (false ::fs))<=64:=by simp only[cnt_cons,jr];simp[opn];omega
 have h1:=Goes.one (it:=.fields) (st:=out fs) (b:=34) (l:=.text ::qL) rfl (by
  show cnt (.text ::.bg ::.sp 58 58 ::.bg ::.value ::out (false ::fs))<=64
  rw[cnt_cons];simpa [opn]using hcc)
 exact Goes.trans h1 (tm l h _ hcc)
theorem BC{st:List It}(hc:cnt st<=64){ws:List Int}(hw:∀ b∈ws,wht b=true):Goes (.bg ::.sp 58 58 ::.bg ::st) (ws++[58]) (.bg ::st):=
 (nJ (by simpa [cnt_cons,opn]using hc) ws hw).trans (.past rfl (jf (by simpa [cnt_cons,opn]using hc)))
noncomputable def tb(b:Int):Prop:=wht b=true \/ isF b \/ b=46 \/ b=101 \/ b=69 \/ b=43 \/ b=45
theorem E1:∀(P R:List Int) (st:List It),(tk st (P++R)).2=(P++R).length->(tk st P).2=P.length /\ (tk (tk st P).1 R).2=R.length
 |[],R,st,h=>⟨rfl,h⟩
 | b ::P,R,st,h=>by
   simp only[List.cons_append]at h;unfold tk at h
   have e:(gon st b).2=true:=by
    cases q:(gon st b).2 with
    |true=>rfl
    |false=>rw[q]at h;simp at h
   rw[if_pos e]at h;have k:=E1 P R (gon st b).1 (by simp only[List.length_cons]at h;omega)
   have e2:tk st (b ::P)=((tk (gon st b).1 P).1,(tk (gon st b).1 P).2+1):=by rw[tk,if_pos e]
   rw[e2]
   exact⟨by simp only[List.length_cons];omega,k.2⟩
theorem Goes.whole{a b:List It}{xs:List Int}(h:Goes a xs b):(tk a xs).2=xs.length:=by
 have:=h [];rw[List.append_nil]at this;rw[this];simp[tk]
noncomputable def short:It->List Int
 |.sp lo _=>[lo]|.value=>[48]|.lead=>[48]|.text=>[34]|.name=>[34,34]|.escape=>[34]|.code=>[48,48,48,48]|.coded=>[48,48,48]
 |.hex=>[48]|.hexd=>[68]|.hexcf=>[67]|.row=>[93]|.mrow=>[93]|.fields=>[125]|.mfields=>[125]
 |_=>[]
noncomputable def ends(st:List It):List Int:=st.flatMap short
theorem dI(it:It)(st:List It):ends (it ::st)=short it++ends st:=rfl
noncomputable def K7(b:Int):Prop:=wht b=false /\ b≠43 /\ b≠45
noncomputable def spk:It->Prop
 |.sp lo hi=>lo<=hi /\ K7 lo
 |_=>True
noncomputable def num:It->Bool
 |.figures=>true|.fraction=>true|.exponent=>true|.value=>true|.lead=>true
 |_=>false
noncomputable def Stp(st:List It):Prop:=∀ b r,ends st=b ::r->xA b
noncomputable def Okk:List It->Prop
 |[]=>True
 |it ::st=>spk it /\ (num it=true->Stp st) /\ Okk st
theorem Bz{it:It}{b:Int}{r:List Int}(h:spk it)(e:short it=b ::r):K7 b:=by
 cases it<;>simp only[short,List.cons.injEq,reduceCtorEq]at e
 case sp lo hi=>rw[<- e.1];exact h.2
 all_goals(rw[<- e.1];exact⟨rfl,by decide,by decide⟩)
theorem p9{it:It}:short it=[]↔loose it=true:=by cases it<;>simp[short,loose]
theorem xt:∀{st:List It} {b:Int} {r:List Int},Okk st->ends st=b ::r->K7 b
 |[],b,r,_,e=>by cases e
 | it ::st,b,r,h,e=>by
   rw[dI]at e
   cases q:short it with
   |nil=>rw[q]at e;exact xt h.2.2 e
   |cons c r'=>rw[q]at e;cases e;exact Bz h.1 q
theorem vf:∀{st:List It},ends st=[]->st.all loose=true
 |[],_=>rfl
 | it ::st,e=>by
   rw[dI,List.append_eq_nil_iff]at e;rw[List.all_cons,p9.mp e.1,vf e.2];rfl
theorem E8{it:It}{st:List It}(h:cnt (it ::st)<=64):cnt st<=64:=by
 rw[cnt_cons]at h;split at h<;>omega
theorem Bs{it:It}{st:List It}(h:spk it)(hl:loose it=false)(hc:cnt st<=64):∃ l,l.all nl=true /\ (num it=false->l=[]) /\ Goes (it ::st) (short it) (l++st):=by
 have one:∀(it:It) (b:Int) (st:List It),cnt st<=64->bh it b=some []->Goes (it ::st) [b] st:=fun it b st hc hb=>Goes.one (l:=[]) hb hc
 have h0:∀ st:List It,cnt st<=64->Goes (.hex ::st) [48] st:=fun st hc=>one .hex 48 st hc rfl
 have hh:∀ st:List It,cnt st<=64->cnt (.hex ::st)<=64:=fun st hc=>by rw[cnt_cons];simpa [opn]using hc
 cases it<;>simp only[loose,Bool.true_eq_false]at hl
 case sp lo hi=>exact⟨[],rfl,fun _=>rfl,one _ _ _ hc (by simp only[bh];rw[if_pos ⟨Int.le_refl _,h.1⟩])⟩
 case value=>exact⟨[.fraction,.exponent],rfl,fun z=>by simp[num]at z,Goes.one (l:=[.fraction,.exponent]) rfl (by simpa [cnt_cons,opn]using hc)⟩
 case lead=>exact⟨[.fraction,.exponent],rfl,fun z=>by simp[num]at z,Goes.one (l:=[.fraction,.exponent]) rfl (by simpa [cnt_cons,opn]using hc)⟩
 case text=>exact⟨[],rfl,fun _=>rfl,one _ _ _ hc rfl⟩
 case escape=>exact⟨[],rfl,fun _=>rfl,one _ _ _ hc rfl⟩
 case hex=>exact⟨[],rfl,fun _=>rfl,one _ _ _ hc rfl⟩
 case hexd=>exact⟨[],rfl,fun _=>rfl,one _ _ _ hc rfl⟩
 case hexcf=>exact⟨[],rfl,fun _=>rfl,one _ _ _ hc rfl⟩
 case row=>exact⟨[],rfl,fun _=>rfl,one _ _ _ hc rfl⟩
 case mrow=>exact⟨[],rfl,fun _=>rfl,one _ _ _ hc rfl⟩
 case fields=>exact⟨[],rfl,fun _=>rfl,one _ _ _ hc rfl⟩
 case mfields=>exact⟨[],rfl,fun _=>rfl,one _ _ _ hc rfl⟩
 case name=>exact⟨[],rfl,fun _=>rfl,Goes.trans (xs:=[34]) (Goes.one (it:=.name) (l:=[.text]) rfl (by simpa [cnt_cons,opn]using hc)) (one .text 34 st hc rfl)⟩
 case coded=>exact⟨[],rfl,fun _=>rfl,Goes.trans (xs:=[48]) (Goes.one (it:=.coded) (l:=[.hex,.hex]) rfl (by simpa [cnt_cons,opn]using hc)) (Goes.trans (xs:=[48]) (h0 _ (hh _ hc)) (h0 _ hc))⟩
 case code=>exact⟨[],rfl,fun _=>rfl,Goes.trans (xs:=[48]) (Goes.one (it:=.code) (l:=[.hex,.hex,.hex]) rfl (by simpa [cnt_cons,opn]using hc)) (Goes.trans (xs:=[48]) (h0 _ (hh _ (hh _ hc))) (Goes.trans (xs:=[48]) (h0 _ (hh _ hc)) (h0 _ hc)))⟩
theorem Ew{l st:List It}(h:l.all nl=true)(k:st.all loose=true):(l++st).all loose=true:=by rw[List.all_append,zM h,k];rfl
theorem wM:∀{st:List It},Okk st->cnt st<=64->∃ st',st'.all loose=true /\ Goes st (ends st) st'
 |[],_,_=>⟨[],rfl,Goes.nil _⟩
 | it ::st,h,hc=>by
   obtain⟨st',k1,k2⟩:=wM h.2.2 (E8 hc);rw[dI]
   cases hl:loose it with
   | true=>
     rw[p9.mpr hl,List.nil_append]
     cases e:ends st with
     |nil=>exact⟨it ::st,by rw[List.all_cons,hl,vf e];rfl,Goes.nil _⟩
     | cons b r=>
       have hf:=xt h.2.2 e;rw[e]at k2
       refine⟨st',k1,Goes.skip ?_ hl k2⟩
       cases it<;>simp only[loose,Bool.false_eq_true]at hl
       case bg=>simp[bh,hf.1]
       case sign=>simp[bh,hf.2.1,hf.2.2]
       case figures=>exact(h.2.1 rfl b r e).1
       case fraction=>exact(h.2.1 rfl b r e).2.1
       case exponent=>exact(h.2.1 rfl b r e).2.2
   | false=>
     obtain⟨l,l1,l2,l3⟩:=Bs h.1 hl (E8 hc)
     cases e:ends st with
     |nil=>rw[List.append_nil];exact⟨l++st,Ew l1 (vf e),l3⟩
     | cons b r=>
       rw[e]at k2
       cases hn:num it with
       |true=>exact⟨st',k1,l3.trans (xf l1 (h.2.1 hn b r e) k2)⟩
       | false=>
         rw[l2 hn,List.nil_append]at l3
         exact⟨st',k1,l3.trans k2⟩
theorem Ai{st l:List It}{b:Int}(hs:Stp st)(h:Okk st)(e:kn b=some l):Okk (l++st):=by
 unfold kn at e;split at e
 . cases e;exact⟨trivial,fun _=>hs,trivial,fun _=>hs,h⟩
 . split at e
   . cases e;exact⟨trivial,fun _=>hs,trivial,fun _=>hs,trivial,fun _=>hs,h⟩
   . cases e
theorem Cu{st l:List It}{b:Int}(hs:Stp st)(h:Okk st)(e:i5 b=some l):Okk (l++st):=by
 have sp1:∀(lo:Int) (st:List It),(lo=117 \/ lo=108 \/ lo=114 \/ lo=101 \/ lo=97 \/ lo=115)->Okk st->Okk (.sp lo lo ::st):=fun lo st hl hk=>by
  refine⟨⟨Int.le_refl _,?_⟩,fun z=>by simp[num]at z,hk⟩
  rcases hl with z|z|z|z|z|z<;>subst z<;>exact⟨rfl,by decide,by decide⟩
 unfold i5 at e
 repeat' split at e
 . cases e;exact⟨trivial,fun z=>by simp[num]at z,trivial,fun z=>by simp[num]at z,h⟩
 . cases e;exact⟨trivial,fun z=>by simp[num]at z,trivial,fun z=>by simp[num]at z,h⟩
 . cases e;exact⟨trivial,fun z=>by simp[num]at z,h⟩
 . cases e;exact⟨trivial,fun _=>hs,h⟩
 . cases e;exact sp1 _ _ (by simp) (sp1 _ _ (by simp) (sp1 _ _ (by simp) h))
 . cases e;exact sp1 _ _ (by simp) (sp1 _ _ (by simp) (sp1 _ _ (by simp) h))
 . cases e;exact sp1 _ _ (by simp) (sp1 _ _ (by simp) (sp1 _ _ (by simp) (sp1 _ _ (by simp) h)))
 . exact Ai hs h e
theorem ym:∀(P:List Int) (st:List It),(tk st P).2=P.length->Goes st P (tk st P).1
 |[],st,_=>Goes.nil _
 | b ::P,st,h=>by
   unfold tk at h
   have e:(gon st b).2=true:=by
    cases q:(gon st b).2 with
    |true=>rfl
    |false=>rw[q]at h;simp at h
   rw[if_pos e]at h
   have e2:tk st (b ::P)=((tk (gon st b).1 P).1,(tk (gon st b).1 P).2+1):=by rw[tk,if_pos e]
   rw[e2];have ih:=ym P (gon st b).1 (by simp only[List.length_cons]at h;omega);intro r;have:=ih r;show tk st (b ::(P++r))=_;rw[tk,if_pos e,this];simp only[List.length_cons]
   congr 1
theorem dG{it:It}{st:List It}(h1:spk it)(h2:num it=false)(h:Okk st):Okk (it ::st):=⟨h1,(fun z=>by rw[h2]at z;cases z),h⟩
theorem B3:∀{l st:List It},(∀ it∈l,spk it /\ num it=false)->Okk st->Okk (l++st)
 |[],st,_,h=>h
 |it ::l,st,hl,h=>dG (hl it List.mem_cons_self).1 (hl it List.mem_cons_self).2 (B3 (fun x hx=>hl x (List.mem_cons_of_mem _ hx)) h)
theorem FR(st:List It):Stp (.bg ::.mrow ::st):=fun b r e=>by cases e;exact y6
theorem GO(st:List It):Stp (.bg ::.mfields ::st):=fun b r e=>by cases e;exact xj
theorem xw{st:List It}(h:Okk st):Okk (qL++st):=by
 refine dG (it:=.bg) trivial rfl (dG (it:=.sp 58 58) ⟨Int.le_refl _,rfl,by decide,by decide⟩ rfl (dG (it:=.bg) trivial rfl ⟨trivial,fun _=>GO st,dG (it:=.bg) trivial rfl (dG (it:=.mfields) trivial rfl h)⟩))
theorem xR{lo hi:Int}(h:lo<=hi)(h1:lo=128 \/ lo=144 \/ lo=160 \/ lo=92 \/ lo=117 \/ lo=48):spk (.sp lo hi) /\ num (.sp lo hi)=false:=by
 refine⟨⟨h,?_⟩,rfl⟩
 rcases h1 with z|z|z|z|z|z<;>subst z<;>exact⟨rfl,by decide,by decide⟩
theorem GZ{b:Int}{l:List It}(e:tls b=some l):∀ it∈l,spk it /\ num it=false:=by
 have key:∀ x:It,(x=.sp 128 191 \/ x=.sp 160 191 \/ x=.sp 128 159 \/ x=.sp 144 191 \/ x=.sp 128 143)->spk x /\ num x=false:=by
  intro x hx
  rcases hx with z|z|z|z|z<;>rw[z]<;>exact xR (by decide) (by simp)
 unfold tls at e;intro it hi
 repeat' split at e
 all_goals first
  |(cases e;simp at hi;done)
  |(cases e;simp only[List.mem_cons,List.not_mem_nil,or_false]at hi;apply key;rcases hi with z|z|z<;>simp[z])
  |(cases e;simp only[List.mem_cons,List.not_mem_nil,or_false]at hi;apply key;rcases hi with z|z<;>simp[z])
  |(cases e;simp only[List.mem_cons,List.not_mem_nil,or_false]at hi;apply key;simp[hi])
  |cases e
theorem KA{it:It}{st l:List It}{b:Int}(h:Okk (it ::st))(e:bh it b=some l):Okk (l++st):=by
 have hst:=h.2.2
 cases it with
 |sp lo hi=>simp only[bh]at e;split at e<;>cases e;exact hst
 |bg=>simp only[bh]at e;split at e<;>cases e;exact dG trivial rfl hst
 |value=>exact Cu (h.2.1 rfl) hst e
 |lead=>exact Ai (h.2.1 rfl) hst e
 |figures=>simp only[bh]at e;split at e<;>cases e;exact⟨trivial,h.2.1,hst⟩
 |fraction=>simp only[bh]at e;split at e<;>cases e;exact dG ⟨by decide,rfl,by decide,by decide⟩ rfl ⟨trivial,fun _=>h.2.1 rfl,hst⟩
 |exponent=>simp only[bh]at e;split at e<;>cases e;exact dG (it:=.sign) trivial rfl (dG ⟨by decide,rfl,by decide,by decide⟩ rfl ⟨trivial,fun _=>h.2.1 rfl,hst⟩)
 |sign=>simp only[bh]at e;split at e<;>cases e;exact hst
 | text=>
   simp only[bh,qU]at e;split at e
   . cases e;exact hst
   . split at e
     . cases e;exact dG (it:=.escape) trivial rfl (dG trivial rfl hst)
     . split at e
       . cases e
       . cases q:tls b with
         |none=>rw[q]at e;cases e
         | some l'=>
           rw[q]at e;cases e;rw[List.append_assoc];exact B3 (GZ q) (dG (it:=.text) trivial rfl hst)
 | escape=>
   simp only[bh,Dg]at e;split at e
   . cases e;exact dG trivial rfl hst
   . split at e<;>cases e;exact hst
 | code=>
   simp only[bh]at e
   cases q:ee b with
   |none=>rw[q]at e;cases e
   | some w=>
     rw[q]at e;simp only[Option.bind_some]at e
     split at e<;>cases e
     . exact dG trivial rfl hst
     . exact dG (it:=.hex) trivial rfl (dG (it:=.hex) trivial rfl (dG trivial rfl hst))
 | coded=>
   simp only[bh]at e
   cases q:ee b with
   |none=>rw[q]at e;cases e
   | some w=>
     rw[q]at e;simp only[Option.bind_some,ye]at e
     have two:Okk ([.hex,.hex]++st):=dG (it:=.hex) trivial rfl (dG trivial rfl hst)
     split at e
     . cases e;exact two
     . split at e<;>cases e
       exact dG (it:=.hex) trivial rfl (dG (it:=.hex) trivial rfl (dG (xR (by decide) (by simp)).1 rfl (dG (xR (by decide) (by simp)).1 rfl (dG (it:=.hexd) trivial rfl (dG (it:=.hexcf) trivial rfl two)))))
 | hex=>
   simp only[bh]at e
   cases q:ee b with
   |none=>rw[q]at e;cases e
   |some w=>rw[q]at e;cases e;exact hst
 | hexd=>
   simp only[bh]at e
   cases q:ee b with
   |none=>rw[q]at e;cases e
   |some w=>rw[q]at e;simp only[Option.bind_some]at e;split at e<;>cases e;exact hst
 | hexcf=>
   simp only[bh]at e
   cases q:ee b with
   |none=>rw[q]at e;cases e
   |some w=>rw[q]at e;simp only[Option.bind_some]at e;split at e<;>cases e;exact hst
 | row=>
   simp only[bh]at e;split at e
   . cases e;exact hst
   . cases q:i5 b with
     |none=>rw[q]at e;cases e
     | some l'=>
       rw[q]at e;cases e;rw[List.append_assoc];exact Cu (FR st) (dG (it:=.bg) trivial rfl (dG (it:=.mrow) trivial rfl hst)) q
 | mrow=>
   simp only[bh]at e;split at e
   . cases e;exact dG (it:=.bg) trivial rfl ⟨trivial,fun _=>FR st,dG (it:=.bg) trivial rfl (dG (it:=.mrow) trivial rfl hst)⟩
   . split at e<;>cases e;exact hst
 | fields=>
   simp only[bh]at e;split at e
   . cases e;exact hst
   . split at e<;>cases e;exact dG (it:=.text) trivial rfl (xw hst)
 | mfields=>
   simp only[bh]at e;split at e
   . cases e;exact dG (it:=.bg) trivial rfl (dG (it:=.name) trivial rfl (xw hst))
   . split at e<;>cases e;exact hst
 |name=>simp only[bh]at e;split at e<;>cases e;exact dG trivial rfl hst
theorem Cs:∀{st:List It} {b:Int} {st':List It},Okk st->gon st b=(st',true)->Okk st' /\ cnt st'<=64
 |[],b,st',_,k=>by simp[gon]at k
 | it ::st,b,st',h,k=>by
   unfold gon at k
   cases e:bh it b with
   | some l=>
     rw[e]at k;simp only[Prod.mk.injEq,decide_eq_true_eq]at k;rw[<- k.1]
     exact⟨KA h e,k.2⟩
   | none=>
     rw[e]at k;simp only at k;split at k
     . exact Cs h.2.2 k
     . simp at k
theorem FE:∀(P:List Int) {st:List It},Okk st->cnt st<=64->(tk st P).2=P.length->Okk (tk st P).1 /\ cnt (tk st P).1<=64
 |[],st,h,hc,_=>⟨h,hc⟩
 | b ::P,st,h,hc,k=>by
   unfold tk at k
   have e:(gon st b).2=true:=by
    cases q:(gon st b).2 with
    |true=>rfl
    |false=>rw[q]at k;simp at k
   rw[if_pos e]at k;have g:=Cs (st':=(gon st b).1) h (by rw[<- e])
   have e2:tk st (b ::P)=((tk (gon st b).1 P).1,(tk (gon st b).1 P).2+1):=by rw[tk,if_pos e]
   rw[e2];exact FE P g.1 g.2 (by simp only[List.length_cons]at k;omega)
theorem D6{P:List Int}(h:(tk st0 P).2=P.length):flt (P++ends (tk st0 P).1)=none:=by
 have hg:=ym P st0 h
 have h0:Okk st0:=dG (it:=.bg) trivial rfl ⟨trivial,(fun _ b r e=>by cases e),dG (it:=.bg) trivial rfl trivial⟩
 obtain⟨h1,h2⟩:=FE P h0 (by decide) h;obtain⟨st',k1,k2⟩:=wM h1 h2
 exact(hg.trans k2).flt k1
theorem ends_app(l st:List It):ends (l++st)=ends l++ends st:=by unfold ends;rw[List.flatMap_append]
theorem C5{st c:List It}{b:Int}{bs:List Int}(h:Goes (.value ::st) (b ::bs) c):∃ l,i5 b=some l:=by
 have hw:=h.whole
 cases e:i5 b with
 |some l=>exact⟨l,rfl⟩
 | none=>
   unfold tk at hw
   have:gon (.value ::st) b=(st,false):=by
    unfold gon;rw[show bh .value b=none from e];rfl
   rw[this]at hw;simp at hw
theorem A2{b:Int}{l:List It}(h:i5 b=some l):wht b=false /\ b≠93:=by
 have h1:∀ c:Int,(c=32 \/ c=9 \/ c=10 \/ c=13 \/ c=93)->i5 c=none:=by
  intro c hc
  rcases hc with z|z|z|z|z<;>subst z<;>rfl
 refine⟨?_,fun z=>by rw[h1 b (by omega)]at h;cases h⟩
 cases hw:wht b with
 |false=>rfl
 | true=>
   unfold wht at hw;simp only[Bool.or_eq_true,decide_eq_true_eq]at hw;rw[h1 b (by omega)]at h;cases h
theorem IQ(x:Lf)(hx:Lok x):lfb x≠[]:=by
 cases x with
 |wd w=>cases w<;>simp[lfb,wdb]
 |tx l=>simp[lfb,txt]
 | nm m=>
   intro q
   have q':nb m=[]:=q
   unfold nb at q';simp at q'
   rcases hx.ip with z|⟨d,r,z,_⟩<;>rw[z]at q'<;>simp at q'
structure Tr where
 s:String
 a:Int
 b:Int
inductive Ph where|emp|aft|val|nam|col
 deriving DecidableEq
noncomputable def isB(s:String):Bool:=decide (s = "row")||decide (s = "fields")
noncomputable def isT(s:String):Bool:=decide (s = "name")||decide (s = "text")
noncomputable def kNm(k:Bool):String:=if k then "row" else "fields"
noncomputable def clo(s:String):Int:=if s = "fields" then 125 else 93
noncomputable def hld(t:Nat)(d:Tr):Bool:=decide (d.a<t)&&(decide (d.b=0)||decide ((t:Int)<d.b))
noncomputable def hs(T:List Tr)(t:Nat):List String:=T.filterMap fun d:Tr=>if hld t d then some d.s else none
noncomputable def tl(T:List Tr)(t:Nat):List (String×Int):=T.filterMap fun d:Tr=>if isT d.s&&decide (d.b<=(t:Int))then some (d.s,d.b)else none
noncomputable def tkS(o:Option (String×Int))(x:String×Int):Option (String×Int):=match o with
 |none=>some x
 |some y=>if y.2<x.2 then some x else some y
noncomputable def Bw(l:List (String×Int)):Option (String×Int):=l.foldl tkS none
noncomputable def nwB(row:List Int):Option Int:=(row.filter fun b=>!wht b).getLast?
noncomputable def CI(l:Option Int)(o:Option (String×Int))(h:Option String):Option (List Int):=l.bind fun l=>
 if l=34 then o.map fun x=>if x.1 = "name" then[58,48]else[]
 else if l=44 then some (if h=some "fields" then[34,34,58,48]else[48])
 else if l=58 then some [48]else some []
noncomputable def Cut(row:List Int)(T:List Tr)(t:Nat):Prop:=
 (∀ h∈hs T t,isB h=true)->hs T t≠[]->∃ p,CI (nwB (row.take t)) (Bw (tl T t)) (hs T t).getLast?=some p /\ ends (tk st0 (row.take t)).1=p++(hs T t).reverse.map clo
noncomputable def Vl(p:Ph)(K:List (Bool×Nat)):Prop:=p=.val \/ (p=.emp /\ ∃ i K',K=(true,i) ::K')
noncomputable def lfN:Lf->String
 |.wd .null=>"null" | .wd .tru=>"true" | .wd .fal=>"false" | .tx _=>"text" | .nm _=>"number"
inductive Pc:List Int->List Tr->List (Bool×Nat)->Ph->Prop
 |start:Pc [] [] [] .val
 |bg {row:List Int} {T:List Tr} {K:List (Bool×Nat)} {p:Ph} {b:Int}:Pc row T K p->wht b=true->Pc (row++[b]) T K p
 |comma {row:List Int} {T:List Tr} {K:List (Bool×Nat)} {k:Bool} {i:Nat}:Pc row T ((k,i) ::K) .aft->Pc (row++[44]) T ((k,i) ::K) (if k then .val else .nam)
 |name {row:List Int} {T:List Tr} {K:List (Bool×Nat)} {p:Ph} {i:Nat} {l:List Sg}:Pc row T ((false,i) ::K) p->(p=.nam \/ p=.emp)->(∀ s∈l,Sok s)->Pc (row++txt l) (T++[⟨"name",row.length,(row++txt l).length⟩]) ((false,i) ::K) .col
 |colon {row:List Int} {T:List Tr} {K:List (Bool×Nat)}:Pc row T K .col->Pc (row++[58]) T K .val
 |opn {row:List Int} {T:List Tr} {K:List (Bool×Nat)} {p:Ph} {k:Bool}:Pc row T K p->Vl p K->K.length<=60->Pc (row++[if k then 91 else 123]) (T++[⟨kNm k,row.length,0⟩]) ((k,T.length) ::K) .emp
 |leaf {row:List Int} {T:List Tr} {K:List (Bool×Nat)} {p:Ph} {x:Lf}:Pc row T K p->Vl p K->Lok x->Pc (row++lfb x) (T++[⟨lfN x,row.length,(row++lfb x).length⟩]) K .aft
 |close {row:List Int} {T:List Tr} {K:List (Bool×Nat)} {p:Ph} {k:Bool} {i:Nat}:Pc row T ((k,i) ::K) p->(p=.emp \/ p=.aft)->Pc (row++[if k then 93 else 125]) (T.modify i fun d=>{ d with b:=row.length+1 }) K .aft
theorem Pc.nk{row:List Int}{T:List Tr}{K:List (Bool×Nat)}{p:Ph}:∀{ws:List Int},Pc row T K p->(∀ b∈ws,wht b=true)->Pc (row++ws) T K p
 |[],h,_=>by rw[List.append_nil];exact h
 | w ::ws,h,hw=>by
   rw[show row++w ::ws=(row++[w])++ws by simp]
   exact Pc.nk (h.bg (hw w List.mem_cons_self)) fun b hb=>hw b (List.mem_cons_of_mem _ hb)
noncomputable def Opn:List (Bool×Nat)->List Tr->Prop
 |[],T=>∀ d∈T,d.b≠0
 |(k,i) ::K,T=>∃ A d C,T=A++d ::C /\ A.length=i /\ d.b=0 /\ d.s=kNm k /\ (∀ x∈C,x.b≠0) /\ Opn K A
theorem Opn.app{K:List (Bool×Nat)}{T X:List Tr}(h:Opn K T)(hx:∀ x∈X,x.b≠0):Opn K (T++X):=by
 cases K with
 | nil=>
   intro d hd
   rcases List.mem_append.mp hd with z|z
   . exact h d z
   . exact hx d z
 | cons ki K=>
   obtain⟨A,d,C,e,h1,h2,h3,h4,h5⟩:=h
   refine⟨A,d,C++X,by rw[e];simp,h1,h2,h3,fun x hxx=>?_,h5⟩
   rcases List.mem_append.mp hxx with z|z
   . exact h4 x z
   . exact hx x z
noncomputable def op0(T:List Tr):List String:=T.filterMap fun d=>if d.b=0 then some d.s else none
theorem BH{T:List Tr}(h:∀ d∈T,d.b≠0):op0 T=[]:=by
 unfold op0;rw[List.filterMap_eq_nil_iff];intro d hd;rw[if_neg (h d hd)]
theorem Opn.op0:∀{K:List (Bool×Nat)} {T:List Tr},Opn K T->op0 T=(K.map fun x=>kNm x.1).reverse
 |[],T,h=>BH h
 | (k,i) ::K,T,⟨A,d,C,e,h1,h2,h3,h4,h5⟩=>by
   have:=Opn.op0 h5;have hc:=BH h4
   unfold PG.op0 at this hc ⊢
   rw[e,List.filterMap_append,List.filterMap_cons,this,hc];simp[h2,h3]
theorem vo{α:Type}{f g:Tr->Option α}:∀{l:List Tr},(∀ d∈l,f d=g d)->l.filterMap f=l.filterMap g
 |[],_=>rfl
 |d ::l,h=>by rw[List.filterMap_cons,List.filterMap_cons,h d List.mem_cons_self,vo fun x hx=>h x (List.mem_cons_of_mem _ hx)]
theorem Ll{T:List Tr}{n:Nat}(h:∀ d∈T,d.a<n /\ d.b<=n):hs T n=op0 T:=by
 unfold hs op0
 refine vo fun d hd=>?_
 have:=h d hd
 have e:hld n d=decide (d.b=0):=by
  unfold hld
  by_cases z:d.b=0
  . simp[z,this.1]
  . have:¬ (n:Int)<d.b:=by omega
    simp[z,this]
 rw[e]
 by_cases z:d.b=0<;>simp[z]
theorem Bf{T:List Tr}{d:Tr}{t:Nat}(h:(t:Int)<=d.a):hs (T++[d]) t=hs T t:=by
 unfold hs;rw[List.filterMap_append]
 have:hld t d=false:=by unfold hld;simp;omega
 simp[this]
theorem A4{T:List Tr}{d:Tr}{t:Nat}(h:isT d.s=false \/ (t:Int)<d.b):tl (T++[d]) t=tl T t:=by
 unfold tl;rw[List.filterMap_append]
 have:(isT d.s&&decide (d.b<=t))=false:=by
  rcases h with z|z
  . rw[z];rfl
  . rw[Bool.and_eq_false_iff];right;simpa using z
 rw[List.filterMap_cons,this];exact List.append_nil _
theorem IB(k:Bool):isT (kNm k)=false:=by cases k<;>rfl
theorem HB{A C:List Tr}{d:Tr}{f:Tr->Tr}{i:Nat}(h:A.length=i):(A++d ::C).modify i f=A++f d ::C:=by
 subst h
 induction A with
 |nil=>rfl
 |cons x A ih=>simp[ih]
theorem Gd{row x:List Int}{T T':List Tr}{t:Nat}(ht:t<=row.length)(h1:hs T' t=hs T t)(h2:tl T' t=tl T t)(h:Cut row T t):Cut (row++x) T' t:=by
 unfold Cut at h ⊢
 rw[h1,h2,List.take_append_of_le_length ht];exact h
noncomputable def sta:Ph->List Bool->List It
 |.emp,k ::K=>stk k true K
 |.emp,[]=>[]
 |.aft,K=>out K
 |.val,K=>.bg ::.value ::out K
 |.nam,K=>.bg ::.name ::.bg ::.sp 58 58 ::.bg ::.value ::out K
 |.col,K=>.bg ::.sp 58 58 ::.bg ::.value ::out K
noncomputable def pre:Ph->List Int
 |.emp=>[]|.aft=>[]|.val=>[48]|.nam=>[34,34,58,48]|.col=>[58,48]
noncomputable def bks(K:List (Bool×Nat)):List Bool:=K.map Prod.fst
theorem lu:∀ K:List Bool,ends (out K)=K.map fun k=>if k then 93 else 125
 |[]=>rfl
 | k ::K=>by
   have:=lu K;unfold out;rw[dI,dI,this]
   cases k<;>rfl
theorem FI(p:Ph)(K:List Bool)(h:p=.emp->K≠[]):ends (sta p K)=pre p++K.map fun k=>if k then 93 else 125:=by
 cases p with
 | emp=>
   cases K with
   |nil=>exact absurd rfl (h rfl)
   |cons k K=>unfold sta stk;rw[dI,dI,lu];cases k<;>rfl
 |aft=>exact lu K
 |val=>unfold sta;rw[dI,dI,lu];rfl
 |nam=>unfold sta;simp only[dI,lu];rfl
 |col=>unfold sta;simp only[dI,lu];rfl
theorem n8:∀{ls st:List It},ls.all loose=true->ends (ls++st)=ends st
 |[],_,_=>rfl
 | it ::ls,st,h=>by
   rw[List.all_cons,Bool.and_eq_true]at h;rw[List.cons_append,dI,p9.mpr h.1,n8 h.2];rfl
structure Inv(row:List Int)(T:List Tr)(K:List (Bool×Nat))(p:Ph):Prop where
 dep:K.length<=61
 w1:p=.aft->Gs st0 row (out (bks K))
 w2:p≠.aft->Goes st0 row (sta p (bks K))
 ph:p=.nam->∃ i K',K=(false,i) ::K'
 pe:p=.emp->K≠[]
 op:Opn K T
 bd:∀ d∈T,d.a<row.length /\ d.b<=row.length
 pr:K≠[]->CI (nwB row) (Bw (tl T row.length)) (K.head?.map fun x=>kNm x.1)=some (pre p)
 ct:∀ t<row.length,Cut row T t
theorem rE{row:List Int}{st:List It}(h:Goes st0 row st):tk st0 row=(st,row.length):=by
 have:=h [];rw[List.append_nil]at this;rw[this];simp[tk]
theorem Inv.ends{row:List Int}{T:List Tr}{K:List (Bool×Nat)}{p:Ph}(h:Inv row T K p):ends (tk st0 row).1=pre p++(bks K).map fun k=>if k then 93 else 125:=by
 by_cases e:p=.aft
 . obtain⟨ls,h1,h2⟩:=h.w1 e;rw[rE h2,n8 (zM h1),lu,e];rfl
 . rw[rE (h.w2 e),FI];intro z y;exact h.pe z (by simpa [bks]using y)
theorem Kt{row:List Int}{T:List Tr}{K:List (Bool×Nat)}{p:Ph}(h:Inv row T K p):hs T row.length=(K.map fun x=>kNm x.1).reverse:=by
 rw[Ll h.bd,h.op.op0]
theorem Inv.now{row:List Int}{T:List Tr}{K:List (Bool×Nat)}{p:Ph}(h:Inv row T K p):Cut row T row.length:=by
 intro _ hne
 rw[Kt h]at hne ⊢
 have hK:K≠[]:=by intro z;rw[z]at hne;exact hne rfl
 refine⟨pre p,?_,?_⟩
 . rw[List.take_length,List.getLast?_reverse,List.head?_map];exact h.pr hK
 . rw[List.take_length,h.ends,List.reverse_reverse];unfold bks;rw[List.map_map,List.map_map]
   congr 1
   refine List.map_congr_left fun x _=>?_
   show(if x.1 then(93:Int)else 125)=clo (kNm x.1)
   cases x.1<;>rfl
theorem Inv.le{row:List Int}{T:List Tr}{K:List (Bool×Nat)}{p:Ph}(h:Inv row T K p)(t:Nat)(ht:t<=row.length):Cut row T t:=by
 rcases Nat.lt_or_eq_of_le ht with z|z
 . exact h.ct t z
 . rw[z];exact h.now
theorem yx{row x:List Int}{T T':List Tr}{K:List (Bool×Nat)}{p:Ph}(h:Inv row T K p)(hs1:∀ t,t<=row.length->hs T' t=hs T t /\ tl T' t=tl T t)(hin:∀ t,row.length<t->t<(row++x).length->Cut (row++x) T' t):∀ t<(row++x).length,Cut (row++x) T' t:=by
 intro t ht
 by_cases z:t<=row.length
 . exact Gd z (hs1 t z).1 (hs1 t z).2 (h.le t z)
 . exact hin t (by omega) ht
theorem sF{row:List Int}{b:Int}{T T':List Tr}{K:List (Bool×Nat)}{p:Ph}(h:Inv row T K p)(hs1:∀ t,t<=row.length->hs T' t=hs T t /\ tl T' t=tl T t):∀ t<(row++[b]).length,Cut (row++[b]) T' t:=
 yx h hs1 fun t h1 h2=>by simp at h2;omega
theorem DU{row x:List Int}{T:List Tr}{s:String}{t:Nat}(hb:isB s=false)(h1:row.length<t)(h2:t<(row++x).length):Cut (row++x) (T++[⟨s,row.length,(row++x).length⟩]) t:=by
 intro hall _
 have:s∈hs (T++[⟨s,row.length,(row++x).length⟩]) t:=by
  unfold hs;rw[List.filterMap_append,List.mem_append];right
  have:hld t ⟨s,row.length,(row++x).length⟩=true:=by
   unfold hld;simp only[Bool.and_eq_true,Bool.or_eq_true,decide_eq_true_eq];omega
  rw[List.filterMap_cons,this];exact List.mem_cons_self
 rw[hall s this]at hb;cases hb
theorem Jg{T:List Tr}{n m:Nat}(h:∀ d∈T,d.a<n /\ d.b<=n)(hm:n<=m):tl T m=tl T n:=by
 unfold tl
 refine vo fun d hd=>?_
 have:=h d hd
 have e1:decide (d.b<=(m:Int))=true:=by simp;omega
 have e2:decide (d.b<=(n:Int))=true:=by simp;omega
 rw[e1,e2]
theorem Gj(l:List (String×Int)):∀ y,Bw l=some y->y∈l:=by
 unfold Bw
 have:∀(l:List (String×Int)) (o:Option (String×Int)) (y:String×Int),l.foldl tkS o=some y->y∈l \/ o=some y:=by
  intro l
  induction l with
  |nil=>intro o y h;exact .inr h
  | cons x l ih=>
    intro o y h;rw[List.foldl_cons]at h
    rcases ih _ y h with z|z
    . exact .inl (List.mem_cons_of_mem _ z)
    . unfold tkS at z;split at z
      . cases z;exact .inl List.mem_cons_self
      . split at z
        . cases z;exact .inl List.mem_cons_self
        . exact .inr z
 intro y h
 rcases this l none y h with z|z
 . exact z
 . cases z
theorem CY{l:List (String×Int)}{x:String×Int}(h:∀ y∈l,y.2<x.2):Bw (l++[x])=some x:=by
 have hm:=Gj l
 unfold Bw at hm ⊢
 rw[List.foldl_append]
 cases e:l.foldl tkS none with
 |none=>rfl
 |some y=>simp only[List.foldl_cons,List.foldl_nil,tkS];rw[if_pos (h y (hm y e))]
theorem B7{row x:List Int}{T:List Tr}{s:String}(h:∀ d∈T,d.a<row.length /\ d.b<=row.length)(hs:isT s=true)(hx:x≠[]):Bw (tl (T++[⟨s,row.length,(row++x).length⟩]) (row++x).length)=some (s,((row++x).length:Int)):=by
 have hl:row.length<(row++x).length:=by
  have:=List.length_pos_iff.mpr hx
  simp;omega
 have e:tl (T++[⟨s,row.length,(row++x).length⟩]) (row++x).length=tl T row.length++[(s,((row++x).length:Int))]:=by
  rw[<- Jg h (Nat.le_of_lt hl)];unfold tl;rw[List.filterMap_append]
  congr 1
  simp[hs]
 rw[e]
 refine CY fun y hy=>?_
 unfold tl at hy;rw[List.mem_filterMap]at hy;obtain⟨d,hd,hd2⟩:=hy;split at hd2
 . cases hd2;have:=h d hd;simp only;omega
 . cases hd2
theorem C3(row:List Int)(b:Int)(hw:wht b=true):nwB (row++[b])=nwB row:=by
 unfold nwB;rw[List.filter_append];simp[hw]
theorem kX(row:List Int)(b:Int)(hb:wht b=false):nwB (row++[b])=some b:=by
 unfold nwB;rw[List.filter_append];simp[hb]
theorem len_app(row:List Int)(b:Int):(row++[b]).length=row.length+1:=by simp
theorem qd{row x:List Int}{T:List Tr}(h:∀ d∈T,d.a<row.length /\ d.b<=row.length):∀ d∈T,d.a<(row++x).length /\ d.b<=(row++x).length:=fun d hd=>by
 have:=h d hd;rw[List.length_append];omega
theorem Mz(st:List It):cnt (.bg ::st)=cnt st:=by rw[cnt_cons];simp[PG.opn]
theorem IV{p:Ph}{K:List Bool}(hK:K.length<=62)(he:p=.emp->K≠[]):∃ st,sta p K=.bg ::st /\ cnt st<=64:=by
 have ho:=jr K
 cases p with
 | emp=>
   cases K with
   |nil=>exact absurd rfl (he rfl)
   | cons k K=>
     refine⟨_,rfl,?_⟩
     have:=jr K;rw[cnt_cons,this];simp only[List.length_cons]at hK
     split<;>omega
 | aft=>
   cases K with
   |nil=>exact⟨[],rfl,by decide⟩
   | cons k K=>
     refine⟨_,rfl,?_⟩
     have:cnt (out (k ::K))=cnt (.bg ::(if k then It.mrow else It.mfields) ::out K):=rfl
     rw[Mz]at this;rw[<- this,ho];omega
 |val=>exact⟨_,rfl,by rw[cnt_cons,ho];simp[PG.opn];omega⟩
 |nam=>exact⟨_,rfl,by simp only[cnt_cons,ho];simp[PG.opn];omega⟩
 |col=>exact⟨_,rfl,by simp only[cnt_cons,ho];simp[PG.opn];omega⟩
theorem lP(K:List (Bool×Nat)):(bks K).length=K.length:=by simp[bks]
theorem Inv.bg{row:List Int}{T:List Tr}{K:List (Bool×Nat)}{p:Ph}{b:Int}(h:Inv row T K p)(hb:wht b=true):Inv (row++[b]) T K p:=by
 have hd:=h.dep
 have hK:(bks K).length<=62:=by rw[lP];omega
 have hw:∀ c∈[b],wht c=true:=fun c hc=>by simp at hc;rw[hc];exact hb
 refine⟨hd,fun e=>?_,fun e=>?_,h.ph,h.pe,h.op,qd h.bd,fun hn=>?_,sF h fun t _=>⟨rfl,rfl⟩⟩
 . obtain⟨st,e1,e2⟩:=IV (p:=.aft) hK (fun z=>by cases z);have:=h.w1 e
   change out (bks K)=_ at e1
   rw[e1]at this ⊢
   exact this.bg e2 hw
 . obtain⟨st,e1,e2⟩:=IV (p:=p) hK (fun z y=>h.pe z (by simpa [bks]using y));have:=h.w2 e
   rw[e1]at this ⊢
   exact this.trans (nJ e2 [b] hw)
 . rw[C3 _ _ hb,Jg h.bd (by simp)];exact h.pr hn
theorem Inv.comma{row:List Int}{T:List Tr}{K:List (Bool×Nat)}{k:Bool}{i:Nat}(h:Inv row T ((k,i) ::K) .aft):Inv (row++[44]) T ((k,i) ::K) (if k then .val else .nam):=by
 have hd:=h.dep;simp only[List.length_cons]at hd
 have hK:(bks K).length<64:=by rw[lP];omega
 have hw:=h.w1 rfl
 refine⟨h.dep,fun e=>?_,fun e=>?_,fun e=>?_,fun e=>(by simp),h.op,qd h.bd,fun hn=>?_,sF h fun t _=>⟨rfl,rfl⟩⟩
 . cases k<;>cases e
 . cases k with
   |true=>exact Gs.Di (fs:=bks K) hw hK
   |false=>exact Gs.yQ (fs:=bks K) hw hK
 . cases k with
   |true=>cases e
   |false=>exact⟨i,K,rfl⟩
 . rw[kX _ _ rfl]
   cases k<;>simp[CI,kNm,pre]
theorem Ca(row:List Int)(l:List Sg):nwB (row++txt l)=some 34:=by
 have:row++txt l=(row++34 ::inner l)++[34]:=by simp[txt]
 rw[this,kX _ _ rfl]
theorem Inv.name{row:List Int}{T:List Tr}{K:List (Bool×Nat)}{p:Ph}{i:Nat}{l:List Sg}(h:Inv row T ((false,i) ::K) p)(hp:p=.nam \/ p=.emp)(hl:∀ s∈l,Sok s):Inv (row++txt l) (T++[⟨"name",row.length,(row++txt l).length⟩]) ((false,i) ::K) .col:=by
 have hd:=h.dep;simp only[List.length_cons]at hd
 have hK:(bks K).length<64:=by rw[lP];omega
 have hx:txt l≠[]:=by simp[txt]
 have hlen:row.length<(row++txt l).length:=by simp[txt]
 refine⟨h.dep,fun e=>(by cases e),fun _=>?_,fun e=>(by cases e),fun e=>(by cases e),?_,?_,fun _=>?_,?_⟩
 . rcases hp with z|z
   . subst z
     have hc:cnt (.bg ::.sp 58 58 ::.bg ::.value ::out (bks ((false,i) ::K)))<=64:=by
      have:=jr (bks ((false,i) ::K));simp only[cnt_cons,this,lP];simp[PG.opn];omega
     exact(h.w2 (by simp)).trans (.past rfl (Df hc l hl))
   . subst z
     exact(h.w2 (by simp)).trans (.past rfl (Ak (fs:=bks K) hK l hl))
 . refine h.op.app fun x hxx=>?_
   simp only[List.mem_singleton]at hxx;rw[hxx];simp only;omega
 . intro d hdd
   rcases List.mem_append.mp hdd with z|z
   . exact qd h.bd d z
   . simp only[List.mem_singleton]at z;rw[z];simp only;omega
 . rw[Ca,B7 h.bd rfl hx];rfl
 . refine yx h (fun t ht=>⟨Bf (by simp only;omega),A4 (.inr (by simp only;omega))⟩) fun t h1 h2=>DU rfl h1 h2
theorem Inv.colon{row:List Int}{T:List Tr}{K:List (Bool×Nat)}(h:Inv row T K .col):Inv (row++[58]) T K .val:=by
 have hd:=h.dep
 have hc:cnt (.value ::out (bks K))<=64:=by
  have:=jr (bks K);rw[cnt_cons,this,lP];simp[PG.opn];omega
 refine⟨hd,fun e=>(by cases e),fun _=>?_,fun e=>(by cases e),fun e=>(by cases e),h.op,qd h.bd,fun _=>?_,sF h fun t _=>⟨rfl,rfl⟩⟩
 . exact(h.w2 (by simp)).trans (BC (ws:=[]) hc (fun _ z=>by cases z))
 . rw[kX _ _ rfl];rfl
theorem Inv.rdy{row:List Int}{T:List Tr}{K:List (Bool×Nat)}{p:Ph}(h:Inv row T K p)(hv:Vl p K){b:Int}{bs:List Int}{c:List It}(k:Goes (.value ::out (bks K)) (b ::bs) c):Goes st0 (row++b ::bs) c:=by
 obtain⟨l,hl⟩:=C5 k
 rcases hv with z|⟨z,i,K',e⟩
 . subst z
   exact(h.w2 (by simp)).trans (.past (A2 hl).1 k)
 . subst z;subst e
   exact(h.w2 (by simp)).trans (.past (A2 hl).1 (Bh (fs:=bks K') hl (A2 hl).2 k))
theorem Inv.opn{row:List Int}{T:List Tr}{K:List (Bool×Nat)}{p:Ph}{k:Bool}(h:Inv row T K p)(hv:Vl p K)(hK:K.length<=60):Inv (row++[if k then 91 else 123]) (T++[⟨kNm k,row.length,0⟩]) ((k,T.length) ::K) .emp:=by
 refine⟨by simp;omega,fun e=>(by cases e),fun _=>?_,fun e=>(by cases e),fun _=>(by simp),⟨T,_,[],rfl,rfl,rfl,rfl,fun x hx=>(by cases hx),h.op⟩,?_,fun _=>?_,?_⟩
 . exact h.rdy hv (Dq (fs:=bks K) k (by rw[lP];omega))
 . intro d hdd
   rcases List.mem_append.mp hdd with z|z
   . exact qd h.bd d z
   . simp only[List.mem_singleton]at z;rw[z,len_app];simp only;omega
 . rw[kX _ _ (by cases k<;>rfl)]
   cases k<;>rfl
 . exact sF h fun t ht=>⟨Bf (by simp only;omega),A4 (.inl (IB k))⟩
theorem EK{m:Nm}(h:Nok m):∀ b∈nb m,43<=b /\ b≠44 /\ b≠58:=by
 have hF:∀ b:Int,isF b->43<=b /\ b≠44 /\ b≠58:=fun b hb=>by unfold isF at hb;omega
 intro b hb;unfold nb at hb;simp only[List.mem_append]at hb
 rcases hb with z|z|z|z
 . split at z
   . simp at z;omega
   . cases z
 . rcases h.ip with e|⟨d,r,e,h1,h2,h3⟩
   . rw[e]at z;simp at z;omega
   . rw[e,List.mem_cons]at z
     rcases z with z|z
     . omega
     . exact hF b (h3 b z)
 . unfold frB at z;split at z
   . cases z
   . rw[List.mem_cons]at z
     rcases z with z|z
     . omega
     . exact hF b (h.fr b z)
 . cases e:m.ex with
   |none=>rw[e]at z;cases z
   | some q=>
     obtain⟨x,s,ds⟩:=q;obtain⟨h1,h2,_,h3⟩:=h.ex x s ds e;rw[e]at z;simp only[exB,List.mem_cons,List.mem_append]at z
     rcases z with z|z|z
     . omega
     . rcases h2 with y|y|y<;>rw[y]at z<;>simp at z<;>omega
     . exact hF b (h3 b z)
theorem Gw(x:Lf)(hx:Lok x)(row:List Int):∃ b,nwB (row++lfb x)=some b /\ ((b=34 /\ lfN x = "text") \/ (b≠34 /\ b≠44 /\ b≠58)):=by
 cases x with
 | wd w=>
   cases w
   . exact⟨108,by rw[show row++lfb (.wd .null)=(row++[110,117,108])++[108] by simp[lfb,wdb],kX _ _ rfl],.inr (by decide)⟩
   . exact⟨101,by rw[show row++lfb (.wd .tru)=(row++[116,114,117])++[101] by simp[lfb,wdb],kX _ _ rfl],.inr (by decide)⟩
   . exact⟨101,by rw[show row++lfb (.wd .fal)=(row++[102,97,108,115])++[101] by simp[lfb,wdb],kX _ _ rfl],.inr (by decide)⟩
 |tx l=>exact⟨34,Ca row l,.inl ⟨rfl,rfl⟩⟩
 | nm m=>
   have hne:=IQ (.nm m) hx
   have e:lfb (.nm m)=(lfb (.nm m)).dropLast++[(lfb (.nm m)).getLast hne]:=(List.dropLast_concat_getLast hne).symm
   have hb:=EK hx _ (List.getLast_mem hne)
   refine⟨(lfb (.nm m)).getLast hne,?_,.inr (by omega)⟩
   conv=>lhs;rw[e]
   rw[<- List.append_assoc,kX];unfold wht;simp only[Bool.or_eq_false_iff,decide_eq_false_iff_not];omega
theorem L5(x:Lf):isB (lfN x)=false:=by
 cases x with
 |wd w=>cases w<;>rfl
 |tx l=>rfl
 |nm m=>rfl
theorem Inv.leaf{row:List Int}{T:List Tr}{K:List (Bool×Nat)}{p:Ph}{x:Lf}(h:Inv row T K p)(hv:Vl p K)(hx:Lok x):Inv (row++lfb x) (T++[⟨lfN x,row.length,(row++lfb x).length⟩]) K .aft:=by
 have hd:=h.dep;have hne:=IQ x hx
 have hlen:row.length<(row++lfb x).length:=by
  have:=List.length_pos_iff.mpr hne
  simp;omega
 refine⟨hd,fun _=>?_,fun e=>absurd rfl e,fun e=>(by cases e),fun e=>(by cases e),?_,?_,fun hn=>?_,?_⟩
 . obtain⟨ls,h1,h2⟩:=G1 (st:=out (bks K)) (by rw[jr,lP];omega) x hx
   refine⟨ls,h1,?_⟩
   cases q:lfb x with
   |nil=>exact absurd q hne
   |cons b bs=>rw[q]at h2;exact h.rdy hv h2
 . refine h.op.app fun y hy=>?_
   simp only[List.mem_singleton]at hy;rw[hy];simp only;omega
 . intro d hdd
   rcases List.mem_append.mp hdd with z|z
   . exact qd h.bd d z
   . simp only[List.mem_singleton]at z;rw[z];simp only;omega
 . obtain⟨b,e1,e2⟩:=Gw x hx row;rw[e1]
   rcases e2 with⟨rfl,e3⟩|⟨n1,n2,n3⟩
   . rw[B7 h.bd (by rw[e3];rfl) hne,e3];rfl
   . simp[CI,n1,n2,n3,pre]
 . exact yx h (fun t ht=>⟨Bf (by simp only;omega),A4 (.inr (by simp only;omega))⟩) fun t h1 h2=>DU (L5 x) h1 h2
theorem Inv.close{row:List Int}{T:List Tr}{K:List (Bool×Nat)}{p:Ph}{k:Bool}{i:Nat}(h:Inv row T ((k,i) ::K) p)(hp:p=.emp \/ p=.aft):Inv (row++[if k then 93 else 125]) (T.modify i fun d=>{ d with b:=row.length+1 }) K .aft:=by
 have hd:=h.dep;simp only[List.length_cons]at hd;obtain⟨A,d,C,rfl,h1,h2,h3,h4,h5⟩:=h.op;rw[HB h1]
 have hK:(bks K).length<=64:=by rw[lP];omega
 refine⟨by omega,fun _=>.of ?_,fun e=>absurd rfl e,fun e=>(by cases e),fun e=>(by cases e),?_,?_,fun _=>?_,?_⟩
 . rcases hp with z|z
   . subst z;exact Gs.close (fs:=bks K) k true (.of (h.w2 (by simp))) hK
   . subst z;refine Gs.close (fs:=bks K) k false ?_ hK;have:=h.w1 rfl
     cases k<;>exact this
 . refine h5.app fun x hx=>?_
   rcases List.mem_cons.mp hx with z|z
   . rw[z];simp only;omega
   . exact h4 x z
 . intro x hx;rw[len_app]
   rcases List.mem_append.mp hx with z|z
   . have:=h.bd x (List.mem_append.mpr (.inl z));omega
   . rcases List.mem_cons.mp z with z|z
     . have:=h.bd d (by simp);rw[z];simp only;omega
     . have:=h.bd x (by simp[z]);omega
 . rw[kX _ _ (by cases k<;>rfl)]
   cases k<;>rfl
 . refine sF h fun t ht=>⟨?_,?_⟩
   . unfold hs;rw[List.filterMap_append,List.filterMap_append,List.filterMap_cons,List.filterMap_cons]
     have:hld t { d with b:=row.length+1 }=hld t d:=by
      unfold hld
      have z:¬ ((row.length:Int)+1=0):=by omega
      have z2:(t:Int)<row.length+1:=by omega
      simp[h2,z,z2]
     rw[this]
   . unfold tl;rw[List.filterMap_append,List.filterMap_append,List.filterMap_cons,List.filterMap_cons]
     have:isT d.s=false:=by rw[h3];exact IB k
     simp only[this,Bool.false_and,Bool.false_eq_true,if_false]
theorem Pc.inv{row:List Int}{T:List Tr}{K:List (Bool×Nat)}{p:Ph}(h:Pc row T K p):Inv row T K p:=by
 induction h with
 |start=>exact⟨by simp,fun e=>(by cases e),fun _=>Goes.nil _,fun e=>(by cases e),fun e=>(by cases e),(fun d hd=>by cases hd),(fun d hd=>by cases hd),fun e=>absurd rfl e,fun t ht=>by simp at ht⟩
 |bg _ hb ih=>exact ih.bg hb
 |comma _ ih=>exact ih.comma
 |name _ hp hl ih=>exact ih.name hp hl
 |colon _ ih=>exact ih.colon
 |opn _ hv hK ih=>exact ih.opn hv hK
 |leaf _ hv hx ih=>exact ih.leaf hv hx
 |close _ hp ih=>exact ih.close hp
theorem GU{it:It}{b:Int}{l:List It}(e:bh it b=some l):(short it).length<=(ends l).length+1:=by
 cases it with
 |name=>simp only[bh]at e;split at e<;>cases e;decide
 | code=>
   simp only[bh]at e
   cases q:ee b with
   |none=>rw[q]at e;cases e
   |some w=>rw[q]at e;simp only[Option.bind_some]at e;split at e<;>cases e<;>decide
 | coded=>
   simp only[bh]at e
   cases q:ee b with
   |none=>rw[q]at e;cases e
   | some w=>
     rw[q]at e;simp only[Option.bind_some,ye]at e;split at e
     . cases e;decide
     . split at e<;>cases e;decide
 |_=>simp[short]
theorem y2:∀{st:List It} {b:Int} {st':List It},gon st b=(st',true)->(ends st).length<=(ends st').length+1
 |[],b,st',k=>by simp[gon]at k
 | it ::st,b,st',k=>by
   unfold gon at k
   cases e:bh it b with
   | some l=>
     rw[e]at k;simp only[Prod.mk.injEq,decide_eq_true_eq]at k;have:=GU e;rw[<- k.1,dI,ends_app,List.length_append,List.length_append];omega
   | none=>
     rw[e]at k;simp only at k;split at k
     . rename_i hl;rw[dI,p9.mpr hl];exact y2 k
     . simp at k
theorem B8:∀(R:List Int) (st:List It),(tk st R).2=R.length->(tk st R).1.all loose=true->(ends st).length<=R.length
 | [],st,_,h=>by
   have:=n8 (st:=[]) (ls:=st) h;rw[List.append_nil]at this;rw[this];simp[ends]
 | b ::R,st,h,hl=>by
   unfold tk at h hl
   have e:(gon st b).2=true:=by
    cases q:(gon st b).2 with
    |true=>rfl
    |false=>rw[q]at h;simp at h
   rw[if_pos e]at h hl;have:=B8 R (gon st b).1 (by simp only[List.length_cons]at h;omega) hl;have g:=y2 (st:=st) (b:=b) (st':=(gon st b).1) (by rw[<- e]);rw[List.length_cons];omega
end PG
namespace L2.plainglass_k09_endings
open PySem L2.P PG
noncomputable def ng(c:String):Bool:=c == "Walk"
noncomputable def vp:ag -> OS:=
    (aH (bc (dM (ao 0))
    (aZ (mOp ou (ao 0) (mOp cw (ao 1) (mUn yF (ao 0)))))
    aO)
    (aZ (mC (.int 0))))
noncomputable def iH:List PV->OE:=fnP 2 2 vp
noncomputable def uu:ag -> OS:=
    (aZ (mOp cw (mOp eY (mOp zG (mOp dA (ao 2) (mC (.int 64))) (mC (.int 69621))) (ao 2)) (mC (.int 4294967231))))
noncomputable def ui:ag -> OS:=
    (aH (bf 2 (mOp cw (mOp zG (ao 2) (mC (.int 48271))) (mC (.int 4294967279))))
    uu)
noncomputable def xh:ag -> OS:=
    (aH (bf 2 (mOp cw (mOp eY (br iH (ak (ao 0) (ak (ao 1) aJ))) (mOp zG (mC (.int 104729)) (mOp eY (ao 1) (mC (.int 1))))) (mC (.int 4294967291))))
    ui)
noncomputable def eJ:List PV->OE:=fnP 2 3 xh
noncomputable def jV:ag -> OS:=
    (g9 4)
noncomputable def mO:ag -> OS:=
    (aH (bc (dv 2 aI)
    (aH (b0 2 (pIx 2 (pIx 2 aI (mUn gi (mC (.int 1)))) (mC (.int 1))) (mD (gm (az (mOp gEq (cF 2 (pIx 2 (pIx 2 aI (mUn gi (mC (.int 1)))) (mC (.int 0)))) (mC (.str "row")))) (ao 4) (eU (ak (cF 3 (pIx 3 aI (mC (.int 3)))) (ak (ao 4) aJ))))))
    (bc (az (mOp gEq (cF 2 (pIx 2 (pIx 2 aI (mUn gi (mC (.int 1)))) (mC (.int 0)))) (mC (.str "fields"))))
    (pC 1 (pIx 1 aI (mOp wz (cF 3 (pIx 3 aI (mC (.int 2)))) (mC (.int 1)))) (mC (.int 3)) (mD (gb 1 aI)))
    aO))
    aO)
    jV)
noncomputable def jY:ag -> OS:=
    (aH (bf 4 (eU (ak (cF 3 (pIx 3 aI (mC (.int 0)))) (ak (mUn mJ (cF 3 (pIx 3 aI (mC (.int 1))))) aJ))))
    mO)
noncomputable def qR:ag -> OS:=
    (aH (pC 1 (pIx 1 aI (cF 3 (pIx 3 aI (mC (.int 2))))) (mC (.int 3)) (mD (gb 1 aI)))
    jY)
noncomputable def qB:ag -> OS:=
    (aH (pC 1 (pIx 1 aI (cF 3 (pIx 3 aI (mC (.int 2))))) (mC (.int 2)) (mD (gb 0 aI)))
    qR)
noncomputable def qD:ag -> OS:=
    (aH (b0 0 aI (mD (gm (az (mOp gEq (cF 3 (pIx 3 aI (mC (.int 0)))) (mC (.str "row")))) (mC (.int 93)) (mC (.int 125)))))
    qB)
noncomputable def pk:ag -> OS:=
    (aH (hJ 3 (qO 2 aI))
    qD)
noncomputable def cS:List Sl->OI:=fnI 3 5 pk
noncomputable def jT:ag -> OE:=
    (mOp ou (bS (ak (mC (.int 32)) (ak (mC (.int 9)) (ak (mC (.int 10)) (ak (mC (.int 13)) aJ))))) (mOp cw (mOp dA (mOp dA (ao 0) (mC (.int 4))) (mOp eY (mC (.int 1)) (mOp zG (mC (.int 3)) (ao 1)))) (mC (.int 4))))
noncomputable def oY:ag -> OS:=
    (aH (bc (az (mOp gGt (mOp cw (ao 0) (mC (.int 4))) (mC (.int 0))))
    (aZ (bS aJ))
    aO)
    (aZ (xF (mOp eY (mOp cw (mOp dA (ao 0) (mC (.int 64))) (mC (.int 3))) (mC (.int 1))) [0] jT)))
noncomputable def cy:List PV->OE:=fnP 1 1 oY
noncomputable def fu:ag -> OS:=
    (aZ (mOp eY (mC (.int 65536)) (mOp cw (ao 2) (mC (.int 1048576)))))
noncomputable def fm:ag -> OS:=
    (aH (bc (az (mOp gEq (ao 1) (mC (.int 6))))
    (aZ (mOp eY (mC (.int 57344)) (mOp cw (ao 2) (mC (.int 8192)))))
    aO)
    fu)
noncomputable def fq:ag -> OS:=
    (aH (bc (az (mOp gEq (ao 1) (mC (.int 5))))
    (aZ (mOp eY (mC (.int 2048)) (mOp cw (ao 2) (mC (.int 53248)))))
    aO)
    fm)
noncomputable def fk:ag -> OS:=
    (aH (bc (az (mOp gEq (ao 1) (mC (.int 4))))
    (aZ (mOp eY (mC (.int 128)) (mOp cw (ao 2) (mC (.int 1920)))))
    aO)
    fq)
noncomputable def fz:ag -> OS:=
    (aH (bc (az (mOp gLt (ao 1) (mC (.int 4))))
    (aZ (mOp ou (bS (ak (mC (.int 34)) (ak (mC (.int 92)) (ak (mC (.int 47)) (ak (mC (.int 8)) (ak (mC (.int 12)) (ak (mC (.int 10)) (ak (mC (.int 13)) (ak (mC (.int 9)) (ak (mC (.int 0)) (ak (mC (.int 31)) (ak (mC (.int 127)) aJ)))))))))))) (mOp cw (ao 2) (mC (.int 11)))))
    aO)
    fk)
noncomputable def fw:ag -> OS:=
    (aH (bc (az (mOp gLt (ao 1) (mC (.int 2))))
    (aZ (mOp eY (mC (.int 32)) (mOp cw (ao 2) (mC (.int 95)))))
    aO)
    fz)
noncomputable def fo:ag -> OS:=
    (aH (bf 2 (mOp dA (ao 0) (mC (.int 8))))
    fw)
noncomputable def gL:ag -> OS:=
    (aH (bf 1 (mOp cw (ao 0) (mC (.int 8))))
    fo)
noncomputable def dB:List PV->OE:=fnP 1 3 gL
noncomputable def ly:ag -> OE:=
    (br dB (ak (br eJ (ak (ao 0) (ak (mOp eY (mOp eY (ao 1) (mC (.int 1))) (ao 2)) aJ))) aJ))
noncomputable def lB:ag -> OS:=
    (aZ (xF (ao 3) [0,1] ly))
noncomputable def lI:ag -> OS:=
    (aH (bc (az (mOp gEq (mOp cw (mOp dA (ao 2) (mC (.int 5))) (mC (.int 8))) (mC (.int 3))))
    (bf 3 (mOp cw (mOp dA (ao 2) (mC (.int 40))) (mC (.int 14))))
    aO)
    lB)
noncomputable def lG:ag -> OS:=
    (aH (bf 3 (mOp cw (ao 2) (mC (.int 5))))
    lI)
noncomputable def nM:ag -> OS:=
    (aH (bf 2 (br eJ (ak (ao 0) (ak (ao 1) aJ))))
    lG)
noncomputable def eC:List PV->OE:=fnP 2 4 nM
noncomputable def qX:ag -> OS:=
    (aH (bc (az (mOp gEq (mOp cw (ao 1) (mC (.int 2))) (mC (.int 0))))
    (aZ (bS (ak (mOp eY (mC (.int 97)) (mOp cw (mOp dA (ao 1) (mC (.int 2))) (mC (.int 3)))) aJ)))
    aO)
    (aZ (br eC (ak (ao 0) (ak (mOp eY (mC (.int 11)) (mOp cw (mOp dA (ao 1) (mC (.int 2))) (mC (.int 37)))) aJ)))))
noncomputable def gz:List PV->OE:=fnP 2 2 qX
noncomputable def iu:ag -> OS:=
    (aH (bf 2 (mOp iN (bS (ak (mOp eY (mC (.int 128)) (mOp cw (ao 0) (mC (.int 64)))) aJ)) (ao 2)))
    (bf 0 (mOp dA (ao 0) (mC (.int 64)))))
noncomputable def ir:ag -> OS:=
    (aZ (mOp iN (bS (ak (mOp eY (mOp ou (bS (ak (mC (.int 192)) (ak (mC (.int 224)) (ak (mC (.int 240)) aJ)))) (mOp wz (ao 1) (mC (.int 1)))) (ao 0)) aJ)) (ao 2)))
noncomputable def iq:ag -> OS:=
    (aH (uy 3 (ao 1)
    iu)
    ir)
noncomputable def il:ag -> OS:=
    (aH (bf 2 (bS aJ))
    iq)
noncomputable def iw:ag -> OS:=
    (aH (bf 1 (mOp eY (mOp eY (mC (.int 1)) (mUn y0 (mOp gGe (ao 0) (mC (.int 2048))))) (mUn y0 (mOp gGe (ao 0) (mC (.int 65536))))))
    il)
noncomputable def j3:ag -> OS:=
    (aH (bc (az (mOp gLt (ao 0) (mC (.int 128))))
    (aZ (bS (ak (ao 0) aJ)))
    aO)
    iw)
noncomputable def eH:List PV->OE:=fnP 1 4 j3
noncomputable def mj:ag -> OS:=
    (aH (bf 4 (mOp cw (ao 0) (mC (.int 16))))
    (aH (bc (az (mOp gLt (ao 4) (mC (.int 10))))
    (bf 2 (mOp iN (bS (ak (mOp eY (mC (.int 48)) (ao 4)) aJ)) (ao 2)))
    (bf 2 (mOp iN (bS (ak (mOp eY (gm (dM (ao 1)) (mC (.int 55)) (mC (.int 87))) (ao 4)) aJ)) (ao 2))))
    (bf 0 (mOp dA (ao 0) (mC (.int 16))))))
noncomputable def uo:ag -> OS:=
    (aZ (mOp iN (bS (ak (mC (.int 92)) (ak (mC (.int 117)) aJ))) (ao 2)))
noncomputable def ug:ag -> OS:=
    (aH (uy 3 (mC (.int 4))
    mj)
    uo)
noncomputable def w9:ag -> OS:=
    (aH (bf 2 (bS aJ))
    ug)
noncomputable def gR:List PV->OE:=fnP 2 5 w9
noncomputable def sM:ag -> OS:=
    (aZ (mOp iN (br gR (ak (mOp eY (mC (.int 55296)) (mOp dA (ao 4) (mC (.int 1024)))) (ak (mOp gEq (ao 3) (mC (.int 1))) aJ))) (br gR (ak (mOp eY (mC (.int 56320)) (mOp cw (ao 4) (mC (.int 1024)))) (ak (mOp gEq (ao 3) (mC (.int 0))) aJ)))))
noncomputable def sV:ag -> OS:=
    (aH (bf 4 (mOp wz (ao 0) (mC (.int 65536))))
    sM)
noncomputable def kT:ag -> OS:=
    (aH (bc (az (mOp gLt (ao 0) (mC (.int 65536))))
    (aZ (br gR (ak (ao 0) (ak (mOp gEq (ao 3) (mC (.int 1))) aJ))))
    aO)
    sV)
noncomputable def eW:ag -> OS:=
    (aH (bc (cZ (az (mOp gGt (ao 3) (mC (.int 1)))) (cZ (az (mOp gGe (ao 0) (mC (.int 32)))) (cZ (az (mOp gNe (ao 0) (mC (.int 34)))) (az (mOp gNe (ao 0) (mC (.int 92)))))))
    (aZ (br eH (ak (ao 0) aJ)))
    aO)
    kT)
noncomputable def ni:ag -> OS:=
    (aH (bc (cZ (az (mOp gEq (ao 3) (mC (.int 0)))) (az (zr false (ao 0) 2 aI)))
    (aZ (bS (ak (mC (.int 92)) (ak (Cc 2 aI (ao 0)) aJ))))
    aO)
    eW)
noncomputable def jc:ag -> OS:=
    (aH (bf 3 (mOp cw (ao 1) (mC (.int 5))))
    ni)
noncomputable def wo:ag -> OS:=
    (aH (j6 2 (Jv [(34,34),(92,92),(47,47),(8,98),(12,102),(10,110),(13,114),(9,116)]))
    jc)
noncomputable def iQ:List PV->OE:=fnP 2 5 wo
noncomputable def kY:ag -> OS:=
    (aH (bf 2 (mOp iN (ao 2) (br iQ (ak (ao 4) (ak (mOp eY (mOp dA (ao 1) (mOp eY (mC (.int 1)) (mOp cw (ao 3) (mC (.int 7))))) (ao 3)) aJ)))))
    (bf 3 (mOp eY (ao 3) (mC (.int 1)))))
noncomputable def rO:ag -> OS:=
    (aZ (mOp iN (ao 2) (bS (ak (mC (.int 34)) aJ))))
noncomputable def se:ag -> OS:=
    (aH (lX 4 (ao 0)
    kY)
    rO)
noncomputable def si:ag -> OS:=
    (aH (bf 3 (mC (.int 0)))
    se)
noncomputable def wb:ag -> OS:=
    (aH (bf 2 (bS (ak (mC (.int 34)) aJ)))
    si)
noncomputable def fR:List PV->OE:=fnP 2 5 wb
noncomputable def mT:ag -> OS:=
    (g9 5)
noncomputable def mL:ag -> OS:=
    (aH (bc (cZ (dv 3 aI) (az (mOp gEq (cF 3 (pIx 3 (pIx 3 aI (mUn gi (mC (.int 1)))) (mC (.int 0)))) (mC (.str "fields")))))
    (aH (bf 6 (br gz (ak (ao 0) (ak (mOp dA (ao 4) (mC (.int 13))) aJ))))
    (aH (bf 5 (mUn mJ (ao 6)))
    (aH (bf 7 (gb 1 aI))
    (aH (gu 6 (dH 1 aI (br fR (ak (ao 6) (ak (mOp dA (ao 4) (mC (.int 17))) aJ)))))
    (aH (b0 2 aI (mD (bS (ak (mC (.str "name")) (ak (ao 7) (ak (gb 1 aI) (ak (mC (.int 0)) aJ)))))))
    (aH (dH 1 aI (br cy (ak (mOp dA (ao 4) (mC (.int 19))) aJ)))
    (aH (b0 1 aI (mD (mC (.int 58))))
    (dH 1 aI (br cy (ak (mOp dA (ao 4) (mC (.int 23))) aJ))))))))))
    aO)
    mT)
noncomputable def qI:ag -> OS:=
    (aH (bc (cZ (dv 3 aI) (dM (cF 3 (pIx 3 (pIx 3 aI (mUn gi (mC (.int 1)))) (mC (.int 1))))))
    (aH (b0 1 aI (mD (mC (.int 44))))
    (dH 1 aI (br cy (ak (mOp dA (ao 4) (mC (.int 11))) aJ))))
    aO)
    mL)
noncomputable def qS:ag -> OS:=
    (aH (bf 5 (eU aJ))
    qI)
noncomputable def lQ:ag -> OS:=
    (aH (dH 1 aI (br cy (ak (mOp dA (ao 4) (mC (.int 3))) aJ)))
    qS)
noncomputable def fH:List Sl->OI:=fnI 5 8 lQ
noncomputable def iy:ag -> OT:=
    (az (mOp gEq (mOp cw (ao 0) (mC (.int 10))) (mC (.int 0))))
noncomputable def jX:ag -> OS:=
    (aH (bf 0 (mOp dA (ao 0) (mC (.int 10))))
    (bf 1 (mOp eY (ao 1) (mC (.int 1)))))
noncomputable def qM:ag -> OS:=
    (aZ (eU (ak (ao 0) (ak (ao 1) aJ))))
noncomputable def qP:ag -> OS:=
    (aH (gn iy
    jX fuel)
    qM)
noncomputable def pq:ag -> OS:=
    (aH (bc (az (mOp gEq (ao 0) (mC (.int 0))))
    (aZ (eU (ak (mC (.int 0)) (ak (mC (.int 0)) aJ))))
    aO)
    qP)
noncomputable def fg:List PV->OE:=fnP 2 2 pq
noncomputable def gw:ag -> OE:=
    (mUn BN (ao 0))
noncomputable def jm:ag -> OE:=
    (mOp eY (mC (.int 48)) (ao 0))
noncomputable def fE:ag -> OS:=
    (bf 4 (mOp eY (mOp zG (ao 4) (mC (.int 10))) (ao 5)))
noncomputable def gN:ag -> OS:=
    (aH (eS 3 (mOp eY (mC (.int 48)) (ao 5)))
    (aH (bf 4 (mOp eY (mOp zG (ao 4) (mC (.int 10))) (ao 5)))
    (bf 6 (mOp wz (ao 6) (mC (.int 1))))))
noncomputable def fF:ag -> OE:=
    (mUn EN (ao 0))
noncomputable def ku:ag -> OS:=
    (gu 3 (aZ (eU (ak (ao 3) (ak (br fg (ak (ao 4) (ak (ao 6) aJ))) aJ)))))
noncomputable def pO:ag -> OS:=
    (aH (bc (dM (ao 1))
    (bf 4 (mUn gi (ao 4)))
    aO)
    ku)
noncomputable def pM:ag -> OS:=
    (aH (bc (az (mOp gEq (mOp cw (mOp dA (ao 0) (mC (.int 31))) (mC (.int 3))) (mC (.int 1))))
    (aH (bf 7 (mOp cw (mOp dA (ao 0) (mC (.int 37))) (mC (.int 30))))
    (aH (eS 3 (mOp ou (bS (ak (mC (.int 101)) (ak (mC (.int 69)) aJ))) (mOp cw (mOp dA (ao 0) (mC (.int 41))) (mC (.int 2)))))
    (aH (bf 8 (mOp gEq (mOp cw (mOp dA (ao 0) (mC (.int 43))) (mC (.int 3))) (mC (.int 1))))
    (aH (bc (dM (ao 8))
    (eS 3 (mC (.int 45)))
    (bc (az (mOp gEq (mOp cw (mOp dA (ao 0) (mC (.int 43))) (mC (.int 3))) (mC (.int 2))))
    (eS 3 (mC (.int 43)))
    aO))
    (aH (bc (az (mOp gEq (mOp cw (mOp dA (ao 0) (mC (.int 47))) (mC (.int 4))) (mC (.int 1))))
    (eS 3 (mC (.int 48)))
    aO)
    (aH (bf 3 (mOp iN (ao 3) (o4 (mUn o1 (ao 7)) [] fF)))
    (bf 6 (mOp eY (ao 6) (gm (dM (ao 8)) (mUn gi (ao 7)) (ao 7))))))))))
    aO)
    pO)
noncomputable def pG:ag -> OS:=
    (aH (bc (az (mOp gEq (mOp cw (mOp dA (ao 0) (mC (.int 17))) (mC (.int 3))) (mC (.int 1))))
    (aH (eS 3 (mC (.int 46)))
    (lX 5 (pb (bS (ak (mOp cw (mOp dA (ao 0) (mC (.int 19))) (mC (.int 10))) (ak (mOp cw (mOp dA (ao 0) (mC (.int 23))) (mC (.int 4))) (ak (mC (.int 0)) aJ)))) (mC .non) (kb (mOp eY (mC (.int 1)) (mOp cw (mOp dA (ao 0) (mC (.int 29))) (mC (.int 3))))))
    gN))
    aO)
    pM)
noncomputable def pB:ag -> OS:=
    (aH (bf 6 (mC (.int 0)))
    pG)
noncomputable def pS:ag -> OS:=
    (aH (gu 2 (lX 5 (ao 2)
    fE))
    pB)
noncomputable def pU:ag -> OS:=
    (aH (bf 4 (mC (.int 0)))
    pS)
noncomputable def oU:ag -> OS:=
    (aH (bf 3 (mOp iN (ao 3) (qV (ao 2) [] jm)))
    pU)
noncomputable def oQ:ag -> OS:=
    (aH (bf 3 (gm (dM (ao 1)) (bS (ak (mC (.int 45)) aJ)) (bS aJ)))
    oU)
noncomputable def oX:ag -> OS:=
    (aH (bf 2 (o4 (mUn o1 (mOp cw (mOp dA (ao 0) (mC (.int 3))) (mC (.int 100000)))) [] gw))
    oQ)
noncomputable def sf:ag -> OS:=
    (aH (bf 1 (mOp gEq (mOp cw (ao 0) (mC (.int 3))) (mC (.int 0))))
    oX)
noncomputable def fV:List PV->OE:=fnP 1 9 sf
noncomputable def kJ:ag -> OS:=
    (aZ (eU (ak (mC (.str "number")) (ak (mOp dw (ao 4) (mC (.int 0))) (ak (eU (ak (mC (.str "number")) (ak (mOp dw (mOp dw (ao 4) (mC (.int 1))) (mC (.int 0))) (ak (mOp dw (mOp dw (ao 4) (mC (.int 1))) (mC (.int 1))) aJ)))) aJ)))))
noncomputable def ql:ag -> OS:=
    (aH (bf 4 (br fV (ak (mOp dA (ao 1) (mC (.int 7))) aJ)))
    kJ)
noncomputable def qm:ag -> OS:=
    (aH (bc (az (mOp gEq (ao 2) (mC (.int 3))))
    (aH (bf 3 (br eC (ak (ao 0) (ak (mOp eY (mC (.int 7)) (mOp cw (ao 1) (mC (.int 41)))) aJ))))
    (gu 3 (aZ (eU (ak (mC (.str "text")) (ak (br fR (ak (ao 3) (ak (mOp dA (ao 1) (mC (.int 30))) aJ))) (ak (eU (ak (mC (.str "text")) (ak (mUn mJ (ao 3)) aJ))) aJ)))))))
    aO)
    ql)
noncomputable def qk:ag -> OS:=
    (aH (bc (az (mOp gEq (ao 2) (mC (.int 2))))
    (aZ (eU (ak (mC (.str "false")) (ak (bS (ak (mC (.int 102)) (ak (mC (.int 97)) (ak (mC (.int 108)) (ak (mC (.int 115)) (ak (mC (.int 101)) aJ)))))) (ak (mC (.bl false)) aJ)))))
    aO)
    qm)
noncomputable def qe:ag -> OS:=
    (aH (bc (az (mOp gEq (ao 2) (mC (.int 1))))
    (aZ (eU (ak (mC (.str "true")) (ak (bS (ak (mC (.int 116)) (ak (mC (.int 114)) (ak (mC (.int 117)) (ak (mC (.int 101)) aJ))))) (ak (mC (.bl true)) aJ)))))
    aO)
    qk)
noncomputable def kI:ag -> OS:=
    (aH (bc (az (mOp gEq (ao 2) (mC (.int 0))))
    (aZ (eU (ak (mC (.str "null")) (ak (bS (ak (mC (.int 110)) (ak (mC (.int 117)) (ak (mC (.int 108)) (ak (mC (.int 108)) aJ))))) (ak (mC .non) aJ)))))
    aO)
    qe)
noncomputable def mw:ag -> OS:=
    (aH (bf 2 (mOp cw (mOp dA (ao 1) (mC (.int 5))) (mC (.int 6))))
    kI)
noncomputable def cp:List PV->OE:=fnP 2 5 mw
noncomputable def iA:ag -> OS:=
    (aH (bf 7 (br eJ (ak (ao 0) (ak (ao 6) aJ))))
    (bc (cZ (dv 4 aI) (az (mOp gEq (mOp cw (ao 7) (mC (.int 5))) (mC (.int 1)))))
    (aH (dH 2 aI (br cy (ak (mOp dA (ao 7) (mC (.int 3))) aJ)))
    (hJ 5 (iG cS [.t 2 aI,.t 3 aI,.t 4 aI])))
    (bc (kW (dv 4 aI) (az (mOp gEq (ao 6) (mC (.int 0)))))
    (aH (hJ 8 (iG fH [.e (ao 0),.t 2 aI,.t 3 aI,.t 4 aI,.e (ao 7)]))
    (aH (bf 9 (gb 2 aI))
    (bc (kW (az (mOp gGt (mOp cw (ao 7) (mC (.int 5))) (mC (.int 2)))) (cZ (az (mOp gEq (ao 6) (mC (.int 0)))) (az (mOp gGt (mOp cw (ao 7) (mC (.int 9))) (mC (.int 0))))))
    (aH (bf 10 (mOp ou (bS (ak (mC (.str "row")) (ak (mC (.str "fields")) aJ))) (mOp cw (mOp dA (ao 7) (mC (.int 5))) (mC (.int 2)))))
    (aH (b0 2 aI (mD (gm (az (mOp gEq (ao 10) (mC (.str "row")))) (mC (.int 91)) (mC (.int 123)))))
    (aH (b0 4 aI (mDl (mDc (mD (ao 10)) (mDc (mD (bS aJ)) (mDc (mD (gb 3 aI)) (mDc (mD (ao 8)) mDn))))))
    (b0 3 aI (mD (bS (ak (ao 10) (ak (ao 9) (ak (mC (.int 0)) (ak (mC (.int 0)) aJ))))))))))
    (aH (bf 11 (br cp (ak (ao 0) (ak (ao 7) aJ))))
    (aH (dH 2 aI (mOp dw (ao 11) (mC (.int 1))))
    (aH (b0 3 aI (mD (bS (ak (mOp dw (ao 11) (mC (.int 0))) (ak (ao 9) (ak (gb 2 aI) (ak (mOp eY (gb 3 aI) (mC (.int 1))) aJ)))))))
    (aH (bf 5 (mOp dw (ao 11) (mC (.int 2))))
    (bc (cZ (dv 4 aI) (az (mOp gEq (cF 4 (pIx 4 (pIx 4 aI (mUn gi (mC (.int 1)))) (mC (.int 0)))) (mC (.str "fields")))))
    (aH (pC 3 (pIx 3 aI (mUn gi (mC (.int 2)))) (mC (.int 3)) (mD (gb 3 aI)))
    (b0 4 (pIx 4 (pIx 4 aI (mUn gi (mC (.int 1)))) (mC (.int 1))) (mD (eU (ak (ao 8) (ak (ao 5) aJ))))))
    (bc (dv 4 aI)
    (b0 4 (pIx 4 (pIx 4 aI (mUn gi (mC (.int 1)))) (mC (.int 1))) (mD (ao 5)))
    aO)))))))))
    aO)))
noncomputable def iz:ag -> OT:=
    (dv 4 aI)
noncomputable def jU:ag -> OS:=
    (hJ 5 (iG cS [.t 2 aI,.t 3 aI,.t 4 aI]))
noncomputable def mE:ag -> OE:=
    (mUn mJ (ao 0))
noncomputable def qr:ag -> OS:=
    (lC 3 (lC 2 (aZ (eU (ak (ao 2) (ak (qV (ao 3) [] mE) (ak (ao 5) aJ)))))))
noncomputable def mK:ag -> OS:=
    (aH (dH 2 aI (br cy (ak (br eJ (ak (ao 0) (ak (mC (.int 61)) aJ))) aJ)))
    qr)
noncomputable def qQ:ag -> OS:=
    (aH (gn iz
    jU fuel)
    mK)
noncomputable def mI:ag -> OS:=
    (aH (uy 6 (ao 1)
    iA)
    qQ)
noncomputable def qw:ag -> OS:=
    (aH (bf 5 (mC .non))
    mI)
noncomputable def qA:ag -> OS:=
    (aH (j6 4 (mD (bS aJ)))
    qw)
noncomputable def qF:ag -> OS:=
    (aH (j6 3 (mD (bS aJ)))
    qA)
noncomputable def pW:ag -> OS:=
    (aH (j6 2 (mD (bS aJ)))
    qF)
noncomputable def gJ:List PV->OE:=fnP 2 12 pW
noncomputable def uI:ag -> OS:=
    (Fh 0 aI "coming" ng (mD (bS (ak (mC (.str "white")) (ak (mC (.str "value")) (ak (mC (.str "white")) aJ))))))
noncomputable def cb:List Sl->OI:=fnI 1 1 uI
noncomputable def j1:ag -> OS:=
    (aZ (mUn (gy [(110,.tup ([117,108,108].map .int)),(116,.tup ([114,117,101].map .int)),(102,.tup ([97,108,115,101].map .int))]) (ao 0)))
noncomputable def fi:List PV->OE:=fnP 1 1 j1
noncomputable def uA:ag -> OS:=
    (aZ (iR gLe gLe (mC (.int 48)) (ao 0) (mC (.int 57))))
noncomputable def eV:List PV->OE:=fnP 1 1 uA
noncomputable def kl:ag -> OS:=
    (aZ (mC .non))
noncomputable def kj:ag -> OS:=
    (aH (bc (dM (br eV (ak (ao 0) aJ)))
    (aZ (bS (ak (mC (.str "figures")) (ak (mC (.str "fraction")) (ak (mC (.str "exponent")) aJ)))))
    aO)
    kl)
noncomputable def mQ:ag -> OS:=
    (aH (bc (az (mOp gEq (ao 0) (mC (.int 48))))
    (aZ (bS (ak (mC (.str "fraction")) (ak (mC (.str "exponent")) aJ))))
    aO)
    kj)
noncomputable def dP:List PV->OE:=fnP 1 1 mQ
noncomputable def cL:ag -> OE:=
    (eU (ak (ao 0) (ak (ao 0) aJ)))
noncomputable def cI:ag -> OS:=
    (aZ (br dP (ak (ao 0) aJ)))
noncomputable def cH:ag -> OS:=
    (aH (bc (az (mOp vW (ao 1) (mC .non)))
    (aZ (vD (ao 1) [] cL))
    aO)
    cI)
noncomputable def cG:ag -> OS:=
    (aH (bf 1 (br fi (ak (ao 0) aJ)))
    cH)
noncomputable def cN:ag -> OS:=
    (aH (bc (az (mOp gEq (ao 0) (mC (.int 45))))
    (aZ (bS (ak (mC (.str "lead")) aJ)))
    aO)
    cG)
noncomputable def cO:ag -> OS:=
    (aH (bc (az (mOp gEq (ao 0) (mC (.int 34))))
    (aZ (bS (ak (mC (.str "text")) aJ)))
    aO)
    cN)
noncomputable def cJ:ag -> OS:=
    (aH (bc (az (mOp gEq (ao 0) (mC (.int 123))))
    (aZ (bS (ak (mC (.str "white")) (ak (mC (.str "fields")) aJ))))
    aO)
    cO)
noncomputable def dy:ag -> OS:=
    (aH (bc (az (mOp gEq (ao 0) (mC (.int 91))))
    (aZ (bS (ak (mC (.str "white")) (ak (mC (.str "row")) aJ))))
    aO)
    cJ)
noncomputable def bL:List PV->OE:=fnP 1 2 dy
noncomputable def bB:ag -> OS:=
    (aZ (gm (az (mOp gIn (ao 1) (eU (ak (mC (.int 43)) (ak (mC (.int 45)) aJ))))) (bS aJ) (mC .non)))
noncomputable def bz:ag -> OS:=
    (aH (bc (az (mOp gEq (ao 0) (mC (.str "exponent"))))
    (aZ (gm (az (mOp gIn (ao 1) (eU (ak (mC (.int 101)) (ak (mC (.int 69)) aJ))))) (bS (ak (mC (.str "sign")) (ak (eU (ak (mC (.int 48)) (ak (mC (.int 57)) aJ))) (ak (mC (.str "figures")) aJ)))) (mC .non)))
    aO)
    bB)
noncomputable def bC:ag -> OS:=
    (aH (bc (az (mOp gEq (ao 0) (mC (.str "fraction"))))
    (aZ (gm (az (mOp gEq (ao 1) (mC (.int 46)))) (bS (ak (eU (ak (mC (.int 48)) (ak (mC (.int 57)) aJ))) (ak (mC (.str "figures")) aJ))) (mC .non)))
    aO)
    bz)
noncomputable def bx:ag -> OS:=
    (aH (bc (az (mOp gEq (ao 0) (mC (.str "figures"))))
    (aZ (gm (dM (br eV (ak (ao 1) aJ))) (bS (ak (mC (.str "figures")) aJ)) (mC .non)))
    aO)
    bC)
noncomputable def bX:ag -> OS:=
    (aH (bc (az (mOp gEq (ao 0) (mC (.str "lead"))))
    (aZ (br dP (ak (ao 1) aJ)))
    aO)
    bx)
noncomputable def aX:List PV->OE:=fnP 2 2 bX
noncomputable def qN:ag -> OS:=
    (aZ (mC .non))
noncomputable def qG:ag -> OS:=
    (aH (bc (az (iR gLe gLe (mC (.int 97)) (ao 0) (mC (.int 102))))
    (aZ (mOp wz (ao 0) (mC (.int 87))))
    aO)
    qN)
noncomputable def qK:ag -> OS:=
    (aH (bc (az (iR gLe gLe (mC (.int 65)) (ao 0) (mC (.int 70))))
    (aZ (mOp wz (ao 0) (mC (.int 55))))
    aO)
    qG)
noncomputable def uv:ag -> OS:=
    (aH (bc (dM (br eV (ak (ao 0) aJ)))
    (aZ (mOp wz (ao 0) (mC (.int 48))))
    aO)
    qK)
noncomputable def fK:List PV->OE:=fnP 1 1 uv
noncomputable def jg:ag -> OS:=
    (aZ (mC .non))
noncomputable def jq:ag -> OS:=
    (aH (bc (az (mOp gLt (ao 0) (mC (.int 12))))
    (aH (bf 1 (bS (ak (eU (ak (mC (.int 92)) (ak (mC (.int 92)) aJ))) (ak (eU (ak (mC (.int 117)) (ak (mC (.int 117)) aJ))) (ak (mC (.str "hex d")) (ak (mC (.str "hex c to f")) (ak (mC (.str "hex")) (ak (mC (.str "hex")) aJ))))))))
    (aZ (mOp iN (bS (ak (mC (.str "hex")) (ak (mC (.str "hex")) aJ))) (ao 1))))
    aO)
    jg)
noncomputable def kB:ag -> OS:=
    (aH (bc (az (mOp gLt (ao 0) (mC (.int 8))))
    (aZ (bS (ak (mC (.str "hex")) (ak (mC (.str "hex")) aJ))))
    aO)
    jq)
noncomputable def dC:List PV->OE:=fnP 1 2 kB
noncomputable def ij:ag -> OS:=
    (aZ (mC (.tup ([128,191].map .int))))
noncomputable def hZ:ag -> OS:=
    (aH (bc (az (mOp gEq (ao 0) (mC (.int 237))))
    (aZ (eU (ak (mC (.int 128)) (ak (mC (.int 159)) aJ))))
    aO)
    ij)
noncomputable def ju:ag -> OS:=
    (aH (bc (az (mOp gEq (ao 0) (mC (.int 224))))
    (aZ (eU (ak (mC (.int 160)) (ak (mC (.int 191)) aJ))))
    aO)
    hZ)
noncomputable def cR:List PV->OE:=fnP 1 1 ju
noncomputable def iU:ag -> OS:=
    (aZ (mC (.tup ([128,191].map .int))))
noncomputable def iP:ag -> OS:=
    (aH (bc (az (mOp gEq (ao 0) (mC (.int 244))))
    (aZ (eU (ak (mC (.int 128)) (ak (mC (.int 143)) aJ))))
    aO)
    iU)
noncomputable def jB:ag -> OS:=
    (aH (bc (az (mOp gEq (ao 0) (mC (.int 240))))
    (aZ (eU (ak (mC (.int 144)) (ak (mC (.int 191)) aJ))))
    aO)
    iP)
noncomputable def dm:List PV->OE:=fnP 1 1 jB
noncomputable def la:ag -> OS:=
    (aZ (mC .non))
noncomputable def lg:ag -> OS:=
    (aH (bc (az (iR gLe gLt (mC (.int 240)) (ao 0) (mC (.int 245))))
    (aZ (bS (ak (br dm (ak (ao 0) aJ)) (ak (mC (.tup ([128,191].map .int))) (ak (mC (.tup ([128,191].map .int))) aJ)))))
    aO)
    la)
noncomputable def lj:ag -> OS:=
    (aH (bc (az (iR gLe gLt (mC (.int 224)) (ao 0) (mC (.int 240))))
    (aZ (bS (ak (br cR (ak (ao 0) aJ)) (ak (mC (.tup ([128,191].map .int))) aJ))))
    aO)
    lg)
noncomputable def lb:ag -> OS:=
    (aH (bc (az (iR gLe gLt (mC (.int 194)) (ao 0) (mC (.int 224))))
    (aZ (bS (ak (mC (.tup ([128,191].map .int))) aJ)))
    aO)
    lj)
noncomputable def qb:ag -> OS:=
    (aH (bc (az (iR gLe gLt (mC (.int 0)) (ao 0) (mC (.int 128))))
    (aZ (bS aJ))
    aO)
    lb)
noncomputable def jw:List PV->OE:=fnP 1 1 qb
noncomputable def dY:ag -> OS:=
    (aZ (mOp iN (ao 1) (bS (ak (mC (.str "text")) aJ))))
noncomputable def dS:ag -> OS:=
    (aH (bc (kW (az (mOp gLt (ao 0) (mC (.int 32)))) (az (mOp rS (ao 1) (mC .non))))
    (aZ (mC .non))
    aO)
    dY)
noncomputable def dU:ag -> OS:=
    (aH (bf 1 (br jw (ak (ao 0) aJ)))
    dS)
noncomputable def dR:ag -> OS:=
    (aH (bc (az (mOp gEq (ao 0) (mC (.int 92))))
    (aZ (bS (ak (mC (.str "escape")) (ak (mC (.str "text")) aJ))))
    aO)
    dU)
noncomputable def eL:ag -> OS:=
    (aH (bc (az (mOp gEq (ao 0) (mC (.int 34))))
    (aZ (bS aJ))
    aO)
    dR)
noncomputable def bW:List PV->OE:=fnP 1 2 eL
noncomputable def cW:ag -> OS:=
    (aZ (mUn (gy [(34,.int 34),(92,.int 92),(47,.int 47),(98,.int 8),(102,.int 12),(110,.int 10),(114,.int 13),(116,.int 9)]) (ao 0)))
noncomputable def bM:List PV->OE:=fnP 1 1 cW
noncomputable def iL:ag -> OS:=
    (aH (bc (az (mOp gEq (ao 0) (mC (.int 117))))
    (aZ (bS (ak (mC (.str "code")) aJ)))
    aO)
    (aZ (gm (az (mOp rS (br bM (ak (ao 0) aJ)) (mC .non))) (mC .non) (bS aJ))))
noncomputable def cA:List PV->OE:=fnP 1 1 iL
noncomputable def df:ag -> OS:=
    (aZ (br dC (ak (ao 2) aJ)))
noncomputable def dg:ag -> OS:=
    (aH (bc (az (mOp gEq (ao 0) (mC (.str "code"))))
    (aZ (gm (az (mOp gEq (ao 2) (mC (.int 13)))) (bS (ak (mC (.str "code d")) aJ)) (bS (ak (mC (.str "hex")) (ak (mC (.str "hex")) (ak (mC (.str "hex")) aJ))))))
    aO)
    df)
noncomputable def da:ag -> OS:=
    (aH (bc (az (mOp rS (ao 2) (mC .non)))
    (aZ (mC .non))
    aO)
    dg)
noncomputable def de:ag -> OS:=
    (aH (bf 2 (br fK (ak (ao 1) aJ)))
    da)
noncomputable def dc:ag -> OS:=
    (aH (bc (az (mOp gEq (ao 0) (mC (.str "escape"))))
    (aZ (br cA (ak (ao 1) aJ)))
    aO)
    de)
noncomputable def dO:ag -> OS:=
    (aH (bc (az (mOp gEq (ao 0) (mC (.str "text"))))
    (aZ (br bW (ak (ao 1) aJ)))
    aO)
    dc)
noncomputable def bI:List PV->OE:=fnP 2 3 dO
noncomputable def gC:ag -> OS:=
    (aZ (bS aJ))
noncomputable def gG:ag -> OS:=
    (aH (bc (az (mOp gEq (ao 0) (mC (.str "hex c to f"))))
    (aZ (gm (az (mOp gGe (ao 2) (mC (.int 12)))) (bS aJ) (mC .non)))
    aO)
    gC)
noncomputable def gA:ag -> OS:=
    (aH (bc (az (mOp gEq (ao 0) (mC (.str "hex d"))))
    (aZ (gm (az (mOp gEq (ao 2) (mC (.int 13)))) (bS aJ) (mC .non)))
    aO)
    gG)
noncomputable def gD:ag -> OS:=
    (aH (bc (az (mOp rS (ao 2) (mC .non)))
    (aZ (mC .non))
    aO)
    gA)
noncomputable def jn:ag -> OS:=
    (aH (bf 2 (br fK (ak (ao 1) aJ)))
    gD)
noncomputable def du:List PV->OE:=fnP 2 3 jn
noncomputable def fb:ag -> OS:=
    (aZ (gm (az (mOp rS (ao 1) (mC .non))) (mC .non) (mOp iN (ao 1) (bS (ak (mC (.str "white")) (ak (mC (.str "more row")) aJ))))))
noncomputable def fe:ag -> OS:=
    (aH (bf 1 (br bL (ak (ao 0) aJ)))
    fb)
noncomputable def fT:ag -> OS:=
    (aH (bc (az (mOp gEq (ao 0) (mC (.int 93))))
    (aZ (bS aJ))
    aO)
    fe)
noncomputable def b4:List PV->OE:=fnP 1 2 fT
noncomputable def qC:ag -> OS:=
    (aZ (bS (ak (mC (.str "white")) (ak (eU (ak (mC (.int 58)) (ak (mC (.int 58)) aJ))) (ak (mC (.str "white")) (ak (mC (.str "value")) (ak (mC (.str "white")) (ak (mC (.str "more fields")) aJ))))))))
noncomputable def eG:List PV->OE:=fnP 0 0 qC
noncomputable def gg:ag -> OS:=
    (aH (bc (az (mOp gEq (ao 0) (mC (.int 125))))
    (aZ (bS aJ))
    aO)
    (aZ (gm (az (mOp gEq (ao 0) (mC (.int 34)))) (mOp iN (bS (ak (mC (.str "text")) aJ)) (br eG aJ)) (mC .non))))
noncomputable def bY:List PV->OE:=fnP 1 1 gg
noncomputable def b6:ag -> OS:=
    (aZ (gm (az (mOp gEq (ao 1) (mC (.int 125)))) (bS aJ) (mC .non)))
noncomputable def b5:ag -> OS:=
    (aH (bc (az (mOp gEq (ao 1) (mC (.int 44))))
    (aZ (mOp iN (bS (ak (mC (.str "white")) (ak (mC (.str "name")) aJ))) (br eG aJ)))
    aO)
    b6)
noncomputable def b7:ag -> OS:=
    (aH (bc (az (mOp gEq (ao 0) (mC (.str "more row"))))
    (aH (bc (az (mOp gEq (ao 1) (mC (.int 44))))
    (aZ (bS (ak (mC (.str "white")) (ak (mC (.str "value")) (ak (mC (.str "white")) (ak (mC (.str "more row")) aJ))))))
    aO)
    (aZ (gm (az (mOp gEq (ao 1) (mC (.int 93)))) (bS aJ) (mC .non))))
    aO)
    b5)
noncomputable def b9:ag -> OS:=
    (aH (bc (az (mOp gEq (ao 0) (mC (.str "fields"))))
    (aZ (br bY (ak (ao 1) aJ)))
    aO)
    b7)
noncomputable def cx:ag -> OS:=
    (aH (bc (az (mOp gEq (ao 0) (mC (.str "row"))))
    (aZ (br b4 (ak (ao 1) aJ)))
    aO)
    b9)
noncomputable def bb:List PV->OE:=fnP 2 2 cx
noncomputable def vi:ag -> OS:=
    (aZ (mOp gIn (ao 0) (mC (.tup ([9,10,13,32].map .int)))))
noncomputable def iE:List PV->OE:=fnP 1 1 vi
noncomputable def vS:ag -> OS:=
    (aZ (br bL (ak (ao 1) aJ)))
noncomputable def vn:ag -> OS:=
    (aH (bc (az (mOp gEq (ao 0) (mC (.str "name"))))
    (aZ (gm (az (mOp gEq (ao 1) (mC (.int 34)))) (bS (ak (mC (.str "text")) aJ)) (mC .non)))
    aO)
    vS)
noncomputable def vO:ag -> OS:=
    (aH (bc (az (mOp gEq (ao 0) (mC (.str "white"))))
    (aZ (gm (dM (br iE (ak (ao 1) aJ))) (bS (ak (mC (.str "white")) aJ)) (mC .non)))
    aO)
    vn)
noncomputable def vd:ag -> OS:=
    (aH (bc (az (mOp gIn (ao 0) (mC (.tup [.str "row",.str "more row",.str "fields",.str "more fields"]))))
    (aZ (br bb (ak (ao 0) (ak (ao 1) aJ))))
    aO)
    vO)
noncomputable def vm:ag -> OS:=
    (aH (bc (az (mOp gIn (ao 0) (eU (ak (mC (.str "hex")) (ak (mC (.str "hex d")) (ak (mC (.str "hex c to f")) aJ))))))
    (aZ (br du (ak (ao 0) (ak (ao 1) aJ))))
    aO)
    vd)
noncomputable def vF:ag -> OS:=
    (aH (bc (az (mOp gIn (ao 0) (eU (ak (mC (.str "text")) (ak (mC (.str "escape")) (ak (mC (.str "code")) (ak (mC (.str "code d")) aJ)))))))
    (aZ (br bI (ak (ao 0) (ak (ao 1) aJ))))
    aO)
    vm)
noncomputable def u7:ag -> OS:=
    (aH (bc (az (mOp gIn (ao 0) (eU (ak (mC (.str "lead")) (ak (mC (.str "figures")) (ak (mC (.str "fraction")) (ak (mC (.str "exponent")) (ak (mC (.str "sign")) aJ))))))))
    (aZ (br aX (ak (ao 0) (ak (ao 1) aJ))))
    aO)
    vF)
noncomputable def vx:ag -> OS:=
    (aH (bc (dM (mIs "tuple" (ao 0)))
    (aZ (gm (az (iR gLe gLe (mOp dw (ao 0) (mC (.int 0))) (ao 1) (mOp dw (ao 0) (mC (.int 1))))) (bS aJ) (mC .non)))
    aO)
    u7)
noncomputable def j7:List PV->OE:=fnP 2 2 vx
noncomputable def iZ:ag -> OE:=
    (ao 0)
noncomputable def gp:ag -> OT:=
    (az (mOp gIn (ao 0) (mC (.tup [.str "row",.str "more row",.str "fields",.str "more fields"]))))
noncomputable def oJ:ag -> OS:=
    (aZ (mUn yF (ke (cF 0 (pFd 0 aI "coming" ng)) [] gp iZ)))
noncomputable def cD:List Sl->OI:=fnI 1 1 oJ
noncomputable def hE:ag -> OT:=
    (dv 0 (pFd 0 aI "coming" ng))
noncomputable def gV:ag -> OS:=
    (aH (hJ 2 (qO 0 (pFd 0 aI "coming" ng)))
    (aH (bf 3 (br j7 (ak (ao 2) (ak (ao 1) aJ))))
    (aH (bc (az (mOp vW (ao 3) (mC .non)))
    (aH (dH 0 (pFd 0 aI "coming" ng) (C4 (ao 3) (mUn gi (mC (.int 1)))))
    (aZ (mOp gLe (n9 "Walk" "brackets" cD [.b 0 aI]) (mC (.int 64)))))
    aO)
    (bc (az (mOp tJ (ao 2) (mC (.tup [.str "white",.str "figures",.str "fraction",.str "exponent",.str "sign"]))))
    (aZ (mC (.bl false)))
    aO))))
noncomputable def jl:ag -> OS:=
    (aH (gn hE
    gV fuel)
    (aZ (mC (.bl false))))
noncomputable def dX:List Sl->OI:=fnI 2 4 jl
noncomputable def jW:ag -> OS:=
    (HH true (lJ "Walk" "goes_on" dX [.t 0 aI,.e (ao 3)])
    (g9 2)
    aO)
noncomputable def my:ag -> OS:=
    (aH (Ci 2 3 (ao 1)
    jW)
    (aZ (mUn yF (ao 1))))
noncomputable def eI:List Sl->OI:=fnI 2 4 my
noncomputable def Bx:ag -> OS:=
    (aH (bc (dM (mIs "tuple" (ao 0)))
    (aZ (eU (ak (mOp dw (ao 0) (mC (.int 0))) aJ)))
    aO)
    (aZ (A3 [("value",.tup ([48].map .int)),("lead",.tup ([48].map .int)),("text",.tup ([34].map .int)),("name",.tup ([34,34].map .int)),("escape",.tup ([34].map .int)),("code",.tup ([48,48,48,48].map .int)),("code d",.tup ([48,48,48].map .int)),("hex",.tup ([48].map .int)),("hex d",.tup ([68].map .int)),("hex c to f",.tup ([67].map .int)),("row",.tup ([93].map .int)),("more row",.tup ([93].map .int)),("fields",.tup ([125].map .int)),("more fields",.tup ([125].map .int))] (ao 0) (eU aJ))))
noncomputable def iK:List PV->OE:=fnP 1 1 Bx
noncomputable def va:ag -> OS:=
    (o7 3 aI (br iK (ak (ao 4) aJ)))
noncomputable def vZ:ag -> OS:=
    (lC 3 (g9 3))
noncomputable def vK:ag -> OS:=
    (aH (lX 4 (C4 (cF 1 (pFd 1 aI "coming" ng)) (mUn gi (mC (.int 1))))
    va)
    vZ)
noncomputable def wj:ag -> OS:=
    (aH (j6 3 (mD (bS aJ)))
    vK)
noncomputable def vh:ag -> OS:=
    (aH (bc (az (mOp gLt (ao 2) (mUn yF (ao 0))))
    F4
    aO)
    wj)
noncomputable def vI:ag -> OS:=
    (aH (hJ 2 (lJ "Walk" "take" eI [.t 1 aI,.e (ao 0)]))
    vh)
noncomputable def zF:ag -> OS:=
    (aH (j6 1 (sy "Walk" cb))
    vI)
noncomputable def ka:List PV->OE:=fnP 1 5 zF
noncomputable def uj:ag -> OS:=
    (aZ (BE (mIs "int" (ao 0)) (Gb (mIs "bool" (ao 0)))))
noncomputable def gM:List PV->OE:=fnP 1 1 uj
noncomputable def lL:ag -> OE:=
    (br gM (ak (ao 0) aJ))
noncomputable def sT:ag -> OS:=
    (aZ (BE (mIs "list" (ao 0)) (mUn Dy (qV (ao 0) [] lL))))
noncomputable def eX:List PV->OE:=fnP 1 1 sT
noncomputable def i3:ag -> OE:=
    (mOp gIn (ao 0) (mC (.tup [.str "white",.str "figures",.str "fraction",.str "exponent",.str "sign"])))
noncomputable def oA:ag -> OS:=
    (aZ (mUn Dy (qV (cF 0 (pFd 0 aI "coming" ng)) [] i3)))
noncomputable def cY:List Sl->OI:=fnI 1 1 oA
noncomputable def tj:ag -> OS:=
    (g9 2)
noncomputable def wO:ag -> OS:=
    (aH (bc (cZ (az (mOp gEq (ao 2) (mUn yF (ao 0)))) (dM (n9 "Walk" "is_whole" cY [.b 1 aI])))
    (aZ (mC .non))
    aO)
    tj)
noncomputable def xv:ag -> OS:=
    (aH (hJ 2 (lJ "Walk" "take" eI [.t 1 aI,.e (ao 0)]))
    wO)
noncomputable def Cv:ag -> OS:=
    (aH (j6 1 (sy "Walk" cb))
    xv)
noncomputable def kU:List PV->OE:=fnP 1 3 Cv
noncomputable def uZ:ag -> OS:=
    (bc (az (iR gLt gLt (mOp dw (ao 8) (mC (.int 1))) (ao 3) (mOp dw (ao 8) (mC (.int 2)))))
    (bc (az (mOp gIn (mOp dw (ao 8) (mC (.int 0))) (eU (ak (mC (.str "row")) (ak (mC (.str "fields")) aJ)))))
    (bf 6 (mOp eY (ao 6) (mC (.int 1))))
    (bf 7 (mOp eY (ao 7) (mC (.int 1)))))
    aO)
noncomputable def u0:ag -> OE:=
    (ao 0)
noncomputable def uS:ag -> OT:=
    (az (mOp tJ (ao 0) (eU (ak (mC (.int 32)) (ak (mC (.int 9)) (ak (mC (.int 10)) (ak (mC (.int 13)) aJ)))))))
noncomputable def u3:ag -> OE:=
    (gm (az (mOp gEq (mOp dw (ao 1) (mC (.int 0))) (mC (.str "fields")))) (mC (.int 125)) (mC (.int 93)))
noncomputable def BD:ag -> OT:=
    (az (iR gLt gLt (mOp dw (ao 1) (mC (.int 1))) (ao 0) (mOp dw (ao 1) (mC (.int 2)))))
noncomputable def u2:ag -> OS:=
    (bc (cZ (az (mOp gIn (mOp dw (ao 8) (mC (.int 0))) (eU (ak (mC (.str "name")) (ak (mC (.str "text")) aJ))))) (cZ (az (mOp gLe (mOp dw (ao 8) (mC (.int 2))) (ao 3))) (kW (az (mOp rS (ao 11) (mC .non))) (az (mOp gGt (mOp dw (ao 8) (mC (.int 2))) (mOp dw (ao 11) (mC (.int 2))))))))
    (bf 11 (ao 8))
    aO)
noncomputable def Ep:ag -> OS:=
    (aZ (mOp xP (ao 5) (ao 10)))
noncomputable def su:ag -> OS:=
    (aH (bc (kW (az (mOp gEq (ao 9) (mC (.int 44)))) (az (mOp gEq (ao 9) (mC (.int 58)))))
    (aZ (mOp xP (ao 5) (mOp iN (bS (ak (mC (.int 48)) aJ)) (ao 10))))
    aO)
    Ep)
noncomputable def vC:ag -> OS:=
    (aH (bc (cZ (az (mOp gEq (ao 9) (mC (.int 44)))) (az (mOp gEq (mOp ou (ao 10) (mC (.int 0))) (mC (.int 125)))))
    (aZ (mOp xP (ao 5) (mOp iN (bS (ak (mC (.int 34)) (ak (mC (.int 34)) (ak (mC (.int 58)) (ak (mC (.int 48)) aJ))))) (ao 10))))
    aO)
    su)
noncomputable def vP:ag -> OS:=
    (aH (bc (cZ (az (mOp gEq (ao 9) (mC (.int 34)))) (az (mOp gEq (mOp dw (ao 11) (mC (.int 0))) (mC (.str "name")))))
    (aZ (mOp xP (ao 5) (mOp iN (bS (ak (mC (.int 58)) (ak (mC (.int 48)) aJ))) (ao 10))))
    aO)
    vC)
noncomputable def zI:ag -> OS:=
    (aH (lX 8 (mOp dw (ao 1) (mC (.int 1)))
    u2)
    vP)
noncomputable def yT:ag -> OS:=
    (aH (bf 11 (mC .non))
    zI)
noncomputable def zT:ag -> OS:=
    (aH (rN 10)
    yT)
noncomputable def zp:ag -> OS:=
    (aH (bf 10 (ke (mOp dw (ao 1) (mC (.int 1))) [3] BD u3))
    zT)
noncomputable def zO:ag -> OS:=
    (aH (bf 9 (mOp ou (ke (pb (ao 2) (mC .non) (kb (ao 3))) [] uS u0) (mUn gi (mC (.int 1)))))
    zp)
noncomputable def zJ:ag -> OS:=
    (aH (bc (kW (az (mOp gGt (ao 7) (mC (.int 0)))) (az (mOp gEq (ao 6) (mC (.int 0)))))
    (aZ (mC (.bl true)))
    aO)
    zO)
noncomputable def B2:ag -> OS:=
    (aH (lX 8 (mOp dw (ao 1) (mC (.int 1)))
    uZ)
    zJ)
noncomputable def BV:ag -> OS:=
    (aH (bf 7 (mC (.int 0)))
    B2)
noncomputable def x9:ag -> OS:=
    (aH (bf 6 (mC (.int 0)))
    BV)
noncomputable def BR:ag -> OS:=
    (aH (bc (az (mOp CL (br ka (ak (ao 2) aJ)) (bS aJ)))
    (aZ (mC (.bl false)))
    aO)
    x9)
noncomputable def CB:ag -> OS:=
    (aH (gu 5 (bc (kW (Cb (dM (br eX (ak (ao 5) aJ)))) (kW (az (mOp CL (ao 4) (pb (ao 2) (mC .non) (kb (ao 3))))) (az (mOp vW (br kU (ak (mOp iN (pb (ao 2) (mC .non) (kb (ao 3))) (ao 5)) aJ)) (mC .non)))))
    (aZ (mC (.bl false)))
    aO))
    BR)
noncomputable def Ce:ag -> OS:=
    (aH (gu 4 (bf 5 (br ka (ak (ao 4) aJ))))
    CB)
noncomputable def Cn:ag -> OS:=
    (aH (bf 4 (pb (ao 2) (mC .non) (kb (ao 3))))
    Ce)
noncomputable def B5:ag -> OS:=
    (aH (bf 3 (mOp cw (br eJ (ak (ao 0) (ak (mC (.int 60)) aJ))) (mOp eY (mUn yF (ao 2)) (mC (.int 1)))))
    Cn)
noncomputable def BW:ag -> OS:=
    (aH (bf 2 (mOp dw (ao 1) (mC (.int 0))))
    B5)
noncomputable def IJ:ag -> OS:=
    (aH (bf 1 (br gJ (ak (ao 0) (ak (mOp eY (mC (.int 1)) (mOp cw (br eJ (ak (ao 0) (ak (mC (.int 62)) aJ))) (mC (.int 9)))) aJ))))
    BW)
noncomputable def xy:List PV->OE:=fnP 1 12 IJ
theorem nB(ns:List Int)(k:Int):iH [.lst (ns.map .int),.int k]=.ok (.sh (.int (PG.cell ns k))):=by
 unfold iH vp PG.cell
 cases ns with
 |nil=>simp
 | cons n r=>
   have hp:(0:Int)<(r.length:Int)+1:=by omega
   have hm:0<=k%((r.length:Int)+1):=Int.emod_nonneg _ (by omega)
   have hm2:k%((r.length:Int)+1)<(r.length:Int)+1:=Int.emod_lt_of_pos _ hp
   have hi:(k%((r.length:Int)+1)).toNat<(n ::r).length:=by rw[List.length_cons];omega
   have ha:atP (PV.int n ::r.map .int) (k%((r.length:Int)+1))=some (.int ((n ::r).getD (k%((r.length:Int)+1)).toNat 0)):=by
    rw[E7 _ _ hm]
    have:(PV.int n ::r.map .int)=(n ::r).map .int:=rfl
    rw[this,List.getElem?_map,List.getElem?_eq_getElem hi,List.getD_eq_getElem?_getD,List.getElem?_eq_getElem hi];rfl
   simp[hp,ha]
theorem dJ(ns:List Int)(k:Int):eJ [.lst (ns.map .int),.int k]=.ok (.sh (.int (PG.mix ns k))):=by
 unfold PG.mix;simp[uu,ui,xh,eJ,nB]
theorem mm(n:Int):gM [.int n]=.ok (.sh (.bl true)):=by
 unfold gM uj;simp
theorem yL(ns:List Int):dh lL [] (ns.map .int)=.ok (ns.map fun _=>.bl true):=
 jK _ fun n _=>by simp[lL,mm]
theorem kP(ns:List Int)(h:ns.length<=1000000):eX [.lst (ns.map .int)]=.ok (.sh (.bl true)):=by
 unfold eX sT
 have e:qa (ns.map fun _=>PV.bl true)=some (ns.map fun _=>true):=by
  have:=uq (ns.map fun _=>true)
  rwa [List.map_map]at this
 simp[yL,dk,dj h,Dy,e]
theorem mv(n:Int):dB [.int n]=.ok (.sh (.int (PG.point n))):=by
 unfold PG.point
 have ha:atP [PV.int 34,.int 92,.int 47,.int 8,.int 12,.int 10,.int 13,.int 9,.int 0,.int 31,.int 127] (n/8%11)=some (.int (PG.menu.getD (n/8%11).toNat 0)):=by
  have h0:0<=n/8%11:=by omega
  have hi:(n/8%11).toNat<PG.menu.length:=by show _<11;omega
  rw[E7 _ _ h0]
  show(PG.menu.map PV.int)[_]?=_
  rw[List.getElem?_map,List.getD_eq_getElem?_getD,List.getElem?_eq_getElem hi];rfl
 by_cases h1:n%8<2
 . simp[fu,fm,fq,fk,fz,fw,fo,gL,dB,h1]
 . by_cases h2:n%8<4
   . simp[fu,fm,fq,fk,fz,fw,fo,gL,dB,h1,h2,ha]
   . by_cases h3:n%8=4
     . simp[fu,fm,fq,fk,fz,fw,fo,gL,dB,h3]
     . by_cases h4:n%8=5
       . simp[fu,fm,fq,fk,fz,fw,fo,gL,dB,h4]
       . by_cases h5:n%8=6
         . simp[fu,fm,fq,fk,fz,fw,fo,gL,dB,h5]
         . simp[fu,fm,fq,fk,fz,fw,fo,gL,dB,h1,h2,h3,h4,h5]
theorem gT(ns:List Int)(k:Int):eC [.lst (ns.map .int),.int k]=.ok (.fr ((PG.points ns k).map .int)):=by
 have hs:=zA ns k;have hm:=AM ns k
 have el:∀ m:Nat,dh ly [some (.sh (.lst (ns.map .int))),some (.sh (.int k))] (dE m) =
   .ok ((List.range m).map fun j:Nat=>.int (PG.point (PG.mix ns (k+1+(j:Int))))):=fun m=>by
  unfold dE
  refine jK _ fun j _=>?_
  simp[ly,dJ,mv]
 have hp:(PG.points ns k).map PV.int=(List.range (vA ns k).toNat).map fun j:Nat=>.int (PG.point (PG.mix ns (k+1+(j:Int)))):=by
  unfold PG.points;rw[List.map_map];rfl
 rw[hp]
 have hl:(vA ns k).toNat<=lim:=dj (by omega)
 unfold vA at hs hl ⊢
 by_cases h3:PG.mix ns k/5%8=3
 . rw[if_pos h3]at hs hl ⊢
   have h1:-4611686018427387904<=PG.mix ns k/40%14 /\ PG.mix ns k/40%14<4611686018427387904:=by omega
   simp[eC,nM,lG,lI,lB,dJ,h3,dk,el,h1];unfold lim;omega
 . rw[if_neg h3]at hs hl ⊢
   have h1:-4611686018427387904<=PG.mix ns k%5 /\ PG.mix ns k%5<4611686018427387904:=by omega
   simp[eC,nM,lG,lI,lB,dJ,h3,dk,el,h1];unfold lim;omega
theorem lU(n:Int)(h:mM n=true):eH [.int n]=.ok (.fr ((bA n).map .int)):=by
 have hn:0<=n:=by
  unfold mM at h;simp only[Bool.or_eq_true,Bool.and_eq_true,decide_eq_true_eq]at h;omega
 unfold bA
 by_cases h1:n<128
 . simp[iu,ir,iq,il,iw,j3,eH,h1]
 . by_cases h2:n<2048
   . have g2:¬ 2048<=n:=by omega
     have g3:¬ 65536<=n:=by omega
     simp[iu,ir,iq,il,iw,j3,eH,h1,h2,g2,g3,dE,List.range_succ]
   . by_cases h3:n<65536
     . have g2:2048<=n:=by omega
       have g3:¬ 65536<=n:=by omega
       have e1:n/64/64=n/4096:=by omega
       simp[iu,ir,iq,il,iw,j3,eH,h1,h2,h3,g2,g3,dE,List.range_succ,e1]
     . have g2:2048<=n:=by omega
       have g3:65536<=n:=by omega
       have e1:n/64/64=n/4096:=by omega
       have e2:n/4096/64=n/262144:=by omega
       simp[iu,ir,iq,il,iw,j3,eH,h1,h2,h3,g2,g3,dE,List.range_succ,e1,e2]
theorem nT(b:Int):iE [.int b]=.ok (.sh (.bl (wht b))):=by
 simp -implicitDefEqProofs [vi,iE,gIn,nO,eT,ky,wht];simp[Bool.beq_eq_decide_eq]
theorem fI(b:Int):eV [.int b]=.ok (.sh (.bl (fig b))):=by
 by_cases h:48<=b<;>simp -implicitDefEqProofs [uA,eV,fig,h]
theorem iV(b:Int):fK [.int b]=.ok (.sh (match ee b with|some w=>.int w|none=>.non)):=by
 unfold ee
 by_cases h1:48<=b<;>by_cases h2:b<=57<;>by_cases h3:65<=b<;>by_cases h4:b<=70<;>by_cases h5:97<=b<;>by_cases h6:b<=102<;>first|omega|simp -implicitDefEqProofs [qN,qG,qK,uv,fK,fI,fig,h1,h2,h3,h4,h5,h6]
theorem E5(b:Int):jw [.int b]=.ok (match tls b with|some l=>.fr (l.map bt)|none=>.sh .non):=by
 have h3:cR [.int b]=.ok (.sh (bt (if b=224 then .sp 160 191 else if b=237 then .sp 128 159 else .sp 128 191))):=by
  by_cases h1:b=224
  . simp[ij,hZ,ju,cR,h1,bt]
  . by_cases h2:b=237<;>simp[ij,hZ,ju,cR,h1,h2,bt]
 have h4:dm [.int b]=.ok (.sh (bt (if b=240 then .sp 144 191 else if b=244 then .sp 128 143 else .sp 128 191))):=by
  by_cases h1:b=240
  . simp[iU,iP,jB,dm,h1,bt]
  . by_cases h2:b=244<;>simp[iU,iP,jB,dm,h1,h2,bt]
 unfold tls
 by_cases h0:0<=b /\ b<128
 . simp[la,lg,lj,lb,qb,jw,h0.1,h0.2]
 . by_cases ha:194<=b /\ b<224
   . have:¬ b<128:=by omega
     have z:0<=b:=by omega
     simp[la,lg,lj,lb,qb,jw,ha.1,ha.2,z,this,bt]
   . by_cases hb:224<=b /\ b<240
     . have z1:¬ b<128:=by omega
       have z2:¬ b<224:=by omega
       have z:0<=b:=by omega
       have z3:194<=b:=by omega
       simp[la,lg,lj,lb,qb,jw,hb.1,hb.2,z,z1,z2,z3,h3];simp[bt]
     . by_cases hc:240<=b /\ b<245
       . have z1:¬ b<128:=by omega
         have z2:¬ b<224:=by omega
         have z:0<=b:=by omega
         have z3:194<=b:=by omega
         have z4:224<=b:=by omega
         have z5:¬ b<240:=by omega
         simp[la,lg,lj,lb,qb,jw,hc.1,hc.2,z,z1,z2,z3,z4,z5,h4];simp[bt]
       . simp only[h0,ha,hb,hc,if_false]
         by_cases g0:0<=b<;>by_cases g1:b<128<;>by_cases g2:194<=b<;>by_cases g3:b<224<;>by_cases g4:224<=b<;>by_cases g5:b<240<;>by_cases g6:240<=b<;>by_cases g7:b<245<;>first|omega|simp[la,lg,lj,lb,qb,jw,g0,g1,g2,g3,g4,g5,g6,g7]
noncomputable def rI:Option (List PG.It)->RV
 |some l=>.fr (l.map bt)
 |none=>.sh .non
theorem gd(b:Int):dP [.int b]=.ok (rI (kn b)):=by
 unfold kn
 by_cases h0:b=48
 . simp[kl,kj,mQ,dP,h0,rI,bt]
 . by_cases h1:48<=b<;>by_cases h2:b<=57<;>simp[kl,kj,mQ,dP,h0,h1,h2,fI,fig,rI,bt]
theorem fD(b:Int):bL [.int b]=.ok (rI (i5 b)):=by
 unfold i5
 by_cases h1:b=91
 . simp[cL,cI,cH,cG,cN,cO,cJ,dy,bL,h1,rI,bt]
 by_cases h2:b=123
 . simp[cL,cI,cH,cG,cN,cO,cJ,dy,bL,h2,rI,bt]
 by_cases h3:b=34
 . simp[cL,cI,cH,cG,cN,cO,cJ,dy,bL,h3,rI,bt]
 by_cases h4:b=45
 . simp[cL,cI,cH,cG,cN,cO,cJ,dy,bL,h4,rI,bt]
 by_cases h5:b=110
 . simp[cL,cI,cH,cG,cN,cO,cJ,dy,bL,h5,rI,bt,j1,fi,gy,cC,vD,dh,dk,List.lookup]
 by_cases h6:b=116
 . simp[cL,cI,cH,cG,cN,cO,cJ,dy,bL,h6,rI,bt,j1,fi,gy,cC,vD,dh,dk,List.lookup]
 by_cases h7:b=102
 . simp[cL,cI,cH,cG,cN,cO,cJ,dy,bL,h7,rI,bt,j1,fi,gy,cC,vD,dh,dk,List.lookup]
 have z5:(b==110)=false:=by simpa using h5
 have z6:(b==116)=false:=by simpa using h6
 have z7:(b==102)=false:=by simpa using h7
 simp[cL,cI,cH,cG,cN,cO,cJ,dy,bL,h1,h2,h3,h4,h5,h6,h7,z5,z6,z7,j1,fi,gy,cC,List.lookup,gd]
 cases kn b<;>simp[rI]
theorem dq:eG []=.ok (.fr (qL.map bt)):=by
 simp[qC,eG,qL,bt]
theorem mZ(it:PG.It)(b:Int)(h:it=.lead \/ it=.figures \/ it=.fraction \/ it=.exponent \/ it=.sign):aX [bt it,.int b]=.ok (rI (bh it b)):=by
 rcases h with rfl|rfl|rfl|rfl|rfl
 . simp[bB,bz,bC,bx,bX,aX,bt,gEq,eqS,aG,gd]
   cases e:kn b<;>simp[bh,rI,e]
 . by_cases h1:48<=b<;>by_cases h2:b<=57<;>simp[bB,bz,bC,bx,bX,aX,bt,gEq,eqS,aG,fI,fig,bh,rI,h1,h2]
 . by_cases h1:b=46<;>simp[bB,bz,bC,bx,bX,aX,bt,gEq,eqS,aG,bh,rI,h1]
 . by_cases h1:b=101
   . simp[bB,bz,bC,bx,bX,aX,bt,gEq,eqS,aG,bh,rI,h1,gIn,nO,eT,ky]
   . by_cases h2:b=69
     . simp[bB,bz,bC,bx,bX,aX,bt,gEq,eqS,aG,bh,rI,h2,gIn,nO,eT,ky]
     . have z1:¬ 101=b:=fun z=>h1 z.symm
       have z2:¬ 69=b:=fun z=>h2 z.symm
       simp[bB,bz,bC,bx,bX,aX,bt,gEq,eqS,aG,bh,rI,h1,h2,z1,z2,gIn,nO,eT,ky]
 . by_cases h1:b=43
   . simp[bB,bz,bC,bx,bX,aX,bt,gEq,eqS,aG,bh,rI,h1,gIn,nO,eT,ky]
   . by_cases h2:b=45
     . simp[bB,bz,bC,bx,bX,aX,bt,gEq,eqS,aG,bh,rI,h2,gIn,nO,eT,ky]
     . have z1:¬ 43=b:=fun z=>h1 z.symm
       have z2:¬ 45=b:=fun z=>h2 z.symm
       simp[bB,bz,bC,bx,bX,aX,bt,gEq,eqS,aG,bh,rI,h1,h2,z1,z2,gIn,nO,eT,ky]
theorem i0(b:Int):∃ x,bM [.int b]=.ok (.sh x) /\ cC x=!yn b:=by
 unfold yn
 by_cases h1:b=34
 . exact⟨.int 34,by simp[cW,bM,gy,List.lookup,h1],by simp[cC,h1]⟩
 by_cases h2:b=92
 . exact⟨.int 92,by simp[cW,bM,gy,List.lookup,h2],by simp[cC,h2]⟩
 by_cases h3:b=47
 . exact⟨.int 47,by simp[cW,bM,gy,List.lookup,h3],by simp[cC,h3]⟩
 by_cases h4:b=98
 . exact⟨.int 8,by simp[cW,bM,gy,List.lookup,h4],by simp[cC,h4]⟩
 by_cases h5:b=102
 . exact⟨.int 12,by simp[cW,bM,gy,List.lookup,h5],by simp[cC,h5]⟩
 by_cases h6:b=110
 . exact⟨.int 10,by simp[cW,bM,gy,List.lookup,h6],by simp[cC,h6]⟩
 by_cases h7:b=114
 . exact⟨.int 13,by simp[cW,bM,gy,List.lookup,h7],by simp[cC,h7]⟩
 by_cases h8:b=116
 . exact⟨.int 9,by simp[cW,bM,gy,List.lookup,h8],by simp[cC,h8]⟩
 have zz:∀ k:Int,¬ b=k->(b==k)=false:=fun k h=>by simpa using h
 exact⟨.non,by simp[cW,bM,gy,List.lookup,zz _ h1,zz _ h2,zz _ h3,zz _ h4,zz _ h5,zz _ h6,zz _ h7,zz _ h8],by simp[cC,h1,h2,h3,h4,h5,h6,h7,h8]⟩
theorem fX(b:Int):cA [.int b]=.ok (rI (Dg b)):=by
 obtain⟨x,hx,hn⟩:=i0 b;unfold Dg
 by_cases h1:b=117
 . simp[iL,cA,h1,rI,bt]
 . cases hs:yn b<;>rw[hs]at hn<;>simp at hn<;>simp[iL,cA,h1,hx,hn,rI]
theorem Hq(b:Int)(l:List PG.It)(h:tls b=some l):l.length<=3:=by
 unfold tls at h
 repeat' split at h
 all_goals(first|(cases h;done)|(injection h with h;subst h;simp))
theorem fM(b:Int):bW [.int b]=.ok (rI (qU b)):=by
 have ht:=E5 b;unfold qU
 by_cases h1:b=34
 . simp[dY,dS,dU,dR,eL,bW,h1,rI]
 by_cases h2:b=92
 . simp[dY,dS,dU,dR,eL,bW,h2,rI,bt]
 cases e:tls b with
 | none=>
   rw[e]at ht
   by_cases h3:b<32<;>simp[dY,dS,dU,dR,eL,bW,h1,h2,h3,rI,ht,cC]
 | some l=>
   rw[e]at ht
   have hl:l.length+1<=lim:=dj (by have:=Hq b l e;omega)
   by_cases h3:b<32<;>simp[dY,dS,dU,dR,eL,bW,h1,h2,h3,rI,ht,cC,hl,bt]
theorem iD(w:Int):dC [.int w]=.ok (rI (ye w)):=by
 unfold ye
 by_cases h1:w<8
 . simp[jg,jq,kB,dC,h1,rI,bt]
 . by_cases h2:w<12<;>simp[jg,jq,kB,dC,h1,h2,rI,bt]
theorem uY(it:PG.It)(b:Int)(h:it=.text \/ it=.escape \/ it=.code \/ it=.coded):bI [bt it,.int b]=.ok (rI (bh it b)):=by
 have hw:=iV b
 rcases h with rfl|rfl|rfl|rfl
 . simp[df,dg,da,de,dc,dO,bI,bt,gEq,eqS,aG,fM]
   cases e:qU b<;>simp[bh,rI,e]
 . simp[df,dg,da,de,dc,dO,bI,bt,gEq,eqS,aG,fX]
   cases e:Dg b<;>simp[bh,rI,e]
 . cases e:ee b with
   | none=>
     rw[e]at hw;simp[df,dg,da,de,dc,dO,bI,bt,gEq,eqS,aG,hw,cC,bh,e,rI]
   | some w=>
     rw[e]at hw
     by_cases h13:w=13<;>simp[df,dg,da,de,dc,dO,bI,bt,gEq,eqS,aG,hw,cC,bh,e,rI,h13]
 . cases e:ee b with
   | none=>
     rw[e]at hw;simp[df,dg,da,de,dc,dO,bI,bt,gEq,eqS,aG,hw,cC,bh,e,rI]
   | some w=>
     rw[e]at hw;simp[df,dg,da,de,dc,dO,bI,bt,gEq,eqS,aG,hw,cC,bh,e,iD]
     cases e2:ye w<;>simp[rI]
theorem AV(it:PG.It)(b:Int)(h:it=.hex \/ it=.hexd \/ it=.hexcf):du [bt it,.int b]=.ok (rI (bh it b)):=by
 have hw:=iV b
 cases e:ee b with
 | none=>
   rw[e]at hw
   rcases h with rfl|rfl|rfl<;>simp[gC,gG,gA,gD,jn,du,bt,gEq,eqS,aG,hw,cC,bh,e,rI]
 | some w=>
   rw[e]at hw
   rcases h with rfl|rfl|rfl
   . simp[gC,gG,gA,gD,jn,du,bt,gEq,eqS,aG,hw,cC,bh,e,rI]
   . by_cases h13:w=13<;>simp[gC,gG,gA,gD,jn,du,bt,gEq,eqS,aG,hw,cC,bh,e,rI,h13]
   . by_cases h13:12<=w<;>simp[gC,gG,gA,gD,jn,du,bt,gEq,eqS,aG,hw,cC,bh,e,rI,h13]
theorem Ds(b:Int)(l:List PG.It)(h:i5 b=some l):l.length<=5:=by
 unfold i5 kn at h
 repeat' split at h
 all_goals(first|(cases h;done)|(injection h with h;subst h;decide))
theorem fQ(b:Int):b4 [.int b]=.ok (rI (bh .row b)):=by
 have hv:=fD b
 by_cases h1:b=93
 . simp[fb,fe,fT,b4,h1,rI,bh]
 cases e:i5 b with
 |none=>rw[e]at hv;simp[fb,fe,fT,b4,h1,hv,rI,bh,e,cC]
 | some l=>
   rw[e]at hv
   have hl:l.length+2<=lim:=dj (by have:=Ds b l e;omega)
   simp[fb,fe,fT,b4,h1,hv,rI,bh,e,cC,bt,hl]
theorem eQ(b:Int):bY [.int b]=.ok (rI (bh .fields b)):=by
 by_cases h1:b=125
 . simp[gg,bY,h1,rI,bh]
 by_cases h2:b=34<;>simp[gg,bY,h1,h2,rI,bh,dq,qL,bt]
theorem mq(it:PG.It)(b:Int)(h:it=.row \/ it=.mrow \/ it=.fields \/ it=.mfields):bb [bt it,.int b]=.ok (rI (bh it b)):=by
 rcases h with rfl|rfl|rfl|rfl
 . simp[b6,b5,b7,b9,cx,bb,bt,gEq,eqS,aG,fQ]
   cases e:bh .row b<;>simp[rI]
 . by_cases h1:b=44
   . simp[b6,b5,b7,b9,cx,bb,bt,gEq,eqS,aG,h1,bh,rI]
   . by_cases h2:b=93<;>simp[b6,b5,b7,b9,cx,bb,bt,gEq,eqS,aG,h1,h2,bh,rI]
 . simp[b6,b5,b7,b9,cx,bb,bt,gEq,eqS,aG,eQ]
   cases e:bh .fields b<;>simp[rI]
 . by_cases h1:b=44
   . simp[b6,b5,b7,b9,cx,bb,bt,gEq,eqS,aG,h1,bh,rI,dq,qL]
   . by_cases h2:b=125<;>simp[b6,b5,b7,b9,cx,bb,bt,gEq,eqS,aG,h1,h2,bh,rI]
theorem wX(o:Option (List PG.It))(xs:List PV):rI o≠.al xs:=by cases o<;>simp[rI]
theorem b8{x:PV}{b:Int}{ρ:ag}{o:Option (List PG.It)}(h:vx [some (.sh x),some (.sh (.int b))]=.rt ρ (rI o)):j7 [x,.int b]=.ok (rI o):=Eq.trans (congrArg fin h) (KG (wX o))
theorem rR(it:PG.It)(b:Int):j7 [bt it,.int b]=.ok (rI (bh it b)):=by
 have t1:∀ it:PG.It,aX [bt it,.int b]=.ok (rI (bh it b))->_:=fun it h=>p7 h (wX _)
 have t2:∀ it:PG.It,bI [bt it,.int b]=.ok (rI (bh it b))->_:=fun it h=>p7 h (wX _)
 have t3:∀ it:PG.It,du [bt it,.int b]=.ok (rI (bh it b))->_:=fun it h=>p7 h (wX _)
 have t4:∀ it:PG.It,bb [bt it,.int b]=.ok (rI (bh it b))->_:=fun it h=>p7 h (wX _)
 cases it with
 |sp lo hi=>by_cases h1:lo<=b<;>by_cases h2:b<=hi<;>simp[vS,vn,vO,vd,vm,vF,u7,vx,j7,bt,isP,h1,h2,bh,rI]
 |bg=>exact b8 (ρ:=[some (.sh (bt .bg)),some (.sh (.int b))]) ((sk (by rfl)).trans ((sk (by rfl)).trans ((sk (by rfl)).trans ((sk (by rfl)).trans ((sk (by rfl)).trans (st (by rfl) (by cases h:wht b<;>simp[gm,nT,h,bh,rI,bt])))))))
 |name=>exact b8 (ρ:=[some (.sh (bt .name)),some (.sh (.int b))]) ((sk (by rfl)).trans ((sk (by rfl)).trans ((sk (by rfl)).trans ((sk (by rfl)).trans ((sk (by rfl)).trans ((sk (by rfl)).trans (st (by rfl) (by by_cases h:b=34<;>simp[gm,h,bh,rI,bt]))))))))
 |value=>exact b8 ((sk (by rfl)).trans ((sk (by rfl)).trans ((sk (by rfl)).trans ((sk (by rfl)).trans ((sk (by rfl)).trans ((sk (by rfl)).trans ((sk (by rfl)).trans (CV (fD b) (wX _)))))))))
 |lead=>exact b8 ((sk (by rfl)).trans (st (by rfl) (t1 .lead (mZ _ b (by simp)))))
 |figures=>exact b8 ((sk (by rfl)).trans (st (by rfl) (t1 .figures (mZ _ b (by simp)))))
 |fraction=>exact b8 ((sk (by rfl)).trans (st (by rfl) (t1 .fraction (mZ _ b (by simp)))))
 |exponent=>exact b8 ((sk (by rfl)).trans (st (by rfl) (t1 .exponent (mZ _ b (by simp)))))
 |sign=>exact b8 ((sk (by rfl)).trans (st (by rfl) (t1 .sign (mZ _ b (by simp)))))
 |text=>exact b8 ((sk (by rfl)).trans ((sk (by rfl)).trans (st (by rfl) (t2 .text (uY _ b (by simp))))))
 |escape=>exact b8 ((sk (by rfl)).trans ((sk (by rfl)).trans (st (by rfl) (t2 .escape (uY _ b (by simp))))))
 |code=>exact b8 ((sk (by rfl)).trans ((sk (by rfl)).trans (st (by rfl) (t2 .code (uY _ b (by simp))))))
 |coded=>exact b8 ((sk (by rfl)).trans ((sk (by rfl)).trans (st (by rfl) (t2 .coded (uY _ b (by simp))))))
 |hex=>exact b8 ((sk (by rfl)).trans ((sk (by rfl)).trans ((sk (by rfl)).trans (st (by rfl) (t3 .hex (AV _ b (by simp)))))))
 |hexd=>exact b8 ((sk (by rfl)).trans ((sk (by rfl)).trans ((sk (by rfl)).trans (st (by rfl) (t3 .hexd (AV _ b (by simp)))))))
 |hexcf=>exact b8 ((sk (by rfl)).trans ((sk (by rfl)).trans ((sk (by rfl)).trans (st (by rfl) (t3 .hexcf (AV _ b (by simp)))))))
 |row=>exact b8 ((sk (by rfl)).trans ((sk (by rfl)).trans ((sk (by rfl)).trans ((sk (by rfl)).trans (st (by rfl) (t4 .row (mq _ b (by simp))))))))
 |mrow=>exact b8 ((sk (by rfl)).trans ((sk (by rfl)).trans ((sk (by rfl)).trans ((sk (by rfl)).trans (st (by rfl) (t4 .mrow (mq _ b (by simp))))))))
 |fields=>exact b8 ((sk (by rfl)).trans ((sk (by rfl)).trans ((sk (by rfl)).trans ((sk (by rfl)).trans (st (by rfl) (t4 .fields (mq _ b (by simp))))))))
 |mfields=>exact b8 ((sk (by rfl)).trans ((sk (by rfl)).trans ((sk (by rfl)).trans ((sk (by rfl)).trans (st (by rfl) (t4 .mfields (mq _ b (by simp))))))))
noncomputable abbrev cm(st:List PG.It):List PV:=st.reverse.map bt
theorem yl(st:List PG.It):PG.wk st=.ob "Walk" ["coming"] [.ol ((cm st).map .sh)]:=rfl
theorem Bn(st:List PG.It):(PG.wk st).get [.fd "coming"]=some (.ol ((cm st).map .sh)):=by
 simp[yl,OV.get,OV.at1,o3]
theorem E9(st:List PG.It)(t:OV):(PG.wk st).put [.fd "coming"] t=.ob "Walk" ["coming"] [t]:=by
 simp[yl,OV.put,OV.at1,OV.kF,o3,wG]
theorem Bo{ρ:ag}{i:Nat}{s:Sl}{st:List PG.It}(h:ρ[i]?=some (some s))(hs:slT s=some (PG.wk st)):subAt i aI ρ=some (PG.wk st):=by
 unfold subAt fO aI;rw[h];simp[hs]
theorem AY{ρ:ag}{i:Nat}{s:Sl}{st:List PG.It}(h:ρ[i]?=some (some s))(hs:slT s=some (PG.wk st)):pFd i aI "coming" ng ρ=some [.fd "coming"]:=by
 unfold pFd;rw[Bo h hs,yl];simp[ng,o3,aI]
theorem uP{ρ:ag}{i:Nat}{s:Sl}{st:List PG.It}(h:ρ[i]?=some (some s))(hs:slT s=some (PG.wk st)):subAt i (pFd i aI "coming" ng) ρ=some (.ol ((cm st).map .sh)):=by
 unfold subAt fO;rw[h,AY h hs];simp[hs,Bn]
theorem LX(it:PG.It):gp [some (.sh (bt it))]=.ok (opn it):=by
 cases it<;>simp -implicitDefEqProofs [gp,bt,gIn,nO,eT,opn,ky]
theorem DH(l:List PG.It):fZ gp iZ [] (l.map bt)=.ok ((l.filter opn).map bt):=by
 induction l with
 |nil=>rfl
 | cons it l ih=>
   rw[List.map_cons];unfold fZ;have h:=LX it
   have he:iZ [some (.sh (bt it))]=.ok (.sh (bt it)):=rfl
   cases e:opn it<;>rw[e]at h<;>simp[h,ih,e,he]
theorem Bb(st:List PG.It)(hl:st.length<=100000):cD [.bo (PG.wk st)]=.ok (.int (PG.cnt st)) [none]:=by
 have hp:cF 0 (pFd 0 aI "coming" ng) [some (.bo (PG.wk st))]=.ok (.al (cm st)):=by
  unfold cF;rw[uP (s:=.bo (PG.wk st)) rfl rfl];simp only[tu]
 have hc:(st.reverse.filter opn).length=PG.cnt st:=by unfold PG.cnt;rw[List.filter_reverse,List.length_reverse]
 have hn:PG.cnt st<=lim:=dj (by unfold PG.cnt;have:=List.length_filter_le opn st;omega)
 have he:=DH st.reverse
 simp -implicitDefEqProofs only[cD,oJ,fnI,kx,ke,hp,dk,List.map_nil,he,Ez,BF,List.map_cons,List.length_cons,List.length_nil,List.replicate,List.append_nil,mX,Ea,F3,List.length_map,hc,hn,if_true,Lx,x8,ft,Ef,Nat.sub_self,tM]
 rfl
theorem G8(it:PG.It):tJ (bt it) (.tup [.str "white",.str "figures",.str "fraction",.str "exponent",.str "sign"])=some (.sh (.bl (!PG.loose it))):=by
 cases it<;>simp -implicitDefEqProofs [bt,tJ,nO,eT,PG.loose,ky]
theorem Fe(it:PG.It):gIn (bt it) (.tup [.str "white",.str "figures",.str "fraction",.str "exponent",.str "sign"])=some (.sh (.bl (PG.loose it))):=by
 cases it<;>simp -implicitDefEqProofs [bt,gIn,nO,eT,PG.loose,ky]
theorem LA{ρ:ag}{i:Nat}{io:Bool}{it:PG.It}{st:List PG.It}(h:ρ[i]?=some (some (.tr io (PG.wk (it ::st))))):qO i (pFd i aI "coming" ng) ρ=.ok (ρ.set i (some (.tr io (PG.wk st)))) (.sh (bt it)):=by
 have hc:(cm (it ::st)).map OV.sh=(cm st).map OV.sh++[.sh (bt it)]:=by simp[cm]
 unfold qO;rw[h,AY h rfl];simp only[Bn,hc,List.getLast?_concat,List.dropLast_concat,E9];rfl
theorem K6{ρ:ag}{i:Nat}{io:Bool}{l st:List PG.It}{me:ag->OE}(h:ρ[i]?=some (some (.tr io (PG.wk st))))(he:me ρ=.ok (.fr (l.map bt).reverse))(hl:st.length+l.length<=100000):
  dH i (pFd i aI "coming" ng) me ρ=.nx (ρ.set i (some (.tr io (PG.wk (l++st))))):=by
 have hc:(cm (l++st)).map OV.sh=(cm st).map OV.sh++(l.map bt).reverse.map .sh:=by simp[cm]
 have hl2:st.length+l.length<=lim:=dj (by omega)
 unfold dH uf;rw[h,AY h rfl];simp only[Bn,he,ft,List.length_map,List.length_reverse,hl2,if_true,E9];rw[yl,hc]
theorem Aa{ρ:ag}{i:Nat}{io:Bool}{st:List PG.It}(h:ρ[i]?=some (some (.tr io (PG.wk st)))):dv i (pFd i aI "coming" ng) ρ=.ok (!st.isEmpty):=by
 unfold dv;rw[uP h rfl]
 cases st<;>simp[cm]
theorem Gr{ρ:ag}{i:Nat}{io:Bool}{st:List PG.It}(h:ρ[i]?=some (some (.tr io (PG.wk st))))(hl:st.length<=100000):n9 "Walk" "brackets" cD [.b i aI] ρ=.ok (.sh (.int (PG.cnt st))):=by
 have ha:kA (.b i aI) ρ=some (.bo (PG.wk st)):=by
  simp only[kA];rw[Bo h rfl];rfl
 have hr:recv "Walk" "brackets" (some (.bo (PG.wk st)))=true:=by
  rw[yl];simp[recv,aG]
 simp only[n9,ha,hr,if_true,xQ,jy,Option.bind_some,Option.map_some,Bb st hl]
theorem DC(b:Int)(it:PG.It)(st:List PG.It)(io:Bool)(x y:Option Sl)(hl:st.length+8<=100000):gV [some (.tr io (PG.wk (it ::st))),some (.sh (.int b)),x,y] =
  match bh it b with
  |some l=>.rt [some (.tr io (PG.wk (l++st))),some (.sh (.int b)),some (.sh (bt it)),some (.ow (l.map bt))] (.sh (.bl (decide (PG.cnt (l++st)<=64))))
  |none=>if PG.loose it then .nx [some (.tr io (PG.wk st)),some (.sh (.int b)),some (.sh (bt it)),some (.sh .non)]else .rt [some (.tr io (PG.wk st)),some (.sh (.int b)),some (.sh (bt it)),some (.sh .non)] (.sh (.bl false)):=by
 have h1:hJ 2 (qO 0 (pFd 0 aI "coming" ng)) [some (.tr io (PG.wk (it ::st))),some (.sh (.int b)),x,y]=.nx [some (.tr io (PG.wk st)),some (.sh (.int b)),some (.sh (bt it)),y]:=by
  unfold hJ;rw[LA (it:=it) (st:=st) (io:=io) rfl];rfl
 have hb:=rR it b;have hlo:=G8 it;unfold gV;simp only[pd,h1,jD]
 cases e:bh it b with
 | none=>
   rw[e]at hb
   cases e2:PG.loose it<;>rw[e2]at hlo<;>simp -implicitDefEqProofs [hb,rI,cC,hlo]
 | some l=>
   rw[e]at hb;have hll:=FX it b l e
   have h2:dH 0 (pFd 0 aI "coming" ng) (C4 (ao 3) (mUn gi (mC (.int 1)))) [some (.tr io (PG.wk st)),some (.sh (.int b)),some (.sh (bt it)),some (.ow (l.map bt))]=.nx [some (.tr io (PG.wk (l++st))),some (.sh (.int b)),some (.sh (bt it)),some (.ow (l.map bt))]:=
    K6 (io:=io) rfl (by simp[C4]) (by omega)
   have h3:n9 "Walk" "brackets" cD [.b 0 aI] [some (.tr io (PG.wk (l++st))),some (.sh (.int b)),some (.sh (bt it)),some (.ow (l.map bt))]=.ok (.sh (.int (PG.cnt (l++st)))):=Gr (io:=io) rfl (by simp;omega)
   have h4:(decide ((PG.cnt (l++st):Int)<=64))=decide (PG.cnt (l++st)<=64):=by rw[decide_eq_decide];omega
   simp -implicitDefEqProofs [hb,rI,cC,h2,h3,h4]
theorem CM(b:Int)(io:Bool)(st:List PG.It):∀(n:Nat) (x y:Option Sl),st.length<n->st.length+8<=100000 ->
  ∃ x' y',(gn hE gV n [some (.tr io (PG.wk st)),some (.sh (.int b)),x,y]).andThen (aZ (mC (.bl false)))=.rt [some (.tr io (PG.wk (gon st b).1)),some (.sh (.int b)),x',y'] (.sh (.bl (gon st b).2)):=by
 induction st with
 | nil=>
   intro n x y hn hl
   obtain⟨m,rfl⟩:∃ m,n=m+1:=⟨n - 1,by simp at hn;omega⟩
   refine⟨x,y,?_⟩
   have hc:hE [some (.tr io (PG.wk [])),some (.sh (.int b)),x,y]=.ok false:=Aa (i:=0) (ρ:=[some (.tr io (PG.wk [])),some (.sh (.int b)),x,y]) (io:=io) (st:=[]) rfl
   simp[gn,hc,gon]
 | cons it st ih=>
   intro n x y hn hl
   obtain⟨m,rfl⟩:∃ m,n=m+1:=⟨n - 1,by simp at hn;omega⟩
   have hc:hE [some (.tr io (PG.wk (it ::st))),some (.sh (.int b)),x,y]=.ok true:=Aa (i:=0) (ρ:=[some (.tr io (PG.wk (it ::st))),some (.sh (.int b)),x,y]) (io:=io) (st:=it ::st) rfl
   have ht:=DC b it st io x y (by simp at hl;omega);unfold gon
   cases e:bh it b with
   | some l=>
     rw[e]at ht
     exact⟨some (.sh (bt it)),some (.ow (l.map bt)),by simp only[gn,hc,lA,if_true,ht,Cr,vU]⟩
   | none=>
     rw[e]at ht
     dsimp only at ht ⊢
     cases e2:PG.loose it with
     | false=>
       rw[e2]at ht
       exact⟨some (.sh (bt it)),some (.sh .non),by simp only[gn,hc,lA,if_true,ht,Cr,vU,Bool.false_eq_true,if_false]⟩
     | true=>
       rw[e2]at ht;obtain⟨x',y',h⟩:=ih m (some (.sh (bt it))) (some (.sh .non)) (by simp at hn;omega) (by simp at hl;omega)
       exact⟨x',y',by simp only[gn,hc,lA,if_true,ht,oo,h]⟩
theorem CN(b:Int)(st:List PG.It)(hl:st.length+8<100000):dX [.tr true (PG.wk st),.sh (.int b)]=.ok (.bl (gon st b).2) [some (PG.wk (gon st b).1),none]:=by
 obtain⟨x',y',h⟩:=CM b true st fuel none none (by unfold fuel;omega) (by omega)
 have e:jl [some (.tr true (PG.wk st)),some (.sh (.int b)),none,none]=_:=h
 show fnI 2 4 jl _=_;unfold fnI;rw[if_pos (by rfl)];show tM 2 (jl [some (.tr true (PG.wk st)),some (.sh (.int b)),none,none])=_;rw[e];rfl
theorem C8(io:Bool)(rw:PV)(row:List Int):∀(k:Nat) (st:List PG.It) (x y:Option Sl),st.length+8*row.length+8<100000 ->
  ∃ x' y',nz 2 3 jW (uB k (row.map .int)) [some (.tr io (PG.wk st)),some (.sh rw),x,y]=if(PG.tk st row).2=row.length then .nx [some (.tr io (PG.wk (PG.tk st row).1)),some (.sh rw),x',y']else .rt [some (.tr io (PG.wk (PG.tk st row).1)),some (.sh rw),x',y'] (.sh (.int ((k+(PG.tk st row).2:Nat):Int))):=by
 induction row with
 |nil=>intro k st x y hl;exact⟨x,y,by simp[uB,nz,PG.tk]⟩
 | cons b row ih=>
   intro k st x y hl;simp only[List.length_cons]at hl;have hg:=CN b st (by omega);have hlen:=B0 st b
   have ht:jW [some (.tr io (PG.wk st)),some (.sh rw),some (.sh (.int k)),some (.sh (.int b))]=if(gon st b).2 then .nx [some (.tr io (PG.wk (gon st b).1)),some (.sh rw),some (.sh (.int k)),some (.sh (.int b))]else .rt [some (.tr io (PG.wk (gon st b).1)),some (.sh rw),some (.sh (.int k)),some (.sh (.int b))] (.sh (.int k)):=by
    have ha:kA (.t 0 aI) [some (.tr io (PG.wk st)),some (.sh rw),some (.sh (.int k)),some (.sh (.int b))]=some (.tr true (PG.wk st)):=by simp[kA,aI]
    have ha2:kA (.e (ao 3)) [some (.tr io (PG.wk st)),some (.sh rw),some (.sh (.int k)),some (.sh (.int b))]=some (.sh (.int b)):=by simp[kA]
    have hr:recv "Walk" "goes_on" (some (.tr true (PG.wk st)))=true:=by rw[yl];simp[recv,aG]
    have hx:lJ "Walk" "goes_on" dX [.t 0 aI,.e (ao 3)] [some (.tr io (PG.wk st)),some (.sh rw),some (.sh (.int k)),some (.sh (.int b))]=.ok [some (.tr io (PG.wk (gon st b).1)),some (.sh rw),some (.sh (.int k)),some (.sh (.int b))] (.sh (.bl (gon st b).2)):=by
     simp only[lJ,ha,hr,if_true,iG,jy,ha2,Option.bind_some,Option.map_some,hg];simp[eZ,jR,aI]
    unfold jW HH;rw[hx]
    cases(gon st b).2<;>simp
   unfold PG.tk;simp only[List.map_cons,uB,nz,List.set_cons_succ,List.set_cons_zero,ht]
   cases e:(gon st b).2 with
   |false=>exact⟨some (.sh (.int k)),some (.sh (.int b)),by simp⟩
   | true=>
     obtain⟨x',y',h⟩:=ih (k+1) (gon st b).1 (some (.sh (.int k))) (some (.sh (.int b))) (by omega)
     refine⟨x',y',?_⟩
     simp only[if_true,oo,h,List.length_cons,Nat.add_right_cancel_iff]
     have:k+1+(PG.tk (gon st b).1 row).2=k+((PG.tk (gon st b).1 row).2+1):=by omega
     rw[this]
theorem Eb(st:List PG.It)(row:List Int)(hl:st.length+8*row.length+8<100000):eI [.tr true (PG.wk st),.sh (.lst (row.map .int))]=.ok (.int (PG.tk st row).2) [some (PG.wk (PG.tk st row).1),none]:=by
 obtain⟨x',y',h⟩:=C8 true (.lst (row.map .int)) row 0 st none none hl;show fnI 2 4 my _=_;unfold fnI;rw[if_pos (by rfl)];show tM 2 (my [some (.tr true (PG.wk st)),some (.sh (.lst (row.map .int))),none,none])=_;unfold my Ci;simp only[pd,Bp,List.getElem?_cons_succ,List.getElem?_cons_zero,ft,Bt,h]
 by_cases e:(PG.tk st row).2=row.length
 . simp[e,tM,pV]
 . simp[e,tM,pV]
theorem AR(st:List PG.It)(hl:st.length<=100000):cY [.bo (PG.wk st)]=.ok (.bl (st.all PG.loose)) [none]:=by
 have hp:cF 0 (pFd 0 aI "coming" ng) [some (.bo (PG.wk st))]=.ok (.al (cm st)):=by
  unfold cF;rw[uP (s:=.bo (PG.wk st)) rfl rfl];simp only[tu]
 have hn:st.length<=lim:=dj (by omega)
 have he:dh i3 [] (cm st)=.ok ((st.reverse.map PG.loose).map .bl):=by
  rw[List.map_map]
  refine jK _ fun it _=>?_
  simp[i3,Fe]
 have hb:Dy (.lst ((st.reverse.map PG.loose).map .bl))=some (.sh (.bl (st.all PG.loose))):=by
  simp only[Dy,uq,Option.map_some]
  congr 3
  rw[List.all_map,List.all_reverse];rfl
 simp -implicitDefEqProofs only[cY,oA,fnI,kx,FH,hp,dk,List.map_nil,he,Ez,BF,List.map_cons,List.length_cons,List.length_nil,List.replicate,List.append_nil,mX,Ea,F3,List.length_map,List.length_reverse,hn,if_true,hb,x8,ft,Ef,Nat.sub_self,tM]
 rfl
theorem DL:cb [.tr true (.ob "Walk" [] [])]=.ok .non [some (PG.wk st0)]:=by
 rfl
theorem Gh(row:List Int):∀ st,(PG.tk st row).1.length<=st.length+8*row.length+8:=by
 induction row with
 |nil=>intro st;simp[PG.tk]
 | cons b row ih=>
   intro st;have:=B0 st b;have h2:=ih (gon st b).1;unfold PG.tk
   split<;>simp only[List.length_cons]<;>omega
noncomputable def ofO:Option Nat->PV
 |some k=>.int k
 |none=>.non
theorem u6(row:List Int)(hl:8*row.length+20<100000):kU [.lst (row.map .int)]=.ok (.sh (ofO (PG.flt row))):=by
 have ht:=Eb st0 row (by simp[st0];omega);have hlen:=Gh row st0;have hw:=AR (PG.tk st0 row).1 (by have:st0.length=3:=rfl;omega)
 have h0:sy "Walk" cb [some (.sh (.lst (row.map .int))),none,none]=.ok (PG.wk st0):=by unfold sy;rw[DL]
 have h1:hJ 2 (lJ "Walk" "take" eI [.t 1 aI,.e (ao 0)]) [some (.sh (.lst (row.map .int))),some (.tr false (PG.wk st0)),none]=.nx [some (.sh (.lst (row.map .int))),some (.tr false (PG.wk (PG.tk st0 row).1)),some (.sh (.int (PG.tk st0 row).2))]:=by
  have ha:kA (.t 1 aI) [some (.sh (.lst (row.map .int))),some (.tr false (PG.wk st0)),none]=some (.tr true (PG.wk st0)):=by simp[kA,aI]
  have ha2:kA (.e (ao 0)) [some (.sh (.lst (row.map .int))),some (.tr false (PG.wk st0)),none]=some (.sh (.lst (row.map .int))):=by simp[kA]
  have hr:recv "Walk" "take" (some (.tr true (PG.wk st0)))=true:=by rw[yl];simp[recv,aG]
  unfold hJ;simp only[lJ,ha,hr,if_true,iG,jy,ha2,Option.bind_some,Option.map_some,ht];simp[eZ,jR,aI,nio]
 have h2:n9 "Walk" "is_whole" cY [.b 1 aI] [some (.sh (.lst (row.map .int))),some (.tr false (PG.wk (PG.tk st0 row).1)),some (.sh (.int (PG.tk st0 row).2))]=.ok (.sh (.bl ((PG.tk st0 row).1.all PG.loose))):=by
  have ha:kA (.b 1 aI) [some (.sh (.lst (row.map .int))),some (.tr false (PG.wk (PG.tk st0 row).1)),some (.sh (.int (PG.tk st0 row).2))]=some (.bo (PG.wk (PG.tk st0 row).1)):=by
   simp only[kA];rw[Bo (s:=.tr false (PG.wk (PG.tk st0 row).1)) rfl rfl];rfl
  have hr:recv "Walk" "is_whole" (some (.bo (PG.wk (PG.tk st0 row).1)))=true:=by rw[yl];simp[recv,aG]
  simp only[n9,ha,hr,if_true,xQ,jy,Option.bind_some,Option.map_some,hw]
 unfold PG.flt
 have hd:j6 1 (sy "Walk" cb) [some (.sh (.lst (row.map .int))),none,none]=.nx [some (.sh (.lst (row.map .int))),some (.tr false (PG.wk st0)),none]:=by
  unfold j6;rw[h0];rfl
 simp -implicitDefEqProofs only[kU,Ct,sP,Cv,List.map_cons,List.map_nil,List.length_cons,List.length_nil,List.cons_append,List.nil_append,List.replicate,pd,hd,jD,xv,h1,wO,A7,Hc,Hs,ID,Bp,List.getElem?_cons_succ,List.getElem?_cons_zero,BF,mX,FC,h2]
 by_cases e:(PG.tk st0 row).2=row.length
 . cases e2:(PG.tk st0 row).1.all PG.loose<;>simp[e,tj,ofO]
 . have e3:¬ ((PG.tk st0 row).2:Int)=(row.length:Int):=by omega
   simp[e,e3,tj,ofO]
noncomputable def fgB(big:Bool)(w:Int):Int:=if w<10 then 48+w else(if big then 55 else 87)+w
noncomputable def BU(n:Int)(big:Bool):Sg:=.hx (fgB big (n/16/16/16%16)) (fgB big (n/16/16%16)) (fgB big (n/16%16)) (fgB big (n%16))
noncomputable def uL:List (Int×Int):=[(34,34),(92,92),(47,47),(8,98),(12,102),(10,110),(13,114),(9,116)]
noncomputable def GJ(n m:Int)(b1 b2:Bool):Sg:=.pr (fgB b1 (n/16/16/16%16)) (fgB b1 (n/16/16%16)) (fgB b1 (n/16%16)) (fgB b1 (n%16)) (fgB b2 (m/16/16/16%16)) (fgB b2 (m/16/16%16)) (fgB b2 (m/16%16)) (fgB b2 (m%16))
noncomputable def qy(p n:Int):Sg:=
 if n%5=0 /\ (uL.lookup p).isSome=true then .sh ((uL.lookup p).getD 0) p
 else if 1<n%5 /\ 32<=p /\ p≠34 /\ p≠92 then .pl p
 else if p<65536 then BU p (decide (n%5=1))
 else GJ (55296+(p - 65536)/1024) (56320+(p - 65536)%1024) (decide (n%5=1)) (decide (n%5=0))
theorem rX(big:Bool){w:Int}(h:0<=w /\ w<16):ee (fgB big w)=some w:=by
 unfold fgB ee
 by_cases h1:w<10
 . rw[if_pos h1,if_pos (by omega)];congr 1;omega
 . cases big
   . simp only[h1,if_false,Bool.false_eq_true];rw[if_neg (by omega),if_neg (by omega),if_pos (by omega)];congr 1;omega
   . simp only[h1,if_false,if_true];rw[if_neg (by omega),if_pos (by omega)];congr 1;omega
theorem xa{p:Int}(h:(uL.lookup p).isSome=true):((uL.lookup p).getD 0,p)∈shP:=by
 unfold uL at h ⊢
 simp only[List.lookup]at h ⊢
 repeat' split
 all_goals first
  |(rename_i e;have e':=eq_of_beq e;subst e';decide)
  |(simp_all;done)
theorem rV(n:Int)(big:Bool)(h:0<=n /\ n<65536):(ee (fgB big (n/16/16/16%16))=some (n/16/16/16%16) /\ ee (fgB big (n/16/16%16))=some (n/16/16%16) /\ ee (fgB big (n/16%16))=some (n/16%16) /\ ee (fgB big (n%16))=some (n%16)) /\
  cod (fgB big (n/16/16/16%16)) (fgB big (n/16/16%16)) (fgB big (n/16%16)) (fgB big (n%16))=n:=by
 have e1:=rX big (w:=n/16/16/16%16) (by omega);have e2:=rX big (w:=n/16/16%16) (by omega);have e3:=rX big (w:=n/16%16) (by omega);have e4:=rX big (w:=n%16) (by omega)
 refine⟨⟨e1,e2,e3,e4⟩,?_⟩
 simp only[cod,m6 e1,m6 e2,m6 e3,m6 e4];omega
theorem sd(p n:Int)(h:mM p=true):Sok (qy p n) /\ Mw (qy p n)=p:=by
 have hr:=rl h
 have hs:p<55296 \/ 57343<p:=by
  unfold mM at h;simp only[Bool.or_eq_true,Bool.and_eq_true,decide_eq_true_eq]at h;omega
 unfold qy;split
 . rename_i c;exact⟨xa c.2,rfl⟩
 . split
   . rename_i c;exact⟨⟨h,c.2.1,c.2.2.1,c.2.2.2⟩,rfl⟩
   . split
     . rename_i c;obtain⟨⟨e1,e2,e3,e4⟩,ec⟩:=rV p (decide (n%5=1)) (by omega)
       exact⟨⟨by rw[e1];rfl,by rw[e2];rfl,by rw[e3];rfl,by rw[e4];rfl,by rw[ec];omega⟩,ec⟩
     . rename_i c;obtain⟨⟨e1,e2,e3,e4⟩,ec⟩:=rV (55296+(p - 65536)/1024) (decide (n%5=1)) (by omega);obtain⟨⟨f1,f2,f3,f4⟩,fc⟩:=rV (56320+(p - 65536)%1024) (decide (n%5=0)) (by omega)
       have g1:(55296+(p - 65536)/1024)/16/16/16%16=13:=by omega
       have g2:(56320+(p - 65536)%1024)/16/16/16%16=13:=by omega
       refine⟨⟨⟨by rw[e1,g1],by rw[m6 e2];omega,by rw[m6 e2];omega,by rw[e2];rfl,by rw[e3];rfl,by rw[e4];rfl⟩,by rw[f1,g2],by rw[m6 f2];omega,by rw[f2];rfl,by rw[f3];rfl,by rw[f4];rfl⟩,?_⟩
       show 65536+1024*(cod _ _ _ _ - 55296)+cod _ _ _ _ - 56320=p;rw[ec,fc];omega
noncomputable def y8(n:Int)(big:Bool):List Int:=[92,117,fgB big (n/16/16/16%16),fgB big (n/16/16%16),fgB big (n/16%16),fgB big (n%16)]
theorem r9(n:Int)(big:Bool)(found:List Int)(k:Int)(x:Option Sl)(hl:found.length<=10):mj [some (.sh (.int n)),some (.sh (.bl big)),some (.ow (found.map .int)),some (.sh (.int k)),x]=.nx [some (.sh (.int (n/16))),some (.sh (.bl big)),some (.ow ((fgB big (n%16) ::found).map .int)),some (.sh (.int k)),some (.sh (.int (n%16)))]:=by
 have hlim:1+found.length<=lim:=dj (by omega)
 unfold fgB
 by_cases h:n%16<10
 . simp -implicitDefEqProofs [mj,h,hlim]
 . cases big<;>simp -implicitDefEqProofs [mj,h,hlim]
theorem jJ(n:Int)(big:Bool):gR [.int n,.bl big]=.ok (.fr ((y8 n big).map .int)):=by
 have h1:=r9 n big [] 0 none (by simp);have h2:=r9 (n/16) big [fgB big (n%16)] 1 (some (.sh (.int (n%16)))) (by simp);have h3:=r9 (n/16/16) big [fgB big (n/16%16),fgB big (n%16)] 2 (some (.sh (.int (n/16%16)))) (by simp);have h4:=r9 (n/16/16/16) big [fgB big (n/16/16%16),fgB big (n/16%16),fgB big (n%16)] 3 (some (.sh (.int (n/16/16%16)))) (by simp);simp only[List.map_cons,List.map_nil]at h1 h2 h3 h4
 have hr:dE 4=[.int 0,.int 1,.int 2,.int 3]:=rfl
 have hb:(-4611686018427387904:Int)<=4 /\ (4:Int)<4611686018427387904:=by omega
 simp -implicitDefEqProofs [uo,ug,w9,gR,hr,h1,h2,h3,h4,y8]
theorem rj(n:Int)(big:Bool)(h:0<=n /\ n<65536):oO (BU n big)=y8 n big:=by
 obtain⟨⟨e1,e2,e3,e4⟩,_⟩:=rV n big h;obtain⟨g1,g2,g3,g4⟩:=nr (by rw[e1];rfl) (by rw[e2];rfl) (by rw[e3];rfl) (by rw[e4];rfl);show bA 92++(bA 117++(bA _++(bA _++(bA _++(bA _++[])))))=_;rw[g1,g2,g3,g4];rfl
theorem DD(n m:Int)(b1 b2:Bool)(h:0<=n /\ n<65536)(h':0<=m /\ m<65536):oO (GJ n m b1 b2)=y8 n b1++y8 m b2:=by
 rw[<- rj n b1 h,<- rj m b2 h']
 show([92,117,_,_,_,_,92,117,_,_,_,_]:List Int).flatMap bA=([92,117,_,_,_,_]:List Int).flatMap bA++([92,117,_,_,_,_]:List Int).flatMap bA
 rw[<- List.flatMap_append];rfl
theorem nv(p n:Int)(h:mM p=true):iQ [.int p,.int n]=.ok (.fr ((oO (qy p n)).map .int)):=by
 have hr:=rl h;have h8:=lU p h
 have hl:(uL.map fun p=>(p.1,PV.int p.2)).lookup p=(uL.lookup p).map .int:=by
  unfold uL;simp only[List.map,List.lookup]
  repeat' split
  all_goals rfl
 obtain⟨kv,hkv⟩:∃ kv,kv=uL.map fun p=>(p.1,PV.int p.2):=⟨_,rfl⟩
 rw[<- hkv]at hl
 have hset:j6 2 (Jv [(34,34),(92,92),(47,47),(8,98),(12,102),(10,110),(13,114),(9,116)]) [some (.sh (.int p)),some (.sh (.int n)),none,none,none]=.nx [some (.sh (.int p)),some (.sh (.int n)),some (.tr false (.di kv)),none,none]:=by rw[hkv];rfl
 have hi:∀ a b c d,subAt 2 aI [a,b,some (.tr false (.di kv)),c,d]=some (.di kv):=fun a b c d=>by simp[subAt,fO,slT,aI]
 clear hkv
 have e1:fin (jc [some (.sh (.int p)),some (.sh (.int n)),some (.tr false (.di kv)),none,none])=.ok (.fr ((oO (qy p n)).map .int)):=by
  unfold qy
  by_cases c1:n%5=0 /\ (uL.lookup p).isSome=true
  . rw[if_pos c1];obtain⟨c,hc⟩:=Option.isSome_iff_exists.mp c1.2;have hm:=xa c1.2
    rw[hc]at hm hl ⊢
    have hby:oO (.sh c p)=[92,c]:=by
     simp only[Option.getD_some,shP,List.mem_cons,Prod.mk.injEq,List.not_mem_nil,or_false]at hm
     rcases hm with h|h|h|h|h|h|h|h<;>(obtain⟨rfl,rfl⟩:=h;rfl)
    simp only[Option.map_some]at hl;simp -implicitDefEqProofs [jc,ni,c1.1,zr,Cc,hi,hl,hby]
  . rw[if_neg c1]
    have hg1:∀ x,cZ (az (mOp gEq (ao 3) (mC (.int 0)))) (az (zr false (ao 0) 2 aI)) [some (.sh (.int p)),some (.sh (.int n)),some (.tr false (.di kv)),some (.sh (.int (n%5))),x]=.ok false:=fun x=>by
     by_cases z:n%5=0
     . have:uL.lookup p = none:=by
        cases e:uL.lookup p with
        |none=>rfl
        |some c=>exact absurd ⟨z,by rw[e];rfl⟩ c1
       rw[this]at hl;simp only[Option.map_none]at hl;simp -implicitDefEqProofs [z,zr,hi,hl]
     . simp -implicitDefEqProofs [z]
    have e2:fin (eW [some (.sh (.int p)),some (.sh (.int n)),some (.tr false (.di kv)),some (.sh (.int (n % 5))),none]) = .ok (.fr ((oO (if 1 < n % 5 /\ 32 <= p /\ p ≠ 34 /\ p ≠ 92 then .pl p
          else if p<65536 then BU p (decide (n%5=1))else GJ (55296+(p - 65536)/1024) (56320+(p - 65536)%1024) (decide (n%5=1)) (decide (n%5=0)))).map .int)):=by
     have e3:fin (kT [some (.sh (.int p)),some (.sh (.int n)),some (.tr false (.di kv)),some (.sh (.int (n%5))),none])=.ok (.fr ((oO (if p<65536 then BU p (decide (n%5=1))else GJ (55296+(p - 65536)/1024) (56320+(p - 65536)%1024) (decide (n%5=1)) (decide (n%5=0)))).map .int)):=by
      by_cases c3:p<65536
      . rw[if_pos c3,rj p _ (by omega)];simp -implicitDefEqProofs [kT,c3,jJ]
      . rw[if_neg c3,DD _ _ _ _ (by omega) (by omega)]
        have hlim:(y8 (55296+(p - 65536)/1024) (decide (n%5=1))).length+(y8 (56320+(p - 65536)%1024) (decide (n%5=0))).length<=lim:=by simp[y8]
        simp -implicitDefEqProofs [kT,c3,sV,sM,jJ,hlim]
     by_cases d1:1<n%5
     . by_cases d2:32<=p
       . by_cases d3:p=34
         . rw[if_neg (fun z=>z.2.2.1 d3)];simp -implicitDefEqProofs [eW,d1,d2,d3]
           simpa [d3]using e3
         . by_cases d4:p=92
           . rw[if_neg (fun z=>z.2.2.2 d4)];simp -implicitDefEqProofs [eW,d1,d2,d3,d4]
             simpa [d4]using e3
           . rw[if_pos ⟨d1,d2,d3,d4⟩]
             have hb:oO (.pl p)=bA p:=by show bA p++[]=_;simp
             rw[hb];simp -implicitDefEqProofs [eW,d1,d2,d3,d4,h8]
       . rw[if_neg (fun z=>d2 z.2.1)];simp -implicitDefEqProofs [eW,d1,d2];exact e3
     . rw[if_neg (fun z=>d1 z.1)];simp -implicitDefEqProofs [eW,d1];exact e3
    have hs:jc [some (.sh (.int p)),some (.sh (.int n)),some (.tr false (.di kv)),none,none]=eW [some (.sh (.int p)),some (.sh (.int n)),some (.tr false (.di kv)),some (.sh (.int (n%5))),none]:=by
     have h3:bf 3 (mOp cw (ao 1) (mC (.int 5))) [some (.sh (.int p)),some (.sh (.int n)),some (.tr false (.di kv)),none,none]=.nx [some (.sh (.int p)),some (.sh (.int n)),some (.tr false (.di kv)),some (.sh (.int (n%5))),none]:=by simp -implicitDefEqProofs
     simp only[jc,pd,h3,jD,ni,A7,hg1,lA,Bool.false_eq_true,if_false,HZ]
    rw[hs];exact e2
 simp -implicitDefEqProofs only[iQ,wo,Ct,sP,List.map_cons,List.map_nil,List.length_cons,List.length_nil,List.replicate,List.cons_append,List.nil_append,pd,hset,jD]
 exact e1
noncomputable def lts:List Int->Int->Nat->List Sg
 |[],_,_=>[]
 |p ::l,n,k=>qy p (n/(1+(k:Int)%7)+k) ::lts l n (k+1)
theorem LL(l:List Int):∀ n k,l.all mM=true->(lts l n k).map Mw=l:=by
 induction l with
 |nil=>intro n k _;rfl
 | cons p l ih=>
   intro n k h;simp only[List.all_cons,Bool.and_eq_true]at h;simp only[lts,List.map_cons,ih n (k+1) h.2,(sd p _ h.1).2]
theorem E6(l:List Int):∀ n k,l.all mM=true->∀ s∈lts l n k,Sok s:=by
 induction l with
 |nil=>intro n k _ s hs;cases hs
 | cons p l ih=>
   intro n k h s hs;simp only[List.all_cons,Bool.and_eq_true]at h
   rcases List.mem_cons.mp hs with z|z
   . subst z;exact(sd p _ h.1).1
   . exact ih n (k+1) h.2 s z
theorem FN(s:Sg)(h:Sok s):(oO s).length<=12:=by
 cases s with
 | pl p=>
   show(bA p++[]).length<=12
   rw[List.append_nil];unfold bA
   repeat' split
   all_goals simp
 | sh c p=>
   simp only[Sok,shP,List.mem_cons,Prod.mk.injEq,List.not_mem_nil,or_false]at h
   rcases h with h|h|h|h|h|h|h|h<;>(obtain⟨rfl,rfl⟩:=h;decide)
 | hx a b c d=>
   obtain⟨ha,hb,hc,hd,_⟩:=h;obtain⟨e1,e2,e3,e4⟩:=nr ha hb hc hd
   show(bA 92++(bA 117++(bA a++(bA b++(bA c++(bA d++[])))))).length<=12
   rw[e1,e2,e3,e4,show bA 92=[92] from rfl,show bA 117=[117] from rfl];simp
 | pr a b c d e f g h'=>
   obtain⟨⟨f1,_,_,hb,hcc,hd⟩,f5,_,hf,hg,hh⟩:=h;obtain⟨e1,e2,e3,e4⟩:=nr (by rw[f1];rfl) hb hcc hd;obtain⟨e5,e6,e7,e8⟩:=nr (by rw[f5];rfl) hf hg hh
   show(bA 92++(bA 117++(bA a++(bA b++(bA c++(bA d++(bA 92++(bA 117++(bA e++(bA f++(bA g++(bA h'++[])))))))))))).length<=12
   rw[e1,e2,e3,e4,e5,e6,e7,e8,show bA 92=[92] from rfl,show bA 117=[117] from rfl];simp
theorem DA(l:List Int)(n:Int)(a:Option Sl):∀(k:Nat) (found:List Int) (x:Option Sl),l.all mM=true->found.length+12*l.length<=100000->∃ x',gP 4 kY (l.map .int) [a,some (.sh (.int n)),some (.ow (found.map .int)),some (.sh (.int (k:Int))),x]=.nx [a,some (.sh (.int n)),some (.ow ((found++PG.inner (lts l n k)).map .int)),some (.sh (.int ((k+l.length:Nat):Int))),x']:=by
 induction l with
 |nil=>intro k found x _ _;exact⟨x,by simp[lts,PG.inner]⟩
 | cons p l ih=>
   intro k found x hp hl;simp only[List.all_cons,Bool.and_eq_true]at hp;simp only[List.length_cons]at hl;have hs:=nv p (n/(1+(k:Int)%7)+k) hp.1;have h12:=FN _ (sd p (n/(1+(k:Int)%7)+k) hp.1).1
   have hlim:found.length+(oO (qy p (n/(1+(k:Int)%7)+k))).length<=lim:=dj (by omega)
   obtain⟨x',h⟩:=ih (k+1) (found++oO (qy p (n/(1+(k:Int)%7)+k))) (some (.sh (.int p))) hp.2 (by simp;omega)
   refine⟨x',?_⟩
   have hd:(0:Int)<1+(k:Int)%7:=by omega
   have hd2:1+(k:Int)%7<1073741824:=by omega
   have ht:kY [a,some (.sh (.int n)),some (.ow (found.map .int)),some (.sh (.int (k:Int))),some (.sh (.int p))]=.nx [a,some (.sh (.int n)),some (.ow ((found++oO (qy p (n/(1+(k:Int)%7)+k))).map .int)),some (.sh (.int ((k+1:Nat):Int))),some (.sh (.int p))]:=by
    simp -implicitDefEqProofs [kY,hd,hd2,hs,hlim]
   rw[List.map_cons,jF];simp only[List.set_cons_succ,List.set_cons_zero,ht,oo,h]
   have e:k+1+l.length=k+(l.length+1):=by omega
   simp[lts,PG.inner,e]
theorem Cj(l:List Int):∀ n k,(PG.inner (lts l n k)).length<=12*l.length \/ l.all mM=false:=by
 induction l with
 |nil=>intro n k;left;simp[lts,PG.inner]
 | cons p l ih=>
   intro n k
   by_cases h1:mM p=true
   . rcases ih n (k+1)with h|h
     . left;have h12:=FN _ (sd p (n/(1+(k:Int)%7)+k) h1).1
       show(oO _++PG.inner (lts l n (k+1))).length<=_
       rw[List.length_append,List.length_cons];omega
     . right;simp[h]
   . right;simp[h1]
theorem jA(l:List Int)(n:Int)(h:l.all mM=true)(hl:l.length<=1000):fR [.lst (l.map .int),.int n]=.ok (.fr ((PG.txt (lts l n 0)).map .int)):=by
 obtain⟨x',h1⟩:=DA l n (some (.sh (.lst (l.map .int)))) 0 [34] none h (by simp;omega)
 have hlen:(PG.inner (lts l n 0)).length<=12*l.length:=by
  rcases Cj l n 0 with z|z
  . exact z
  . rw[h]at z;cases z
 have hlim:(PG.inner (lts l n 0)).length+1+1<=lim:=dj (by omega)
 simp only[List.map_cons,List.map_nil,Int.ofNat_zero,Int.cast_ofNat_Int]at h1
 simp -implicitDefEqProofs only[fR,wb,Ct,sP,List.map_cons,List.map_nil,List.length_cons,List.length_nil,List.replicate,List.cons_append,List.nil_append,pd]
 simp -implicitDefEqProofs [si,se,h1,rO,hlim,PG.txt]
noncomputable def low:Nat->Int->Int×Nat
 |0,n=>(n,0)
 |k+1,n=>if n%10=0 then((low k (n/10)).1,(low k (n/10)).2+1)else(n,0)
noncomputable def sv(s ds:List Int):Int:=if s=[45]then -cv ds else cv ds
noncomputable def exV:Option (Int×List Int×List Int)->Int
 |none=>0
 |some (_,s,ds)=>sv s ds
noncomputable def mwV(m:Nm):Int:=if m.neg then -cv (m.ip++m.fr)else cv (m.ip++m.fr)
noncomputable def dN(m:Nat):List Nat:=(Nat.toDigits 10 m).map Char.toNat
theorem HQ(m:Nat):(Str.ofString (toString ((m:Nat):Int))).cps.toList=dN m:=by
 rw[Str.ofString_eq_toList]
 have:(toString ((m:Nat):Int)).toList=Nat.toDigits 10 m:=by
  show(Nat.repr m).toList=_
  simp[Nat.repr]
 rw[this];rfl
theorem Eh(m:Nat):yO (Str.ofString (toString ((m:Nat):Int)))=(dN m).map fun c=>PV.str ⟨#[c]⟩:=by
 unfold yO;rw[HQ]
theorem D9:∀ d:Nat,d<10->(Nat.digitChar d).toNat=48+d:=by decide
theorem uU(m:Nat):(dN m).map (fun c:Nat=>(c:Int))=cT m:=by
 induction m using Nat.strongRecOn with
 | _ m ih=>
   rw[cT]
   by_cases h:m<10
   . rw[if_pos h];unfold dN;rw[Nat.toDigits_of_lt_base h];simp[D9 m h]
   . rw[if_neg h,<- ih (m/10) (by omega)];unfold dN;rw[Nat.toDigits_of_base_le (by decide) (by omega)];simp[D9 (m%10) (by omega)]
theorem Kx(m:Nat):∀ c∈dN m,48<=c /\ c<=57:=by
 intro c hc
 have h1:(c:Int)∈cT m:=by rw[<- uU];exact List.mem_map.mpr ⟨c,hc,rfl⟩
 have:=Aq m _ h1;unfold isF at this;omega
theorem JM(m:Nat):(dN m).length=(cT m).length:=by rw[<- uU];simp
theorem GP(m:Nat)(h:m<100000):((m:Nat):Int).natAbs.log2<1920:=by
 have e:((m:Nat):Int).natAbs=m:=by omega
 rw[e]
 by_cases h0:m=0
 . subst h0;decide
 . have:=(Nat.log2_lt h0 (k:=17)).mpr (by omega);omega
theorem zy{me:ag->OE}{f:Nat->PV}(m:Nat)(h:m<100000)(hme:∀ c∈dN m,me ([]++[some (.sh (.str ⟨#[c]⟩))])=.ok (.sh (f c)))(ma:ag->OE)(ρ:ag)(ha:ma ρ=.ok (.sh (.int (m:Int)))):
  o4 (mUn o1 ma) [] me ρ=.ok (.fr ((dN m).map f)):=by
 have h2:(dN m).length<=lim:=by
  rw[JM];have:=pz 4 m (by omega);exact dj (by omega)
 have e1:(mUn o1 ma) ρ=.ok (.sh (.str (Str.ofString (toString (m:Int))))):=by
  have:o1 (.int m)=some (.sh (.str (Str.ofString (toString (m:Int))))):=if_pos (GP m h)
  simp[ha,this]
 have hel:dh me [] ((dN m).map fun c=>PV.str ⟨#[c]⟩)=.ok ((dN m).map f):=jK _ hme
 rw[ET,e1];simp only[OE.bind,RV.pv,Eh,dk,List.map_nil,hel];simp[noX,h2]
theorem MD(c:Nat)(h:48<=c /\ c<=57):gw ([]++[some (.sh (.str ⟨#[c]⟩))])=.ok (.sh (.int ((c:Int) - 48))):=by
 have:BN (.str ⟨#[c]⟩)=some (.sh (.int ((c:Int) - 48))):=if_pos h
 simp[gw,this]
theorem Kr(c:Nat):fF ([]++[some (.sh (.str ⟨#[c]⟩))])=.ok (.sh (.int (c:Int))):=by
 have:EN (.str ⟨#[c]⟩)=some (.sh (.int ((⟨#[c]⟩:Str).cps.getD 0 0:Nat))):=rfl
 simp[fF,this]
noncomputable def ws(ds:List Int):List Int:=ds.map (· - 48)
theorem wl1(l:List Int):∀(w:Int) (a b c d x e f g:Option Sl),∃ x',gP 5 fE (l.map .int) [a,b,c,d,some (.sh (.int w)),x,e,f,g]=.nx [a,b,c,d,some (.sh (.int (l.foldl (fun n d=>n*10+d) w))),x',e,f,g]:=by
 induction l with
 |nil=>intro w a b c d x e f g;exact⟨x,rfl⟩
 | cons y l ih=>
   intro w a b c d x e f g;obtain⟨x',h⟩:=ih (w*10+y) a b c d (some (.sh (.int y))) e f g
   refine⟨x',?_⟩
   have ht:fE [a,b,c,d,some (.sh (.int w)),some (.sh (.int y)),e,f,g]=.nx [a,b,c,d,some (.sh (.int (w*10+y))),some (.sh (.int y)),e,f,g]:=by simp -implicitDefEqProofs [fE]
   rw[List.map_cons,jF];simp only[List.set_cons_succ,List.set_cons_zero,ht,oo,h,List.foldl_cons]
theorem wl2(l:List Int):∀(row:List Int) (w p:Int) (a b c x f g:Option Sl),row.length+l.length<=1000->∃ x',gP 5 gN (l.map .int) [a,b,c,some (.ow (row.map .int)),some (.sh (.int w)),x,some (.sh (.int p)),f,g]=.nx [a,b,c,some (.ow ((row++l.map (48+·)).map .int)),some (.sh (.int (l.foldl (fun n d=>n*10+d) w))),x',some (.sh (.int (p - l.length))),f,g]:=by
 induction l with
 |nil=>intro row w p a b c x f g _;exact⟨x,by simp⟩
 | cons y l ih=>
   intro row w p a b c x f g hl;simp only[List.length_cons]at hl;obtain⟨x',h⟩:=ih (row++[48+y]) (w*10+y) (p - 1) a b c (some (.sh (.int y))) f g (by simp;omega)
   refine⟨x',?_⟩
   have hlim:row.length<lim:=tQ (by omega)
   have ht:gN [a,b,c,some (.ow (row.map .int)),some (.sh (.int w)),some (.sh (.int y)),some (.sh (.int p)),f,g]=.nx [a,b,c,some (.ow ((row++[48+y]).map .int)),some (.sh (.int (w*10+y))),some (.sh (.int y)),some (.sh (.int (p - 1))),f,g]:=by simp -implicitDefEqProofs [gN,hlim]
   rw[List.map_cons,jF];simp only[List.set_cons_succ,List.set_cons_zero,ht,oo,h,List.foldl_cons]
   have e1:p - 1 - (l.length:Int)=p - ((l.length:Int)+1):=by omega
   simp[e1]
theorem Cg(ds:List Int):∀ w,(ws ds).foldl (fun n d=>n*10+d) w=ds.foldl (fun n d=>10*n+d - 48) w:=by
 induction ds with
 |nil=>intro w;rfl
 | cons d ds ih=>
   intro w
   simp only[ws,List.map_cons,List.foldl_cons]at ih ⊢
   have:w*10+(d - 48)=10*w+d - 48:=by omega
   rw[this];exact ih _
theorem Ld(ds:List Int):(ws ds).map (48+·)=ds:=by
 unfold ws;rw[List.map_map]
 conv=>rhs;rw[<- List.map_id ds]
 refine List.map_congr_left fun x _=>?_
 show 48+(x - 48)=x;omega
theorem Ge(xs ys:List Int):cv (xs++ys)=ys.foldl (fun n d=>10*n+d - 48) (cv xs):=by
 unfold cv;rw[List.foldl_append]
noncomputable def bV(n:Int):List Int:=if n/17%3=1 then([48+n/19%10,48+n/23%4,48]:List Int).take (1+n/29%3).toNat else[]
noncomputable def fY(n:Int):Option (Int×List Int×List Int):=if n/31%3=1 then some (if n/41%2=0 then 101 else 69,if n/43%3=1 then[45]else if n/43%3=2 then[43]else[],(if n/47%4=1 then[48]else[])++cT (n/37%30).toNat)else none
noncomputable def eE(n:Int):Nm:=⟨decide (n%3=0),cT (n/3%100000).toNat,bV n,fY n⟩
theorem Ab(n:Int):Nok (eE n) where
 ip:=by
  by_cases h:(n/3%100000).toNat=0
  . left;show cT _=_;rw[h,CK]
  . right;exact CD _ (by omega)
 fr:=fun b hb=>by
  have hb':b∈bV n:=hb
  unfold bV at hb';split at hb'
  . have:=List.mem_of_mem_take hb';simp at this;unfold isF;omega
  . cases hb'
 ex:=fun e s ds h=>by
  have h':fY n=some (e,s,ds):=h
  unfold fY at h';split at h'
  . injection h' with h'
    injection h' with h1 h'
    injection h' with h2 h3
    refine⟨?_,?_,?_,?_⟩
    . rw[<- h1];split<;>simp
    . rw[<- h2];split
      . simp
      . split<;>simp
    . rw[<- h3];intro z;exact Hg _ (List.append_eq_nil_iff.mp z).2
    . rw[<- h3];intro b hb
      rcases List.mem_append.mp hb with z|z
      . split at z
        . simp at z;subst z;decide
        . cases z
      . exact Aq _ b z
  . cases h'
noncomputable abbrev nE(n:Int)(a b c d e f g:Option Sl):ag:=[some (.sh (.int n)),some (.sh (.bl (decide (n%3=0)))),a,b,c,d,e,f,g]
theorem yY(k:Nat):∀(n p:Int) (F:Nat),n≠0->n.natAbs<10 ^ k->k<F->gn iy jX F [some (.sh (.int n)),some (.sh (.int p))]=.nx [some (.sh (.int (low k n).1)),some (.sh (.int (p+(low k n).2)))]:=by
 induction k with
 |zero=>intro n p F h0 h _;simp at h;omega
 | succ k ih=>
   intro n p F h0 h hF
   obtain⟨F,rfl⟩:∃ G,F=G+1:=⟨F - 1,by omega⟩
   unfold gn low
   by_cases hm:n%10=0
   . rw[Nat.pow_succ]at h
     have h1:n/10≠0:=by omega
     have h2:(n/10).natAbs<10 ^ k:=by generalize 10 ^ k=z at h;omega
     have:=ih (n/10) (p+1) F h1 h2 (by omega)
     have hc:iy [some (.sh (.int n)),some (.sh (.int p))]=.ok true:=by simp[iy,hm]
     have hb:jX [some (.sh (.int n)),some (.sh (.int p))]=.nx [some (.sh (.int (n/10))),some (.sh (.int (p+1)))]:=by simp[jX]
     simp[hc,hb,hm,this,Int.add_assoc,Int.add_comm 1]
   . simp[iy,hm]
noncomputable def pairOf(k:Nat)(n p:Int):PV:=if n=0 then .tup [.int 0,.int 0]else .tup [.int (low k n).1,.int (p+(low k n).2)]
theorem E4(k:Nat)(n p:Int)(h:n.natAbs<10 ^ k)(hk:k<=90000):fg [.int n,.int p]=.ok (.sh (pairOf k n p)):=by
 unfold pairOf
 by_cases h0:n=0
 . rw[if_pos h0,h0];simp -implicitDefEqProofs [fg,pq]
 . rw[if_neg h0];have:=yY k n p fuel h0 h (by unfold fuel;omega);simp -implicitDefEqProofs [fg,pq,qP,qM,h0,this]
theorem Fu(ds:List Int)(h:∀ b∈ds,isF b):0<=cv ds /\ cv ds<10 ^ ds.length:=by
 have key:∀(ds:List Int) (w:Int) (k:Nat),(∀ b∈ds,isF b)->0<=w /\ w<10 ^ k->0<=ds.foldl (fun n d=>10*n+d - 48) w /\ ds.foldl (fun n d=>10*n+d - 48) w<10 ^ (k+ds.length):=by
  intro ds
  induction ds with
  |nil=>intro w k _ hw;simpa using hw
  | cons d ds ih=>
    intro w k hd hw;have h1:=hd d List.mem_cons_self;unfold isF at h1
    have h2:(10:Int) ^ (k+1)=10 ^ k*10:=Int.pow_succ 10 k
    have:=ih (10*w+d - 48) (k+1) (fun b hb=>hd b (List.mem_cons_of_mem _ hb)) ⟨by omega,by rw[h2];omega⟩;rw[List.foldl_cons,List.length_cons];rw[show k+1+ds.length=k+(ds.length+1) by omega]at this;exact this
 have:=key ds 0 0 h (by simp);rw[Nat.zero_add]at this;exact this
theorem FV(m:Nm)(h:Nok m)(k:Nat)(hk:(m.ip++m.fr).length<=k):(mwV m).natAbs<10 ^ k:=by
 have hip:∀ b∈m.ip++m.fr,isF b:=by
  intro b hb
  rcases List.mem_append.mp hb with z|z
  . rcases h.ip with e|⟨d,r,e,h1,h2,h3⟩
    . rw[e]at z;simp at z;subst z;decide
    . rw[e]at z
      rcases List.mem_cons.mp z with y|y
      . unfold isF;omega
      . exact h3 b y
  . exact h.fr b z
 obtain⟨b1,b2⟩:=Fu _ hip
 have b3:(10:Int) ^ (m.ip++m.fr).length<=10 ^ k:=by
  have:=Nat.pow_le_pow_right (n:=10) (by decide) hk
  have e1:((10 ^ (m.ip++m.fr).length:Nat):Int)=(10:Int) ^ (m.ip++m.fr).length:=by norm_cast
  have e2:((10 ^ k:Nat):Int)=(10:Int) ^ k:=by norm_cast
  omega
 have e2:((10 ^ k:Nat):Int)=(10:Int) ^ k:=by norm_cast
 unfold mwV
 split<;>omega
theorem kQ(n:Int)(hn:0<=n):fV [.int n]=.ok (.sh (.tup [.lst ((PG.nb (eE n)).map .int),pairOf 20 (mwV (eE n)) (exV (eE n).ex - (eE n).fr.length)])):=by
 obtain⟨K,hK⟩:∃ K:Nat,K=(n/3%100000).toNat:=⟨_,rfl⟩
 have hK1:n/3%100000=(K:Int):=by omega
 have hK2:K<100000:=by omega
 have hdl:=pz 4 K (by omega)
 obtain⟨sg,hsg⟩:∃ sg:List Int,sg=if n%3=0 then[45]else[]:=⟨_,rfl⟩
 have hsl:sg.length<=1:=by rw[hsg];split<;>simp
 have ok:=Ab n
 have hfl:(bV n).length<=3:=by unfold bV;split<;>simp;omega
 have hb20:=FV (eE n) ok 20 (by show(cT (n/3%100000).toNat++bV n).length<=20;rw[<- hK];simp;omega);have hpl:=E4 20 (mwV (eE n)) (exV (eE n).ex - (eE n).fr.length) hb20 (by decide)
 have c1:bf 2 (o4 (mUn o1 (mOp cw (mOp dA (ao 0) (mC (.int 3))) (mC (.int 100000)))) [] gw) (nE n none none none none none none none)=.nx (nE n (some (.ow ((ws (cT K)).map .int))) none none none none none none):=by
  have:=zy (me:=gw) (f:=fun c=>.int ((c:Int) - 48)) K hK2 (fun c hc=>MD c (Kx K c hc)) (mOp cw (mOp dA (ao 0) (mC (.int 3))) (mC (.int 100000))) (nE n none none none none none none none) (by simp -implicitDefEqProofs [hK1]);rw[DZ,this]
  have e:(dN K).map (fun c:Nat=>PV.int ((c:Int) - 48))=(ws (cT K)).map .int:=by
   rw[<- uU];simp[ws,List.map_map,Function.comp_def]
  rw[e];rfl
 have c2:bf 3 (gm (dM (ao 1)) (bS (ak (mC (.int 45)) aJ)) (bS aJ)) (nE n (some (.ow ((ws (cT K)).map .int))) none none none none none none)=.nx (nE n (some (.ow ((ws (cT K)).map .int))) (some (.ow (sg.map .int))) none none none none none):=by
  rw[hsg]
  by_cases h:n%3=0<;>simp -implicitDefEqProofs [h]
 have hel:dh jm [] ((ws (cT K)).map .int)=.ok ((cT K).map .int):=by
  have:(cT K).map PV.int=(ws (cT K)).map fun x=>.int (48+x):=by
   conv=>lhs;rw[<- Ld (cT K)]
   rw[List.map_map];rfl
  rw[this]
  exact jK _ fun x _=>by simp -implicitDefEqProofs [jm]
 have hdlim:(cT K).length<=lim:=dj (by omega)
 have hslim:sg.length+(cT K).length<=lim:=dj (by omega)
 have c3:bf 3 (mOp iN (ao 3) (qV (ao 2) [] jm)) (nE n (some (.ow ((ws (cT K)).map .int))) (some (.ow (sg.map .int))) none none none none none)=.nx (nE n (some (.ow ((ws (cT K)).map .int))) (some (.ow ((sg++cT K).map .int))) none none none none none):=by
  simp -implicitDefEqProofs [dk,hel,hdlim,hslim]
 obtain⟨x1,w1⟩:=wl1 (ws (cT K)) 0 (some (.sh (.int n))) (some (.sh (.bl (decide (n%3=0))))) (some (.sh (.lst ((ws (cT K)).map .int)))) (some (.ow ((sg++cT K).map .int))) none none none none;rw[Cg]at w1
 have w1':gP 5 fE ((ws (cT K)).map .int) (nE n (some (.sh (.lst ((ws (cT K)).map .int)))) (some (.ow ((sg++cT K).map .int))) (some (.sh (.int 0))) none none none none)=.nx (nE n (some (.sh (.lst ((ws (cT K)).map .int)))) (some (.ow ((sg++cT K).map .int))) (some (.sh (.int (cv (cT K))))) x1 none none none):=w1
 obtain⟨W,hW⟩:∃ W,W=ws (cT K):=⟨_,rfl⟩
 obtain⟨R1,hR1⟩:∃ R1,R1=sg++cT K:=⟨_,rfl⟩
 have hR1l:R1.length<=6:=by rw[hR1];simp;omega
 obtain⟨V1,hV1⟩:∃ V1,V1=cv (cT K):=⟨_,rfl⟩
 rw[<- hW,<- hR1,<- hV1]at w1';rw[<- hW]at c1 c2;rw[<- hW,<- hR1]at c3
 have c4:∃ x2,bc (az (mOp gEq (mOp cw (mOp dA (ao 0) (mC (.int 17))) (mC (.int 3))) (mC (.int 1)))) (aH (eS 3 (mC (.int 46))) (lX 5 (pb (bS (ak (mOp cw (mOp dA (ao 0) (mC (.int 19))) (mC (.int 10))) (ak (mOp cw (mOp dA (ao 0) (mC (.int 23))) (mC (.int 4))) (ak (mC (.int 0)) aJ)))) (mC .non) (kb (mOp eY (mC (.int 1)) (mOp cw (mOp dA (ao 0) (mC (.int 29))) (mC (.int 3)))))) gN)) aO
   (nE n (some (.sh (.lst (W.map .int)))) (some (.ow (R1.map .int))) (some (.sh (.int V1))) x1 (some (.sh (.int 0))) none none) =
   .nx (nE n (some (.sh (.lst (W.map .int)))) (some (.ow ((R1++frB (bV n)).map .int))) (some (.sh (.int ((bV n).foldl (fun n d=>10*n+d - 48) V1)))) x2 (some (.sh (.int (-((bV n).length:Int))))) none none):=by
  by_cases h17:n/17%3=1
  . obtain⟨L,hL⟩:∃ L:List Int,L=([n/19%10,n/23%4,0]:List Int).take (1+n/29%3).toNat:=⟨_,rfl⟩
    have hLf:bV n=L.map (48+·):=by
     unfold bV;rw[if_pos h17,hL,List.map_take];simp
    have hLl:L.length=(1+n/29%3).toNat:=by rw[hL];simp;omega
    have hcut:AD [PV.int (n/19%10),.int (n/23%4),.int 0] none (some (1+n/29%3))=L.map .int:=by
     have e1:xM 3 3 (some (1+n/29%3))=(1+n/29%3).toNat:=by
      unfold xM;dsimp only;rw[if_neg (by omega)];omega
     show([PV.int (n/19%10),.int (n/23%4),.int 0].drop 0).take (xM 3 3 (some (1+n/29%3)) - 0)=_
     rw[e1,hL,List.map_take];rfl
    obtain⟨x2,w2⟩:=wl2 L (R1++[46]) V1 0 (some (.sh (.int n))) (some (.sh (.bl (decide (n%3=0))))) (some (.sh (.lst (W.map .int)))) x1 none none (by simp;omega)
    refine⟨x2,?_⟩
    have hne:bV n≠[]:=by
     rw[hLf];intro z;have:=congrArg List.length z;simp[hLl]at this;omega
    have hfold:L.foldl (fun n d=>n*10+d) V1=(bV n).foldl (fun n d=>10*n+d - 48) V1:=by
     have:=Cg (bV n) V1;rw[<- this,hLf]
     congr 1
     unfold ws;rw[List.map_map]
     conv=>lhs;rw[<- List.map_id L]
     refine List.map_congr_left fun x _=>?_
     show x=48+x - 48;omega
    have hrow:R1++[46]++L.map (48+·)=R1++frB (bV n):=by
     unfold frB;rw[if_neg hne,hLf];simp
    rw[hfold,hrow]at w2
    have hlen:(0:Int) - (L.length:Int)=-((bV n).length:Int):=by rw[hLf];simp
    rw[hlen]at w2
    have hl1:R1.length<lim:=tQ (by omega)
    have w2':=w2
    simp only[List.map_append,List.map_cons,List.map_nil]at w2';simp -implicitDefEqProofs [h17,hl1,hcut,w2']
  . refine⟨x1,?_⟩
    have hf:bV n=[]:=by unfold bV;rw[if_neg h17]
    rw[hf];simp -implicitDefEqProofs [h17,frB]
 obtain⟨x2,c4⟩:=c4
 obtain⟨R2,hR2⟩:∃ R2,R2=R1++frB (bV n):=⟨_,rfl⟩
 have hR2l:R2.length<=10:=by
  rw[hR2];unfold frB
  split<;>simp<;>omega
 have hV2:(bV n).foldl (fun n d=>10*n+d - 48) V1=cv (cT K++bV n):=by rw[Ge,hV1]
 rw[hV2,<- hR2]at c4
 obtain⟨V2,hV2e⟩:∃ V2,V2=cv (cT K++bV n):=⟨_,rfl⟩
 rw[<- hV2e]at c4
 have c5:∃ y z,bc (az (mOp gEq (mOp cw (mOp dA (ao 0) (mC (.int 31))) (mC (.int 3))) (mC (.int 1)))) (aH (bf 7 (mOp cw (mOp dA (ao 0) (mC (.int 37))) (mC (.int 30)))) (aH (eS 3 (mOp ou (bS (ak (mC (.int 101)) (ak (mC (.int 69)) aJ))) (mOp cw (mOp dA (ao 0) (mC (.int 41))) (mC (.int 2))))) (aH (bf 8 (mOp gEq (mOp cw (mOp dA (ao 0) (mC (.int 43))) (mC (.int 3))) (mC (.int 1)))) (aH (bc (dM (ao 8)) (eS 3 (mC (.int 45))) (bc (az (mOp gEq (mOp cw (mOp dA (ao 0) (mC (.int 43))) (mC (.int 3))) (mC (.int 2)))) (eS 3 (mC (.int 43))) aO)) (aH (bc (az (mOp gEq (mOp cw (mOp dA (ao 0) (mC (.int 47))) (mC (.int 4))) (mC (.int 1)))) (eS 3 (mC (.int 48))) aO) (aH (bf 3 (mOp iN (ao 3) (o4 (mUn o1 (ao 7)) [] fF))) (bf 6 (mOp eY (ao 6) (gm (dM (ao 8)) (mUn gi (ao 7)) (ao 7)))))))))) aO
   (nE n (some (.sh (.lst (W.map .int)))) (some (.ow (R2.map .int))) (some (.sh (.int V2))) x2 (some (.sh (.int (-((bV n).length:Int))))) none none) =
   .nx (nE n (some (.sh (.lst (W.map .int)))) (some (.ow ((R2++exB (fY n)).map .int))) (some (.sh (.int V2))) x2 (some (.sh (.int (exV (fY n) - (bV n).length)))) y z):=by
  by_cases h31:n/31%3=1
  . obtain⟨M,hM⟩:∃ M:Nat,M=(n/37%30).toNat:=⟨_,rfl⟩
    have hM1:n/37%30=(M:Int):=by omega
    refine⟨some (.sh (.int (M:Int))),some (.sh (.bl (decide (n/43%3=1)))),?_⟩
    obtain⟨eb,heb⟩:∃ eb:Int,eb=if n/41%2=0 then 101 else 69:=⟨_,rfl⟩
    obtain⟨sx,hsx⟩:∃ sx:List Int,sx=if n/43%3=1 then[45]else if n/43%3=2 then[43]else[]:=⟨_,rfl⟩
    obtain⟨zx,hzx⟩:∃ zx:List Int,zx=if n/47%4=1 then[48]else[]:=⟨_,rfl⟩
    have hex:fY n=some (eb,sx,zx++cT M):=by unfold fY;rw[if_pos h31,heb,hsx,hzx,hM]
    have hsxl:sx.length <= 1:=by rw [hsx]; split
                                 . simp
                                 . split<;>simp
    have hzxl:zx.length<=1:=by rw[hzx];split<;>simp
    have hml:=pz 4 M (by omega)
    have hat:atP [PV.int 101,.int 69] (n/41%2)=some (.int eb):=by
     have:n/41%2=0 \/ n/41%2=1:=by omega
     rw[heb]
     rcases this with h|h<;>rw[h]<;>rfl
    have hcvz:cv (zx++cT M)=(M:Int):=by
     have:cv (cT M)=M:=Ib M
     rw[hzx];split
     . rw[Ge];exact this
     . exact this
    have hexv:exV (fY n)=if n/43%3=1 then -(M:Int)else(M:Int):=by
     rw[hex];show sv sx (zx++cT M)=_;unfold sv;rw[hcvz,hsx]
     by_cases h1:n/43%3=1
     . simp[h1]
     . by_cases h2:n/43%3=2<;>simp[h1,h2]
    have l1:R2.length<lim:=tQ (by omega)
    have l2:R2.length+1<lim:=tQ (by omega)
    obtain⟨R3,hR3⟩:∃ R3,R3=R2++[eb]:=⟨_,rfl⟩
    have g1:eS 3 (mOp ou (bS (ak (mC (.int 101)) (ak (mC (.int 69)) aJ))) (mOp cw (mOp dA (ao 0) (mC (.int 41))) (mC (.int 2)))) (nE n (some (.sh (.lst (W.map .int)))) (some (.ow (R2.map .int))) (some (.sh (.int V2))) x2 (some (.sh (.int (-((bV n).length:Int))))) (some (.sh (.int (M:Int)))) none)=.nx (nE n (some (.sh (.lst (W.map .int)))) (some (.ow (R3.map .int))) (some (.sh (.int V2))) x2 (some (.sh (.int (-((bV n).length:Int))))) (some (.sh (.int (M:Int)))) none):=by
     rw[hR3];simp -implicitDefEqProofs [hat,l1]
    have hR3l:R3.length<=11:=by rw[hR3];simp;omega
    have l3:R3.length<lim:=tQ (by omega)
    obtain⟨R4,hR4⟩:∃ R4,R4=R3++sx:=⟨_,rfl⟩
    have g2:bc (dM (ao 8)) (eS 3 (mC (.int 45))) (bc (az (mOp gEq (mOp cw (mOp dA (ao 0) (mC (.int 43))) (mC (.int 3))) (mC (.int 2)))) (eS 3 (mC (.int 43))) aO) (nE n (some (.sh (.lst (W.map .int)))) (some (.ow (R3.map .int))) (some (.sh (.int V2))) x2 (some (.sh (.int (-((bV n).length:Int))))) (some (.sh (.int (M:Int)))) (some (.sh (.bl (decide (n/43%3=1))))))=.nx (nE n (some (.sh (.lst (W.map .int)))) (some (.ow (R4.map .int))) (some (.sh (.int V2))) x2 (some (.sh (.int (-((bV n).length:Int))))) (some (.sh (.int (M:Int)))) (some (.sh (.bl (decide (n/43%3=1)))))):=by
     rw[hR4,hsx]
     by_cases h1:n/43%3=1
     . simp -implicitDefEqProofs [h1,l3]
     . by_cases h2:n/43%3=2<;>simp -implicitDefEqProofs [h1,h2,l3]
    have hR4l:R4.length<=12:=by rw[hR4];simp;omega
    have l4:R4.length<lim:=tQ (by omega)
    obtain⟨R5,hR5⟩:∃ R5,R5=R4++zx:=⟨_,rfl⟩
    have g3:bc (az (mOp gEq (mOp cw (mOp dA (ao 0) (mC (.int 47))) (mC (.int 4))) (mC (.int 1)))) (eS 3 (mC (.int 48))) aO (nE n (some (.sh (.lst (W.map .int)))) (some (.ow (R4.map .int))) (some (.sh (.int V2))) x2 (some (.sh (.int (-((bV n).length:Int))))) (some (.sh (.int (M:Int)))) (some (.sh (.bl (decide (n/43%3=1))))))=.nx (nE n (some (.sh (.lst (W.map .int)))) (some (.ow (R5.map .int))) (some (.sh (.int V2))) x2 (some (.sh (.int (-((bV n).length:Int))))) (some (.sh (.int (M:Int)))) (some (.sh (.bl (decide (n/43%3=1)))))):=by
     rw[hR5,hzx]
     by_cases h1:n/47%4=1<;>simp -implicitDefEqProofs [h1,l4]
    have hR5l:R5.length<=13:=by rw[hR5];simp;omega
    have l5:R5.length+(cT M).length<=lim:=dj (by omega)
    have hcs:=zy (me:=fF) (f:=fun c=>.int (c:Int)) M (by omega) (fun c _=>Kr c) (ao 7) (nE n (some (.sh (.lst (W.map .int)))) (some (.ow (R5.map .int))) (some (.sh (.int V2))) x2 (some (.sh (.int (-((bV n).length:Int))))) (some (.sh (.int (M:Int)))) (some (.sh (.bl (decide (n/43%3=1)))))) (by simp)
    have hdd:(dN M).map (fun c:Nat=>PV.int (c:Int))=(cT M).map .int:=by rw[<- uU,List.map_map];rfl
    rw[hdd]at hcs
    have g4:bf 3 (mOp iN (ao 3) (o4 (mUn o1 (ao 7)) [] fF)) (nE n (some (.sh (.lst (W.map .int)))) (some (.ow (R5.map .int))) (some (.sh (.int V2))) x2 (some (.sh (.int (-((bV n).length:Int))))) (some (.sh (.int (M:Int)))) (some (.sh (.bl (decide (n/43%3=1))))))=.nx (nE n (some (.sh (.lst (W.map .int)))) (some (.ow ((R5++cT M).map .int))) (some (.sh (.int V2))) x2 (some (.sh (.int (-((bV n).length:Int))))) (some (.sh (.int (M:Int)))) (some (.sh (.bl (decide (n/43%3=1)))))):=by
     simp -implicitDefEqProofs only[DZ,ID,hcs,Bp,List.getElem?_cons_succ,List.getElem?_cons_zero,mX,Ea,Ef,JK,List.length_map,l5,if_true,x8,ft,HM,List.set_cons_succ,List.set_cons_zero,List.map_append]
    have hRex:R5++cT M=R2++exB (fY n):=by
     rw[hex,hR5,hR4,hR3];show _=R2++(eb ::(sx++(zx++cT M)));simp
    rw[hRex]at g4
    have g5:bf 6 (mOp eY (ao 6) (gm (dM (ao 8)) (mUn gi (ao 7)) (ao 7))) (nE n (some (.sh (.lst (W.map .int)))) (some (.ow ((R2++exB (fY n)).map .int))) (some (.sh (.int V2))) x2 (some (.sh (.int (-((bV n).length:Int))))) (some (.sh (.int (M:Int)))) (some (.sh (.bl (decide (n/43%3=1))))))=.nx (nE n (some (.sh (.lst (W.map .int)))) (some (.ow ((R2++exB (fY n)).map .int))) (some (.sh (.int V2))) x2 (some (.sh (.int (exV (fY n) - (bV n).length)))) (some (.sh (.int (M:Int)))) (some (.sh (.bl (decide (n/43%3=1)))))):=by
     rw[hexv];generalize (R2++exB (fY n)).map PV.int=RR
     by_cases h1:n/43%3=1
     . have e:-((bV n).length:Int) + -(M:Int)=-(M:Int) - (bV n).length:=by omega
       simp -implicitDefEqProofs [h1,e]
     . have e:-((bV n).length:Int)+(M:Int)=(M:Int) - (bV n).length:=by omega
       simp -implicitDefEqProofs [h1,e]
    have g0:bf 7 (mOp cw (mOp dA (ao 0) (mC (.int 37))) (mC (.int 30))) (nE n (some (.sh (.lst (W.map .int)))) (some (.ow (R2.map .int))) (some (.sh (.int V2))) x2 (some (.sh (.int (-((bV n).length:Int))))) none none)=.nx (nE n (some (.sh (.lst (W.map .int)))) (some (.ow (R2.map .int))) (some (.sh (.int V2))) x2 (some (.sh (.int (-((bV n).length:Int))))) (some (.sh (.int (M:Int)))) none):=by
     simp -implicitDefEqProofs [hM1]
    have g1b:bf 8 (mOp gEq (mOp cw (mOp dA (ao 0) (mC (.int 43))) (mC (.int 3))) (mC (.int 1))) (nE n (some (.sh (.lst (W.map .int)))) (some (.ow (R3.map .int))) (some (.sh (.int V2))) x2 (some (.sh (.int (-((bV n).length:Int))))) (some (.sh (.int (M:Int)))) none)=.nx (nE n (some (.sh (.lst (W.map .int)))) (some (.ow (R3.map .int))) (some (.sh (.int V2))) x2 (some (.sh (.int (-((bV n).length:Int))))) (some (.sh (.int (M:Int)))) (some (.sh (.bl (decide (n/43%3=1)))))):=by
     simp -implicitDefEqProofs
    have gt:az (mOp gEq (mOp cw (mOp dA (ao 0) (mC (.int 31))) (mC (.int 3))) (mC (.int 1))) (nE n (some (.sh (.lst (W.map .int)))) (some (.ow (R2.map .int))) (some (.sh (.int V2))) x2 (some (.sh (.int (-((bV n).length:Int))))) none none)=.ok true:=by
     simp -implicitDefEqProofs [h31]
    rw[A7,gt];simp only[lA,if_true,pd,g0,jD,g1,g1b,g2,g3,g4,g5]
  . refine⟨none,none,?_⟩
    have hex:fY n=none:=by unfold fY;rw[if_neg h31]
    rw[hex]
    have e:(0:Int) - ((bV n).length:Int)=-((bV n).length:Int):=by omega
    simp -implicitDefEqProofs [h31,exB,exV,e]
 obtain⟨y,z,c5⟩:=c5
 have hnb:R2++exB (fY n)=PG.nb (eE n):=by
  rw[hR2,hR1,hsg];show _=(if(decide (n%3=0))=true then[45]else[])++(cT (n/3%100000).toNat++(frB (bV n)++exB (fY n)));rw[<- hK];simp
 rw[hnb]at c5
 have hmw:(if n%3=0 then -V2 else V2)=mwV (eE n):=by
  rw[hV2e];show _=(if decide (n%3=0)=true then -cv (cT (n/3%100000).toNat++bV n)else cv (cT (n/3%100000).toNat++bV n));rw[<- hK];simp
 have c6:bc (dM (ao 1)) (bf 4 (mUn gi (ao 4))) aO (nE n (some (.sh (.lst (W.map .int)))) (some (.ow ((PG.nb (eE n)).map .int))) (some (.sh (.int V2))) x2 (some (.sh (.int (exV (fY n) - (bV n).length)))) y z)=.nx (nE n (some (.sh (.lst (W.map .int)))) (some (.ow ((PG.nb (eE n)).map .int))) (some (.sh (.int (mwV (eE n))))) x2 (some (.sh (.int (exV (fY n) - (bV n).length)))) y z):=by
  rw[<- hmw]
  by_cases h:n%3=0<;>simp -implicitDefEqProofs [h]
 have hpl':fg [.int (mwV (eE n)),.int (exV (fY n) - (bV n).length)]=.ok (.sh (pairOf 20 (mwV (eE n)) (exV (fY n) - (bV n).length))):=hpl
 have c7:fin (ku (nE n (some (.sh (.lst (W.map .int)))) (some (.ow ((PG.nb (eE n)).map .int))) (some (.sh (.int (mwV (eE n))))) x2 (some (.sh (.int (exV (fY n) - (bV n).length)))) y z))=.ok (.sh (.tup [.lst ((PG.nb (eE n)).map .int),pairOf 20 (mwV (eE n)) (exV (fY n) - (bV n).length)])):=by
  generalize PG.nb (eE n)=RR;simp -implicitDefEqProofs [ku,kL,hpl']
 have c0:bf 1 (mOp gEq (mOp cw (ao 0) (mC (.int 3))) (mC (.int 0))) [some (.sh (.int n)),none,none,none,none,none,none,none,none]=.nx (nE n none none none none none none none):=by
  simp -implicitDefEqProofs
 have c3b:bf 4 (mC (.int 0)) (nE n (some (.ow (W.map .int))) (some (.ow (R1.map .int))) none none none none none)=.nx (nE n (some (.ow (W.map .int))) (some (.ow (R1.map .int))) (some (.sh (.int 0))) none none none none):=by simp -implicitDefEqProofs
 have c3c:gu 2 (lX 5 (ao 2) fE) (nE n (some (.ow (W.map .int))) (some (.ow (R1.map .int))) (some (.sh (.int 0))) none none none none)=.nx (nE n (some (.sh (.lst (W.map .int)))) (some (.ow (R1.map .int))) (some (.sh (.int V1))) x1 none none none):=by
  simp -implicitDefEqProofs [kL,w1']
 have c3d:bf 6 (mC (.int 0)) (nE n (some (.sh (.lst (W.map .int)))) (some (.ow (R1.map .int))) (some (.sh (.int V1))) x1 none none none)=.nx (nE n (some (.sh (.lst (W.map .int)))) (some (.ow (R1.map .int))) (some (.sh (.int V1))) x1 (some (.sh (.int 0))) none none):=by simp -implicitDefEqProofs
 simp -implicitDefEqProofs only[fV,sf,Ct,sP,List.map_cons,List.map_nil,List.length_cons,List.length_nil,List.replicate,List.cons_append,List.nil_append,pd,c0,jD,oX,c1,oQ,c2,oU,c3,pU,c3b,pS,c3c,pB,c3d,pG,c4,pM,c5,pO,c6]
 exact c7
noncomputable def wc(j:Int):Int:=if j=0 then 32 else if j=1 then 9 else if j=2 then 10 else 13
noncomputable def lwh(n:Int):List Int:=if 0<n%4 then[]else(List.range (n/64%3+1).toNat).map fun k:Nat=>wc (n/4/(1+3*(k:Int))%4)
theorem KZ(j:Int):wht (wc j)=true:=by
 unfold wc;split
 . rfl
 . split
   . rfl
   . split<;>rfl
theorem lO(n:Int):∀ b∈lwh n,wht b=true:=by
 unfold lwh;split
 . simp
 . intro b hb;obtain⟨k,_,rfl⟩:=List.mem_map.mp hb;exact KZ _
theorem gq(n:Int):(lwh n).length<=3:=by
 unfold lwh;split
 . simp
 . simp;omega
theorem CF(n:Int)(j:Nat)(hj:j<3):jT [some (.sh (.int n)),some (.sh (.int j))]=.ok (.sh (.int (wc (n/4/(1+3*(j:Int))%4)))):=by
 have h:¬ (1+3*(j:Int))=0:=by omega
 obtain⟨r,hr⟩:∃ r,r=n/4/(1+3*(j:Int))%4:=⟨_,rfl⟩
 have h4:r=0 \/ r=1 \/ r=2 \/ r=3:=by omega
 rw[<- hr]
 have h5:0<(1+3*(j:Int)):=by omega
 have h6:(1+3*(j:Int))<1073741824:=by omega
 simp -implicitDefEqProofs [jT,h,h5,h6,<- hr]
 rcases h4 with h|h|h|h<;>rw[h]<;>rfl
theorem dW(n:Int):cy [.int n]=.ok (.fr ((lwh n).map .int)):=by
 have el:∀ m:Nat,m<=3->dh jT [some (.sh (.int n))] (dE m)=.ok ((List.range m).map fun j:Nat=>.int (wc (n/4/(1+3*(j:Int))%4))):=fun m hm=>by
  unfold dE
  refine jK _ fun j hj=>?_
  exact CF n j (by have:=List.mem_range.mp hj;omega)
 have h1:-4611686018427387904<=n/64%3+1 /\ n/64%3+1<4611686018427387904:=by omega
 by_cases h:0<n%4
 . simp[cy,oY,h,lwh]
 . have hp:(lwh n).map PV.int = (List.range (n / 64 % 3 + 1).toNat).map fun j:Nat=>.int (wc (n / 4 / (1 + 3 * (j:Int)) % 4)):=by
    unfold lwh;rw[if_neg h,List.map_map];rfl
   rw[hp];have h2:=el (n/64%3+1).toNat (by omega);simp -implicitDefEqProofs [cy,oY,h,dk,h2,h1];unfold lim;omega
noncomputable def lnm(ns:List Int)(n:Int):List Int:=if n%2=0 then[97+n/2%3]else PG.points ns (11+n/2%37)
theorem vX(ns:List Int)(n:Int):(lnm ns n).all mM=true /\ (lnm ns n).length<14:=by
 unfold lnm;split
 . refine⟨?_,by simp⟩
   have h:n/2%3=0 \/ n/2%3=1 \/ n/2%3=2:=by omega
   rcases h with h|h|h<;>rw[h]<;>decide
 . exact⟨p6 _ _,q9 _ _⟩
theorem oq(ns:List Int)(n:Int):gz [.lst (ns.map .int),.int n]=.ok (.fr ((lnm ns n).map .int)):=by
 unfold lnm
 by_cases h:n%2=0
 . simp[gz,qX,h]
 . simp[gz,qX,h,gT]
noncomputable def j9(ns:List Int)(n:Int):Lf:=
 if n/5%6=0 then .wd .null else if n/5%6=1 then .wd .tru else if n/5%6=2 then .wd .fal
 else if n/5%6=3 then .tx (lts (PG.points ns (7+n%41)) (n/30) 0)else .nm (eE (n/7))
noncomputable def lfK:Lf->String
 |.wd .null=>"null" | .wd .tru=>"true" | .wd .fal=>"false" | .tx _=>"text" | .nm _=>"number"
theorem GL(ns:List Int)(n:Int):Lok (j9 ns n):=by
 unfold j9;split
 . trivial
 . split
   . trivial
   . split
     . trivial
     . split
       . exact E6 _ _ _ (p6 _ _)
       . exact Ab _
theorem yI(k:Nat)(n p:Int):∃ a b,pairOf k n p=.tup [.int a,.int b]:=by
 unfold pairOf;split
 . exact⟨_,_,rfl⟩
 . exact⟨_,_,rfl⟩
noncomputable def eB(row:List Int):OV:=.ol (row.map fun b=>.sh (.int b))
noncomputable def kS(k:Bool):PV:=.str (if k then "row" else "fields")
noncomputable def frO(k:Bool)(items:List PV)(i:Nat)(nm:List Int):OV:=.ol [.sh (kS k),.ol (items.map .sh),.sh (.int i),.sh (.tup (nm.map .int))]
noncomputable def ndO(s:PV)(a b c:Int):OV:=.ol [.sh s,.sh (.int a),.sh (.int b),.sh (.int c)]
noncomputable def brk(k:Bool):Int:=if k then 93 else 125
theorem zk(xs:List PV):v3 (xs.map .sh)=some xs:=by
 induction xs with
 |nil=>rfl
 |cons x xs ih=>simp[v3,ih]
noncomputable abbrev cE(r:OV)(ns fs:List OV)(a b:Option Sl):ag:=[some (.tr true r),some (.tr true (.ol ns)),some (.tr true (.ol fs)),a,b]
theorem xB(row:List Int)(nodes fs:List OV)(k:Bool)(items:List PV)(i:Nat)(nm:List Int)(s:PV)(a b c:Int)(hi:nodes[i]?=some (ndO s a b c))(hr:row.length<100000)(hn:nodes.length<100000):
  pk (cE (eB row) nodes (fs++[frO k items i nm]) none none) =
   jY (cE (eB (row++[brk k])) (nodes.set i (ndO s a (row.length+1) nodes.length)) fs (some (.tr false (frO k items i nm))) none):=by
 have hil:i<nodes.length:=by
  rcases Nat.lt_or_ge i nodes.length with z|z
  . exact z
  . rw[List.getElem?_eq_none z]at hi;cases hi
 have e0:hJ 3 (qO 2 aI) (cE (eB row) nodes (fs++[frO k items i nm]) none none) =
   .nx (cE (eB row) nodes fs (some (.tr false (frO k items i nm))) none):=by
  unfold hJ;rw[Hd (ts:=fs) (x:=frO k items i nm) rfl];simp[frO,slO,nio]
 have p3:∀(x y z u:Option Sl) (ix:ag->OE) (j:Nat) (v:OV),ix [x,y,z,some (.tr false (frO k items i nm)),u]=.ok (.sh (.int j))->j<4->[OV.sh (kS k),.ol (items.map .sh),.sh (.int i),.sh (.tup (nm.map .int))][j]?=some v->subAt 3 (pIx 3 aI ix) [x,y,z,some (.tr false (frO k items i nm)),u]=some v:=fun x y z u ix j v h1 h2 h3=>
  subAt_one (bJ rfl rfl) (kM (bJ rfl rfl) h1 rfl (by simp[ixP];omega)) h3
 unfold pk;rw[aY e0];unfold qD
 have hd:∀(x y z u:Option Sl),mD (gm (az (mOp gEq (cF 3 (pIx 3 aI (mC (.int 0)))) (mC (.str "row")))) (mC (.int 93)) (mC (.int 125))) [x,y,z,some (.tr false (frO k items i nm)),u]=.ok (.sh (.int (brk k))):=fun x y z u=>by
  have:=nL (p3 x y z u (mC (.int 0)) 0 (.sh (kS k)) rfl (by omega) rfl)
  cases k<;>simp -implicitDefEqProofs [mD,gm,az,this,kS,brk,gEq,eqS,aG]
 have e1:b0 0 aI (mD (gm (az (mOp gEq (cF 3 (pIx 3 aI (mC (.int 0)))) (mC (.str "row")))) (mC (.int 93)) (mC (.int 125)))) (cE (eB row) nodes fs (some (.tr false (frO k items i nm))) none) =
   .nx (cE (eB (row++[brk k])) nodes fs (some (.tr false (frO k items i nm))) none):=by
  rw[u4 (ts:=row.map fun b=>.sh (.int b)) rfl (hd _ _ _ _) (by rw[List.length_map];exact dj (n:=row.length+1) (by omega))];simp[eB]
 rw[aY e1]
 have px:∀(x z u:Option Sl) (ns:List OV),ns.length=nodes.length->pIx 1 aI (cF 3 (pIx 3 aI (mC (.int 2)))) [x,some (.tr true (.ol ns)),z,some (.tr false (frO k items i nm)),u]=some [.ix i]:=fun x z u ns hns=>
  kM (bJ rfl rfl) (nL (p3 x _ z u (mC (.int 2)) 2 (.sh (.int i)) rfl (by omega) rfl)) rfl (by simp[ixP];omega)
 unfold qB
 have e2:pC 1 (pIx 1 aI (cF 3 (pIx 3 aI (mC (.int 2))))) (mC (.int 2)) (mD (gb 0 aI)) (cE (eB (row++[brk k])) nodes fs (some (.tr false (frO k items i nm))) none) =
   .nx (cE (eB (row++[brk k])) (nodes.set i (ndO s a (row.length+1) c)) fs (some (.tr false (frO k items i nm))) none):=by
  have hl:=ve (iW (ρ:=(cE (eB (row++[brk k])) nodes fs (some (.tr false (frO k items i nm))) none)) (i:=0) (bJ rfl rfl));rw[uO (j2:=2) rfl (px _ _ _ nodes rfl) hi rfl rfl rfl (x:=.sh (.int (row.length+1))) (by unfold mD;rw[hl];simp)];rfl
 rw[aY e2];unfold qR
 have e3:pC 1 (pIx 1 aI (cF 3 (pIx 3 aI (mC (.int 2))))) (mC (.int 3)) (mD (gb 1 aI)) (cE (eB (row++[brk k])) (nodes.set i (ndO s a (row.length+1) c)) fs (some (.tr false (frO k items i nm))) none) =
   .nx (cE (eB (row++[brk k])) (nodes.set i (ndO s a (row.length+1) nodes.length)) fs (some (.tr false (frO k items i nm))) none):=by
  have hl:=ve (iW (ρ:=(cE (eB (row++[brk k])) (nodes.set i (ndO s a (row.length+1) c)) fs (some (.tr false (frO k items i nm))) none)) (i:=1) (bJ rfl rfl))
  have hi2:(nodes.set i (ndO s a (row.length+1) c))[i]?=some (ndO s a (row.length+1) c):=by simp[hil]
  rw[uO (j2:=3) rfl (px _ _ _ _ (by simp)) hi2 rfl rfl rfl (x:=.sh (.int nodes.length)) (by unfold mD;rw[hl];simp)];simp[ndO]
 rw[aY e3]
theorem wV(x y z:Option Sl)(k:Bool)(items:List PV)(i:Nat)(nm:List Int)(hit:items.length<100000):
  bf 4 (eU (ak (cF 3 (pIx 3 aI (mC (.int 0)))) (ak (mUn mJ (cF 3 (pIx 3 aI (mC (.int 1))))) aJ))) [x,y,z,some (.tr false (frO k items i nm)),none] =
   .nx [x,y,z,some (.tr false (frO k items i nm)),some (.sh (.tup [kS k,.tup items]))]:=by
 have p3:∀(ix:ag->OE) (j:Nat) (v:OV),ix [x,y,z,some (.tr false (frO k items i nm)),none]=.ok (.sh (.int j))->j<4->[OV.sh (kS k),.ol (items.map .sh),.sh (.int i),.sh (.tup (nm.map .int))][j]?=some v->subAt 3 (pIx 3 aI ix) [x,y,z,some (.tr false (frO k items i nm)),none]=some v:=fun ix j v h1 h2 h3=>
  subAt_one (bJ rfl rfl) (kM (bJ rfl rfl) h1 rfl (by simp[ixP];omega)) h3
 have h0:=nL (p3 (mC (.int 0)) 0 (.sh (kS k)) rfl (by omega) rfl)
 have h1:cF 3 (pIx 3 aI (mC (.int 1))) [x,y,z,some (.tr false (frO k items i nm)),none]=.ok (.al items):=by
  unfold cF;rw[p3 (mC (.int 1)) 1 (.ol (items.map .sh)) rfl (by omega) rfl];simp only[zk]
 simp -implicitDefEqProofs [bf,h0,h1,mJ]
theorem Ay(row:List Int)(nodes:List OV)(k:Bool)(items:List PV)(i:Nat)(nm:List Int)(s:PV)(a b c:Int)(hi:nodes[i]?=some (ndO s a b c))(hr:row.length<100000)(hn:nodes.length<100000)(hit:items.length<100000):
  cS [.tr true (eB row),.tr true (.ol nodes),.tr true (.ol [frO k items i nm])] =
   .ok (.tup [kS k,.tup items]) [some (eB (row++[brk k])),some (.ol (nodes.set i (ndO s a (row.length+1) nodes.length))),some (.ol [])]:=by
 unfold cS fnI;have e:=xB row nodes [] k items i nm s a b c hi hr hn;rw[List.nil_append]at e
 have e0:kx 5 [.tr true (eB row),.tr true (.ol nodes),.tr true (.ol [frO k items i nm])]=(cE (eB row) nodes [frO k items i nm] none none):=rfl
 rw[if_pos (show List.length [Sl.tr true (eB row),Sl.tr true (.ol nodes),Sl.tr true (.ol [frO k items i nm])]=3 from rfl),e0,e];unfold jY;rw[aY (wV _ _ _ k items i nm hit)];unfold mO;have h:=vj (iW (ρ:=(cE (eB (row++[brk k])) (nodes.set i (ndO s a (row.length+1) nodes.length)) [] (some (.tr false (frO k items i nm))) (some (.sh (.tup [kS k,.tup items]))))) (i:=2) (bJ rfl rfl));simp -implicitDefEqProofs [bc,h,jV,g9,tM,pV]
theorem Ax(row:List Int)(nodes gs:List OV)(k k':Bool)(items items':List PV)(i i':Nat)(nm nm':List Int)(s s2:PV)(a b c a2 b2 c2:Int)(hi:nodes[i]?=some (ndO s a b c))(hr:row.length<100000)(hn:nodes.length<100000)(hit:items.length<100000)(hit':items'.length<100000)
  (h2:k'=false->1<=i /\ nodes[i - 1]?=some (ndO s2 a2 b2 c2)):
  cS [.tr true (eB row),.tr true (.ol nodes),.tr true (.ol (gs++[frO k' items' i' nm']++[frO k items i nm]))] =
   .ok (.tup [kS k,.tup items]) [some (eB (row++[brk k])),some (.ol (if k' then nodes.set i (ndO s a (row.length+1) nodes.length)else(nodes.set i (ndO s a (row.length+1) nodes.length)).set (i - 1) (ndO s2 a2 b2 nodes.length))),
    some (.ol (gs++[frO k' (items'++[if k' then .tup [kS k,.tup items]else .tup [.tup (nm.map .int),.tup [kS k,.tup items]]]) i' nm']))]:=by
 have hil:i<nodes.length:=by
  rcases Nat.lt_or_ge i nodes.length with z|z
  . exact z
  . rw[List.getElem?_eq_none z]at hi;cases hi
 unfold cS fnI;have e:=xB row nodes (gs++[frO k' items' i' nm']) k items i nm s a b c hi hr hn
 have e0:kx 5 [.tr true (eB row),.tr true (.ol nodes),.tr true (.ol (gs++[frO k' items' i' nm']++[frO k items i nm]))]=(cE (eB row) nodes (gs++[frO k' items' i' nm']++[frO k items i nm]) none none):=rfl
 rw[if_pos (show List.length [Sl.tr true (eB row),Sl.tr true (.ol nodes),Sl.tr true (.ol (gs++[frO k' items' i' nm']++[frO k items i nm]))]=3 from rfl),e0,e];unfold jY;rw[aY (wV _ _ _ k items i nm hit)];unfold mO;generalize hN:nodes.set i (ndO s a (row.length+1) nodes.length)=N
 have hNl:N.length=nodes.length:=by rw[<- hN];simp
 generalize hv:PV.tup [kS k,.tup items]=val;generalize hR:eB (row++[brk k])=R;have h:=vj (iW (ρ:=(cE R N (gs++[frO k' items' i' nm']) (some (.tr false (frO k items i nm))) (some (.sh val)))) (i:=2) (bJ rfl rfl))
 have hg:∀ u:OV,(gs++[u])[gs.length]?=some u:=fun u=>by simp
 have px:∀(x y w v:Option Sl) (u:OV),pIx 2 aI (mUn gi (mC (.int 1))) [x,y,some (.tr true (.ol (gs++[u]))),w,v]=some [.ix gs.length]:=fun x y w v u=>
  kM (bJ rfl rfl) (r:=.sh (.int (-1))) (by simp) rfl (by simp[ixP];omega)
 have p0:∀(x y w v:Option Sl) (its:List PV),cF 2 (pIx 2 (pIx 2 aI (mUn gi (mC (.int 1)))) (mC (.int 0))) [x,y,some (.tr true (.ol (gs++[frO k' its i' nm']))),w,v]=.ok (.sh (kS k')):=fun x y w v its=>
  nL (tN (bJ rfl rfl) (yp (bJ rfl rfl) (px _ _ _ _ _) (hg _) (k:=0) (j2:=0) rfl rfl rfl) (hg _) rfl)
 have e1:b0 2 (pIx 2 (pIx 2 aI (mUn gi (mC (.int 1)))) (mC (.int 1))) (mD (gm (az (mOp gEq (cF 2 (pIx 2 (pIx 2 aI (mUn gi (mC (.int 1)))) (mC (.int 0)))) (mC (.str "row")))) (ao 4) (eU (ak (cF 3 (pIx 3 aI (mC (.int 3)))) (ak (ao 4) aJ)))))
   (cE R N (gs++[frO k' items' i' nm']) (some (.tr false (frO k items i nm))) (some (.sh val))) =
   .nx (cE R N (gs++[frO k' (items'++[if k' then val else .tup [.tup (nm.map .int),val]]) i' nm']) (some (.tr false (frO k items i nm))) (some (.sh val))):=by
  have p3:cF 3 (pIx 3 aI (mC (.int 3))) (cE R N (gs++[frO k' items' i' nm']) (some (.tr false (frO k items i nm))) (some (.sh val)))=.ok (.sh (.tup (nm.map .int))):=
   nL (subAt_one (bJ rfl rfl) (kM (bJ rfl rfl) (k:=3) (j:=3) rfl rfl rfl) rfl)
  have hd:mD (gm (az (mOp gEq (cF 2 (pIx 2 (pIx 2 aI (mUn gi (mC (.int 1)))) (mC (.int 0)))) (mC (.str "row")))) (ao 4) (eU (ak (cF 3 (pIx 3 aI (mC (.int 3)))) (ak (ao 4) aJ))))
    (cE R N (gs++[frO k' items' i' nm']) (some (.tr false (frO k items i nm))) (some (.sh val)))=.ok (.sh (if k' then val else .tup [.tup (nm.map .int),val])):=by
   have q0:=p0 (some (.tr true R)) (some (.tr true (.ol N))) (some (.tr false (frO k items i nm))) (some (.sh val)) items'
   cases k'<;>simp -implicitDefEqProofs [mD,gm,az,q0,p3,kS,gEq,eqS,aG]
  rw[Cd (j:=gs.length) (j2:=1) rfl (yp (bJ rfl rfl) (px _ _ _ _ _) (hg _) (k:=1) (j2:=1) rfl rfl rfl) (hg _) (xs:=items'.map .sh) rfl hd (by rw[List.length_map];exact dj (n:=items'.length+1) (by omega))];simp[frO]
 cases k' with
 | true=>
   have q0:=p0 (some (.tr true R)) (some (.tr true (.ol N))) (some (.tr false (frO k items i nm))) (some (.sh val)) (items'++[val]);rw[if_pos rfl]at e1
   have hb:(!(gs++[frO true items' i' nm']).isEmpty)=true:=by simp
   rw[hb]at h;refine Eq.trans (congrArg _ (aY (ρ':=(cE R N (gs++[frO true (items'++[val]) i' nm']) (some (.tr false (frO k items i nm))) (some (.sh val)))) ?_)) ?_
   . unfold bc;rw[h];refine Eq.trans (aY e1) ?_;simp -implicitDefEqProofs [bc,az,q0,kS,gEq,eqS,aG]
   . simp -implicitDefEqProofs [jV,g9,tM,pV]
 | false=>
   obtain⟨h1,h3⟩:=h2 rfl;have q0:=p0 (some (.tr true R)) (some (.tr true (.ol N))) (some (.tr false (frO k items i nm))) (some (.sh val)) (items'++[.tup [.tup (nm.map .int),val]]);rw[if_neg (by simp)]at e1
   have hb:(!(gs++[frO false items' i' nm']).isEmpty)=true:=by simp
   rw[hb]at h
   have hN1:N[i - 1]?=some (ndO s2 a2 b2 c2):=by rw[<- hN,List.getElem?_set_ne (by omega)];exact h3
   have hp2:mOp wz (cF 3 (pIx 3 aI (mC (.int 2)))) (mC (.int 1)) (cE R N (gs++[frO false (items'++[.tup [.tup (nm.map .int),val]]) i' nm']) (some (.tr false (frO k items i nm))) (some (.sh val)))=.ok (.sh (.int (i - 1:Int))):=by
    have q2:=nL (ρ:=(cE R N (gs++[frO false (items'++[.tup [.tup (nm.map .int),val]]) i' nm']) (some (.tr false (frO k items i nm))) (some (.sh val)))) (i:=3) (mp:=pIx 3 aI (mC (.int 2))) (x:=.int i) (subAt_one (bJ rfl rfl) (kM (bJ rfl rfl) (k:=2) (j:=2) rfl rfl rfl) rfl);simp[q2]
   have hl:=ve (iW (ρ:=(cE R N (gs++[frO false (items'++[.tup [.tup (nm.map .int),val]]) i' nm']) (some (.tr false (frO k items i nm))) (some (.sh val)))) (i:=1) (bJ rfl rfl))
   have e3:=uO (ρ:=(cE R N (gs++[frO false (items'++[.tup [.tup (nm.map .int),val]]) i' nm']) (some (.tr false (frO k items i nm))) (some (.sh val)))) (i:=1) (io:=true) (ts:=N) (j:=i - 1) (j2:=3) (mk:=mC (.int 3)) (md:=mD (gb 1 aI)) (x:=.sh (.int N.length)) rfl
    (kM (i:=1) (ts:=N) (bJ (s:=.tr true (.ol N)) rfl rfl) hp2 rfl (by rw[show((i:Int) - 1)=((i - 1:Nat):Int) by omega];unfold ixP;rw[if_pos (by omega),if_pos (by omega)];simp)) hN1 rfl rfl rfl (by unfold mD;rw[hl])
   refine Eq.trans (congrArg _ (aY (ρ':=(cE R (N.set (i - 1) (ndO s2 a2 b2 N.length)) (gs++[frO false (items'++[.tup [.tup (nm.map .int),val]]) i' nm']) (some (.tr false (frO k items i nm))) (some (.sh val)))) ?_)) ?_
   . unfold bc;rw[h];refine Eq.trans (aY e1) ?_;simp -implicitDefEqProofs [bc,az,q0,kS,gEq,eqS,aG];exact e3
   . rw[hNl];simp -implicitDefEqProofs [jV,g9,tM,pV]
structure Fr where
 k:Bool
 items:List PV
 i:Nat
 nm:List Int
structure Nd where
 s:String
 a:Int
 b:Int
 c:Int
structure Bd where
 row:List Int
 nodes:List Nd
 frs:List Fr
 val:PV
noncomputable def Fr.o(f:Fr):OV:=frO f.k f.items f.i f.nm
noncomputable def Nd.o(d:Nd):OV:=ndO (.str d.s) d.a d.b d.c
noncomputable def kh(fs:List Fr):OV:=.ol (fs.reverse.map Fr.o)
noncomputable def lz(ns:List Nd):OV:=.ol (ns.map Nd.o)
theorem lh(f:Fr)(fs:List Fr):kh (f ::fs)=.ol (fs.reverse.map Fr.o++[f.o]):=by simp[kh]
noncomputable def full:List Fr->Bool
 |f ::_=>!f.items.isEmpty
 |[]=>false
noncomputable def inF:List Fr->Bool
 |f ::_=>!f.k
 |[]=>false
theorem qt{ρ:ag}{i:Nat}{io:Bool}{fs:List Fr}(h:ρ[i]?=some (some (.tr io (kh fs)))):dv i aI ρ=.ok (!fs.isEmpty):=by
 rw[vj (iW (bJ h rfl))]
 cases fs<;>simp
theorem Gv{ρ:ag}{i:Nat}{io:Bool}{f:Fr}{fs:List Fr}(h:ρ[i]?=some (some (.tr io (kh (f ::fs))))):pIx i aI (mUn gi (mC (.int 1))) ρ=some [.ix fs.length]:=by
 rw[lh]at h;exact kM (bJ h rfl) (r:=.sh (.int (-1))) (by simp) rfl (by simp[ixP];omega)
theorem uQ(f:Fr)(fs:List Fr):(fs.reverse.map Fr.o++[f.o])[fs.length]?=some f.o:=by simp
theorem vv{ρ:ag}{i:Nat}{io:Bool}{f:Fr}{fs:List Fr}(k:Int)(j:Nat)(hk:k=j)(hj:j<4)(h:ρ[i]?=some (some (.tr io (kh (f ::fs))))):pIx i (pIx i aI (mUn gi (mC (.int 1)))) (mC (.int k)) ρ=some [.ix fs.length,.ix j]:=by
 have h1:=Gv h;rw[lh]at h;subst hk;refine yp (bJ h rfl) h1 (uQ f fs) (k:=j) rfl rfl ?_;simp[ixP];omega
theorem DQ{ρ:ag}{i:Nat}{io:Bool}{fs:List Fr}(h:ρ[i]?=some (some (.tr io (kh fs)))):
  cZ (dv i aI) (az (mOp gEq (cF i (pIx i (pIx i aI (mUn gi (mC (.int 1)))) (mC (.int 0)))) (mC (.str "fields")))) ρ=.ok (inF fs):=by
 cases fs with
 |nil=>simp[cZ,qt h,inF]
 | cons f fs=>
   have hi:=vv 0 0 rfl (by omega) h
   have h':=h
   rw[lh]at h';have hp:=nL (tN (bJ h' rfl) hi (uQ f fs) rfl)
   cases hk:f.k<;>simp -implicitDefEqProofs [cZ,qt h,inF,az,hp,hk,kS,gEq,eqS,aG]
theorem JV{ρ:ag}{i:Nat}{io:Bool}{fs:List Fr}(h:ρ[i]?=some (some (.tr io (kh fs)))):
  cZ (dv i aI) (dM (cF i (pIx i (pIx i aI (mUn gi (mC (.int 1)))) (mC (.int 1))))) ρ=.ok (full fs):=by
 cases fs with
 |nil=>simp[cZ,qt h,full]
 | cons f fs=>
   have hi:=vv 1 1 rfl (by omega) h
   have h':=h
   rw[lh]at h'
   have hp:cF i (pIx i (pIx i aI (mUn gi (mC (.int 1)))) (mC (.int 1))) ρ=.ok (.al f.items):=by
    unfold cF;rw[tN (bJ h' rfl) hi (uQ f fs) (u:=.ol (f.items.map .sh)) rfl];simp only[zk]
   simp -implicitDefEqProofs [cZ,qt h,full,dM,hp,tT]
noncomputable def jI(fs:List Fr)(row:List Int)(n:Int):List Int:=row++lwh (n/3)++(if full fs then 44 ::lwh (n/11)else[])
noncomputable def lZ(ns:List Int)(n:Int):List Sg:=lts (lnm ns (n/13)) (n/17) 0
noncomputable def uR(ns:List Int)(n:Int):List Int:=lwh (n/19)++58 ::lwh (n/23)
noncomputable def dr(ns:List Int)(B:Bd)(n:Int):List Int:=if inF B.frs then jI B.frs B.row n++PG.txt (lZ ns n)++uR ns n else jI B.frs B.row n
noncomputable def bZ(ns:List Int)(B:Bd)(n:Int):List Nd:=if inF B.frs then B.nodes++[⟨"name",(jI B.frs B.row n).length,(jI B.frs B.row n++PG.txt (lZ ns n)).length,0⟩]else B.nodes
noncomputable def fB(ns:List Int)(B:Bd)(n:Int):List Int:=if inF B.frs then lnm ns (n/13)else[]
theorem wx(fs:List Fr)(row:List Int)(n:Int):(jI fs row n).length<=row.length+7:=by
 unfold jI;have h1:=gq (n/3);have h2:=gq (n/11)
 cases full fs<;>simp<;>omega
theorem Cp(l:List Int)(n:Int)(h:l.all mM=true)(h2:l.length<14):(PG.txt (lts l n 0)).length<=158:=by
 rcases Cj l n 0 with z|z
 . simp[PG.txt];omega
 . rw[h]at z;cases z
theorem xo(ns:List Int)(n:Int):(PG.txt (lZ ns n)).length<=158:=Cp _ _ (vX ns _).1 (vX ns _).2
theorem qc(ns:List Int)(B:Bd)(n:Int):(dr ns B n).length<=B.row.length+180:=by
 unfold dr uR;have h1:=wx B.frs B.row n;have h2:=xo ns n;have h3:=gq (n/19);have h4:=gq (n/23)
 cases inF B.frs<;>simp<;>omega
theorem lN{ρ:ag}{i:Nat}{io:Bool}{row ys:List Int}{me:ag->OE}(h:ρ[i]?=some (some (.tr io (eB row))))(he:me ρ=.ok (.fr (ys.map .int)) \/ me ρ=.ok (.sh (.lst (ys.map .int))))(hl:row.length+ys.length<=1000000):dH i aI me ρ=.nx (ρ.set i (some (.tr io (eB (row++ys))))):=by
 rw[EI (ts:=row.map fun b=>.sh (.int b)) h he (by rw[List.length_map,List.length_map];exact dj hl)];simp[eB,Function.comp_def]
theorem yz{ρ:ag}{i:Nat}{io:Bool}{row:List Int}{b:Int}{md:ag->OD}(h:ρ[i]?=some (some (.tr io (eB row))))(hd:md ρ=.ok (.sh (.int b)))(hl:row.length<1000000):b0 i aI md ρ=.nx (ρ.set i (some (.tr io (eB (row++[b]))))):=by
 rw[u4 (ts:=row.map fun b=>.sh (.int b)) h hd (by rw[List.length_map];exact dj (n:=row.length+1) (by omega))];simp[eB]
theorem yf{ρ:ag}{i:Nat}{io:Bool}{nds:List Nd}{d:Nd}{md:ag->OD}(h:ρ[i]?=some (some (.tr io (lz nds))))(hd:md ρ=.ok d.o)(hl:nds.length<1000000):b0 i aI md ρ=.nx (ρ.set i (some (.tr io (lz (nds++[d]))))):=by
 rw[u4 (ts:=nds.map Nd.o) h hd (by rw[List.length_map];exact dj (n:=nds.length+1) (by omega))];simp[lz]
theorem uW{ρ:ag}{i:Nat}{io:Bool}{row:List Int}(h:ρ[i]?=some (some (.tr io (eB row)))):gb i aI ρ=.ok (.sh (.int row.length)):=by
 rw[ve (iW (bJ h rfl)),List.length_map]
theorem xO{ρ:ag}{i:Nat}{io:Bool}{nds:List Nd}(h:ρ[i]?=some (some (.tr io (lz nds)))):gb i aI ρ=.ok (.sh (.int nds.length)):=by
 rw[ve (iW (bJ h rfl)),List.length_map]
noncomputable abbrev gE(ns row:List Int)(ds:List Nd)(fs:List Fr)(n:Int)(a b c:Option Sl):ag:=[some (.sh (.lst (ns.map .int))),some (.tr true (eB row)),some (.tr true (lz ds)),some (.tr true (kh fs)),some (.sh (.int n)),a,b,c]
theorem HW(ns:List Int)(B:Bd)(n:Int)(hr:B.row.length<100000)(hn:B.nodes.length<100000):
  fH [.sh (.lst (ns.map .int)),.tr true (eB B.row),.tr true (lz B.nodes),.tr true (kh B.frs),.sh (.int n)] =
   .ok (.tup ((fB ns B n).map .int)) [none,some (eB (dr ns B n)),some (lz (bZ ns B n)),some (kh B.frs),none]:=by
 have hw:∀(ρ:ag) (d:Int),ρ[4]?=some (some (.sh (.int n)))->0<d->d<1000->br cy (ak (mOp dA (ao 4) (mC (.int d))) aJ) ρ=.ok (.fr ((lwh (n/d)).map .int)):=fun ρ d h h1 h2=>by
  have h3:¬ d=0:=by omega
  have h4:d<1073741824:=by omega
  simp[h,h1,h3,h4,dW]
 have hbl:=wx B.frs B.row n
 have e0:lQ (gE ns B.row B.nodes B.frs n none none none) =
   mL (gE ns (jI B.frs B.row n) B.nodes B.frs n (some (.sh (.tup []))) none none):=by
  unfold lQ;rw[aY (lN rfl (.inl (hw _ 3 rfl (by omega) (by omega))) (by have:=gq (n/3);omega))];unfold qS;rw[aY (ρ':=(gE ns (B.row++lwh (n/3)) B.nodes B.frs n (some (.sh (.tup []))) none none)) (by simp[bf])];unfold qI;refine aY ?_;unfold bc;rw[JV (fs:=B.frs) rfl];have h3:=gq (n/3);have h11:=gq (n/11)
  cases hf:full B.frs with
  |false=>simp[jI,hf,aO]
  | true=>
    refine Eq.trans (aY (yz (row:=B.row++lwh (n/3)) rfl rfl (by simp;omega))) ?_;refine Eq.trans (lN rfl (.inl (hw _ 11 rfl (by omega) (by omega))) (by simp;omega)) ?_;simp[jI,hf]
 unfold fH fnI;rw[if_pos (show List.length [Sl.sh (.lst (ns.map .int)),.tr true (eB B.row),.tr true (lz B.nodes),.tr true (kh B.frs),.sh (.int n)]=5 from rfl)];show tM 5 (lQ _)=_;rw[show kx 8 [.sh (.lst (ns.map .int)),.tr true (eB B.row),.tr true (lz B.nodes),.tr true (kh B.frs),.sh (.int n)]=(gE ns B.row B.nodes B.frs n none none none) from rfl,e0];unfold mL
 cases hf:inF B.frs with
 | false=>
   rw[aY (ρ':=(gE ns (jI B.frs B.row n) B.nodes B.frs n (some (.sh (.tup []))) none none)) (by
    unfold bc;rw[DQ (fs:=B.frs) rfl,hf]
    rfl)]
   simp[fB,dr,bZ,hf,mT,g9,tM,pV]
 | true=>
   generalize hrow:jI B.frs B.row n=row;rw[hrow]at hbl;have ht:=xo ns n;have h19:=gq (n/19);have h23:=gq (n/23);have hnm:=oq ns (n/13);have htx:=jA (lnm ns (n/13)) (n/17) (vX ns _).1 (by have:=(vX ns (n/13)).2;omega)
   change fR _=.ok (.fr ((PG.txt (lZ ns n)).map .int))at htx
   rw[aY (ρ':=(gE ns (dr ns B n) (bZ ns B n) B.frs n (some (.sh (.tup ((fB ns B n).map .int)))) (some (.sh (.lst ((lnm ns (n/13)).map .int)))) (some (.sh (.int row.length))))) (by
    unfold bc;rw[DQ (fs:=B.frs) rfl,hf];show aH _ _ _=_;rw[aY (ρ':=(gE ns row B.nodes B.frs n (some (.sh (.tup []))) (some (.ow ((lnm ns (n/13)).map .int))) none)) (by simp[bf,hnm])];rw[aY (ρ':=(gE ns row B.nodes B.frs n (some (.sh (.tup ((fB ns B n).map .int)))) (some (.ow ((lnm ns (n/13)).map .int))) none)) (by simp[bf,mJ,fB,hf])];rw[aY (ρ':=(gE ns row B.nodes B.frs n (some (.sh (.tup ((fB ns B n).map .int)))) (some (.ow ((lnm ns (n/13)).map .int))) (some (.sh (.int row.length))))) (by unfold bf;rw[uW (row:=row) rfl];simp)]
    rw[aY (ρ':=(gE ns (row++PG.txt (lZ ns n)) B.nodes B.frs n (some (.sh (.tup ((fB ns B n).map .int)))) (some (.sh (.lst ((lnm ns (n/13)).map .int)))) (some (.sh (.int row.length))))) (by
     unfold gu
     exact lN (row:=row) rfl (.inl (by simp[kL,htx])) (by omega))]
    rw[aY (yf (nds:=B.nodes) (d:=⟨"name",row.length,(row++PG.txt (lZ ns n)).length,0⟩) rfl (by
     have:=uW (ρ:=(gE ns (row++PG.txt (lZ ns n)) B.nodes B.frs n (some (.sh (.tup ((fB ns B n).map .int)))) (some (.sh (.lst ((lnm ns (n/13)).map .int)))) (some (.sh (.int row.length))))) (i:=1) (row:=row++PG.txt (lZ ns n)) rfl
     simp[mD,this,Nd.o,ndO]) (by omega))]
    rw[aY (lN (row:=row++PG.txt (lZ ns n)) rfl (.inl (hw _ 19 rfl (by omega) (by omega))) (by simp;omega))];rw[aY (yz (row:=row++PG.txt (lZ ns n)++lwh (n/19)) rfl rfl (by simp;omega))];rw[lN (row:=row++PG.txt (lZ ns n)++lwh (n/19)++[58]) rfl (.inl (hw _ 23 rfl (by omega) (by omega))) (by simp;omega)]
    simp[dr,bZ,hf,hrow,uR])]
   simp[mT,g9,tM,pV]
noncomputable def lfV(ns:List Int)(n:Int):PV:=
 if n/5%6=0 then .non else if n/5%6=1 then .bl true else if n/5%6=2 then .bl false
 else if n/5%6=3 then .tup [.str "text",.tup ((PG.points ns (7+n%41)).map .int)]
 else match pairOf 20 (mwV (eE (n/7))) (exV (eE (n/7)).ex - (eE (n/7)).fr.length)with
  |.tup [.int a,.int b]=>.tup [.str "number",.int a,.int b]
  |_=>.non
theorem GG(ns:List Int)(n:Int)(hn:0<=n):cp [.lst (ns.map .int),.int n]=.ok (.sh (.tup [.str (lfK (j9 ns n)),.lst ((lfb (j9 ns n)).map .int),lfV ns n])):=by
 have e1:=gT ns (7+n%41);have e2:=jA (PG.points ns (7+n%41)) (n/30) (p6 _ _) (by have:=q9 ns (7+n%41);omega);have e3:=kQ (n/7) (by omega)
 have e0:cp [.lst (ns.map .int),.int n]=fin (kI [some (.sh (.lst (ns.map .int))),some (.sh (.int n)),some (.sh (.int (n/5%6))),none,none]):=by
  unfold cp fnP;rw[if_pos (show List.length [PV.lst (ns.map .int),.int n]=2 from rfl),show ko 5 [PV.lst (ns.map .int),.int n]=[some (.sh (.lst (ns.map .int))),some (.sh (.int n)),none,none,none] from rfl];unfold mw;rw[aY (ρ':=[some (.sh (.lst (ns.map .int))),some (.sh (.int n)),some (.sh (.int (n/5%6))),none,none]) (by simp[bf])]
 rw[e0]
 have no:∀ i:Int,¬ n/5%6=i->az (mOp gEq (ao 2) (mC (.int i))) [some (.sh (.lst (ns.map .int))),some (.sh (.int n)),some (.sh (.int (n/5%6))),none,none]=.ok false:=fun i h=>by simp[az,h]
 have yes:∀ i:Int,n/5%6=i->az (mOp gEq (ao 2) (mC (.int i))) [some (.sh (.lst (ns.map .int))),some (.sh (.int n)),some (.sh (.int (n/5%6))),none,none]=.ok true:=fun i h=>by simp[az,h]
 unfold j9 lfV
 by_cases h0:n/5%6=0
 . rw[if_pos h0,if_pos h0];exact kC (ρ:=[some (.sh (.lst (ns.map .int))),some (.sh (.int n)),some (.sh (.int (n/5%6))),none,none]) (st (yes 0 h0) (by simp[lfK,lfb,wdb]))
 rw[if_neg h0,if_neg h0]
 by_cases h1:n/5%6=1
 . rw[if_pos h1,if_pos h1];exact kC (ρ:=[some (.sh (.lst (ns.map .int))),some (.sh (.int n)),some (.sh (.int (n/5%6))),none,none]) ((sk (no 0 h0)).trans (st (yes 1 h1) (by simp[lfK,lfb,wdb])))
 rw[if_neg h1,if_neg h1]
 by_cases h2:n/5%6=2
 . rw[if_pos h2,if_pos h2];exact kC (ρ:=[some (.sh (.lst (ns.map .int))),some (.sh (.int n)),some (.sh (.int (n/5%6))),none,none]) ((sk (no 0 h0)).trans ((sk (no 1 h1)).trans (st (yes 2 h2) (by simp[lfK,lfb,wdb]))))
 rw[if_neg h2,if_neg h2]
 by_cases h3:n/5%6=3
 . rw[if_pos h3,if_pos h3];exact kC (ρ:=[some (.sh (.lst (ns.map .int))),some (.sh (.int n)),some (.sh (.int (n/5%6))),some (.sh (.lst ((PG.points ns (7+n%41)).map .int))),none]) ((sk (no 0 h0)).trans ((sk (no 1 h1)).trans ((sk (no 2 h2)).trans (st (yes 3 h3) ((aY (ρ':=[some (.sh (.lst (ns.map .int))),some (.sh (.int n)),some (.sh (.int (n/5%6))),some (.ow ((PG.points ns (7+n%41)).map .int)),none]) (by simp[bf,e1])).trans (by simp[gu,kL,e2,mJ,lfK,lfb]))))))
 rw[if_neg h3,if_neg h3];obtain⟨a,b,hab⟩:=yI 20 (mwV (eE (n/7))) (exV (eE (n/7)).ex - (eE (n/7)).fr.length)
 rw[hab]at e3 ⊢
 exact kC (ρ:=[some (.sh (.lst (ns.map .int))),some (.sh (.int n)),some (.sh (.int (n/5%6))),none,some (.sh (.tup [.lst ((PG.nb (eE (n/7))).map .int),.tup [.int a,.int b]]))]) ((sk (no 0 h0)).trans ((sk (no 1 h1)).trans ((sk (no 2 h2)).trans ((sk (no 3 h3)).trans ((aY (ρ':=[some (.sh (.lst (ns.map .int))),some (.sh (.int n)),some (.sh (.int (n/5%6))),none,some (.sh (.tup [.lst ((PG.nb (eE (n/7))).map .int),.tup [.int a,.int b]]))]) (by simp[bf,e3])).trans (by simp[kJ,dw,atP,ixP,lfK,lfb]))))))
theorem Dm(n:Int):(PG.nb (eE n)).length<=30:=by
 have h1:(cT (n/3%100000).toNat).length<=5:=pz 4 _ (by omega)
 have h2:(cT (n/37%30).toNat).length<=2:=pz 1 _ (by omega)
 have h3:(frB (bV n)).length<=4:=by
  have:(bV n).length<=3:=by unfold bV;split<;>simp;omega
  unfold frB
  split<;>simp;omega
 have h4:(exB (fY n)).length<=6:=by
  unfold fY;split
  . have hs:(if n/43%3=1 then[45]else if n/43%3=2 then[43]else[]:List Int).length<=1:=by split;simp;split<;>simp
    have ht:(if n/47%4=1 then[48]else[]:List Int).length<=1:=by split<;>simp
    simp only[exB,List.length_append,List.length_cons];omega
  . simp[exB]
 unfold PG.nb eE;simp only[List.length_append]
 split<;>simp<;>omega
theorem CA(ns:List Int)(n:Int):(lfb (j9 ns n)).length<=160:=by
 unfold j9;split
 . simp[lfb,wdb]
 . split
   . simp[lfb,wdb]
   . split
     . simp[lfb,wdb]
     . split
       . have:=Cp (PG.points ns (7+n%41)) (n/30) (p6 _ _) (q9 _ _);simp only[lfb];omega
       . have:=Dm (n/7);simp only[lfb];omega
noncomputable def kF(nm:List Int)(v:PV):List Fr->List Fr
 |[]=>[]
 |g ::gs=>{ g with items:=g.items++[if g.k then v else .tup [.tup (nm.map .int),v]] } ::gs
noncomputable def Bd.close(B:Bd):Bd:=match B.frs with
 |[]=>B
 | f ::fs=>⟨B.row ++ [brk f.k],
     let ns:=B.nodes.modify f.i fun d=>{ d with b:=B.row.length+1,c:=B.nodes.length }
     if inF fs then ns.modify (f.i - 1) fun d=>{ d with c:=B.nodes.length } else ns,
     kF f.nm (.tup [kS f.k,.tup f.items]) fs,.tup [kS f.k,.tup f.items]⟩
noncomputable def kN(k:Bool):String:=if k then "row" else "fields"
noncomputable def Bd.opn(ns:List Int)(B:Bd)(n:Int):Bd:=
 ⟨dr ns B n++[if n/5%2=0 then 91 else 123],bZ ns B n++[⟨kN (n/5%2=0),(dr ns B n).length,0,0⟩],⟨n/5%2=0,[],(bZ ns B n).length,fB ns B n⟩ ::B.frs,B.val⟩
noncomputable def Bd.leaf(ns:List Int)(B:Bd)(n:Int):Bd:=
 ⟨dr ns B n++lfb (j9 ns n),
   let ds:=bZ ns B n++[⟨lfK (j9 ns n),(dr ns B n).length,(dr ns B n++lfb (j9 ns n)).length,(bZ ns B n).length+1⟩]
   if inF B.frs then ds.modify (ds.length - 2) fun d=>{ d with c:=ds.length } else ds,
   kF (fB ns B n) (lfV ns n) B.frs,lfV ns n⟩
noncomputable def Bd.step(ns:List Int)(B:Bd)(k:Nat):Bd:=
 if B.frs.isEmpty=false /\ PG.mix ns k%5=1 then Bd.close { B with row:=B.row++lwh (PG.mix ns k/3) }
 else if B.frs.isEmpty=false \/ k=0 then
  if PG.mix ns k%5>2 \/ (k=0 /\ PG.mix ns k%9>0)then B.opn ns (PG.mix ns k)else B.leaf ns (PG.mix ns k)
 else B
noncomputable def FOk(N K:Nat):List Fr->Prop
 |[]=>True
 |f ::fs=>f.i<N /\ f.items.length<=K /\ (fs≠[]->1<=f.i) /\ FOk N K fs
theorem FOk.mono{N K N' K':Nat}(h1:N<=N')(h2:K<=K'):∀{fs:List Fr},FOk N K fs->FOk N' K' fs
 |[],_=>trivial
 |_ ::_,h=>⟨Nat.lt_of_lt_of_le h.1 h1,Nat.le_trans h.2.1 h2,h.2.2.1,FOk.mono h1 h2 h.2.2.2⟩
theorem FOk.kF{N K:Nat}(nm:List Int)(v:PV){fs:List Fr}(h:FOk N K fs):FOk N (K+1) (kF nm v fs):=by
 cases fs with
 |nil=>trivial
 |cons g gs=>exact⟨h.1,by simp;exact h.2.1,h.2.2.1,FOk.mono (Nat.le_refl _) (Nat.le_succ _) h.2.2.2⟩
structure Bok(B:Bd)(k:Nat):Prop where
 row:B.row.length<=400*k
 nodes:B.nodes.length<=2*k
 frs:FOk B.nodes.length k B.frs
 dep:B.frs.length<=k
theorem vV(nm:List Int)(v:PV)(fs:List Fr):(kF nm v fs).length=fs.length:=by cases fs<;>simp[kF]
theorem mz(ns:List Int)(B:Bd)(n:Int):(bZ ns B n).length=B.nodes.length+(if inF B.frs then 1 else 0):=by
 unfold bZ;cases inF B.frs<;>simp
theorem Bok.close{B:Bd}{k:Nat}(h:Bok B k)(ws:List Int)(hw:ws.length<=3):Bok (Bd.close { B with row:=B.row++ws }) (k+1):=by
 have h1:=h.row;have h2:=h.nodes;have h3:=h.frs;have h4:=h.dep;unfold Bd.close
 cases e:B.frs with
 |nil=>rw[e]at h3 h4;exact⟨by simp;omega,by simp;omega,by simp[e];trivial,by simp[e]⟩
 | cons f fs=>
   rw[e]at h3 h4;simp only[List.length_cons]at h4
   refine⟨by simp;omega,?_,?_,?_⟩
   . simp only;split<;>simp<;>omega
   . have:FOk B.nodes.length (k+1) (kF f.nm (.tup [kS f.k,.tup f.items]) fs):=FOk.kF _ _ h3.2.2.2
     simp only;split<;>simpa using this
   . simp only[vV];omega
theorem Bok.opn{B:Bd}{k:Nat}(h:Bok B k)(ns:List Int)(n:Int):Bok (B.opn ns n) (k+1):=by
 have h1:=h.row;have h2:=h.nodes;have h3:=h.frs;have h4:=h.dep;have hb:=qc ns B n;have hl:=mz ns B n;unfold Bd.opn
 refine⟨by simp;omega,?_,?_,by simp;omega⟩
 . simp only[List.length_append,List.length_singleton]
   split at hl<;>omega
 . simp only[List.length_append,List.length_singleton]
   refine⟨by simp,by simp,?_,FOk.mono (by omega) (by omega) h3⟩
   intro hf
   simp only
   cases e:B.frs with
   |nil=>exact absurd e hf
   |cons g gs=>rw[e]at h3;have:=h3.1;omega
theorem Bok.leaf{B:Bd}{k:Nat}(h:Bok B k)(ns:List Int)(n:Int):Bok (B.leaf ns n) (k+1):=by
 have h1:=h.row;have h2:=h.nodes;have h3:=h.frs;have h4:=h.dep;have hb:=qc ns B n;have hf:=CA ns n;have hl:=mz ns B n
 have hN:(B.leaf ns n).nodes.length=(bZ ns B n).length+1:=by unfold Bd.leaf;simp only;split<;>simp
 refine⟨by unfold Bd.leaf;simp;omega,by rw[hN];split at hl<;>omega,?_,by unfold Bd.leaf;simp only[vV];omega⟩
 rw[hN];exact FOk.mono (by omega) (Nat.le_refl _) (FOk.kF _ _ h3)
theorem Bok.mono{B:Bd}{k k':Nat}(h:Bok B k)(hk:k<=k'):Bok B k':=
 ⟨by have:=h.row;omega,by have:=h.nodes;omega,FOk.mono (Nat.le_refl _) hk h.frs,by have:=h.dep;omega⟩
theorem Bok.step{B:Bd}{k:Nat}(h:Bok B k)(ns:List Int):Bok (B.step ns k) (k+1):=by
 unfold Bd.step;split
 . exact h.close _ (gq _)
 . split
   . split
     . exact h.opn ns _
     . exact h.leaf ns _
   . exact h.mono (by omega)
theorem sU(g:Nd->Nd):∀(nodes:List Nd) (i:Nat) (d:Nd),nodes[i]?=some d->(nodes.map Nd.o).set i (g d).o=(nodes.modify i g).map Nd.o
 |[],i,d,h=>by simp at h
 |x ::xs,0,d,h=>by simp at h;subst h;simp
 | x ::xs,i+1,d,h=>by
   simp at h;simp[sU g xs i d h]
theorem By{nodes:List Nd}{i:Nat}(h:i<nodes.length):∃ d,nodes[i]?=some d:=⟨nodes[i],by simp[h]⟩
theorem BZ{nodes:List Nd}{i:Nat}{d:Nd}(h:nodes[i]?=some d):(nodes.map Nd.o)[i]?=some (ndO (.str d.s) d.a d.b d.c):=by
 rw[List.getElem?_map,h];rfl
theorem GN(B:Bd)(k:Nat)(h:Bok B k)(hk:k<=100)(hf:B.frs≠[]):
  cS [.tr true (eB B.row),.tr true (lz B.nodes),.tr true (kh B.frs)]=.ok B.close.val [some (eB B.close.row),some (lz B.close.nodes),some (kh B.close.frs)]:=by
 have h1:=h.row;have h2:=h.nodes;have h3:=h.frs;unfold Bd.close
 cases e:B.frs with
 |nil=>exact absurd e hf
 | cons f fs=>
   rw[e]at h3;obtain⟨d,hd⟩:=By h3.1;have hit:=h3.2.1
   cases e2:fs with
   | nil=>
     have:=Ay B.row (B.nodes.map Nd.o) f.k f.items f.i f.nm (.str d.s) d.a d.b d.c (BZ hd) (by omega) (by rw[List.length_map];omega) (by omega);refine Eq.trans this ?_;have hs:=sU (fun d=>{ d with b:=B.row.length+1,c:=B.nodes.length }) B.nodes f.i d hd;simp only[inF,kF,kh,lz,List.length_map,Bool.false_eq_true,if_false,<- hs];rfl
   | cons g gs=>
     rw[e2]at h3;have h1i:=h3.2.2.1 (by simp)
     have hit':=h3.2.2.2.2.1
     obtain⟨d2,hd2⟩:=By (nodes:=B.nodes) (i:=f.i - 1) (by have:=h3.1;omega);have:=Ax B.row (B.nodes.map Nd.o) (gs.reverse.map Fr.o) f.k g.k f.items g.items f.i g.i f.nm g.nm (.str d.s) (.str d2.s) d.a d.b d.c d2.a d2.b d2.c (BZ hd) (by omega) (by rw[List.length_map];omega) (by omega) (by omega) (fun _=>⟨h1i,BZ hd2⟩);have hs:=sU (fun d=>{ d with b:=B.row.length+1,c:=B.nodes.length }) B.nodes f.i d hd
     have hd2':(B.nodes.modify f.i fun d=>{ d with b:=B.row.length+1,c:=B.nodes.length })[f.i - 1]?=some d2:=by
      rw[List.getElem?_modify,hd2];simp;intro z;omega
     have hs2:=sU (fun d=>{ d with c:=B.nodes.length }) _ (f.i - 1) d2 hd2';rw[<- hs]at hs2;refine Eq.trans (congrArg cS ?_) (Eq.trans this ?_)
     . simp[kh,lz,Fr.o]
     . cases hg:g.k
       . simp only[inF,kF,kh,lz,List.length_map,hg,Bool.not_false,Bool.false_eq_true,if_true,if_false,<- hs2];simp[Nd.o,Fr.o]
       . simp only[inF,kF,kh,lz,List.length_map,hg,Bool.not_true,Bool.false_eq_true,if_true,if_false,<- hs];simp[Nd.o,Fr.o]
noncomputable def bE(ns:List Int)(m:Int)(B:Bd)(a b c d e f:Option Sl):ag:=[some (.sh (.lst (ns.map .int))),some (.sh (.int m)),some (.tr false (eB B.row)),some (.tr false (lz B.nodes)),some (.tr false (kh B.frs)),some (.sh B.val),a,b,c,d,e,f]
theorem vG(ns:List Int)(m:Int)(B:Bd)(k:Nat)(h:Bok B k)(hk:k<=100)(hf:B.frs≠[])(a b c d e f:Option Sl):
  hJ 5 (iG cS [.t 2 aI,.t 3 aI,.t 4 aI]) (bE ns m B a b c d e f)=.nx (bE ns m B.close a b c d e f):=by
 have e1:jy [.t 2 aI,.t 3 aI,.t 4 aI] (bE ns m B a b c d e f)=some [.tr true (eB B.row),.tr true (lz B.nodes),.tr true (kh B.frs)]:=by
  simp[jy,kA,bE,aI,OV.get_nil]
 unfold hJ iG;rw[e1];simp only[GN B k h hk hf];simp[eZ,jR,bE,aI,OV.kR,nio]
theorem AH(ns:List Int)(m:Int)(B:Bd)(k:Nat)(h:Bok B k)(hk:k<=100)(a:Option Sl)(n:Int)(c d e f:Option Sl):
  hJ 8 (iG fH [.e (ao 0),.t 2 aI,.t 3 aI,.t 4 aI,.e (ao 7)]) (bE ns m B a (some (.sh (.int n))) c d e f) =
   .nx (bE ns m ⟨dr ns B n,bZ ns B n,B.frs,B.val⟩ a (some (.sh (.int n))) (some (.sh (.tup ((fB ns B n).map .int)))) d e f):=by
 have h1:=h.row;have h2:=h.nodes
 have e1:jy [.e (ao 0),.t 2 aI,.t 3 aI,.t 4 aI,.e (ao 7)] (bE ns m B a (some (.sh (.int n))) c d e f)=some [.sh (.lst (ns.map .int)),.tr true (eB B.row),.tr true (lz B.nodes),.tr true (kh B.frs),.sh (.int n)]:=by
  simp[jy,kA,bE,aI,OV.get_nil,m3]
 unfold hJ iG;rw[e1];simp only[HW ns B n (by omega) (by omega)];simp[eZ,jR,bE,aI,OV.kR,nio]
noncomputable abbrev bF(ns:List Int)(m:Int)(C B:Bd)(n:Int)(a e f:Option Sl):ag:=bE ns m C a (some (.sh (.int n))) (some (.sh (.tup ((fB ns B n).map .int)))) (some (.sh (.int (dr ns B n).length))) e f
noncomputable abbrev bG(ns:List Int)(m:Int)(B:Bd)(n:Int)(a e f:Option Sl):ag:=bF ns m ⟨dr ns B n,bZ ns B n,B.frs,B.val⟩ B n a e f
theorem LS(k:Bool):kS k=.str (kN k):=by cases k<;>rfl
theorem DJ(ns:List Int)(m:Int)(B:Bd)(k:Nat)(h:Bok B k)(hk:k<=100)(a:Option Sl)(n:Int)(e f:Option Sl):∃ e',
  (aH (bf 10 (mOp ou (bS (ak (mC (.str "row")) (ak (mC (.str "fields")) aJ))) (mOp cw (mOp dA (ao 7) (mC (.int 5))) (mC (.int 2)))))
  (aH (b0 2 aI (mD (gm (az (mOp gEq (ao 10) (mC (.str "row")))) (mC (.int 91)) (mC (.int 123)))))
  (aH (b0 4 aI (mDl (mDc (mD (ao 10)) (mDc (mD (bS aJ)) (mDc (mD (gb 3 aI)) (mDc (mD (ao 8)) mDn))))))
  (b0 3 aI (mD (bS (ak (ao 10) (ak (ao 9) (ak (mC (.int 0)) (ak (mC (.int 0)) aJ))))))))))
  (bG ns m B n a e f) =
  .nx (bF ns m (B.opn ns n) B n a e' f):=by
 have h1:=h.row;have h2:=h.nodes;have h4:=h.dep;have hb:=qc ns B n;have hl:=mz ns B n
 have hl':(bZ ns B n).length<=B.nodes.length+1:=by split at hl<;>omega
 refine⟨some (.sh (kS (n/5%2=0))),?_⟩
 have hz:n/5%2=0 \/ n/5%2=1:=by omega
 rw[aY (ρ':=bG ns m B n a (some (.sh (kS (n/5%2=0)))) f) (by
  rcases hz with z|z<;>simp[bf,bE,z,ou,atP,ixP,kS])]
 rw[aY (yz (row:=dr ns B n) (b:=if n/5%2=0 then 91 else 123) rfl (by
  rcases hz with z|z<;>simp -implicitDefEqProofs [mD,gm,az,bE,z,kS,gEq,eqS,aG]) (by omega))]
 rw[aY (u4 (ts:=B.frs.reverse.map Fr.o) (x:=Fr.o ⟨n/5%2=0,[],(bZ ns B n).length,fB ns B n⟩) rfl (by
  have:=xO (ρ:=(bG ns m B n a (some (.sh (kS (n/5%2=0)))) f).set 2 (some (.tr false (eB (dr ns B n++[if n/5%2=0 then 91 else 123]))))) (i:=3) (nds:=bZ ns B n) rfl;simp only[mDl,mDc,mD,this]
  simp[mDn,bE,Fr.o,frO,mDl]) (by simp;exact dj (n:=B.frs.length+1) (by omega)))]
 rw[yf (nds:=bZ ns B n) (d:=⟨kN (n/5%2=0),(dr ns B n).length,0,0⟩) rfl (by
  simp[mD,bE,Nd.o,ndO,LS]) (by omega)]
 simp[bE,Bd.opn,kh]
theorem Oj(n:Int):(if n/5%2=0 then true else false)=decide (n/5%2=0):=by simp
theorem uN{ρ:ag}{i:Nat}{io:Bool}{g:Fr}{gs:List Fr}{x:PV}{md:ag->OD}(h:ρ[i]?=some (some (.tr io (kh (g ::gs)))))(hd:md ρ=.ok (.sh x))(hl:g.items.length<1000):
  b0 i (pIx i (pIx i aI (mUn gi (mC (.int 1)))) (mC (.int 1))) md ρ=.nx (ρ.set i (some (.tr io (kh ({ g with items:=g.items++[x] } ::gs))))):=by
 have hi:=vv 1 1 rfl (by omega) h;rw[lh]at h;rw[Cd h hi (uQ g gs) (xs:=g.items.map .sh) rfl hd (by rw[List.length_map];exact dj (n:=g.items.length+1) (by omega))];rw[lh];simp[Fr.o,frO,List.set_append_right]
theorem Dn(ns:List Int)(m:Int)(B:Bd)(k:Nat)(h:Bok B k)(hk:k<=100)(a:Option Sl)(n:Int)(hn:0<=n)(e f:Option Sl):∃ f',
  (aH (bf 11 (br cp (ak (ao 0) (ak (ao 7) aJ))))
  (aH (dH 2 aI (mOp dw (ao 11) (mC (.int 1))))
  (aH (b0 3 aI (mD (bS (ak (mOp dw (ao 11) (mC (.int 0))) (ak (ao 9) (ak (gb 2 aI) (ak (mOp eY (gb 3 aI) (mC (.int 1))) aJ)))))))
  (aH (bf 5 (mOp dw (ao 11) (mC (.int 2))))
  (bc (cZ (dv 4 aI) (az (mOp gEq (cF 4 (pIx 4 (pIx 4 aI (mUn gi (mC (.int 1)))) (mC (.int 0)))) (mC (.str "fields")))))
  (aH (pC 3 (pIx 3 aI (mUn gi (mC (.int 2)))) (mC (.int 3)) (mD (gb 3 aI)))
  (b0 4 (pIx 4 (pIx 4 aI (mUn gi (mC (.int 1)))) (mC (.int 1))) (mD (eU (ak (ao 8) (ak (ao 5) aJ))))))
  (bc (dv 4 aI)
  (b0 4 (pIx 4 (pIx 4 aI (mUn gi (mC (.int 1)))) (mC (.int 1))) (mD (ao 5)))
  aO))))))
  (bG ns m B n a e f) =
  .nx (bF ns m (B.leaf ns n) B n a e f'):=by
 have h1:=h.row;have h2:=h.nodes;have h3:=h.frs;have h4:=h.dep;have hb:=qc ns B n;have hf:=CA ns n;have hl:=mz ns B n
 have hl':(bZ ns B n).length<=B.nodes.length+1:=by split at hl<;>omega
 generalize hF:PV.tup [.str (lfK (j9 ns n)),.lst ((lfb (j9 ns n)).map .int),lfV ns n]=F
 refine⟨some (.sh F),?_⟩
 generalize hv:lfV ns n=v
 have hi0:atP [PV.str (lfK (j9 ns n)),.lst ((lfb (j9 ns n)).map .int),v] 0=some (PV.str (lfK (j9 ns n))):=by simp[atP,ixP]
 rw[aY (ρ':=bG ns m B n a e (some (.sh F))) (by
  have:=GG ns n hn;rw[hF]at this
  simp[bf,bE,this])]
 rw[aY (lN (row:=dr ns B n) (ys:=lfb (j9 ns n)) rfl (.inr (by simp[bE,<- hF,dw,atP,ixP])) (by omega))]
 rw[aY (yf (nds:=bZ ns B n) (d:=⟨lfK (j9 ns n),(dr ns B n).length,(dr ns B n++lfb (j9 ns n)).length,(bZ ns B n).length+1⟩) rfl (by
  have hx:=xO (ρ:=(bG ns m B n a e (some (.sh F))).set 2 (some (.tr false (eB (dr ns B n++lfb (j9 ns n)))))) (i:=3) (nds:=bZ ns B n) rfl;have hy:=uW (ρ:=(bG ns m B n a e (some (.sh F))).set 2 (some (.tr false (eB (dr ns B n++lfb (j9 ns n)))))) (i:=2) (row:=dr ns B n++lfb (j9 ns n)) rfl;simp only[mD,bS,ak,hx,hy,mOp]
  simp[bE,<- hF,dw,atP,ixP,Nd.o,ndO]) (by omega))]
 generalize hR:dr ns B n++lfb (j9 ns n)=R;generalize hD:bZ ns B n++[⟨lfK (j9 ns n),(dr ns B n).length,R.length,(bZ ns B n).length+1⟩]=D
 have hDl:D.length=(bZ ns B n).length+1:=by rw[<- hD];simp
 rw[aY (ρ':=bF ns m ⟨R,D,B.frs,v⟩ B n a e (some (.sh F))) (by
  simp[bf,bE,<- hF,dw,atP,ixP,hv])]
 unfold bc;rw[DQ (fs:=B.frs) rfl];unfold Bd.leaf;rw[hR];simp only[hD,hv]
 cases hg:B.frs with
 | nil=>
   have:=qt (ρ:=bF ns m ⟨R,D,[],v⟩ B n a e (some (.sh F))) (i:=4) (fs:=[]) rfl;simp[inF,kF,this,aO]
 | cons g gs=>
   rw[hg]at h3;have hit:=h3.2.1;have ht:=qt (ρ:=bF ns m ⟨R,D,g ::gs,v⟩ B n a e (some (.sh F))) (i:=4) (fs:=g ::gs) rfl
   cases hgk:g.k with
   | true=>
     have hp:=uN (ρ:=bF ns m ⟨R,D,g ::gs,v⟩ B n a e (some (.sh F))) (i:=4) (g:=g) (gs:=gs) (x:=v) (md:=mD (ao 5)) rfl (by simp[mD,bE]) (by omega);simp[inF,kF,ht,hgk,hp];simp[bE]
   | false=>
     have h2l:2<=D.length:=by
      have hq:inF B.frs=true:=by rw[hg];simp[inF,hgk]
      rw[hq]at hl;simp at hl;omega
     obtain⟨d2,hd2⟩:=By (nodes:=D) (i:=D.length - 2) (by omega);have hs:=sU (fun d=>{ d with c:=D.length }) D (D.length - 2) d2 hd2
     have hput:=uO (ρ:=bF ns m ⟨R,D,g ::gs,v⟩ B n a e (some (.sh F))) (i:=3) (io:=false) (ts:=D.map Nd.o) (j:=D.length - 2) (j2:=3) (mk:=mC (.int 3)) (md:=mD (gb 3 aI)) (x:=.sh (.int D.length)) (mp:=pIx 3 aI (mUn gi (mC (.int 2)))) rfl
      (kM (i:=3) (ts:=D.map Nd.o) (bJ (s:=.tr false (lz D)) rfl rfl) (r:=.sh (.int (-2))) (k:=-2) (by simp) rfl (by rw[List.length_map];unfold ixP;rw[if_neg (by omega),if_pos (by omega)];congr 1;omega)) (BZ hd2) rfl rfl rfl (by unfold mD;rw[xO (nds:=D) rfl])
     have e3:(D.map Nd.o).set (D.length - 2) (.ol ([.sh (.str d2.s),.sh (.int d2.a),.sh (.int d2.b),.sh (.int d2.c)].set 3 (.sh (.int D.length))))=(D.modify (D.length - 2) fun d=>{ d with c:=D.length }).map Nd.o:=hs
     rw[e3]at hput;have hp:=uN (ρ:=bF ns m ⟨R,D.modify (D.length - 2) fun d=>{ d with c:=D.length },g ::gs,v⟩ B n a e (some (.sh F))) (i:=4) (g:=g) (gs:=gs) (x:=.tup [.tup ((fB ns B n).map .int),v]) (md:=mD (eU (ak (ao 8) (ak (ao 5) aJ)))) rfl (by simp[mD,bE]) (by omega)
     have:inF (g ::gs)=true:=by simp[inF,hgk]
     rw[this];refine Eq.trans (aY hput) ?_;refine Eq.trans hp ?_;simp[kF,hgk,bE]
theorem Lp(ns:List Int)(m:Int)(B:Bd)(k:Nat)(h:Bok B k)(hk:k<=90)(b c d e f:Option Sl):∃ b' c' d' e' f',
  iA (bE ns m B (some (.sh (.int k))) b c d e f)=.nx (bE ns m (B.step ns k) (some (.sh (.int k))) b' c' d' e' f'):=by
 have hm:0<=PG.mix ns k:=(AM ns k).1
 have h1:=h.row;unfold iA;rw[aY (ρ':=bE ns m B (some (.sh (.int k))) (some (.sh (.int (PG.mix ns k)))) c d e f) (by simp[bf,bE,dJ])];unfold Bd.step
 generalize PG.mix ns k=n at hm ⊢
 have c1:cZ (dv 4 aI) (az (mOp gEq (mOp cw (ao 7) (mC (.int 5))) (mC (.int 1)))) (bE ns m B (some (.sh (.int k))) (some (.sh (.int n))) c d e f)=.ok (decide (B.frs.isEmpty=false /\ n%5=1)):=by
  have:=qt (ρ:=bE ns m B (some (.sh (.int k))) (some (.sh (.int n))) c d e f) (i:=4) (fs:=B.frs) rfl
  unfold bE at this ⊢
  cases hf:B.frs.isEmpty<;>simp[cZ,this,hf,az]
 unfold bc;rw[c1]
 by_cases hc1:B.frs.isEmpty=false /\ n%5=1
 . rw[if_pos hc1,decide_eq_true hc1]
   refine⟨some (.sh (.int n)),c,d,e,f,Eq.trans (aY (ρ':=bE ns m { B with row:=B.row++lwh (n/3) } (some (.sh (.int k))) (some (.sh (.int n))) c d e f) ?_) ?_⟩
   . exact lN (row:=B.row) rfl (.inl (by simp[bE,dW])) (by have:=gq (n/3);omega)
   . refine vG ns m { B with row:=B.row++lwh (n/3) } (k+1) ⟨?_,?_,?_,?_⟩ (by omega) ?_ _ _ _ _ _ _
     . have:=gq (n/3);simp;omega
     . have:=h.nodes;simp;omega
     . exact FOk.mono (Nat.le_refl _) (Nat.le_succ _) h.frs
     . have:=h.dep;simp;omega
     . simp only;intro z;rw[z]at hc1;exact absurd hc1.1 (by simp)
 . rw[if_neg hc1,decide_eq_false hc1]
   have c2:kW (dv 4 aI) (az (mOp gEq (ao 6) (mC (.int 0)))) (bE ns m B (some (.sh (.int k))) (some (.sh (.int n))) c d e f)=.ok (decide (B.frs.isEmpty=false \/ k=0)):=by
    have:=qt (ρ:=bE ns m B (some (.sh (.int k))) (some (.sh (.int n))) c d e f) (i:=4) (fs:=B.frs) rfl
    unfold bE at this ⊢
    cases hf:B.frs.isEmpty<;>simp[kW,this,hf,az]
   show ∃ b' c' d' e' f',OT.cX _ _ _=_
   rw[c2]
   by_cases hc2:B.frs.isEmpty=false \/ k=0
   . rw[if_pos hc2,decide_eq_true hc2];have hb:=AH ns m B k h (by omega) (some (.sh (.int k))) n c d e f
     have hs9:bf 9 (gb 2 aI) (bE ns m ⟨dr ns B n,bZ ns B n,B.frs,B.val⟩ (some (.sh (.int k))) (some (.sh (.int n))) (some (.sh (.tup ((fB ns B n).map .int)))) d e f)=.nx (bE ns m ⟨dr ns B n,bZ ns B n,B.frs,B.val⟩ (some (.sh (.int k))) (some (.sh (.int n))) (some (.sh (.tup ((fB ns B n).map .int)))) (some (.sh (.int (dr ns B n).length))) e f):=by
      unfold bf;rw[uW (row:=dr ns B n) rfl];simp[bE]
     have c3:kW (az (mOp gGt (mOp cw (ao 7) (mC (.int 5))) (mC (.int 2)))) (cZ (az (mOp gEq (ao 6) (mC (.int 0)))) (az (mOp gGt (mOp cw (ao 7) (mC (.int 9))) (mC (.int 0))))) (bE ns m ⟨dr ns B n,bZ ns B n,B.frs,B.val⟩ (some (.sh (.int k))) (some (.sh (.int n))) (some (.sh (.tup ((fB ns B n).map .int)))) (some (.sh (.int (dr ns B n).length))) e f)=.ok (decide (n%5>2 \/ (k=0 /\ n%9>0))):=by
      by_cases h5:2<n%5
      . simp[kW,cZ,az,bE,h5]
      . by_cases h0:k=0
        . by_cases h9:0<n%9<;>simp[kW,cZ,az,bE,h5,h0,h9]
        . simp[kW,cZ,az,bE,h5,h0]
     by_cases hc3:n%5>2 \/ (k=0 /\ n%9>0)
     . rw[if_pos hc3];obtain⟨e',he⟩:=DJ ns m B k h (by omega) (some (.sh (.int k))) n e f
       refine⟨some (.sh (.int n)),some (.sh (.tup ((fB ns B n).map .int))),some (.sh (.int (dr ns B n).length)),e',f,Eq.trans (aY hb) (Eq.trans (aY hs9) ?_)⟩
       rw[c3,decide_eq_true hc3];exact he
     . rw[if_neg hc3];obtain⟨f',he⟩:=Dn ns m B k h (by omega) (some (.sh (.int k))) n hm e f
       refine⟨some (.sh (.int n)),some (.sh (.tup ((fB ns B n).map .int))),some (.sh (.int (dr ns B n).length)),e,f',Eq.trans (aY hb) (Eq.trans (aY hs9) ?_)⟩
       rw[c3,decide_eq_false hc3];exact he
   . rw[if_neg hc2,decide_eq_false hc2]
     exact⟨_,_,_,_,_,rfl⟩
noncomputable def bld(ns:List Int)(B:Bd)(i:Nat):Nat->Bd
 |0=>B
 |j+1=>bld ns (B.step ns i) (i+1) j
theorem AA(ns:List Int):∀(j i:Nat) (B:Bd),Bok B i->Bok (bld ns B i j) (i+j)
 |0,i,B,h=>h
 | j+1,i,B,h=>by
   have:=AA ns j (i+1) _ (h.step ns);rw[show i+(j+1)=i+1+j by omega];exact this
theorem wm(ns:List Int)(m:Int):∀(j i:Nat) (B:Bd) (a b c d e f:Option Sl),Bok B i->i+j<=90->∃ a' b' c' d' e' f',
  gP 6 iA ((List.range' i j).map fun k:Nat=>.int k) (bE ns m B a b c d e f)=.nx (bE ns m (bld ns B i j) a' b' c' d' e' f')
 |0,i,B,a,b,c,d,e,f,_,_=>⟨_,_,_,_,_,_,rfl⟩
 | j+1,i,B,a,b,c,d,e,f,h,hij=>by
   obtain⟨b',c',d',e',f',hs⟩:=Lp ns m B i h (by omega) b c d e f;obtain⟨a2,b2,c2,d2,e2,f2,hl⟩:=wm ns m j (i+1) (B.step ns i) (some (.sh (.int i))) b' c' d' e' f' (h.step ns) (by omega)
   refine⟨a2,b2,c2,d2,e2,f2,?_⟩
   rw[List.range'_succ,List.map_cons,jF];rw[show(bE ns m B a b c d e f).set 6 (some (.sh (.int i)))=bE ns m B (some (.sh (.int i))) b c d e f from rfl,hs,oo];exact hl
noncomputable def cls(B:Bd):Nat->Bd
 |0=>B
 |j+1=>cls B.close j
theorem wU(B:Bd):B.close.frs.length=B.frs.length - 1:=by
 unfold Bd.close
 cases h:B.frs with
 |nil=>simp[h]
 |cons f fs=>simp[vV]
theorem ur(ns:List Int)(m:Int):∀(j:Nat) (B:Bd) (k:Nat) (a b c d e f:Option Sl) (F:Nat),Bok B k->k+j<=100->B.frs.length=j->j<F ->
  gn iz jU F (bE ns m B a b c d e f)=.nx (bE ns m (cls B j) a b c d e f)
 | 0,B,k,a,b,c,d,e,f,F,h,hk,hj,hF=>by
   obtain⟨F,rfl⟩:∃ G,F=G+1:=⟨F - 1,by omega⟩
   have ht:=qt (ρ:=bE ns m B a b c d e f) (i:=4) (fs:=B.frs) rfl
   have:B.frs=[]:=List.length_eq_zero_iff.mp hj
   unfold gn iz;rw[ht,this];rfl
 | j+1,B,k,a,b,c,d,e,f,F,h,hk,hj,hF=>by
   obtain⟨F,rfl⟩:∃ G,F=G+1:=⟨F - 1,by omega⟩
   have ht:=qt (ρ:=bE ns m B a b c d e f) (i:=4) (fs:=B.frs) rfl
   have hne:B.frs≠[]:=by intro z;rw[z]at hj;simp at hj
   have hcl:=vG ns m B k h (by omega) hne a b c d e f;have hb:=h.close [] (by simp);rw[show({ B with row:=B.row++[] }:Bd)=B by cases B;simp]at hb;unfold gn;rw[show iz=dv 4 aI from rfl,ht]
   have he:B.frs.isEmpty=false:=by cases q:B.frs with|nil=>exact absurd q hne|cons _ _=>rfl
   rw[he];show OS.turn _ _=_;rw[show jU=hJ 5 (iG cS [.t 2 aI,.t 3 aI,.t 4 aI]) from rfl,hcl,oo];exact ur ns m j B.close (k+1) a b c d e f F hb (by omega) (by rw[wU];omega) (by omega)
noncomputable def bd0:Bd:=⟨[],[],[],.non⟩
noncomputable def ndP(d:Nd):PV:=.tup [.str d.s,.int d.a,.int d.b,.int d.c]
noncomputable def qJ(ns:List Int)(m:Nat):Bd:=
 let B:=bld ns bd0 0 m
 let C:=cls B B.frs.length
 { C with row:=C.row++lwh (PG.mix ns 61) }
theorem A1:∀(j:Nat) (B:Bd) (k:Nat),Bok B k->Bok (cls B j) (k+j)
 |0,B,k,h=>h
 | j+1,B,k,h=>by
   have hb:=h.close [] (by simp);rw[show({ B with row:=B.row++[] }:Bd)=B by cases B;simp]at hb;have:=A1 j B.close (k+1) hb;rw[show k+(j+1)=k+1+j by omega];exact this
theorem yr:Bok bd0 0:=⟨by simp[bd0],by simp[bd0],trivial,by simp[bd0]⟩
theorem Al:∀ row:List Int,uJ (row.map fun b=>.sh (.int b))=some (row.map .int)
 |[]=>by simp[uJ]
 |b ::row=>by simp[uJ,pvO,Al row]
theorem zP:∀ ds:List Nd,uJ (ds.map Nd.o)=some (ds.map fun d=>.lst [.str d.s,.int d.a,.int d.b,.int d.c])
 |[]=>by simp[uJ]
 |d ::ds=>by simp[uJ,pvO,zP ds,Nd.o,ndO]
theorem Hu{ρ:ag}{i:Nat}{me:ag->OE}{P:ag->OS}{j:Int}(h1:me ρ=.ok (.sh (.int j)))(hi:-4611686018427387904<=j /\ j<4611686018427387904):uy i me P ρ=gP i P (dE j.toNat) ρ:=by
 simp -implicitDefEqProofs [uy,h1,hi]
theorem Dl(ns:List Int)(m:Nat)(hm:m<=20):∃ a b c d e f,uy 6 (ao 1) iA (bE ns m bd0 none none none none none none)=.nx (bE ns m (bld ns bd0 0 m) a b c d e f):=by
 obtain⟨a,b,c,d,e,f,hl⟩:=wm ns m m 0 bd0 none none none none none none yr (by omega)
 refine⟨a,b,c,d,e,f,?_⟩
 have hr:dE (Int.toNat (m:Int))=(List.range' 0 m).map fun k:Nat=>.int k:=by simp[dE,List.range_eq_range']
 have h1:ao 1 (bE ns m bd0 none none none none none none)=.ok (.sh (.int m)):=by simp[bE]
 rw[Hu h1 (by omega),hr];exact hl
theorem Dk(ns:List Int)(m:Int)(C:Bd)(hC:C.nodes.length<=1000)(hR:C.row.length<=100000)(a b c d e f:Option Sl):
  ∃ ρ,mK (bE ns m C a b c d e f)=.rt ρ (.sh (.tup [.lst ((C.row++lwh (PG.mix ns 61)).map .int),.lst (C.nodes.map ndP),C.val])):=by
 have e3:dH 2 aI (br cy (ak (br eJ (ak (ao 0) (ak (mC (.int 61)) aJ))) aJ)) (bE ns m C a b c d e f)=.nx (bE ns m { C with row:=C.row++lwh (PG.mix ns 61) } a b c d e f):=
  lN (row:=C.row) rfl (.inl (by simp[bE,dJ,dW])) (by have:=gq (PG.mix ns 61);omega)
 refine⟨((bE ns m { C with row:=C.row++lwh (PG.mix ns 61) } a b c d e f).set 3 (some (.sh (.lst (C.nodes.map fun d=>.lst [.str d.s,.int d.a,.int d.b,.int d.c]))))).set 2 (some (.sh (.lst ((C.row++lwh (PG.mix ns 61)).map .int)))),?_⟩
 unfold mK;rw[aY e3];unfold qr lC
 have z1:nY 3 (bE ns m { C with row:=C.row++lwh (PG.mix ns 61) } a b c d e f)=(bE ns m { C with row:=C.row++lwh (PG.mix ns 61) } a b c d e f).set 3 (some (.sh (.lst (C.nodes.map fun d=>.lst [.str d.s,.int d.a,.int d.b,.int d.c])))):=by
  simp[nY,bE,lz,pvO,zP]
 have z2:nY 2 ((bE ns m { C with row:=C.row++lwh (PG.mix ns 61) } a b c d e f).set 3 (some (.sh (.lst (C.nodes.map fun d=>.lst [.str d.s,.int d.a,.int d.b,.int d.c])))))=((bE ns m { C with row:=C.row++lwh (PG.mix ns 61) } a b c d e f).set 3 (some (.sh (.lst (C.nodes.map fun d=>.lst [.str d.s,.int d.a,.int d.b,.int d.c]))))).set 2 (some (.sh (.lst ((C.row++lwh (PG.mix ns 61)).map .int)))):=by
  have:=Al (C.row++lwh (PG.mix ns 61));unfold nY bE eB;simp only[List.set_cons_succ,List.set_cons_zero,List.getElem?_cons_succ,List.getElem?_cons_zero,pvO,this,Option.map_some]
 rw[z1,z2]
 have hel:dh mE [] (C.nodes.map fun d=>.lst [.str d.s,.int d.a,.int d.b,.int d.c])=.ok (C.nodes.map ndP):=
  jK _ fun d _=>by simp[mE,mJ,ndP]
 simp[bE,hel,dk];exact dj (by omega)
theorem GR(ns:List Int)(m:Nat)(hm:m<=20):gJ [.lst (ns.map .int),.int m]=.ok (.sh (.tup [.lst ((qJ ns m).row.map .int),.lst ((qJ ns m).nodes.map ndP),(qJ ns m).val])):=by
 have hok:=AA ns m 0 bd0 yr;rw[Nat.zero_add]at hok;obtain⟨a,b,c,d,e,f,e2⟩:=Dl ns m hm;have hdep:=hok.dep;have hcok:=A1 (bld ns bd0 0 m).frs.length _ m hok;have hcr:=hcok.row;have hcn:=hcok.nodes
 have e1:pW [some (.sh (.lst (ns.map .int))),some (.sh (.int m)),none,none,none,none,none,none,none,none,none,none]=mI (bE ns m bd0 none none none none none none):=by
  unfold pW;rw[aY (ρ':=[some (.sh (.lst (ns.map .int))),some (.sh (.int m)),some (.tr false (eB [])),none,none,none,none,none,none,none,none,none]) (by simp[j6,mD,eB])];unfold qF;rw[aY (ρ':=[some (.sh (.lst (ns.map .int))),some (.sh (.int m)),some (.tr false (eB [])),some (.tr false (lz [])),none,none,none,none,none,none,none,none]) (by simp[j6,mD,lz])];unfold qA;rw[aY (ρ':=[some (.sh (.lst (ns.map .int))),some (.sh (.int m)),some (.tr false (eB [])),some (.tr false (lz [])),some (.tr false (kh [])),none,none,none,none,none,none,none]) (by simp[j6,mD,kh])];unfold qw;rw[aY (ρ':=bE ns m bd0 none none none none none none) (by simp[bf,bE,bd0])]
 obtain⟨ρ,e4⟩:=Dk ns m _ (Nat.le_trans hcn (by omega)) (Nat.le_trans hcr (by omega)) a b c d e f
 have hw:∀ F,(bld ns bd0 0 m).frs.length<F->gn iz jU F (bE ns m (bld ns bd0 0 m) a b c d e f)=.nx (bE ns m (cls (bld ns bd0 0 m) (bld ns bd0 0 m).frs.length) a b c d e f):=fun F hF=>ur ns m _ (bld ns bd0 0 m) m a b c d e f F hok (by omega) rfl hF
 unfold gJ fnP;rw[if_pos (show List.length [PV.lst (ns.map .int),.int m]=2 from rfl),show ko 12 [PV.lst (ns.map .int),.int m]=[some (.sh (.lst (ns.map .int))),some (.sh (.int m)),none,none,none,none,none,none,none,none,none,none] from rfl,e1];unfold mI;rw[aY e2]
 have hF:(bld ns bd0 0 m).frs.length<fuel:=by unfold fuel;omega
 unfold qQ;rw[aY (hw fuel hF),e4];rfl
noncomputable def Nd.t(d:Nd):Tr:=⟨d.s,d.a,d.b⟩
noncomputable def kis(fs:List Fr):List (Bool×Nat):=fs.map fun f=>(f.k,f.i)
noncomputable def phs:List Fr->Ph
 |f ::_=>if f.items.isEmpty then .emp else .aft
 |[]=>.aft
noncomputable def PcB(B:Bd):Prop:=Pc B.row (B.nodes.map Nd.t) (kis B.frs) (phs B.frs)
theorem BB(f:Nd->Nd)(hf:∀ d,(f d).t=d.t):∀(l:List Nd) (i:Nat),(l.modify i f).map Nd.t=l.map Nd.t
 |[],i=>by cases i<;>rfl
 |d ::l,0=>by simp[hf]
 |d ::l,i+1=>by simp[BB f hf l i]
theorem DX(f:Nd->Nd)(g:Tr->Tr)(hf:∀ d,(f d).t=g d.t):∀(l:List Nd) (i:Nat),(l.modify i f).map Nd.t=(l.map Nd.t).modify i g
 |[],i=>by cases i<;>rfl
 |d ::l,0=>by simp[hf]
 |d ::l,i+1=>by simp[DX f g hf l i]
theorem BQ(nm:List Int)(v:PV)(fs:List Fr):kis (kF nm v fs)=kis fs /\ phs (kF nm v fs)=.aft:=by
 cases fs with
 |nil=>exact⟨rfl,rfl⟩
 |cons g gs=>exact⟨rfl,by simp[kF,phs]⟩
theorem Mx{ns:List Int}{B:Bd}{n:Int}(h:PcB B)(hne:B.frs≠[]):∃ p,Pc (dr ns B n) ((bZ ns B n).map Nd.t) (kis B.frs) p /\ Vl p (kis B.frs):=by
 unfold PcB at h;unfold dr bZ jI uR
 cases e:B.frs with
 |nil=>exact absurd e hne
 | cons f fs=>
   rw[e]at h
   have nm:∀(row:List Int) (p:Ph),f.k=false->Pc row (B.nodes.map Nd.t) (kis (f ::fs)) p->(p=.nam \/ p=.emp)->Pc (row++PG.txt (lZ ns n)++(lwh (n/19)++58 ::lwh (n/23))) ((B.nodes++[(⟨"name",row.length,(row++PG.txt (lZ ns n)).length,0⟩:Nd)]).map Nd.t) (kis (f ::fs)) .val:=by
    intro row p hk hp hpp
    have h0:kis (f ::fs)=(false,f.i) ::kis fs:=by simp[kis,hk]
    rw[h0]at hp ⊢
    have:=((hp.name hpp (E6 _ (n/17) 0 (vX ns (n/13)).1)).nk (lO (n/19))).colon.nk (lO (n/23))
    simpa [lZ,Nd.t]using this
   simp only[full,inF]
   by_cases hi:f.items.isEmpty=true
   . have hp:phs (f ::fs)=.emp:=by simp[phs,hi]
     rw[hp]at h;have h1:=h.nk (lO (n/3));simp only[hi,Bool.not_true,Bool.false_eq_true,if_false,List.append_nil]
     cases hk:f.k with
     | true=>
       simp only[Bool.not_true,Bool.false_eq_true,if_false]
       exact⟨_,h1,.inr ⟨rfl,f.i,kis fs,by simp[kis,hk]⟩⟩
     | false=>
       simp only[Bool.not_false,if_true]
       exact⟨_,nm _ _ hk h1 (.inr rfl),.inl rfl⟩
   . have hi':f.items.isEmpty=false:=by simpa using hi
     have hp:phs (f ::fs)=.aft:=by simp[phs,hi']
     rw[hp]at h;have h1:=h.nk (lO (n/3));simp only[hi',Bool.not_false,if_true]
     have h0:kis (f ::fs)=(f.k,f.i) ::kis fs:=rfl
     rw[h0]at h1;have h2:=h1.comma.nk (lO (n/11));rw[List.append_assoc,List.append_assoc,List.singleton_append,<- List.append_assoc,<- h0]at h2
     cases hk:f.k with
     | true=>
       rw[hk]at h2;simp only[Bool.not_true,Bool.false_eq_true,if_false]
       exact⟨_,h2,.inl rfl⟩
     | false=>
       rw[hk]at h2;simp only[Bool.not_false,if_true]
       exact⟨_,nm _ _ hk h2 (.inl rfl),.inl rfl⟩
theorem ES{ns:List Int}{n:Int}:Pc (dr ns bd0 n) ((bZ ns bd0 n).map Nd.t) (kis bd0.frs) .val:=by
 have:=Pc.start.nk (lO (n/3))
 simpa [dr,bZ,jI,bd0,inF,full,kis]using this
theorem Ee{ns:List Int}{B:Bd}{n:Int}{p:Ph}(h:Pc (dr ns B n) ((bZ ns B n).map Nd.t) (kis B.frs) p)(hv:Vl p (kis B.frs))(hd:B.frs.length<=60):PcB (B.opn ns n):=by
 have:=h.opn (k:=decide (n/5%2=0)) hv (by simpa [kis]using hd);rw[List.length_map]at this;unfold PcB Bd.opn;rw[List.map_append];simp only[decide_eq_true_eq]at this;exact this
theorem Ck{ns:List Int}{B:Bd}{n:Int}{p:Ph}(h:Pc (dr ns B n) ((bZ ns B n).map Nd.t) (kis B.frs) p)(hv:Vl p (kis B.frs)):PcB (B.leaf ns n):=by
 have:=h.leaf hv (GL ns n);have hk:=BQ (fB ns B n) (lfV ns n) B.frs;unfold PcB Bd.leaf
 simp only
 rw[hk.1,hk.2]
 have e:∀(ds:List Nd) (c:Int),(if inF B.frs=true then ds.modify (ds.length - 2) (fun d=>{ d with c:=ds.length })else ds).map Nd.t=ds.map Nd.t:=fun ds c=>by
  split
  . exact BB (fun d=>{ d with c:=ds.length }) (fun d=>rfl) _ _
  . rfl
 rw[e _ 0,List.map_append]
 have hn:lfK (j9 ns n)=lfN (j9 ns n):=by
  cases j9 ns n with
  |wd w=>cases w<;>rfl
  |tx l=>rfl
  |nm m=>rfl
 rw[hn];exact this
theorem PcB.close{B:Bd}(h:PcB B)(hne:B.frs≠[]):PcB B.close:=by
 unfold PcB at h;unfold PcB Bd.close
 cases e:B.frs with
 |nil=>exact absurd e hne
 | cons f fs=>
   rw[e]at h;have hk:=BQ f.nm (.tup [kS f.k,.tup f.items]) fs
   simp only
   rw[hk.1,hk.2]
   have hp:phs (f ::fs)=.emp \/ phs (f ::fs)=.aft:=by
    cases hi:f.items.isEmpty with
    |true=>exact .inl (by simp only[phs,hi,if_true])
    |false=>exact .inr (by simp only[phs,hi,Bool.false_eq_true,if_false])
   have:=Pc.close (k:=f.k) (i:=f.i) (K:=kis fs) h hp
   have e2:∀(ds:List Nd) (i:Nat) (c:Int),(if inF fs=true then ds.modify i (fun d=>{ d with c:=c })else ds).map Nd.t=ds.map Nd.t:=fun ds i c=>by
    split
    . exact BB (fun d=>{ d with c:=c }) (fun d=>rfl) _ _
    . rfl
   rw[e2,DX (fun d=>{ d with b:=B.row.length+1,c:=B.nodes.length }) (fun d=>{ d with b:=B.row.length+1 }) (fun d=>rfl)];exact this
theorem PcB.step{ns:List Int}{B:Bd}{k:Nat}(h:PcB B)(hd:B.frs.length<=60)(h0:k≠0):PcB (B.step ns k):=by
 unfold Bd.step;split
 . rename_i hc
   have hne:B.frs≠[]:=by intro z;rw[z]at hc;simp at hc
   exact PcB.close (B:={ B with row:=B.row++lwh (PG.mix ns k/3) }) (Pc.nk h (lO _)) hne
 . split
   . rename_i hc
     have hne:B.frs≠[]:=by
      intro z;rw[z]at hc;simp at hc;exact h0 hc
     obtain⟨p,h1,h2⟩:=Mx (ns:=ns) (n:=PG.mix ns k) h hne;split
     . exact Ee h1 h2 hd
     . exact Ck h1 h2
   . exact h
theorem Fq(ns:List Int):PcB (bd0.step ns 0):=by
 unfold Bd.step;rw[if_neg (by simp[bd0]),if_pos (.inr rfl)];split
 . exact Ee ES (.inl rfl) (by simp[bd0])
 . exact Ck ES (.inl rfl)
theorem FL(ns:List Int):∀(j i:Nat) (B:Bd),PcB B->Bok B i->i≠0->i+j<=50->PcB (bld ns B i j)
 |0,_,_,h,_,_,_=>h
 |j+1,i,B,h,hk,h0,hj=>FL ns j (i+1) _ (h.step (by have:=hk.dep;omega) h0) (hk.step ns) (by omega) (by omega)
theorem D2:∀(j:Nat) (B:Bd),PcB B->B.frs.length=j->PcB (cls B j) /\ (cls B j).frs=[]
 |0,B,h,hj=>⟨h,List.length_eq_zero_iff.mp hj⟩
 | j+1,B,h,hj=>by
   have hne:B.frs≠[]:=by intro z;rw[z]at hj;simp at hj
   exact D2 j B.close (h.close hne) (by rw[wU];omega)
theorem Gg(ns:List Int)(m:Nat)(h1:1<=m)(hm:m<=20):Pc (qJ ns m).row ((qJ ns m).nodes.map Nd.t) [] .aft /\ (qJ ns m).row.length<=800*m+3 /\ (qJ ns m).nodes.length<=4*m:=by
 obtain⟨m,rfl⟩:∃ j,m=j+1:=⟨m - 1,by omega⟩
 have hok:=AA ns (m+1) 0 bd0 yr;have h:=FL ns m 1 (bd0.step ns 0) (Fq ns) (yr.step ns) (by omega) (by omega);have hc:=D2 (bld ns bd0 0 (m+1)).frs.length (bld ns bd0 0 (m+1)) h rfl;have hb:=A1 (bld ns bd0 0 (m+1)).frs.length _ _ hok;have hr:=hb.row;have hn:=hb.nodes;have hd:=hok.dep;have hl:=gq (PG.mix ns 61);have hw:=Pc.nk hc.1 (lO (PG.mix ns 61));rw[hc.2]at hw
 refine⟨hw,?_,?_⟩
 . show(_++lwh (PG.mix ns 61):List Int).length<=_
   rw[List.length_append];omega
 . show(cls _ _).nodes.length<=_
   omega
theorem nC(it:PG.It):iK [bt it]=.ok (.sh (.tup ((PG.short it).map .int))):=by
 cases it<;>rfl
theorem As(A B C:Option Sl):∀(st:List PG.It) (ys:List Int) (o:Option Sl),ys.length+4*st.length<=1000000->∃ o',gP 4 va (st.map bt) [A,B,C,some (.tr false (.ol (ys.map fun y=>.sh (.int y)))),o]=.nx [A,B,C,some (.tr false (.ol ((ys++PG.ends st).map fun y=>.sh (.int y)))),o']
 |[],ys,o,_=>⟨o,by simp[PG.ends]⟩
 | it ::st,ys,o,hl=>by
   simp only[List.length_cons]at hl
   have hs:(PG.short it).length<=4:=by cases it<;>simp[PG.short]
   obtain⟨o',ih⟩:=As A B C st (ys++PG.short it) (some (.sh (bt it))) (by simp;omega)
   refine⟨o',?_⟩
   rw[List.map_cons,v7 (ρ':=[A,B,C,some (.tr false (.ol ((ys++PG.short it).map fun y=>.sh (.int y)))),some (.sh (bt it))]) ?_,ih]
   . rw[dI,List.append_assoc]
   . show o7 3 aI (br iK (ak (ao 4) aJ)) [A,B,C,some (.tr false (.ol (ys.map fun y=>.sh (.int y)))),some (.sh (bt it))]=_;rw[ER (ts:=ys.map fun y=>.sh (.int y)) (ys:=(PG.short it).map .int) rfl (by simp[nC]) (by rw[List.length_map,List.length_map];exact dj (by omega))];simp[Function.comp_def]
theorem nc(row:List Int)(hl:8*row.length+20<100000)(hw:(PG.tk st0 row).2=row.length):ka [.lst (row.map .int)]=.ok (.sh (.lst ((PG.ends (PG.tk st0 row).1).map .int))):=by
 have ht:=Eb st0 row (by simp[st0];omega);have hlen:=Gh row st0
 have h3:st0.length=3:=rfl
 have h0:sy "Walk" cb [some (.sh (.lst (row.map .int))),none,none,none,none]=.ok (PG.wk st0):=by unfold sy;rw[DL]
 have h1:hJ 2 (lJ "Walk" "take" eI [.t 1 aI,.e (ao 0)]) [some (.sh (.lst (row.map .int))),some (.tr false (PG.wk st0)),none,none,none]=.nx [some (.sh (.lst (row.map .int))),some (.tr false (PG.wk (PG.tk st0 row).1)),some (.sh (.int (PG.tk st0 row).2)),none,none]:=by
  have ha:kA (.t 1 aI) [some (.sh (.lst (row.map .int))),some (.tr false (PG.wk st0)),none,none,none]=some (.tr true (PG.wk st0)):=by simp[kA,aI]
  have ha2:kA (.e (ao 0)) [some (.sh (.lst (row.map .int))),some (.tr false (PG.wk st0)),none,none,none]=some (.sh (.lst (row.map .int))):=by simp[kA]
  have hr:recv "Walk" "take" (some (.tr true (PG.wk st0)))=true:=by rw[yl];simp[recv,aG]
  unfold hJ;simp only[lJ,ha,hr,if_true,iG,jy,ha2,Option.bind_some,Option.map_some,ht];simp[eZ,jR,aI,nio]
 generalize (PG.tk st0 row).1=st at *
 have hp:cF 1 (pFd 1 aI "coming" ng) [some (.sh (.lst (row.map .int))),some (.tr false (PG.wk st)),some (.sh (.int row.length)),some (.tr false (.ol [])),none]=.ok (.al (cm st)):=by
  unfold cF;rw[uP (s:=.tr false (PG.wk st)) rfl rfl];simp only[tu]
 obtain⟨o',hloop⟩:=As (some (.sh (.lst (row.map .int)))) (some (.tr false (PG.wk st))) (some (.sh (.int row.length))) st [] none (by simp;omega);unfold ka fnP;rw[if_pos (show List.length [PV.lst (row.map .int)]=1 from rfl),show ko 5 [PV.lst (row.map .int)]=[some (.sh (.lst (row.map .int))),none,none,none,none] from rfl];unfold zF;rw[aY (ρ':=[some (.sh (.lst (row.map .int))),some (.tr false (PG.wk st0)),none,none,none]) (by unfold j6;rw[h0];rfl)];unfold vI;rw[aY h1];unfold vh;rw[hw,sk (by simp[az])];unfold wj;rw[aY (ρ':=[some (.sh (.lst (row.map .int))),some (.tr false (PG.wk st)),some (.sh (.int row.length)),some (.tr false (.ol [])),none]) (by simp[j6,mD])];unfold vK
 rw[aY (ρ':=[some (.sh (.lst (row.map .int))),some (.tr false (PG.wk st)),some (.sh (.int row.length)),some (.tr false (.ol ((PG.ends st).map fun y=>.sh (.int y)))),o']) (by
  unfold lX C4;rw[hp]
  have e:(cm st).reverse=st.map bt:=by simp[cm]
  simp only[mX,RV.pv,BF,Ng];simp -implicitDefEqProofs [gi,e,za]
  exact hloop)]
 have hv:pvO (.ol ((PG.ends st).map fun y=>.sh (.int y)))=some (.lst ((PG.ends st).map .int)):=by
  have:=Hy ((PG.ends st).map .int);rw[List.map_map]at this;unfold pvO;exact congrArg (Option.map PV.lst) this
 unfold vZ lC nY
 simp -implicitDefEqProofs only[List.getElem?_cons_succ,List.getElem?_cons_zero,hv]
 rfl
theorem zY(P R:List Int):AD ((P++R).map .int) none (some (P.length:Int))=P.map .int:=by
 have h1:xM ((P++R).map PV.int).length 0 none=0:=rfl
 have h2:xM ((P++R).map PV.int).length ((P++R).map PV.int).length (some (P.length:Int))=P.length:=by
  have:¬ ((P.length:Int)<0):=by omega
  simp[xM,this]
 unfold AD;rw[h1,h2];simp
theorem rF{mc:ag->OT}{me:ag->OE}{ρ:ag}{α:Type}{g h:α->PV}(p:α->Bool):∀ l:List α,(∀ a∈l,mc (ρ++[some (.sh (g a))])=.ok (p a))->(∀ a∈l,me (ρ++[some (.sh (g a))])=.ok (.sh (h a)))->fZ mc me ρ (l.map g)=.ok ((l.filter p).map h)
 |[],_,_=>rfl
 | a ::l,hc,he=>by
   have ih:=rF p l (fun a h=>hc a (List.mem_cons_of_mem _ h)) (fun a h=>he a (List.mem_cons_of_mem _ h));have h1:=hc a List.mem_cons_self;have h2:=he a List.mem_cons_self;rw[List.map_cons];unfold fZ;rw[h1,h2]
   cases hp:p a with
   |false=>simp[hp,ih]
   |true=>simp[hp,ih,m3]
theorem HV{l:List Int}{b:Int}(h:l.getLast?=some b):atP (l.map PV.int) (-1)=some (.int b):=by
 have hne:l≠[]:=by intro z;rw[z]at h;cases h
 have hl:0<l.length:=List.length_pos_iff.mpr hne
 have h1:ixP (l.map PV.int).length (-1)=some (l.length - 1):=by
  unfold ixP;rw[if_neg (by omega),List.length_map,if_pos (by omega)]
  congr 1
  omega
 unfold atP;rw[h1];rw[List.getLast?_eq_getElem?]at h;simp[h]
noncomputable abbrev kE(ns row P:List Int)(V F:Option Sl)(t:Nat)(a6 a7 a8 a9 a10 a11:Option Sl):ag:=[some (.sh (.lst (ns.map .int))),V,some (.sh (.lst (row.map .int))),some (.sh (.int t)),some (.sh (.lst (P.map .int))),F,a6,a7,a8,a9,a10,a11]
noncomputable def hN(t:Nat)(d:Nd):Bool:=decide (d.a<t)&&decide ((t:Int)<d.b)
theorem Nv(d:Nd)(i:Int)(x:PV)(h:atP [.str d.s,.int d.a,.int d.b,.int d.c] i=some x):dw (ndP d) (.int i)=some (.sh x):=by simp[dw,ndP,h]
theorem nd0(d:Nd):dw (ndP d) (.int 0)=some (.sh (.str d.s)):=rfl
theorem nd1(d:Nd):dw (ndP d) (.int 1)=some (.sh (.int d.a)):=rfl
theorem nd2(d:Nd):dw (ndP d) (.int 2)=some (.sh (.int d.b)):=rfl
theorem Co(t:Nat)(d:Nd)(i j:Nat)(ρ:ag)(h1:ρ[i]?=some (some (.sh (ndP d))))(h2:ρ[j]?=some (some (.sh (.int t)))):az (iR gLt gLt (mOp dw (ao i) (mC (.int 1))) (ao j) (mOp dw (ao i) (mC (.int 2)))) ρ=.ok (hN t d):=by
 unfold hN
 by_cases e:d.a<t
 . simp -implicitDefEqProofs [az,iR,h1,h2,nd1,nd2,e]
 . simp -implicitDefEqProofs [az,iR,h1,h2,nd1,nd2,e]
theorem LQ(ns row P:List Int)(V F:Option Sl)(t:Nat)(a9 a10 a11:Option Sl)(d:Nd)(s i:Int):uZ (kE ns row P V F t (some (.sh (.int s))) (some (.sh (.int i))) (some (.sh (ndP d))) a9 a10 a11)=.nx (kE ns row P V F t (some (.sh (.int (s+if hN t d&&isB d.s then 1 else 0)))) (some (.sh (.int (i+if hN t d && !isB d.s then 1 else 0)))) (some (.sh (ndP d))) a9 a10 a11):=by
 have hc:=Co t d 8 3 (kE ns row P V F t (some (.sh (.int s))) (some (.sh (.int i))) (some (.sh (ndP d))) a9 a10 a11) rfl rfl
 have hb:az (mOp gIn (mOp dw (ao 8) (mC (.int 0))) (eU (ak (mC (.str "row")) (ak (mC (.str "fields")) aJ)))) (kE ns row P V F t (some (.sh (.int s))) (some (.sh (.int i))) (some (.sh (ndP d))) a9 a10 a11)=.ok (isB d.s):=by
  have hl:2<=lim:=dj (by omega)
  have e1:decide ("row" = d.s)=decide (d.s = "row"):=decide_eq_decide.mpr eq_comm
  have e2:decide ("fields" = d.s)=decide (d.s = "fields"):=decide_eq_decide.mpr eq_comm
  simp -implicitDefEqProofs [az,nd0,gIn,nO,eT,ky,isB,aG,hl,e1,e2]
 unfold uZ
 cases hh:hN t d with
 | false=>
   rw[hh]at hc;rw[AK hc,p5];simp
 | true=>
   rw[hh]at hc;rw[Fm hc]
   cases hq:isB d.s with
   |true=>rw[hq]at hb;rw[Fm hb];simp[bf]
   |false=>rw[hq]at hb;rw[AK hb];simp[bf]
theorem IY(ns row P:List Int)(V F:Option Sl)(t:Nat)(a9 a10 a11:Option Sl):∀(nds:List Nd) (s i:Int) (o:Option Sl),∃ o',gP 8 uZ (nds.map ndP) (kE ns row P V F t (some (.sh (.int s))) (some (.sh (.int i))) o a9 a10 a11)=.nx (kE ns row P V F t (some (.sh (.int (s+(nds.countP fun d=>hN t d&&isB d.s))))) (some (.sh (.int (i+(nds.countP fun d=>hN t d && !isB d.s))))) o' a9 a10 a11)
 |[],s,i,o=>⟨o,by simp⟩
 | d ::nds,s,i,o=>by
   obtain⟨o',ih⟩:=IY ns row P V F t a9 a10 a11 nds _ _ (some (.sh (ndP d)))
   refine⟨o',?_⟩
   have ex:∀(q:Bool) (s:Int) (c:Nat),s+(if q=true then 1 else 0)+(c:Int)=s+((c+(if q=true then 1 else 0):Nat):Int):=fun q s c=>by cases q<;>simp<;>omega
   rw[List.map_cons,v7 (LQ ns row P V F t a9 a10 a11 d s i),ih,List.countP_cons,List.countP_cons,ex,ex]
noncomputable def tkN(t:Nat)(o:Option Nd)(d:Nd):Option Nd:=if isT d.s=true /\ d.b<=t /\ (match o with|none=>true|some y=>decide (y.b<d.b))=true then some d else o
noncomputable def tV:Option Nd->PV
 |none=>.non
 |some d=>ndP d
theorem L6(ns row P:List Int)(V F:Option Sl)(t:Nat)(a6 a7 a9 a10:Option Sl)(d:Nd)(o:Option Nd):u2 (kE ns row P V F t a6 a7 (some (.sh (ndP d))) a9 a10 (some (.sh (tV o))))=.nx (kE ns row P V F t a6 a7 (some (.sh (ndP d))) a9 a10 (some (.sh (tV (tkN t o d))))):=by
 have hb:az (mOp gIn (mOp dw (ao 8) (mC (.int 0))) (eU (ak (mC (.str "name")) (ak (mC (.str "text")) aJ)))) (kE ns row P V F t a6 a7 (some (.sh (ndP d))) a9 a10 (some (.sh (tV o))))=.ok (isT d.s):=by
  have hl:2<=lim:=dj (by omega)
  have e1:decide ("name" = d.s)=decide (d.s = "name"):=decide_eq_decide.mpr eq_comm
  have e2:decide ("text" = d.s)=decide (d.s = "text"):=decide_eq_decide.mpr eq_comm
  simp -implicitDefEqProofs [az,nd0,gIn,nO,eT,ky,isT,aG,hl,e1,e2]
 have h2:az (mOp gLe (mOp dw (ao 8) (mC (.int 2))) (ao 3)) (kE ns row P V F t a6 a7 (some (.sh (ndP d))) a9 a10 (some (.sh (tV o))))=.ok (decide (d.b<=t)):=by
  simp -implicitDefEqProofs [az,nd2]
 have h3:kW (az (mOp rS (ao 11) (mC .non))) (az (mOp gGt (mOp dw (ao 8) (mC (.int 2))) (mOp dw (ao 11) (mC (.int 2))))) (kE ns row P V F t a6 a7 (some (.sh (ndP d))) a9 a10 (some (.sh (tV o))))=.ok (match o with|none=>true|some y=>decide (y.b<d.b)):=by
  cases o with
  |none=>simp -implicitDefEqProofs [az,rS,cC,tV]
  | some y=>
    have:cC (ndP y)=false:=rfl
    simp -implicitDefEqProofs [az,rS,this,tV,nd2]
 unfold u2 tkN
 cases hq:isT d.s with
 | false=>
   rw[hq]at hb;rw[AK (by unfold cZ;rw[hb];rfl),p5,if_neg (by simp)]
 | true=>
   rw[hq]at hb
   by_cases hx:d.b<=t
   . rw[decide_eq_true hx]at h2
     have hand:∀ b:Bool,kW (az (mOp rS (ao 11) (mC .non))) (az (mOp gGt (mOp dw (ao 8) (mC (.int 2))) (mOp dw (ao 11) (mC (.int 2))))) (kE ns row P V F t a6 a7 (some (.sh (ndP d))) a9 a10 (some (.sh (tV o))))=.ok b->cZ (az (mOp gIn (mOp dw (ao 8) (mC (.int 0))) (eU (ak (mC (.str "name")) (ak (mC (.str "text")) aJ))))) (cZ (az (mOp gLe (mOp dw (ao 8) (mC (.int 2))) (ao 3))) (kW (az (mOp rS (ao 11) (mC .non))) (az (mOp gGt (mOp dw (ao 8) (mC (.int 2))) (mOp dw (ao 11) (mC (.int 2))))))) (kE ns row P V F t a6 a7 (some (.sh (ndP d))) a9 a10 (some (.sh (tV o))))=.ok b:=fun b hh=>by
      unfold cZ;rw[hb,h2,hh];rfl
     cases o with
     |none=>rw[Fm (hand true h3),if_pos ⟨rfl,hx,rfl⟩];simp[bf,tV]
     | some y=>
       by_cases hy:y.b<d.b
       . simp only[decide_eq_true hy]at h3;rw[Fm (hand true h3),if_pos ⟨rfl,hx,decide_eq_true hy⟩];simp[bf,tV]
       . simp only[decide_eq_false hy]at h3;rw[AK (hand false h3),if_neg (fun z=>hy (of_decide_eq_true z.2.2)),p5]
   . rw[decide_eq_false hx]at h2;rw[AK (by unfold cZ;rw[hb,h2];rfl),p5,if_neg (fun z=>hx z.2.1)]
theorem Jb(ns row P:List Int)(V F:Option Sl)(t:Nat)(a6 a7 a9 a10:Option Sl):∀(nds:List Nd) (o:Option Nd) (x:Option Sl),∃ x',gP 8 u2 (nds.map ndP) (kE ns row P V F t a6 a7 x a9 a10 (some (.sh (tV o))))=.nx (kE ns row P V F t a6 a7 x' a9 a10 (some (.sh (tV (nds.foldl (tkN t) o)))))
 |[],o,x=>⟨x,rfl⟩
 | d ::nds,o,x=>by
   obtain⟨x',ih⟩:=Jb ns row P V F t a6 a7 a9 a10 nds (tkN t o d) (some (.sh (ndP d)))
   exact⟨x',by rw[List.map_cons,v7 (L6 ns row P V F t a6 a7 a9 a10 d o),ih];rfl⟩
theorem FT(t:Nat):∀(nds:List Nd) (o:Option Nd),(nds.foldl (tkN t) o).map (fun d=>(d.s,d.b))=(PG.tl (nds.map Nd.t) t).foldl tkS (o.map fun d=>(d.s,d.b))
 |[],o=>rfl
 | d ::nds,o=>by
   have ih:=FT t nds (tkN t o d);rw[List.foldl_cons,ih];unfold PG.tl;rw[List.map_cons,List.filterMap_cons]
   have e1:d.t.s=d.s:=rfl
   have e2:d.t.b=d.b:=rfl
   rw[e1,e2]
   by_cases hc:isT d.s=true /\ d.b<=t
   . rw[show(isT d.s&&decide (d.b<=(t:Int)))=true by simp[hc.1,hc.2]];simp only[if_true,List.foldl_cons]
     congr 1
     unfold tkN tkS
     cases o with
     |none=>rw[if_pos ⟨hc.1,hc.2,rfl⟩];rfl
     | some y=>
       by_cases hy:y.b<d.b
       . rw[if_pos ⟨hc.1,hc.2,decide_eq_true hy⟩];simp[hy]
       . rw[if_neg (fun z=>hy (of_decide_eq_true z.2.2))];simp[hy]
   . have hf:(isT d.s && decide (d.b <= (t:Int))) = false:=by
      cases hq:isT d.s with
      |false=>rfl
      |true=>have:¬ d.b<=t:=fun z=>hc ⟨hq,z⟩;simp[this]
     rw[hf];simp only[Bool.false_eq_true,if_false]
     congr 2
     unfold tkN;rw[if_neg (fun z=>hc ⟨z.1,z.2.1⟩)]
theorem zq(t:Nat):∀(nds:List Nd),(∀ d∈nds,d.b≠0)->PG.hs (nds.map Nd.t) t=(nds.filter (hN t)).map Nd.s
 |[],_=>rfl
 | d ::nds,h=>by
   have ih:=zq t nds fun x hx=>h x (List.mem_cons_of_mem _ hx)
   unfold PG.hs at ih ⊢
   rw[List.map_cons,List.filterMap_cons,ih]
   have h0:¬ d.t.b=0:=h d List.mem_cons_self
   have e:hld t d.t=hN t d:=by
    unfold hld hN;simp[h0];rfl
   rw[e]
   cases hh:hN t d<;>simp[hh,Nd.t]
theorem eql(xs ys:List Int):xP (.lst (xs.map .int)) (.lst (ys.map .int))=some (.sh (.bl (decide (xs=ys)))):=by
 simp[xP,A0]
theorem Hj(ns row P L:List Int)(V:Option Sl)(t:Nat)(a6 a7 a8:Option Sl)(b:Int)(o:Option Nd)(h:Option String)(p:List Int)(hp:CI (some b) (o.map fun d=>(d.s,d.b)) h=some p)(hL:L.head?=h.map clo)(hne:L≠[])(hl:L.length<=1000):
  fin (vP (kE ns row P V (some (.sh (.lst ((p++L).map .int)))) t a6 a7 a8 (some (.sh (.int b))) (some (.ow (L.map .int))) (some (.sh (tV o)))))=.ok (.sh (.bl true)):=by
 generalize hρ:kE ns row P V (some (.sh (.lst ((p++L).map .int)))) t a6 a7 a8 (some (.sh (.int b))) (some (.ow (L.map .int))) (some (.sh (tV o)))=ρ
 have v9:ρ[9]?=some (some (.sh (.int b))):=by rw[<- hρ];rfl
 have v5:ρ[5]?=some (some (.sh (.lst ((p++L).map .int)))):=by rw[<- hρ];rfl
 have v10:ρ[10]?=some (some (.ow (L.map .int))):=by rw[<- hρ];rfl
 have v11:ρ[11]?=some (some (.sh (tV o))):=by rw[<- hρ];rfl
 have t9:∀ x:Int,az (mOp gEq (ao 9) (mC (.int x))) ρ=.ok (decide (b=x)):=fun x=>by simp[az,v9]
 have m5:ao 5 ρ=.ok (.sh (.lst ((p++L).map .int))):=by simp[v5]
 have m10:ao 10 ρ=.ok (.al (L.map .int)):=by simp[v10]
 have rtl:p=[]->aZ (mOp xP (ao 5) (ao 10)) ρ=.rt ρ (.sh (.bl true)):=fun hpp=>by
  unfold aZ mOp;rw[m5,m10];have:=eql (p++L) L;rw[hpp,List.nil_append]at this;simp -implicitDefEqProofs [RV.pv,hpp,this]
 have cat:∀(q:List Int) (ma:ag->OA),q.length<=4->ma ρ=.ok (q.map .int)->p=q->aZ (mOp xP (ao 5) (mOp iN (bS ma) (ao 10))) ρ=.rt ρ (.sh (.bl true)):=fun q ma hq hm hpq=>by
  subst hpq
  have h1:p.length<=lim:=dj (by omega)
  have h2:p.length+L.length<=lim:=dj (by omega)
  have hx:=eql (p++L) (p++L);rw[decide_eq_true rfl,List.map_append]at hx;unfold aZ mOp bS;rw[m5,m10,hm];simp -implicitDefEqProofs [RV.pv,iN,h1,h2,hx]
 unfold CI at hp;simp only[Option.bind_some]at hp;unfold vP
 by_cases h34:b=34
 . rw[if_pos h34]at hp
   cases o with
   |none=>cases hp
   | some d=>
     simp only[Option.map_some,Option.some.injEq]at hp
     have ht:az (mOp gEq (mOp dw (ao 11) (mC (.int 0))) (mC (.str "name"))) ρ=.ok (decide (d.s = "name")):=by
      simp -implicitDefEqProofs [az,v11,tV,nd0,gEq,eqS,aG]
     have hc:∀ z:Bool,decide (d.s = "name")=z->cZ (az (mOp gEq (ao 9) (mC (.int 34)))) (az (mOp gEq (mOp dw (ao 11) (mC (.int 0))) (mC (.str "name")))) ρ=.ok z:=fun z hz=>by
      unfold cZ;rw[t9,decide_eq_true h34,ht,hz];rfl
     by_cases hn:d.s = "name"
     . rw[if_pos hn]at hp;exact kC (st (hc true (decide_eq_true hn)) (cat [58,48] _ (by simp) (by simp) hp.symm))
     . rw[if_neg hn]at hp;rw[sk (hc false (decide_eq_false hn))];unfold vC;rw[sk (by unfold cZ;rw[t9,decide_eq_false (by omega)];rfl)];unfold su;rw[sk (by unfold kW;rw[t9,t9,decide_eq_false (by omega),decide_eq_false (by omega)];rfl)];exact kC (rtl hp.symm)
 . rw[if_neg h34]at hp;rw[sk (by unfold cZ;rw[t9,decide_eq_false h34];rfl)];unfold vC
   by_cases h44:b=44
   . rw[if_pos h44]at hp
     obtain⟨x,L',hx⟩:∃ x L',L=x ::L':=by cases L with|nil=>exact absurd rfl hne|cons x L'=>exact⟨x,L',rfl⟩
     have ht:az (mOp gEq (mOp ou (ao 10) (mC (.int 0))) (mC (.int 125))) ρ=.ok (decide (x=125)):=by
      have h0:L[0]?=some x:=by rw[hx];rfl
      simp -implicitDefEqProofs [az,v10,ou,h0]
     have hc:∀ z:Bool,decide (x=125)=z->cZ (az (mOp gEq (ao 9) (mC (.int 44)))) (az (mOp gEq (mOp ou (ao 10) (mC (.int 0))) (mC (.int 125)))) ρ=.ok z:=fun z hz=>by
      unfold cZ;rw[t9,decide_eq_true h44,ht,hz];rfl
     rw[hx]at hL
     have hxs:x=125↔h=some "fields":=by
      cases h with
      |none=>cases hL
      | some s=>
        simp only[List.head?_cons,Option.map_some,Option.some.injEq]at hL ⊢
        rw[hL];unfold clo
        by_cases hs:s = "fields" <;> simp[hs]
     by_cases h125:x=125
     . rw[if_pos (hxs.mp h125)]at hp;exact kC (st (hc true (decide_eq_true h125)) (cat [34,34,58,48] _ (by simp) (by simp) (Option.some.inj hp).symm))
     . rw[if_neg (fun z=>h125 (hxs.mpr z))]at hp;rw[sk (hc false (decide_eq_false h125))];unfold su;exact kC (st (by unfold kW;rw[t9,decide_eq_true h44];rfl) (cat [48] _ (by simp) (by simp) (Option.some.inj hp).symm))
   . rw[if_neg h44]at hp;rw[sk (by unfold cZ;rw[t9,decide_eq_false h44];rfl)];unfold su
     by_cases h58:b=58
     . rw[if_pos h58]at hp;exact kC (st (by unfold kW;rw[t9,t9,decide_eq_true h58,decide_eq_false h44];rfl) (cat [48] _ (by simp) (by simp) (Option.some.inj hp).symm))
     . rw[if_neg h58]at hp;rw[sk (by unfold kW;rw[t9,t9,decide_eq_false h44,decide_eq_false h58];rfl)];exact kC (rtl (Option.some.inj hp).symm)
theorem F5(ns row P R L:List Int)(nds:List Nd)(val:PV)(V:Option Sl)(hV:V=some (.sh (.tup [.lst (row.map .int),.lst (nds.map ndP),val])))(hr:row=P++R)(hlen:row.length<=9000)(hnl:nds.length<=900)(hb:∀ d∈nds,d.b≠0)(hc:PG.Cut row (nds.map Nd.t) P.length)(he:PG.ends (PG.tk st0 P).1=L)(a6 a7 a8:Option Sl):
  fin (x9 (kE ns row P V (some (.sh (.lst (L.map .int)))) P.length none none none none none none))=.ok (.sh (.bl true)):=by
 have v1:∀(F a6 a7 a8 a9 a10 a11:Option Sl),mOp dw (ao 1) (mC (.int 1)) (kE ns row P V F P.length a6 a7 a8 a9 a10 a11)=.ok (.sh (.lst (nds.map ndP))):=by
  intro F a6 a7 a8 a9 a10 a11;rw[hV];simp[dw,atP,ixP]
 unfold x9;rw[aY (ρ':=kE ns row P V (some (.sh (.lst (L.map .int)))) P.length (some (.sh (.int 0))) none none none none none) (by simp[bf])];unfold BV;rw[aY (ρ':=kE ns row P V (some (.sh (.lst (L.map .int)))) P.length (some (.sh (.int 0))) (some (.sh (.int 0))) none none none none) (by simp[bf])];unfold B2;obtain⟨o',h1⟩:=IY ns row P V (some (.sh (.lst (L.map .int)))) P.length none none none nds 0 0 none;rw[aY (by unfold lX;rw[v1];simp only[ft,Bt];exact h1)];unfold zJ;generalize hS:nds.countP (fun d=>hN P.length d&&isB d.s)=S;generalize hI:nds.countP (fun d=>hN P.length d && !isB d.s)=I
 by_cases hq:0<I \/ S=0
 . refine kC (st ?_ rfl)
   rcases hq with z|z
   . have:(0:Int)<I:=by omega
     simp -implicitDefEqProofs [az,this];omega
   . subst z
     by_cases y:(0:Int)<I<;>simp -implicitDefEqProofs [az,y]
 have hI0:I=0:=by omega
 have hS0:¬ (S:Int)=0:=by omega
 rw[sk (by subst hI0;simp -implicitDefEqProofs [az,hS0];omega)]
 have hall:∀ h∈PG.hs (nds.map Nd.t) P.length,isB h=true:=by
  rw[zq _ _ hb];intro h hh;rw[List.mem_map]at hh;obtain⟨d,hd,rfl⟩:=hh;rw[List.mem_filter]at hd;rw[hI0,List.countP_eq_zero]at hI;have:=hI d hd.1;rw[hd.2]at this
  simpa using this
 have hne:PG.hs (nds.map Nd.t) P.length≠[]:=by
  rw[zq _ _ hb];intro z;rw[List.map_eq_nil_iff,List.filter_eq_nil_iff]at z
  have:S=0:=by
   rw[<- hS,List.countP_eq_zero];intro d hd;simp[z d hd]
  omega
 obtain⟨p,hp,hends⟩:=hc hall hne
 have hP:row.take P.length=P:=by rw[hr];simp
 rw[hP]at hp hends;rw[he]at hends
 obtain⟨b,hbb⟩:∃ b,nwB P=some b:=by
  cases q:nwB P with
  |none=>rw[q]at hp;cases hp
  |some b=>exact⟨b,rfl⟩
 rw[hbb]at hp
 have hPl:P.length<=9000:=by rw[hr]at hlen;simp at hlen;omega
 unfold zO
 have ef:=rF (mc:=uS) (me:=u0) (ρ:=[]) (g:=PV.int) (h:=PV.int) (fun b=>!wht b) P (fun a _=>by
  simp -implicitDefEqProofs [uS,az,tJ,nO,wht,eT,ky]
  grind) (fun a _=>by simp[u0])
 have hlim:(P.filter fun b=>!wht b).length<=lim:=dj (by
  have:=List.length_filter_le (fun b=>!wht b) P
  omega)
 rw[aY (ρ':=kE ns row P V (some (.sh (.lst (L.map .int)))) P.length (some (.sh (.int (0+(S:Int))))) (some (.sh (.int (0+(I:Int))))) o' (some (.sh (.int b))) none none) (by
  have hsl:pb (ao 2) (mC .non) (kb (ao 3)) (kE ns row P V (some (.sh (.lst (L.map .int)))) P.length (some (.sh (.int (0+(S:Int))))) (some (.sh (.int (0+(I:Int))))) o' none none none)=.ok (.fr (P.map .int)):=by
   rw[<- zY P R,hr];simp -implicitDefEqProofs [pb,DV,kb,sX]
  have hcl:ke (pb (ao 2) (mC .non) (kb (ao 3))) [] uS u0 (kE ns row P V (some (.sh (.lst (L.map .int)))) P.length (some (.sh (.int (0+(S:Int))))) (some (.sh (.int (0+(I:Int))))) o' none none none)=.ok (.fr ((P.filter fun b=>!wht b).map .int)):=by
   unfold ke;rw[hsl];simp -implicitDefEqProofs [dk,ef,noX,hlim]
  have hal:=HV (show(P.filter fun b=>!wht b).getLast?=some b from hbb);unfold bf mOp;rw[hcl]
  simp -implicitDefEqProofs [ou,RV.pv,hal])]
 unfold zp
 have eg:=rF (mc:=BD) (me:=u3) (ρ:=[some (.sh (.int P.length))]) (g:=ndP) (h:=fun d=>PV.int (clo d.s)) (hN P.length) nds (fun d _=>Co P.length d 1 0 _ rfl rfl) (fun d _=>by
  by_cases z:d.s = "fields"
  . simp -implicitDefEqProofs [u3,az,nd0,gEq,eqS,aG,z,clo]
  . simp -implicitDefEqProofs [u3,az,nd0,gEq,eqS,aG,z,clo])
 have hfl:(nds.filter (hN P.length)).length<=1000:=by
  have:=List.length_filter_le (hN P.length) nds;omega
 have hlim2:(nds.filter (hN P.length)).length<=lim:=dj (by omega)
 have ehs:(nds.filter (hN P.length)).map (fun d=>PV.int (clo d.s))=((PG.hs (nds.map Nd.t) P.length).map clo).map PV.int:=by
  rw[zq _ _ hb,List.map_map,List.map_map];rfl
 have hhl:(PG.hs (nds.map Nd.t) P.length).length<=1000:=by rw[zq _ _ hb,List.length_map];exact hfl
 rw[aY (ρ':=kE ns row P V (some (.sh (.lst (L.map .int)))) P.length (some (.sh (.int (0+(S:Int))))) (some (.sh (.int (0+(I:Int))))) o' (some (.sh (.int b))) (some (.ow (((PG.hs (nds.map Nd.t) P.length).map clo).map PV.int))) none) (by
  unfold bf ke;rw[v1,<- ehs]
  simp -implicitDefEqProofs [dk,eg,noX,hlim2])]
 unfold zT;generalize PG.hs (nds.map Nd.t) P.length=H at *
 rw[aY (ρ':=kE ns row P V (some (.sh (.lst (L.map .int)))) P.length (some (.sh (.int (0+(S:Int))))) (some (.sh (.int (0+(I:Int))))) o' (some (.sh (.int b))) (some (.ow ((H.reverse.map clo).map PV.int))) none) (by
  simp[rN,List.map_reverse])]
 unfold yT;rw[aY (ρ':=kE ns row P V (some (.sh (.lst (L.map .int)))) P.length (some (.sh (.int (0+(S:Int))))) (some (.sh (.int (0+(I:Int))))) o' (some (.sh (.int b))) (some (.ow ((H.reverse.map clo).map PV.int))) (some (.sh .non))) (by simp[bf])];unfold zI;obtain⟨x',h6⟩:=Jb ns row P V (some (.sh (.lst (L.map .int)))) P.length (some (.sh (.int (0+(S:Int))))) (some (.sh (.int (0+(I:Int))))) (some (.sh (.int b))) (some (.ow ((H.reverse.map clo).map PV.int))) nds none o';rw[aY (by unfold lX;rw[v1];simp only[ft,Bt];exact h6)];have htk:=FT P.length nds none;rw[hends];refine Hj ns row P _ V _ _ _ _ b _ H.getLast? p ?_ ?_ ?_ ?_
 . rw[htk];exact hp
 . rw[List.head?_map,List.head?_reverse]
 . intro z;apply hne;simpa using z
 . simpa using hhl
theorem DO(ns:List Int)(_:ns.length<=63):xy [.lst (ns.map .int)]=.ok (.sh (.bl true)):=by
 obtain⟨m,hm⟩:∃ m:Nat,(m:Int)=1+PG.mix ns 62%9:=⟨(1+PG.mix ns 62%9).toNat,by omega⟩
 have hm1:1<=m:=by omega
 have hm2:m<=9:=by omega
 obtain⟨hpc,hrl,hnl⟩:=Gg ns m hm1 (by omega);have hb:=GR ns m (by omega);generalize (qJ ns m).row=row at *;generalize (qJ ns m).nodes=nds at *;generalize (qJ ns m).val=val at *;have I:=hpc.inv;generalize hV:PV.tup [.lst (row.map .int),.lst (nds.map ndP),val]=V at hb
 obtain⟨t,ht⟩:∃ t:Nat,(t:Int)=PG.mix ns 60%(row.length+1):=⟨(PG.mix ns 60%(row.length+1)).toNat,by
  have:=Int.emod_nonneg (PG.mix ns 60) (show((row.length:Int)+1)≠0 by omega)
  omega⟩
 have htl:t<=row.length:=by
  have:=Int.emod_lt_of_pos (PG.mix ns 60) (show 0<((row.length:Int)+1) by omega);omega
 obtain⟨P,R,hPR,hPl⟩:∃ P R,row=P++R /\ P.length=t:=⟨row.take t,row.drop t,(List.take_append_drop t row).symm,by simp;omega⟩
 obtain⟨ls,hls,hgo⟩:=I.w1 rfl;have hrow:=rE hgo
 have hlo:(PG.tk st0 row).1.all PG.loose=true:=by
  rw[hrow];exact Ew hls rfl
 have hwr:(PG.tk st0 row).2=row.length:=by rw[hrow]
 have hpre:=E1 P R st0 (by rw[<- hPR];exact hwr)
 have her:PG.ends (PG.tk st0 row).1=[]:=by
  have:=n8 (st:=[]) hlo;rw[List.append_nil]at this;rw[this];rfl
 have hel:(PG.ends (PG.tk st0 P).1).length<=R.length:=B8 R _ hpre.2 (by
  have hg:=ym P st0 hpre.1 R;rw[<- hPR]at hg;rw[hg]at hlo
  exact hlo)
 have hlen:P.length+R.length=row.length:=by rw[hPR];simp
 have e1:=nc P (by omega) hpre.1;have e2:=nc row (by omega) hwr;rw[her]at e2;have hfl:=D6 hpre.1;generalize hL:PG.ends (PG.tk st0 P).1=L at *;have e3:=u6 (P++L) (by simp;omega);rw[hfl]at e3;have e4:=kP L (by omega);unfold xy fnP;rw[if_pos (show List.length [PV.lst (ns.map .int)]=1 from rfl),show ko 12 [PV.lst (ns.map .int)]=[some (.sh (.lst (ns.map .int))),none,none,none,none,none,none,none,none,none,none,none] from rfl];unfold IJ
 rw[aY (ρ':=[some (.sh (.lst (ns.map .int))),some (.sh V),none,none,none,none,none,none,none,none,none,none]) (by
  rw[hm]at hb
  simp[bf,dJ,hb])]
 unfold BW
 rw[aY (ρ':=[some (.sh (.lst (ns.map .int))),some (.sh V),some (.sh (.lst (row.map .int))),none,none,none,none,none,none,none,none,none]) (by
  rw[<- hV];simp[bf,dw,atP,ixP])]
 unfold B5
 rw[aY (ρ':=[some (.sh (.lst (ns.map .int))),some (.sh V),some (.sh (.lst (row.map .int))),some (.sh (.int t)),none,none,none,none,none,none,none,none]) (by
  have z1:¬ ((row.length:Int)+1=0):=by omega
  have z2:0<(row.length:Int)+1:=by omega
  have z3:(row.length:Int)+1<1073741824:=by omega
  rw[ht]
  simp[bf,dJ,z1,z2,z3])]
 have hsl:∀(a4 a5 a6 a7 a8 a9 a10 a11:Option Sl),pb (ao 2) (mC .non) (kb (ao 3)) [some (.sh (.lst (ns.map .int))),some (.sh V),some (.sh (.lst (row.map .int))),some (.sh (.int t)),a4,a5,a6,a7,a8,a9,a10,a11]=.ok (.fr (P.map .int)):=by
  intro a4 a5 a6 a7 a8 a9 a10 a11;rw[<- zY P R,hPR,hPl];simp -implicitDefEqProofs [pb,DV,kb,sX]
 unfold Cn
 rw[aY (ρ':=[some (.sh (.lst (ns.map .int))),some (.sh V),some (.sh (.lst (row.map .int))),some (.sh (.int t)),some (.ow (P.map .int)),none,none,none,none,none,none,none]) (by
  unfold bf;rw[hsl];simp)]
 unfold Ce
 rw[aY (ρ':=kE ns row P (some (.sh V)) (some (.sh (.lst (L.map .int)))) t none none none none none none) (by
  simp[gu,kL,bf,e1])]
 unfold CB
 rw[aY (ρ':=kE ns row P (some (.sh V)) (some (.sh (.lst (L.map .int)))) t none none none none none none) (by
  unfold gu;rw[show kL 5 (kE ns row P (some (.sh V)) (some (.sh (.lst (L.map .int)))) t none none none none none none)=kE ns row P (some (.sh V)) (some (.sh (.lst (L.map .int)))) t none none none none none none from rfl]
  refine(AK ?_).trans (p5 _)
  have c1:Cb (dM (br eX (ak (ao 5) aJ))) (kE ns row P (some (.sh V)) (some (.sh (.lst (L.map .int)))) t none none none none none none)=.ok false:=by
   simp -implicitDefEqProofs [dM,e4,tT]
  have c2:az (mOp CL (ao 4) (pb (ao 2) (mC .non) (kb (ao 3)))) (kE ns row P (some (.sh V)) (some (.sh (.lst (L.map .int)))) t none none none none none none)=.ok false:=by
   unfold az mOp;rw[hsl];simp -implicitDefEqProofs [CL,A0]
  have c3:az (mOp vW (br kU (ak (mOp iN (pb (ao 2) (mC .non) (kb (ao 3))) (ao 5)) aJ)) (mC .non)) (kE ns row P (some (.sh V)) (some (.sh (.lst (L.map .int)))) t none none none none none none)=.ok false:=by
   have hlim:P.length+L.length<=lim:=dj (by omega)
   have ec:mOp iN (pb (ao 2) (mC .non) (kb (ao 3))) (ao 5) (kE ns row P (some (.sh V)) (some (.sh (.lst (L.map .int)))) t none none none none none none)=.ok (.fr ((P++L).map .int)):=by
    unfold mOp;rw[hsl];simp -implicitDefEqProofs [iN,hlim]
   revert ec;generalize mOp iN (pb (ao 2) (mC .non) (kb (ao 3))) (ao 5)=E;intro ec
   have em:br kU (ak E aJ) (kE ns row P (some (.sh V)) (some (.sh (.lst (L.map .int)))) t none none none none none none)=.ok (.sh .non):=by
    unfold br ak aJ;rw[ec];exact e3
   unfold az mOp;rw[em];rfl
  unfold kW;rw[c1,c2,c3]
  rfl)]
 unfold BR
 rw[sk (by
  have hl0:0<=lim:=dj (by omega)
  have:=e2;simp -implicitDefEqProofs [az,this,CL,A0]
  rfl)]
 rw[<- hPl];exact F5 ns row P R L nds val _ (by rw[<- hV]) hPR (by omega) (by omega) (fun d hd=>I.op d.t (List.mem_map_of_mem hd)) (I.le P.length (by omega)) hL none none none
end L2.plainglass_k09_endings
namespace L2.plainglass_k09_endings
open PySem PySem.Spec PyProof.Rows L2.E L2.P PG
def top(i:Nat):Stmt:=PySem.Challenge.pw_plainglass_k09_endings.main.body.getD i (.Pass ⟨0,0,0,0⟩)
abbrev xE:Stmt:=top 6
abbrev vy:List Str:=["byte"]
theorem D7:aW ["byte"] vy (aC xE):=eK
abbrev i4:Stmt:=top 7
abbrev iS:List Str:=["byte"]
theorem rA:aW ["byte"] iS (aC i4):=eK
abbrev jP:Stmt:=top 8
abbrev jk:List Str:=["byte"]
theorem sI:aW ["byte"] jk (aC jP):=eK
abbrev q8:Stmt:=top 30
abbrev pQ:List Str:=["byte"]
theorem y9:aW ["byte"] pQ (aC q8):=eK
abbrev oZ:Stmt:=top 31
abbrev oj:List Str:=["byte"]
theorem yB:aW ["byte"] oj (aC oZ):=eK
abbrev oR:Stmt:=top 32
abbrev nA:List Str:=["byte"]
theorem x4:aW ["byte"] nA (aC oR):=eK
abbrev pL:Stmt:=top 33
abbrev nW:List Str:=["byte"]
theorem yk:aW ["byte"] nW (aC pL):=eK
abbrev lx:Stmt:=top 34
abbrev kD:List Str:=["byte"]
theorem uK:aW ["byte"] kD (aC lx):=eK
abbrev vE:Stmt:=top 40
abbrev tZ:List Str:=["item","byte"]
theorem CO:aW ["item","byte"] tZ (aC vE):=eK
abbrev lH:Stmt:=top 41
abbrev kr:List Str:=["byte"]
theorem oH:aW ["byte","rest"] kr (aC lH):=eK
abbrev mS:Stmt:=top 42
abbrev lp:List Str:=["byte"]
theorem vN:aW ["byte"] lp (aC mS):=eK
abbrev iM:Stmt:=top 43
abbrev ig:List Str:=["item","byte"]
theorem qg:aW ["item","byte"] ig (aC iM):=eK
abbrev jM:Stmt:=top 44
abbrev i9:List Str:=["item","byte"]
theorem mB:aW ["item","byte","worth"] i9 (aC jM):=eK
abbrev iJ:Stmt:=top 45
abbrev ie:List Str:=["byte"]
theorem kK:aW ["byte","spans"] ie (aC iJ):=eK
abbrev iF:Stmt:=top 46
abbrev ic:List Str:=["byte"]
theorem qj:aW ["byte"] ic (aC iF):=eK
abbrev kG:Stmt:=top 47
abbrev jG:List Str:=["worth"]
theorem m7:aW ["worth","second"] jG (aC kG):=eK
abbrev nK:Stmt:=top 48
abbrev mV:List Str:=["item","byte"]
theorem qE:aW ["item","byte","worth"] mV (aC nK):=eK
abbrev gF:Stmt:=top 49
abbrev gk:List Str:=["item","byte"]
theorem oN:aW ["item","byte"] gk (aC gF):=eK
abbrev iI:Stmt:=top 50
abbrev ib:List Str:=["byte"]
theorem kH:aW ["byte","items"] ib (aC iI):=eK
abbrev gj:Stmt:=top 51
abbrev fL:List Str:=["byte"]
theorem nj:aW ["byte"] fL (aC gj):=eK
abbrev mG:Stmt:=top 52
abbrev lq:List Str:=[]
theorem u9:aW [] lq (aC mG):=eK
abbrev vL:Stmt:=top 55
abbrev tL:List Str:=["row"]
theorem nh:aW ["row","walk","at","rest","item"] tL (aC vL):=eK
abbrev rf:Stmt:=top 56
abbrev pN:List Str:=["item"]
theorem zU:aW ["item"] pN (aC rf):=eK
abbrev yb:Stmt:=top 58
abbrev vT:List Str:=["row"]
theorem wu:aW ["row","walk","at"] vT (aC yb):=eK
abbrev rq:Stmt:=top 60
abbrev o6:List Str:=["_law_script","_law_k"]
theorem Ao:aW ["_law_script","_law_k"] o6 (aC rq):=eK
abbrev tq:Stmt:=top 61
abbrev rL:List Str:=["_law_script","_law_k"]
theorem rm:aW ["_law_script","_law_k","_law_number_here"] rL (aC tq):=eK
abbrev pw:Stmt:=top 62
abbrev oy:List Str:=["_law_found"]
theorem xX:aW ["_law_found"] oy (aC pw):=eK
abbrev og:Stmt:=top 63
abbrev mH:List Str:=["_law_found"]
theorem wy:aW ["_law_found"] mH (aC og):=eK
abbrev pA:Stmt:=top 64
abbrev oa:List Str:=["_law_number_here"]
theorem ny:aW ["_law_number_here","_law_kind","_law_rest"] oa (aC pA):=eK
abbrev nu:Stmt:=top 65
abbrev mP:List Str:=["_law_script","_law_k"]
theorem jZ:aW ["_law_script","_law_k","_law_number_here","_law_size_here"] mP (aC nu):=eK
abbrev pJ:Stmt:=top 66
abbrev nF:List Str:=["_law_point_here"]
theorem gZ:aW ["_law_point_here","_law_many_here","_law_found","_law_k"] nF (aC pJ):=eK
abbrev tW:Stmt:=top 67
abbrev rb:List Str:=["_law_number_here","_law_big"]
theorem iT:aW ["_law_number_here","_law_big","_law_found","_law_k","_law_worth"] rb (aC tW):=eK
abbrev rH:Stmt:=top 68
abbrev oV:List Str:=["_law_point_here","_law_number_here"]
theorem lS:aW ["_law_point_here","_law_number_here","_law_short","_law_way","_law_rest"] oV (aC rH):=eK
abbrev rG:Stmt:=top 69
abbrev pE:List Str:=["_law_points_here","_law_number_here"]
theorem iY:aW ["_law_points_here","_law_number_here","_law_found","_law_at","_law_point_here"] pE (aC rG):=eK
abbrev nI:Stmt:=top 70
abbrev mU:List Str:=["_law_number_here"]
theorem bD:aW ["_law_number_here","_law_below","_law_figures_here","_law_row","_law_worth","_law_figure","_law_power","_law_more","_law_down"] mU (aC nI):=eK
abbrev pY:Stmt:=top 71
abbrev nZ:List Str:=["_law_worth","_law_power"]
theorem oz:aW ["_law_worth","_law_power"] nZ (aC pY):=eK
abbrev o8:Stmt:=top 72
abbrev oi:List Str:=["_law_number_here"]
theorem xW:aW ["_law_number_here"] oi (aC o8):=eK
abbrev je:Stmt:=top 73
abbrev iO:List Str:=["_law_script","_law_number_here"]
theorem fS:aW ["_law_script","_law_number_here","_law_kind","_law_points_here","_law_found"] iO (aC je):=eK
abbrev rp:Stmt:=top 74
abbrev pK:List Str:=["_law_script","_law_number_here"]
theorem Af:aW ["_law_script","_law_number_here"] pK (aC rp):=eK
abbrev o5:Stmt:=top 75
abbrev nU:List Str:=["_law_row","_law_nodes_here","_law_frames"]
theorem om:aW ["_law_row","_law_nodes_here","_law_frames","_law_frame","_law_value_here"] nU (aC o5):=eK
abbrev pD:Stmt:=top 76
abbrev nR:List Str:=["_law_script","_law_row","_law_nodes_here","_law_frames","_law_number_here"]
theorem i7:aW ["_law_script","_law_row","_law_nodes_here","_law_frames","_law_number_here","_law_name_here","_law_points_here","_law_at"] nR (aC pD):=eK
abbrev pX:Stmt:=top 77
abbrev n5:List Str:=["_law_script","_law_many_here"]
theorem cu:aW ["_law_script","_law_many_here","_law_row","_law_nodes_here","_law_frames","_law_value_here","_law_k","_law_number_here","_law_name_here","_law_at","_law_kind","_law_found"] n5 (aC pX):=eK
abbrev zd:Stmt:=top 78
abbrev Be:List Str:=["_law_script"]
theorem ia:aW ["_law_script","_law_built_here","_law_row","_law_at","_law_handed","_law_found","_law_still","_law_inside","_law_node","_law_last","_law_tail","_law_token"] Be (aC zd):=eK
abbrev eh:Stmt:=inClass (top 39) 0
abbrev jH:List Str:=["self"]
theorem ua:aW ["self"] jH (aC eh):=eK
abbrev gB:Stmt:=inClass (top 39) 1
abbrev ox:List Str:=["self","row"]
theorem nQ:aW ["self","row","at","byte"] ox (aC gB):=eK
abbrev eO:Stmt:=inClass (top 39) 2
abbrev km:List Str:=["self","byte"]
theorem kq:aW ["self","byte","item","items"] km (aC eO):=eK
abbrev eA:Stmt:=inClass (top 39) 3
abbrev jC:List Str:=["self"]
theorem tF:aW ["self"] jC (aC eA):=eK
abbrev ez:Stmt:=inClass (top 39) 5
abbrev jL:List Str:=["self"]
theorem tG:aW ["self"] jL (aC ez):=eK
set_option genInjectivity false in
set_option genSizeOf false in
structure Adr where
 jw:Addr
 d_tails:FuncData
 cR:Addr
 d_second_of_three:FuncData
 dm:Addr
 d_second_of_four:FuncData
 iE:Addr
 d_is_white:FuncData
 eV:Addr
 d_is_figure:FuncData
 fK:Addr
 d_hex_worth:FuncData
 fi:Addr
 d_word_rest:FuncData
 bM:Addr
 d_short_escape:FuncData
 j7:Addr
 d_behind:FuncData
 bL:Addr
 d_behind_value:FuncData
 dP:Addr
 d_behind_lead:FuncData
 aX:Addr
 d_behind_in_number:FuncData
 bI:Addr
 d_behind_in_text:FuncData
 bW:Addr
 d_behind_character:FuncData
 cA:Addr
 d_behind_backslash:FuncData
 dC:Addr
 d_behind_code_d:FuncData
 du:Addr
 d_behind_hex:FuncData
 bb:Addr
 d_behind_in_brackets:FuncData
 b4:Addr
 d_behind_row_begin:FuncData
 bY:Addr
 d_behind_fields_begin:FuncData
 eG:Addr
 d_member_rest:FuncData
 ka:Addr
 d_ending:FuncData
 iK:Addr
 d_shortest:FuncData
 kU:Addr
 d_fault:FuncData
 iH:Addr
 d_law_cell:FuncData
 eJ:Addr
 d_law_mix:FuncData
 gM:Addr
 d_law_whole:FuncData
 eX:Addr
 d_law_wholes:FuncData
 dB:Addr
 d_law_point:FuncData
 eC:Addr
 d_law_points:FuncData
 eH:Addr
 d_law_eight:FuncData
 gR:Addr
 d_law_hex:FuncData
 iQ:Addr
 d_law_sign:FuncData
 fR:Addr
 d_law_text:FuncData
 fV:Addr
 d_law_number:FuncData
 fg:Addr
 d_law_plain:FuncData
 cy:Addr
 d_law_white:FuncData
 cp:Addr
 d_law_plain_value:FuncData
 gz:Addr
 d_law_name:FuncData
 cS:Addr
 d_law_close:FuncData
 fH:Addr
 d_law_begin:FuncData
 gJ:Addr
 d_law_built:FuncData
 xy:Addr
 d_law:FuncData
 cb:Addr
 d_Walk___init__:FuncData
 eI:Addr
 d_Walk_take:FuncData
 dX:Addr
 d_Walk_goes_on:FuncData
 cD:Addr
 d_Walk_brackets:FuncData
 cY:Addr
 d_Walk_is_whole:FuncData
 C_Walk:Addr
 v_TAIL:Addr
 v_BLANK:Value
 v_QUOTE:Value
 v_PLUS:Value
 v_COMMA:Value
 v_MINUS:Value
 v_POINT:Value
 v_NOUGHT:Value
 v_NINE:Value
 v_COLON:Value
 v_BIG_E:Value
 v_ROW_BEGIN:Value
 v_BACKSLASH:Value
 v_ROW_END:Value
 v_SMALL_E:Value
 v_SMALL_U:Value
 v_FIELDS_BEGIN:Value
 v_FIELDS_END:Value
 v_WHITE:Addr
 v_WORDS:Addr
 v_SHORT_ESCAPES:Addr
 v_MOST_BRACKETS:Value
 v_LOOSE:Addr
 v_UNENDED:Addr
 v_SHORTEST:Addr
structure Txt(w:World)(K:PySem.W.Frag)(mg:Str->Option Value)(t:Adr):Prop where
 e_tails:Ent K mg "tails" xE t.jw t.d_tails vy
 e_second_of_three:Ent K mg "second_of_three" i4 t.cR t.d_second_of_three iS
 e_second_of_four:Ent K mg "second_of_four" jP t.dm t.d_second_of_four jk
 nT:Ent K mg "is_white" q8 t.iE t.d_is_white pQ
 fI:Ent K mg "is_figure" oZ t.eV t.d_is_figure oj
 iV:Ent K mg "hex_worth" oR t.fK t.d_hex_worth nA
 e_word_rest:Ent K mg "word_rest" pL t.fi t.d_word_rest nW
 i0:Ent K mg "short_escape" lx t.bM t.d_short_escape kD
 rR:Ent K mg "behind" vE t.j7 t.d_behind tZ
 fD:Ent K mg "behind_value" lH t.bL t.d_behind_value kr
 gd:Ent K mg "behind_lead" mS t.dP t.d_behind_lead lp
 e_behind_in_number:Ent K mg "behind_in_number" iM t.aX t.d_behind_in_number ig
 e_behind_in_text:Ent K mg "behind_in_text" jM t.bI t.d_behind_in_text i9
 fM:Ent K mg "behind_character" iJ t.bW t.d_behind_character ie
 fX:Ent K mg "behind_backslash" iF t.cA t.d_behind_backslash ic
 iD:Ent K mg "behind_code_d" kG t.dC t.d_behind_code_d jG
 e_behind_hex:Ent K mg "behind_hex" nK t.du t.d_behind_hex mV
 e_behind_in_brackets:Ent K mg "behind_in_brackets" gF t.bb t.d_behind_in_brackets gk
 fQ:Ent K mg "behind_row_begin" iI t.b4 t.d_behind_row_begin ib
 eQ:Ent K mg "behind_fields_begin" gj t.bY t.d_behind_fields_begin fL
 dq:Ent K mg "member_rest" mG t.eG t.d_member_rest lq
 nc:Ent K mg "ending" vL t.ka t.d_ending tL
 nC:Ent K mg "shortest" rf t.iK t.d_shortest pN
 u6:Ent K mg "fault" yb t.kU t.d_fault vT
 nB:Ent K mg "_law_cell" rq t.iH t.d_law_cell o6
 dJ:Ent K mg "_law_mix" tq t.eJ t.d_law_mix rL
 mm:Ent K mg "_law_whole" pw t.gM t.d_law_whole oy
 kP:Ent K mg "_law_wholes" og t.eX t.d_law_wholes mH
 mv:Ent K mg "_law_point" pA t.dB t.d_law_point oa
 gT:Ent K mg "_law_points" nu t.eC t.d_law_points mP
 lU:Ent K mg "_law_eight" pJ t.eH t.d_law_eight nF
 jJ:Ent K mg "_law_hex" tW t.gR t.d_law_hex rb
 nv:Ent K mg "_law_sign" rH t.iQ t.d_law_sign oV
 jA:Ent K mg "_law_text" rG t.fR t.d_law_text pE
 kQ:Ent K mg "_law_number" nI t.fV t.d_law_number mU
 e_law_plain:Ent K mg "_law_plain" pY t.fg t.d_law_plain nZ
 dW:Ent K mg "_law_white" o8 t.cy t.d_law_white oi
 e_law_plain_value:Ent K mg "_law_plain_value" je t.cp t.d_law_plain_value iO
 oq:Ent K mg "_law_name" rp t.gz t.d_law_name pK
 e_law_close:Ent K mg "_law_close" o5 t.cS t.d_law_close nU
 e_law_begin:Ent K mg "_law_begin" pD t.fH t.d_law_begin nR
 e_law_built:Ent K mg "_law_built" pX t.gJ t.d_law_built n5
 DO:Ent K mg "law" zd t.xy t.d_law Be
 F_Walk___init__:Fun K "__init__" "Walk.__init__" eh t.cb t.d_Walk___init__
 b_Walk___init__:Binds K t.d_Walk___init__ jH []
 F_Walk_take:Fun K "take" "Walk.take" gB t.eI t.d_Walk_take
 h_Walk_take:Meth K t.C_Walk "take" t.eI
 b_Walk_take:Binds K t.d_Walk_take ox []
 F_Walk_goes_on:Fun K "goes_on" "Walk.goes_on" eO t.dX t.d_Walk_goes_on
 h_Walk_goes_on:Meth K t.C_Walk "goes_on" t.dX
 b_Walk_goes_on:Binds K t.d_Walk_goes_on km []
 F_Walk_brackets:Fun K "brackets" "Walk.brackets" eA t.cD t.d_Walk_brackets
 h_Walk_brackets:Meth K t.C_Walk "brackets" t.cD
 b_Walk_brackets:Binds K t.d_Walk_brackets jC []
 F_Walk_is_whole:Fun K "is_whole" "Walk.is_whole" ez t.cY t.d_Walk_is_whole
 h_Walk_is_whole:Meth K t.C_Walk "is_whole" t.cY
 b_Walk_is_whole:Binds K t.d_Walk_is_whole jL []
 n_isinstance:mg "isinstance" = none
 n_tuple:mg "tuple" = none
 n_len:mg "len" = none
 n_int:mg "int" = none
 n_bool:mg "bool" = none
 n_list:mg "list" = none
 n_all:mg "all" = none
 n_range:mg "range" = none
 n_str:mg "str" = none
 n_ord:mg "ord" = none
 n_enumerate:mg "enumerate" = none
 m_Walk:mg "Walk" = some (.ref t.C_Walk)
 c_Walk:Cls K t.C_Walk
 k_Walk:Mk K t.C_Walk t.cb
 na_Walk_coming:mR K t.C_Walk "coming"
 m_TAIL:mg "TAIL" = some (.ref t.v_TAIL)
 r_TAIL:RelV (.ref t.v_TAIL) (.ref t.v_TAIL)
 q_TAIL:∀ H,SqT K H t.v_TAIL [.int 128,.int 191]
 m_BLANK:mg "BLANK" = some t.v_BLANK
 r_BLANK:RelV (.int 32) t.v_BLANK
 m_QUOTE:mg "QUOTE" = some t.v_QUOTE
 r_QUOTE:RelV (.int 34) t.v_QUOTE
 m_PLUS:mg "PLUS" = some t.v_PLUS
 r_PLUS:RelV (.int 43) t.v_PLUS
 m_COMMA:mg "COMMA" = some t.v_COMMA
 r_COMMA:RelV (.int 44) t.v_COMMA
 m_MINUS:mg "MINUS" = some t.v_MINUS
 r_MINUS:RelV (.int 45) t.v_MINUS
 m_POINT:mg "POINT" = some t.v_POINT
 r_POINT:RelV (.int 46) t.v_POINT
 m_NOUGHT:mg "NOUGHT" = some t.v_NOUGHT
 r_NOUGHT:RelV (.int 48) t.v_NOUGHT
 m_NINE:mg "NINE" = some t.v_NINE
 r_NINE:RelV (.int 57) t.v_NINE
 m_COLON:mg "COLON" = some t.v_COLON
 r_COLON:RelV (.int 58) t.v_COLON
 m_BIG_E:mg "BIG_E" = some t.v_BIG_E
 r_BIG_E:RelV (.int 69) t.v_BIG_E
 m_ROW_BEGIN:mg "ROW_BEGIN" = some t.v_ROW_BEGIN
 r_ROW_BEGIN:RelV (.int 91) t.v_ROW_BEGIN
 m_BACKSLASH:mg "BACKSLASH" = some t.v_BACKSLASH
 r_BACKSLASH:RelV (.int 92) t.v_BACKSLASH
 m_ROW_END:mg "ROW_END" = some t.v_ROW_END
 r_ROW_END:RelV (.int 93) t.v_ROW_END
 m_SMALL_E:mg "SMALL_E" = some t.v_SMALL_E
 r_SMALL_E:RelV (.int 101) t.v_SMALL_E
 m_SMALL_U:mg "SMALL_U" = some t.v_SMALL_U
 r_SMALL_U:RelV (.int 117) t.v_SMALL_U
 m_FIELDS_BEGIN:mg "FIELDS_BEGIN" = some t.v_FIELDS_BEGIN
 r_FIELDS_BEGIN:RelV (.int 123) t.v_FIELDS_BEGIN
 m_FIELDS_END:mg "FIELDS_END" = some t.v_FIELDS_END
 r_FIELDS_END:RelV (.int 125) t.v_FIELDS_END
 m_WHITE:mg "WHITE" = some (.ref t.v_WHITE)
 r_WHITE:RelV (.ref t.v_WHITE) (.ref t.v_WHITE)
 q_WHITE:∀ H,SqT K H t.v_WHITE [.int 9,.int 10,.int 13,.int 32]
 m_WORDS:mg "WORDS" = some (.ref t.v_WORDS)
 r_WORDS:RelV (.ref t.v_WORDS) (.ref t.v_WORDS)
 q_WORDS:DKP K t.v_WORDS [(110,.tup ([117,108,108].map .int)),(116,.tup ([114,117,101].map .int)),(102,.tup ([97,108,115,101].map .int))]
 m_SHORT_ESCAPES:mg "SHORT_ESCAPES" = some (.ref t.v_SHORT_ESCAPES)
 r_SHORT_ESCAPES:RelV (.ref t.v_SHORT_ESCAPES) (.ref t.v_SHORT_ESCAPES)
 q_SHORT_ESCAPES:DKP K t.v_SHORT_ESCAPES [(34,.int 34),(92,.int 92),(47,.int 47),(98,.int 8),(102,.int 12),(110,.int 10),(114,.int 13),(116,.int 9)]
 m_MOST_BRACKETS:mg "MOST_BRACKETS" = some t.v_MOST_BRACKETS
 r_MOST_BRACKETS:RelV (.int 64) t.v_MOST_BRACKETS
 m_LOOSE:mg "LOOSE" = some (.ref t.v_LOOSE)
 r_LOOSE:RelV (.ref t.v_LOOSE) (.ref t.v_LOOSE)
 q_LOOSE:∀ H,SqT K H t.v_LOOSE [.str "white",.str "figures",.str "fraction",.str "exponent",.str "sign"]
 m_UNENDED:mg "UNENDED" = some (.ref t.v_UNENDED)
 r_UNENDED:RelV (.ref t.v_UNENDED) (.ref t.v_UNENDED)
 q_UNENDED:∀ H,SqT K H t.v_UNENDED [.str "row",.str "more row",.str "fields",.str "more fields"]
 m_SHORTEST:mg "SHORTEST" = some (.ref t.v_SHORTEST)
 r_SHORTEST:RelV (.ref t.v_SHORTEST) (.ref t.v_SHORTEST)
 q_SHORTEST:DTP w K t.v_SHORTEST [("value",.tup ([48].map .int)),("lead",.tup ([48].map .int)),("text",.tup ([34].map .int)),("name",.tup ([34,34].map .int)),("escape",.tup ([34].map .int)),("code",.tup ([48,48,48,48].map .int)),("code d",.tup ([48,48,48].map .int)),("hex",.tup ([48].map .int)),("hex d",.tup ([68].map .int)),("hex c to f",.tup ([67].map .int)),("row",.tup ([93].map .int)),("more row",.tup ([93].map .int)),("fields",.tup ([125].map .int)),("more fields",.tup ([125].map .int))]
noncomputable def cn(t:Adr)(c:String):Option Addr:=if c = "Walk" then some t.C_Walk else none
theorem gH{K:PySem.W.Frag}{mg:Str->Option Value}{t:Adr}(T:Txt w K mg t):∀ c C,cn t c=some C->ng c=true->Cls K C /\ mR K C "coming":=by
 intro c C h1 h2;unfold cn at h1;unfold ng at h2
 by_cases e:c = "Walk"
 . subst e;simp at h1;subst h1;exact⟨T.c_Walk,T.na_Walk_coming⟩
 rw[if_neg e]at h1;cases h1
section
variable{P:Program}{w:World}{K:PySem.W.Frag}{mg:Str->Option Value}{base:Heap}{t:Adr}
theorem yV(T:Txt w K mg t):cq P w K mg base (CXE P w) 1 t.iH t.d_law_cell o6 (spP K (cn t) iH):=
 fG T.nB.F Ao fun _ _ _ _ _ _ hr=>⟨_,(aj (aT (cg (qv 0) (fun _=>rfl)) (au (aA (qi bT (qv 0) (aF bO (qv 1) (qh T.n_len (qv 0)))))) aD)
   (au (aA ai))),
  (aw (aU (eM ae) (aB (aq pH ae (aq bN ae (gf tX ae)))) aE)
    (aB ah))⟩
theorem jN(T:Txt w K mg t):cq P w K mg base (CXE P w) 2 t.eJ t.d_law_mix rL (spP K (cn t) eJ):=
 fG T.dJ.F rm fun _ _ _ _ _ _ hr=>⟨_,(aj (qz 2 rm.nd (aF bO (aF cj (qx (yV T) T.nB hr aN (aa (qv 0) (aa (qv 1) av))) (aF ud ai (aF cj (qv 1) ai))) ai))
   (aj (qz 2 rm.nd (aF bO (aF ud (qv 2) ai) ai))
   (au (aA (aF bO (aF cj (aF ud (aF bR (qv 2) ai) ai) (qv 2)) ai))))),
  (aw (aV (aq bN (aq cf (aR (af ae (af ae ax))) (aq uc ah (aq cf ae ah))) ah))
    (aw (aV (aq bN (aq uc ae ah) ah))
    (aB (aq bN (aq cf (aq uc (aq bQ ae ah) ah) ae) ah))))⟩
theorem rQ(T:Txt w K mg t):cq P w K mg base (CXE P w) 1 t.cS t.d_law_close nU (spI K (cn t) cS):=
 wt T.e_law_close.F om fun _ _ _ _ _ _ hr=>⟨_,(aj (qz 3 om.nd (Ba PySem.F.plainAttrs_list PySem.F.slot_list_pop PySem.F.type_list_pop Eo (qv 2)))
   (aj (qap ck (qv 0) (cP (by exact(bu bj (qi bT (qv 3) ai) aM)) ai ai))
   (aj (x5 (qh T.n_len (qv 0)) (xY (qi bT (qv 1) (qi bT (qv 3) ai)) ai set_list))
   (aj (x5 (qh T.n_len (qv 1)) (xY (qi bT (qv 1) (qi bT (qv 3) ai)) ai set_list))
   (aj (qz 4 om.nd (cB (aa (qi bT (qv 3) ai) (aa (gX jS rfl T.n_tuple L2.E.boot_tuple (aa (qi bT (qv 3) ai) av)) av))))
   (aj (aT (cg (qv 2) (fun _=>rfl)) (aj (qap ck (qi bT (qi bT (qv 2) (mx ja ai)) ai) (cP (by exact(bu bj (qi bT (qi bT (qv 2) (mx ja ai)) ai) aM)) (qv 4) (cB (aa (qi bT (qv 3) ai) (aa (qv 4) av)))))
   (au (aT (bu bj (qi bT (qi bT (qv 2) (mx ja ai)) ai) aM) (au (x5 (qh T.n_len (qv 1)) (xY (qi bT (qv 1) (aF rh (qi bT (qv 3) ai) ai)) ai set_list))) aD))) aD)
   (au (aA (qv 4))))))))),
  (aw (nG (B6 aP))
    (aw (eP aP (lM (hX (ay (aq bp (fN (jO aP ah)) aL)) ah ah)))
    (aw (u5 (jO aP (fN (jO aP ah))) ah (lM (j0 aP)))
    (aw (u5 (jO aP (fN (jO aP ah))) ah (lM (j0 aP)))
    (aw (aV (cz (af (fN (jO aP ah)) (af (gf xD (fN (jO aP ah))) ax))))
    (aw (aU (g8 aP) (aw (eP (jO (jO aP (mi i6 ah)) ah) (lM (hX (ay (aq bp (fN (jO (jO aP (mi i6 ah)) ah)) aL)) ae (cz (af (fN (jO aP ah)) (af ae ax))))))
    (aU (ay (aq bp (fN (jO (jO aP (mi i6 ah)) ah)) aL)) (u5 (jO aP (aq qW (fN (jO aP ah)) ah)) ah (lM (j0 aP))) aE)) aE)
    mW))))))⟩
theorem gW(T:Txt w K mg t):cq P w K mg base (CXE P w) 1 t.cy t.d_law_white oi (spP K (cn t) cy):=
 fG T.dW.F xW fun _ _ _ _ _ _ hr=>⟨_,(aj (aT (bu xC (aF bO (qv 0) ai) ai) (au (aA (aQ av))) aD)
   (au (aA (lW (M:=["_law_number_here"]) (ι:=[0]) (x:="_law_k") ⟨rfl,rfl,rfl,rfl,rfl,rfl,rfl,rfl,rfl,rfl,rfl,by decide +kernel⟩ rfl (m8 rfl T.n_range (aa (aF cj (aF bO (aF bR (qv 0) ai) ai) ai) av)) fun _ _ _ _=>(qi bT (aQ (aa ai (aa ai (aa ai (aa ai av))))) (aF bO (aF bR (aF bR (qv 0) ai) (aF cj ai (aF ud ai (qv 1)))) ai)))))),
  (aw (aU (ay (aq wN (aq bN ae ah) ah)) (aB (aS ax)) aE)
    (aB (zL (by decide) (aq cf (aq bN (aq bQ ae ah) ah) ah) (aq pH (aS (af ah (af ah (af ah (af ah ax))))) (aq bN (aq bQ (aq bQ ae ah) (aq cf ah (aq uc ah ae))) ah)))))⟩
theorem xG(T:Txt w K mg t):cq P w K mg base (CXE P w) 1 t.dB t.d_law_point oa (spP K (cn t) dB):=
 fG T.mv.F ny fun _ _ _ _ _ _ hr=>⟨_,(aj (qz 1 ny.nd (aF bO (qv 0) ai))
   (aj (qz 2 ny.nd (aF bR (qv 0) ai))
   (aj (aT (bu j5 (qv 1) ai) (au (aA (aF cj ai (aF bO (qv 2) ai)))) aD)
   (aj (aT (bu j5 (qv 1) ai) (au (aA (qi bT (aQ (aa ai (aa ai (aa ai (aa ai (aa ai (aa ai (aa ai (aa ai (aa ai (aa ai (aa ai av)))))))))))) (aF bO (qv 2) ai)))) aD)
   (aj (aT (bu bj (qv 1) ai) (au (aA (aF cj ai (aF bO (qv 2) ai)))) aD)
   (aj (aT (bu bj (qv 1) ai) (au (aA (aF cj ai (aF bO (qv 2) ai)))) aD)
   (aj (aT (bu bj (qv 1) ai) (au (aA (aF cj ai (aF bO (qv 2) ai)))) aD)
   (au (aA (aF cj ai (aF bO (qv 2) ai))))))))))),
  (aw (aV (aq bN ae ah))
    (aw (aV (aq bQ ae ah))
    (aw (aU (ay (aq j4 ae ah)) (aB (aq cf ah (aq bN ae ah))) aE)
    (aw (aU (ay (aq j4 ae ah)) (aB (aq pH (aS (af ah (af ah (af ah (af ah (af ah (af ah (af ah (af ah (af ah (af ah (af ah ax)))))))))))) (aq bN ae ah))) aE)
    (aw (aU (ay (aq bp ae ah)) (aB (aq cf ah (aq bN ae ah))) aE)
    (aw (aU (ay (aq bp ae ah)) (aB (aq cf ah (aq bN ae ah))) aE)
    (aw (aU (ay (aq bp ae ah)) (aB (aq cf ah (aq bN ae ah))) aE)
    (aB (aq cf ah (aq bN ae ah))))))))))⟩
theorem qu(T:Txt w K mg t):cq P w K mg base (CXE P w) 3 t.eC t.d_law_points mP (spP K (cn t) eC):=
 fG T.gT.F jZ fun _ _ _ _ _ _ hr=>⟨_,(aj (qz 2 jZ.nd (qx (jN T) T.dJ hr aN (aa (qv 0) (aa (qv 1) av))))
   (aj (qz 3 jZ.nd (aF bO (qv 2) ai))
   (aj (aT (bu bj (aF bO (aF bR (qv 2) ai) ai) ai) (au (qz 3 jZ.nd (aF bO (aF bR (qv 2) ai) ai))) aD)
   (au (aA (lW (M:=["_law_script","_law_k"]) (ι:=[0,1]) (x:="_law_j") ⟨rfl,rfl,rfl,rfl,rfl,rfl,rfl,rfl,rfl,rfl,rfl,by decide +kernel⟩ rfl (m8 rfl T.n_range (aa (qv 3) av)) fun _ _ _ _=>(qx (xG T) T.mv hr AI (aa (qx (jN T) T.dJ hr AI (aa (qv 0) (aa (aF cj (aF cj (qv 1) ai) (qv 2)) av))) av)))))))),
  (aw (aV (aR (af ae (af ae ax))))
    (aw (aV (aq bN ae ah))
    (aw (aU (ay (aq bp (aq bN (aq bQ ae ah) ah) ah)) (aV (aq bN (aq bQ ae ah) ah)) aE)
    (aB (zL (by decide) ae (aR (af (aR (af ae (af (aq cf (aq cf ae ah) ae) ax))) ax)))))))⟩
theorem zh(T:Txt w K mg t):cq P w K mg base (CXE P w) 4 t.gz t.d_law_name pK (spP K (cn t) gz):=
 fG T.oq.F Af fun _ _ _ _ _ _ hr=>⟨_,(aj (aT (bu bj (aF bO (qv 1) ai) ai) (au (aA (aQ (aa (aF cj ai (aF bO (aF bR (qv 1) ai) ai)) av)))) aD)
   (au (aA (qx (qu T) T.gT hr aN (aa (qv 0) (aa (aF cj ai (aF bO (aF bR (qv 1) ai) ai)) av)))))),
  (aw (aU (ay (aq bp (aq bN ae ah) ah)) (aB (aS (af (aq cf ah (aq bN (aq bQ ae ah) ah)) ax))) aE)
    (aB (aR (af ae (af (aq cf ah (aq bN (aq bQ ae ah) ah)) ax)))))⟩
theorem yE(T:Txt w K mg t):cq P w K mg base (CXE P w) 1 t.eH t.d_law_eight nF (spP K (cn t) eH):=
 fG T.lU.F gZ fun _ _ _ _ _ _ hr=>⟨_,(aj (aT (bu j5 (qv 0) ai) (au (aA (aQ (aa (qv 0) av)))) aD)
   (aj (qz 1 gZ.nd (aF cj (aF cj ai (gX wR rfl T.n_int L2.E.boot_int (aa (gv BL (qv 0) ai (jE _)) av))) (gX wR rfl T.n_int L2.E.boot_int (aa (gv BL (qv 0) ai (jE _)) av))))
   (aj (qz 2 gZ.nd (aQ av))
   (aj (mN gY rfl (m8 rfl T.n_range (aa (qv 1) av)) (jj (i:=3) gZ.nd rfl (by first|exact Or.inl rfl|exact Or.inr rfl)) (aj (qz 2 gZ.nd (aF eD (aQ (aa (aF cj ai (aF bO (qv 0) ai)) av)) (qv 2)))
   (au (qz 0 gZ.nd (aF bR (qv 0) ai)))))
   (au (aA (aF eD (aQ (aa (aF cj (qi bT (aQ (aa ai (aa ai (aa ai av)))) (aF rh (qv 1) ai)) (qv 0)) av)) (qv 2)))))))),
  (aw (aU (ay (aq j4 ae ah)) (aB (aS (af ae ax))) aE)
    (aw (aV (aq cf (aq cf ah (gf Cf (aq Cw ae ah))) (gf Cf (aq Cw ae ah))))
    (aw (aV (aS ax))
    (aw (xK ae (aw (aV (aq fW (aS (af (aq cf ah (aq bN ae ah)) ax)) ae))
    (aV (aq bQ ae ah))))
    (aB (aq fW (aS (af (aq cf (aq pH (aS (af ah (af ah (af ah ax)))) (aq qW ae ah)) ae) ax)) ae))))))⟩
theorem rn(T:Txt w K mg t):cq P w K mg base (CXE P w) 1 t.gR t.d_law_hex rb (spP K (cn t) gR):=
 fG T.jJ.F iT fun _ _ _ _ _ _ hr=>⟨_,(aj (qz 2 iT.nd (aQ av))
   (aj (mN gY rfl (m8 rfl T.n_range (aa ai av)) (jj (i:=3) iT.nd rfl (by first|exact Or.inl rfl|exact Or.inr rfl)) (aj (qz 4 iT.nd (aF bO (qv 0) ai))
   (aj (aT (bu j5 (qv 4) ai) (au (qz 2 iT.nd (aF eD (aQ (aa (aF cj ai (qv 4)) av)) (qv 2)))) (au (qz 2 iT.nd (aF eD (aQ (aa (aF cj (cP (by exact(cg (qv 1) (fun _=>rfl))) ai ai) (qv 4)) av)) (qv 2)))))
   (au (qz 0 iT.nd (aF bR (qv 0) ai))))))
   (au (aA (aF eD (aQ (aa ai (aa ai av))) (qv 2)))))),
  (aw (aV (aS ax))
    (aw (xK ah (aw (aV (aq bN ae ah))
    (aw (aU (ay (aq j4 ae ah)) (aV (aq fW (aS (af (aq cf ah ae) ax)) ae)) (aV (aq fW (aS (af (aq cf (hX (eM ae) ah ah) ae) ax)) ae)))
    (aV (aq bQ ae ah)))))
    (aB (aq fW (aS (af ah (af ah ax))) ae))))⟩
theorem zD(T:Txt w K mg t):cq P w K mg base (CXE P w) 2 t.iQ t.d_law_sign oV (spP K (cn t) iQ):=
 fG T.nv.F lS fun _ _ _ _ _ _ hr=>⟨_,(aj (qz 2 lS.nd (Ig (kg ai ai (kg ai ai (kg ai ai (kg ai ai (kg ai ai (kg ai ai (kg ai ai (kg ai ai GA))))))))))
   (aj (qz 3 lS.nd (aF bO (qv 1) ai))
   (aj (aT (jz (jh (bu bj (qv 3) ai) (jt (KL (IX hr) (qv 0) (qv 2))))) (au (aA (aQ (aa ai (aa (Hx (IX hr) (qv 2) (qv 0) (fun _ _=>rfl)) av))))) aD)
   (aj (aT (jz (jh (bu xC (qv 3) ai) (jh (bu BL (qv 0) ai) (jh (bu Jh (qv 0) ai) (jt (bu Jh (qv 0) ai)))))) (au (aA (qx (yE T) T.lU hr aN (aa (qv 0) av)))) aD)
   (aj (aT (bu j5 (qv 0) ai) (au (aA (qx (rn T) T.jJ hr aN (aa (qv 0) (aa (gv bj (qv 3) ai (jE _)) av))))) aD)
   (aj (qz 4 lS.nd (aF rh (qv 0) ai))
   (au (aA (aF eD (qx (rn T) T.jJ hr aN (aa (aF cj ai (aF bR (qv 4) ai)) (aa (gv bj (qv 3) ai (jE _)) av))) (qx (rn T) T.jJ hr aN (aa (aF cj ai (aF bO (qv 4) ai)) (aa (gv bj (qv 3) ai (jE _)) av)))))))))))),
  (aw (nN (KW (kvs:=[(34,34),(92,92),(47,47),(8,98),(12,102),(10,110),(13,114),(9,116)]) (by decide) (by decide)))
    (aw (aV (aq bN ae ah))
    (aw (aU (i8 (ay (aq bp ae ah)) (ay (Hl ae aP))) (aB (aS (af ah (af (GV aP ae) ax)))) aE)
    (aw (aU (i8 (ay (aq wN ae ah)) (i8 (ay (aq Cw ae ah)) (i8 (ay (aq IM ae ah)) (ay (aq IM ae ah))))) (aB (aR (af ae ax))) aE)
    (aw (aU (ay (aq j4 ae ah)) (aB (aR (af ae (af (aq bp ae ah) ax)))) aE)
    (aw (aV (aq qW ae ah))
    (aB (aq fW (aR (af (aq cf ah (aq bQ ae ah)) (af (aq bp ae ah) ax))) (aR (af (aq cf ah (aq bN ae ah)) (af (aq bp ae ah) ax)))))))))))⟩
theorem uw(T:Txt w K mg t):cq P w K mg base (CXE P w) 3 t.fR t.d_law_text pE (spP K (cn t) fR):=
 fG T.jA.F iY fun _ _ _ _ _ _ hr=>⟨_,(aj (qz 2 iY.nd (aQ (aa ai av)))
   (aj (qz 3 iY.nd ai)
   (aj (mN gY rfl (gU (qv 0)) (jj (i:=4) iY.nd rfl (by first|exact Or.inl rfl|exact Or.inr rfl)) (aj (qz 2 iY.nd (aF eD (qv 2) (qx (zD T) T.nv hr aN (aa (qv 4) (aa (aF cj (aF bR (qv 1) (aF cj ai (aF bO (qv 3) ai))) (qv 3)) av)))))
   (au (qz 3 iY.nd (aF cj (qv 3) ai)))))
   (au (aA (aF eD (qv 2) (aQ (aa ai av)))))))),
  (aw (aV (aS (af ah ax)))
    (aw (aV ah)
    (aw (pZ ae (aw (aV (aq fW ae (aR (af ae (af (aq cf (aq bQ ae (aq cf ah (aq bN ae ah))) ae) ax)))))
    (aV (aq cf ae ah))))
    (aB (aq fW ae (aS (af ah ax)))))))⟩
theorem yt(T:Txt w K mg t):cq P w K mg base (CXE P w) 5 t.fH t.d_law_begin nR (spI K (cn t) fH):=
 wt T.e_law_begin.F i7 fun _ _ _ _ _ _ hr=>⟨_,(aj (qex fP (qv 1) (qx (gW T) T.dW hr aN (aa (aF bR (qv 4) ai) av)))
   (aj (qz 5 i7.nd (cB av))
   (aj (aT (jz (jh (cg (qv 3) (fun _=>rfl)) (jt (cg (qi bT (qi bT (qv 3) (mx ja ai)) ai) (fun _=>rfl))))) (aj (qap ck (qv 1) ai)
   (au (qex fP (qv 1) (qx (gW T) T.dW hr aN (aa (aF bR (qv 4) ai) av))))) aD)
   (aj (aT (jz (jh (cg (qv 3) (fun _=>rfl)) (jt (bu bj (qi bT (qi bT (qv 3) (mx ja ai)) ai) aM)))) (aj (qz 6 i7.nd (qx (zh T) T.oq hr aN (aa (qv 0) (aa (aF bR (qv 4) ai) av))))
   (aj (qz 5 i7.nd (gX jS rfl T.n_tuple L2.E.boot_tuple (aa (qv 6) av)))
   (aj (qz 7 i7.nd (qh T.n_len (qv 1)))
   (aj (qex fP (qv 1) (qx (uw T) T.jA hr aN (aa (qv 6) (aa (aF bR (qv 4) ai) av))))
   (aj (qap ck (qv 2) (aQ (aa aM (aa (qv 7) (aa (qh T.n_len (qv 1)) (aa ai av))))))
   (aj (qex fP (qv 1) (qx (gW T) T.dW hr aN (aa (aF bR (qv 4) ai) av)))
   (aj (qap ck (qv 1) ai)
   (au (qex fP (qv 1) (qx (gW T) T.dW hr aN (aa (aF bR (qv 4) ai) av))))))))))) aD)
   (au (aA (qv 5))))))),
  (aw (fU aP (aR (af (aq bQ ae ah) ax)))
    (aw (aV (cz ax))
    (aw (aU (i8 (g8 aP) (eM (fN (jO (jO aP (mi i6 ah)) ah)))) (aw (eP aP (lM ah))
    (fU aP (aR (af (aq bQ ae ah) ax)))) aE)
    (aw (aU (i8 (g8 aP) (ay (aq bp (fN (jO (jO aP (mi i6 ah)) ah)) aL))) (aw (aV (aR (af ae (af (aq bQ ae ah) ax))))
    (aw (aV (gf xD ae))
    (aw (aV (j0 aP))
    (aw (ll (i:=6) (fU aP (aR (af ae (af (aq bQ ae ah) ax)))))
    (aw (eP aP (lM (aS (af aL (af ae (af (j0 aP) (af ah ax)))))))
    (aw (fU aP (aR (af (aq bQ ae ah) ax)))
    (aw (eP aP (lM ah))
    (fU aP (aR (af (aq bQ ae ah) ax)))))))))) aE)
    mW))))⟩
theorem yh(T:Txt w K mg t):cq P w K mg base (CXE P w) 1 t.fg t.d_law_plain nZ (spP K (cn t) fg):=
 fG T.e_law_plain.F oz fun _ _ _ _ _ _ hr=>⟨_,(aj (aT (bu bj (qv 0) ai) (au (aA (cB (aa ai (aa ai av))))) aD)
   (aj (vg gY (bu bj (aF bO (qv 0) ai) ai) (aj (qz 0 oz.nd (aF bR (qv 0) ai))
   (au (qz 1 oz.nd (aF cj (qv 1) ai)))))
   (au (aA (cB (aa (qv 0) (aa (qv 1) av))))))),
  (aw (aU (ay (aq bp ae ah)) (aB (cz (af ah (af ah ax)))) aE)
    (aw (vw (ay (aq bp (aq bN ae ah) ah)) (aw (aV (aq bQ ae ah))
    (aV (aq cf ae ah))))
    (aB (cz (af ae (af ae ax))))))⟩
theorem wF(T:Txt w K mg t):cq P w K mg base (CXE P w) 2 t.fV t.d_law_number mU (spP K (cn t) fV):=
 fG T.kQ.F bD fun _ _ _ _ _ _ hr=>⟨_,(aj (qz 1 bD.nd (gv bj (aF bO (qv 0) ai) ai (jE _)))
   (aj (Hb (i:=2) bD.nd rfl (by first|exact Or.inl rfl|exact Or.inr rfl) (M:=[]) (ι:=[]) (x:="_law_sign_here") ⟨rfl,rfl,rfl,rfl,rfl,rfl,rfl,rfl,rfl,rfl,rfl,by decide +kernel⟩ rfl (FA (gX sW rfl T.n_str L2.E.boot_str (aa (aF bO (aF bR (qv 0) ai) ai) av))) fun _ _ _ _=>(gX DF rfl T.n_int L2.E.boot_int (aa (qv 0) av)))
   (aj (qz 3 bD.nd (cP (by exact(cg (qv 1) (fun _=>rfl))) (aQ (aa ai av)) (aQ av)))
   (aj (qz 3 bD.nd (aF eD (qv 3) (lW (M:=[]) (ι:=[]) (x:="_law_figure") ⟨rfl,rfl,rfl,rfl,rfl,rfl,rfl,rfl,rfl,rfl,rfl,by decide +kernel⟩ rfl (gU (qv 2)) fun _ _ _ _=>(aF cj ai (qv 0)))))
   (aj (qz 4 bD.nd ai)
   (aj (mN gY rfl (gU (qv 2)) (jj (i:=5) bD.nd rfl (by first|exact Or.inl rfl|exact Or.inr rfl)) (au (qz 4 bD.nd (aF cj (aF ud (qv 4) ai) (qv 5)))))
   (aj (qz 6 bD.nd ai)
   (aj (aT (bu bj (aF bO (aF bR (qv 0) ai) ai) ai) (aj (qap ck (qv 3) ai)
   (au (mN gY rfl (gU (o9 rZ (aQ (aa (aF bO (aF bR (qv 0) ai) ai) (aa (aF bO (aF bR (qv 0) ai) ai) (aa ai av)))) sG (sm (aF cj ai (aF bO (aF bR (qv 0) ai) ai))))) (jj (i:=5) bD.nd rfl (by first|exact Or.inl rfl|exact Or.inr rfl)) (aj (qap ck (qv 3) (aF cj ai (qv 5)))
   (aj (qz 4 bD.nd (aF cj (aF ud (qv 4) ai) (qv 5)))
   (au (qz 6 bD.nd (aF rh (qv 6) ai)))))))) aD)
   (aj (aT (bu bj (aF bO (aF bR (qv 0) ai) ai) ai) (aj (qz 7 bD.nd (aF bO (aF bR (qv 0) ai) ai))
   (aj (qap ck (qv 3) (qi bT (aQ (aa ai (aa ai av))) (aF bO (aF bR (qv 0) ai) ai)))
   (aj (qz 8 bD.nd (gv bj (aF bO (aF bR (qv 0) ai) ai) ai (jE _)))
   (aj (aT (cg (qv 8) (fun _=>rfl)) (au (qap ck (qv 3) ai)) (au (aT (bu bj (aF bO (aF bR (qv 0) ai) ai) ai) (au (qap ck (qv 3) ai)) aD)))
   (aj (aT (bu bj (aF bO (aF bR (qv 0) ai) ai) ai) (au (qap ck (qv 3) ai)) aD)
   (aj (qz 3 bD.nd (aF eD (qv 3) (lW (M:=[]) (ι:=[]) (x:="_law_sign_here") ⟨rfl,rfl,rfl,rfl,rfl,rfl,rfl,rfl,rfl,rfl,rfl,by decide +kernel⟩ rfl (FA (gX sW rfl T.n_str L2.E.boot_str (aa (qv 7) av))) fun _ _ _ _=>(jv F0 rfl T.n_ord L2.E.boot_ord (aa (qv 0) av)))))
   (au (qz 6 bD.nd (aF cj (qv 6) (cP (by exact(cg (qv 8) (fun _=>rfl))) (mx ja (qv 7)) (qv 7))))))))))) aD)
   (aj (aT (cg (qv 1) (fun _=>rfl)) (au (qz 4 bD.nd (mx ja (qv 4)))) aD)
   (au (aA (cB (aa (qv 3) (aa (qx (yh T) T.e_law_plain hr aN (aa (qv 4) (aa (qv 6) av))) av))))))))))))))),
  (aw (aV (aq bp (aq bN ae ah) ah))
    (aw (aV (y4 (by decide) (gf F7 (aq bN (aq bQ ae ah) ah)) (gf HP ae)))
    (aw (aV (hX (eM ae) (aS (af ah ax)) (aS ax)))
    (aw (aV (aq fW ae (rP (by decide) ae (aq cf ah ae))))
    (aw (aV ah)
    (aw (ll (i:=2) (pZ ae (aV (aq cf (aq uc ae ah) ae))))
    (aw (aV ah)
    (aw (aU (ay (aq bp (aq bN (aq bQ ae ah) ah) ah)) (aw (kZ ah)
    (pZ (vz (aS (af (aq bN (aq bQ ae ah) ah) (af (aq bN (aq bQ ae ah) ah) (af ah ax)))) sR (sE (aq cf ah (aq bN (aq bQ ae ah) ah)))) (aw (kZ (aq cf ah ae))
    (aw (aV (aq cf (aq uc ae ah) ae))
    (aV (aq qW ae ah)))))) aE)
    (aw (aU (ay (aq bp (aq bN (aq bQ ae ah) ah) ah)) (aw (aV (aq bN (aq bQ ae ah) ah))
    (aw (kZ (aq pH (aS (af ah (af ah ax))) (aq bN (aq bQ ae ah) ah)))
    (aw (aV (aq bp (aq bN (aq bQ ae ah) ah) ah))
    (aw (aU (eM ae) (kZ ah) (aU (ay (aq bp (aq bN (aq bQ ae ah) ah) ah)) (kZ ah) aE))
    (aw (aU (ay (aq bp (aq bN (aq bQ ae ah) ah) ah)) (kZ ah) aE)
    (aw (aV (aq fW ae (y4 (by decide) (gf F7 ae) (gf Lc ae))))
    (aV (aq cf ae (hX (eM ae) (mi i6 ae) ae))))))))) aE)
    (aw (aU (eM ae) (aV (mi i6 ae)) aE)
    (ll (i:=3) (aB (cz (af ae (af (aR (af ae (af ae ax))) ax)))))))))))))))⟩
theorem rK(T:Txt w K mg t):cq P w K mg base (CXE P w) 4 t.cp t.d_law_plain_value iO (spP K (cn t) cp):=
 fG T.e_law_plain_value.F fS fun _ _ _ _ _ _ hr=>⟨_,(aj (qz 2 fS.nd (aF bO (aF bR (qv 1) ai) ai))
   (aj (aT (bu bj (qv 2) ai) (au (aA (cB (aa aM (aa (aQ (aa ai (aa ai (aa ai (aa ai av))))) (aa cM av)))))) aD)
   (aj (aT (bu bj (qv 2) ai) (au (aA (cB (aa aM (aa (aQ (aa ai (aa ai (aa ai (aa ai av))))) (aa vH av)))))) aD)
   (aj (aT (bu bj (qv 2) ai) (au (aA (cB (aa aM (aa (aQ (aa ai (aa ai (aa ai (aa ai (aa ai av)))))) (aa vH av)))))) aD)
   (aj (aT (bu bj (qv 2) ai) (aj (qz 3 fS.nd (qx (qu T) T.gT hr aN (aa (qv 0) (aa (aF cj ai (aF bO (qv 1) ai)) av))))
   (au (aA (cB (aa aM (aa (qx (uw T) T.jA hr aN (aa (qv 3) (aa (aF bR (qv 1) ai) av))) (aa (cB (aa aM (aa (gX jS rfl T.n_tuple L2.E.boot_tuple (aa (qv 3) av)) av))) av))))))) aD)
   (aj (qz 4 fS.nd (qx (wF T) T.kQ hr aN (aa (aF bR (qv 1) ai) av)))
   (au (aA (cB (aa aM (aa (qi dZ (qv 4) ai) (aa (cB (aa aM (aa (qi dZ (qi dZ (qv 4) ai) ai) (aa (qi dZ (qi dZ (qv 4) ai) ai) av)))) av)))))))))))),
  (aw (aV (aq bN (aq bQ ae ah) ah))
    (aw (aU (ay (aq bp ae ah)) (aB (cz (af aL (af (aS (af ah (af ah (af ah (af ah ax))))) (af cK ax))))) aE)
    (aw (aU (ay (aq bp ae ah)) (aB (cz (af aL (af (aS (af ah (af ah (af ah (af ah ax))))) (af vc ax))))) aE)
    (aw (aU (ay (aq bp ae ah)) (aB (cz (af aL (af (aS (af ah (af ah (af ah (af ah (af ah ax)))))) (af vc ax))))) aE)
    (aw (aU (ay (aq bp ae ah)) (aw (aV (aR (af ae (af (aq cf ah (aq bN ae ah)) ax))))
    (ll (i:=3) (aB (cz (af aL (af (aR (af ae (af (aq bQ ae ah) ax))) (af (cz (af aL (af (gf xD ae) ax))) ax))))))) aE)
    (aw (aV (aR (af (aq bQ ae ah) ax)))
    (aB (cz (af aL (af (aq dQ ae ah) (af (cz (af aL (af (aq dQ (aq dQ ae ah) ah) (af (aq dQ (aq dQ ae ah) ah) ax)))) ax)))))))))))⟩
theorem xI(T:Txt w K mg t):cq P w K mg base (CXE P w) 6 t.gJ t.d_law_built n5 (spP K (cn t) gJ):=
 fG T.e_law_built.F cu fun _ _ _ _ _ _ hr=>⟨_,(aj (qz 2 cu.nd (aQ av))
   (aj (qz 3 cu.nd (aQ av))
   (aj (qz 4 cu.nd (aQ av))
   (aj (qz 5 cu.nd cM)
   (aj (mN gY rfl (m8 rfl T.n_range (aa (qv 1) av)) (jj (i:=6) cu.nd rfl (by first|exact Or.inl rfl|exact Or.inr rfl)) (aj (qz 7 cu.nd (qx (jN T) T.dJ hr aN (aa (qv 0) (aa (qv 6) av))))
   (au (aT (jz (jh (cg (qv 4) (fun _=>rfl)) (jt (bu bj (aF bO (qv 7) ai) ai)))) (aj (qex fP (qv 2) (qx (gW T) T.dW hr aN (aa (aF bR (qv 7) ai) av)))
   (au (qz 5 cu.nd (qx (rQ T) T.e_law_close hr aN (aa (qv 2) (aa (qv 3) (aa (qv 4) av))))))) (au (aT (jz (uD (cg (qv 4) (fun _=>rfl)) (rJ (bu bj (qv 6) ai)))) (aj (qz 8 cu.nd (qx (yt T) T.e_law_begin hr aN (aa (qv 0) (aa (qv 2) (aa (qv 3) (aa (qv 4) (aa (qv 7) av)))))))
   (aj (qz 9 cu.nd (qh T.n_len (qv 2)))
   (au (aT (jz (uD (bu xC (aF bO (qv 7) ai) ai) (rJ (jz (jh (bu bj (qv 6) ai) (jt (bu xC (aF bO (qv 7) ai) ai))))))) (aj (qz 10 cu.nd (qi bT (aQ (aa aM (aa aM av))) (aF bO (aF bR (qv 7) ai) ai)))
   (aj (qap ck (qv 2) (cP (by exact(bu bj (qv 10) aM)) ai ai))
   (aj (qap ck (qv 4) (aQ (aa (qv 10) (aa (aQ av) (aa (qh T.n_len (qv 3)) (aa (qv 8) av))))))
   (au (qap ck (qv 3) (aQ (aa (qv 10) (aa (qv 9) (aa ai (aa ai av)))))))))) (aj (qz 11 cu.nd (qx (rK T) T.e_law_plain_value hr aN (aa (qv 0) (aa (qv 7) av))))
   (aj (qex fP (qv 2) (qi dZ (qv 11) ai))
   (aj (qap ck (qv 3) (aQ (aa (qi dZ (qv 11) ai) (aa (qv 9) (aa (qh T.n_len (qv 2)) (aa (aF cj (qh T.n_len (qv 3)) ai) av))))))
   (aj (qz 5 cu.nd (qi dZ (qv 11) ai))
   (au (aT (jz (jh (cg (qv 4) (fun _=>rfl)) (jt (bu bj (qi bT (qi bT (qv 4) (mx ja ai)) ai) aM)))) (aj (x5 (qh T.n_len (qv 3)) (xY (qi bT (qv 3) (mx ja ai)) ai set_list))
   (au (qap ck (qi bT (qi bT (qv 4) (mx ja ai)) ai) (cB (aa (qv 8) (aa (qv 5) av)))))) (au (aT (cg (qv 4) (fun _=>rfl)) (au (qap ck (qi bT (qi bT (qv 4) (mx ja ai)) ai) (qv 5))) aD)))))))))))) aD))))))
   (aj (vg gY (cg (qv 4) (fun _=>rfl)) (au (qz 5 cu.nd (qx (rQ T) T.e_law_close hr aN (aa (qv 2) (aa (qv 3) (aa (qv 4) av)))))))
   (aj (qex fP (qv 2) (qx (gW T) T.dW hr aN (aa (qx (jN T) T.dJ hr aN (aa (qv 0) (aa ai av))) av)))
   (au (aA (cB (aa (qv 2) (aa (lW (M:=[]) (ι:=[]) (x:="_law_node") ⟨rfl,rfl,rfl,rfl,rfl,rfl,rfl,rfl,rfl,rfl,rfl,by decide +kernel⟩ rfl (gU (qv 3)) fun _ _ _ _=>(gX jS rfl T.n_tuple L2.E.boot_tuple (aa (qv 0) av))) (aa (qv 5) av))))))))))))),
  (aw (nN (lM (aS ax)))
    (aw (nN (lM (aS ax)))
    (aw (nN (lM (aS ax)))
    (aw (aV cK)
    (aw (xK ae (aw (aV (aR (af ae (af ae ax))))
    (aU (i8 (g8 aP) (ay (aq bp (aq bN ae ah) ah))) (aw (fU aP (aR (af (aq bQ ae ah) ax)))
    (nG (vQ rfl (fh (oF aP) (fh (oF aP) (fh (oF aP) lT)))))) (aU (uC (g8 aP) (ay (aq bp ae ah))) (aw (nG (vQ rfl (fh (zW (W:=fun _ _ _ _=>False) ae) (fh (oF aP) (fh (oF aP) (fh (oF aP) (fh (zW (W:=fun _ _ _ _=>False) ae) lT)))))))
    (aw (aV (j0 aP))
    (aU (uC (ay (aq wN (aq bN ae ah) ah)) (i8 (ay (aq bp ae ah)) (ay (aq wN (aq bN ae ah) ah)))) (aw (aV (aq pH (aS (af aL (af aL ax))) (aq bN (aq bQ ae ah) ah)))
    (aw (eP aP (lM (hX (ay (aq bp ae aL)) ah ah)))
    (aw (eP aP (Lv (sj (lM ae) (sj (lM (aS ax)) (sj (lM (j0 aP)) (sj (lM ae) Gm))))))
    (eP aP (lM (aS (af ae (af ae (af ah (af ah ax)))))))))) (aw (aV (aR (af ae (af ae ax))))
    (aw (fU aP (aq dQ ae ah))
    (aw (eP aP (lM (aS (af (aq dQ ae ah) (af ae (af (j0 aP) (af (aq cf (j0 aP) ah) ax)))))))
    (aw (aV (aq dQ ae ah))
    (aU (i8 (g8 aP) (ay (aq bp (fN (jO (jO aP (mi i6 ah)) ah)) aL))) (aw (u5 (jO aP (mi i6 ah)) ah (lM (j0 aP)))
    (eP (jO (jO aP (mi i6 ah)) ah) (lM (cz (af ae (af ae ax)))))) (aU (g8 aP) (eP (jO (jO aP (mi i6 ah)) ah) (lM ae)) aE))))))))) aE))))
    (aw (vw (g8 aP) (nG (vQ rfl (fh (oF aP) (fh (oF aP) (fh (oF aP) lT))))))
    (aw (fU aP (aR (af (aR (af ae (af ah ax))) ax)))
    (qY (i:=3) (qY (i:=2) (aB (cz (af ae (af (rP (by decide) ae (gf xD ae)) (af ae ax))))))))))))))⟩
theorem mY(T:Txt w K mg t):cq P w K mg base (CXE P w) 1 t.cb t.d_Walk___init__ jH (spI K (cn t) cb):=
 wt T.F_Walk___init__ ua fun _ _ _ _ _ _ hr=>⟨_,(au (Li (qv 0) (aQ (aa aM (aa aM (aa aM av)))))),
  (GC aP (lM (aS (af aL (af aL (af aL ax))))) (gH T))⟩
theorem yJ(T:Txt w K mg t):cq P w K mg base (CXE P w) 1 t.fi t.d_word_rest nW (spP K (cn t) fi):=
 fG T.e_word_rest.F yk fun _ _ _ _ _ _ hr=>⟨_,(au (aA (zu (ba rfl T.m_WORDS T.r_WORDS) (qv 0)))),
  (aB (zj T.q_WORDS ae))⟩
theorem nP(T:Txt w K mg t):cq P w K mg base (CXE P w) 1 t.eV t.d_is_figure oj (spP K (cn t) eV):=
 fG T.fI.F yB fun _ _ _ _ _ _ hr=>⟨_,(au (aA (FG mf mf (ba rfl T.m_NOUGHT T.r_NOUGHT) (qv 0) (ba rfl T.m_NINE T.r_NINE)))),
  (aB (iB lR lR ah ae ah))⟩
theorem oW(T:Txt w K mg t):cq P w K mg base (CXE P w) 2 t.dP t.d_behind_lead lp (spP K (cn t) dP):=
 fG T.gd.F vN fun _ _ _ _ _ _ hr=>⟨_,(aj (aT (bu bj (qv 0) (ba rfl T.m_NOUGHT T.r_NOUGHT)) (au (aA (aQ (aa aM (aa aM av))))) aD)
   (aj (aT (cg (qx (nP T) T.fI hr aN (aa (qv 0) av)) (fun _=>rfl)) (au (aA (aQ (aa aM (aa aM (aa aM av)))))) aD)
   (au (aA cM)))),
  (aw (aU (ay (aq bp ae ah)) (aB (aS (af aL (af aL ax)))) aE)
    (aw (aU (eM (aR (af ae ax))) (aB (aS (af aL (af aL (af aL ax))))) aE)
    (aB cK)))⟩
theorem oB(T:Txt w K mg t):cq P w K mg base (CXE P w) 3 t.bL t.d_behind_value kr (spP K (cn t) bL):=
 fG T.fD.F oH fun _ _ _ _ _ _ hr=>⟨_,(aj (aT (bu bj (qv 0) (ba rfl T.m_ROW_BEGIN T.r_ROW_BEGIN)) (au (aA (aQ (aa aM (aa aM av))))) aD)
   (aj (aT (bu bj (qv 0) (ba rfl T.m_FIELDS_BEGIN T.r_FIELDS_BEGIN)) (au (aA (aQ (aa aM (aa aM av))))) aD)
   (aj (aT (bu bj (qv 0) (ba rfl T.m_QUOTE T.r_QUOTE)) (au (aA (aQ (aa aM av)))) aD)
   (aj (aT (bu bj (qv 0) (ba rfl T.m_MINUS T.r_MINUS)) (au (aA (aQ (aa aM av)))) aD)
   (aj (qz 1 oH.nd (qx (yJ T) T.e_word_rest hr aN (aa (qv 0) av)))
   (aj (aT (bu yK (qv 1) cM) (au (aA (lW (M:=[]) (ι:=[]) (x:="sign") ⟨rfl,rfl,rfl,rfl,rfl,rfl,rfl,rfl,rfl,rfl,rfl,by decide +kernel⟩ rfl (Jl (qv 1)) fun _ _ _ _=>(cB (aa (qv 0) (aa (qv 0) av)))))) aD)
   (au (aA (qx (oW T) T.gd hr aN (aa (qv 0) av)))))))))),
  (aw (aU (ay (aq bp ae ah)) (aB (aS (af aL (af aL ax)))) aE)
    (aw (aU (ay (aq bp ae ah)) (aB (aS (af aL (af aL ax)))) aE)
    (aw (aU (ay (aq bp ae ah)) (aB (aS (af aL ax))) aE)
    (aw (aU (ay (aq bp ae ah)) (aB (aS (af aL ax))) aE)
    (aw (aV (aR (af ae ax)))
    (aw (aU (ay (aq xN ae cK)) (aB (Ed (by decide) ae (cz (af ae (af ae ax))))) aE)
    (aB (aR (af ae ax)))))))))⟩
theorem qp(T:Txt w K mg t):cq P w K mg base (CXE P w) 3 t.aX t.d_behind_in_number ig (spP K (cn t) aX):=
 fG T.e_behind_in_number.F qg fun _ _ _ _ _ _ hr=>⟨_,(aj (aT (bu bj (qv 0) aM) (au (aA (qx (oW T) T.gd hr aN (aa (qv 1) av)))) aD)
   (aj (aT (bu bj (qv 0) aM) (au (aA (cP (by exact(cg (qx (nP T) T.fI hr aN (aa (qv 1) av)) (fun _=>rfl))) (aQ (aa aM av)) cM))) aD)
   (aj (aT (bu bj (qv 0) aM) (au (aA (cP (by exact(bu bj (qv 1) (ba rfl T.m_POINT T.r_POINT))) (aQ (aa (cB (aa (ba rfl T.m_NOUGHT T.r_NOUGHT) (aa (ba rfl T.m_NINE T.r_NINE) av))) (aa aM av))) cM))) aD)
   (aj (aT (bu bj (qv 0) aM) (au (aA (cP (by exact(iC lE (qv 1) (cB (aa (ba rfl T.m_SMALL_E T.r_SMALL_E) (aa (ba rfl T.m_BIG_E T.r_BIG_E) av))) rfl)) (aQ (aa aM (aa (cB (aa (ba rfl T.m_NOUGHT T.r_NOUGHT) (aa (ba rfl T.m_NINE T.r_NINE) av))) (aa aM av)))) cM))) aD)
   (au (aA (cP (by exact(iC lE (qv 1) (cB (aa (ba rfl T.m_PLUS T.r_PLUS) (aa (ba rfl T.m_MINUS T.r_MINUS) av))) rfl)) (aQ av) cM))))))),
  (aw (aU (ay (aq bp ae aL)) (aB (aR (af ae ax))) aE)
    (aw (aU (ay (aq bp ae aL)) (aB (hX (eM (aR (af ae ax))) (aS (af aL ax)) cK)) aE)
    (aw (aU (ay (aq bp ae aL)) (aB (hX (ay (aq bp ae ah)) (aS (af (cz (af ah (af ah ax))) (af aL ax))) cK)) aE)
    (aw (aU (ay (aq bp ae aL)) (aB (hX (ay (aq (pP hr.units) ae (cz (af ah (af ah ax))))) (aS (af aL (af (cz (af ah (af ah ax))) (af aL ax)))) cK)) aE)
    (aB (hX (ay (aq (pP hr.units) ae (cz (af ah (af ah ax))))) (aS ax) cK))))))⟩
theorem sA(T:Txt w K mg t):cq P w K mg base (CXE P w) 2 t.fK t.d_hex_worth nA (spP K (cn t) fK):=
 fG T.iV.F x4 fun _ _ _ _ _ _ hr=>⟨_,(aj (aT (cg (qx (nP T) T.fI hr aN (aa (qv 0) av)) (fun _=>rfl)) (au (aA (aF rh (qv 0) (ba rfl T.m_NOUGHT T.r_NOUGHT)))) aD)
   (aj (aT (jd mf mf ai (qv 0) ai) (au (aA (aF rh (qv 0) ai))) aD)
   (aj (aT (jd mf mf ai (qv 0) ai) (au (aA (aF rh (qv 0) ai))) aD)
   (au (aA cM))))),
  (aw (aU (eM (aR (af ae ax))) (aB (aq qW ae ah)) aE)
    (aw (aU (ay (iB lR lR ah ae ah)) (aB (aq qW ae ah)) aE)
    (aw (aU (ay (iB lR lR ah ae ah)) (aB (aq qW ae ah)) aE)
    (aB cK))))⟩
theorem sZ(T:Txt w K mg t):cq P w K mg base (CXE P w) 1 t.dC t.d_behind_code_d jG (spP K (cn t) dC):=
 fG T.iD.F m7 fun _ _ _ _ _ _ hr=>⟨_,(aj (aT (bu j5 (qv 0) ai) (au (aA (aQ (aa aM (aa aM av))))) aD)
   (aj (aT (bu j5 (qv 0) ai) (aj (qz 1 m7.nd (aQ (aa (cB (aa (ba rfl T.m_BACKSLASH T.r_BACKSLASH) (aa (ba rfl T.m_BACKSLASH T.r_BACKSLASH) av))) (aa (cB (aa (ba rfl T.m_SMALL_U T.r_SMALL_U) (aa (ba rfl T.m_SMALL_U T.r_SMALL_U) av))) (aa aM (aa aM (aa aM (aa aM av))))))))
   (au (aA (aF eD (aQ (aa aM (aa aM av))) (qv 1))))) aD)
   (au (aA cM)))),
  (aw (aU (ay (aq j4 ae ah)) (aB (aS (af aL (af aL ax)))) aE)
    (aw (aU (ay (aq j4 ae ah)) (aw (aV (aS (af (cz (af ah (af ah ax))) (af (cz (af ah (af ah ax))) (af aL (af aL (af aL (af aL ax))))))))
    (aB (aq fW (aS (af aL (af aL ax))) ae))) aE)
    (aB cK)))⟩
theorem rD(T:Txt w K mg t):cq P w K mg base (CXE P w) 1 t.cR t.d_second_of_three iS (spP K (cn t) cR):=
 fG T.e_second_of_three.F rA fun _ _ _ _ _ _ hr=>⟨_,(aj (aT (bu bj (qv 0) ai) (au (aA (cB (aa ai (aa ai av))))) aD)
   (aj (aT (bu bj (qv 0) ai) (au (aA (cB (aa ai (aa ai av))))) aD)
   (au (aA (ba rfl T.m_TAIL T.r_TAIL))))),
  (aw (aU (ay (aq bp ae ah)) (aB (cz (af ah (af ah ax)))) aE)
    (aw (aU (ay (aq bp ae ah)) (aB (cz (af ah (af ah ax)))) aE)
    (aB (n6 T.q_TAIL))))⟩
theorem sN(T:Txt w K mg t):cq P w K mg base (CXE P w) 1 t.dm t.d_second_of_four jk (spP K (cn t) dm):=
 fG T.e_second_of_four.F sI fun _ _ _ _ _ _ hr=>⟨_,(aj (aT (bu bj (qv 0) ai) (au (aA (cB (aa ai (aa ai av))))) aD)
   (aj (aT (bu bj (qv 0) ai) (au (aA (cB (aa ai (aa ai av))))) aD)
   (au (aA (ba rfl T.m_TAIL T.r_TAIL))))),
  (aw (aU (ay (aq bp ae ah)) (aB (cz (af ah (af ah ax)))) aE)
    (aw (aU (ay (aq bp ae ah)) (aB (cz (af ah (af ah ax)))) aE)
    (aB (n6 T.q_TAIL))))⟩
theorem EO(T:Txt w K mg t):cq P w K mg base (CXE P w) 2 t.jw t.d_tails vy (spP K (cn t) jw):=
 fG T.e_tails.F D7 fun _ _ _ _ _ _ hr=>⟨_,(aj (aT (jd mf j5 ai (qv 0) ai) (au (aA (aQ av))) aD)
   (aj (aT (jd mf j5 ai (qv 0) ai) (au (aA (aQ (aa (ba rfl T.m_TAIL T.r_TAIL) av)))) aD)
   (aj (aT (jd mf j5 ai (qv 0) ai) (au (aA (aQ (aa (qx (rD T) T.e_second_of_three hr aN (aa (qv 0) av)) (aa (ba rfl T.m_TAIL T.r_TAIL) av))))) aD)
   (aj (aT (jd mf j5 ai (qv 0) ai) (au (aA (aQ (aa (qx (sN T) T.e_second_of_four hr aN (aa (qv 0) av)) (aa (ba rfl T.m_TAIL T.r_TAIL) (aa (ba rfl T.m_TAIL T.r_TAIL) av)))))) aD)
   (au (aA cM)))))),
  (aw (aU (ay (iB lR j4 ah ae ah)) (aB (aS ax)) aE)
    (aw (aU (ay (iB lR j4 ah ae ah)) (aB (aS (af (n6 T.q_TAIL) ax))) aE)
    (aw (aU (ay (iB lR j4 ah ae ah)) (aB (aS (af (aR (af ae ax)) (af (n6 T.q_TAIL) ax)))) aE)
    (aw (aU (ay (iB lR j4 ah ae ah)) (aB (aS (af (aR (af ae ax)) (af (n6 T.q_TAIL) (af (n6 T.q_TAIL) ax))))) aE)
    (aB cK)))))⟩
theorem qo(T:Txt w K mg t):cq P w K mg base (CXE P w) 3 t.bW t.d_behind_character ie (spP K (cn t) bW):=
 fG T.fM.F kK fun _ _ _ _ _ _ hr=>⟨_,(aj (aT (bu bj (qv 0) (ba rfl T.m_QUOTE T.r_QUOTE)) (au (aA (aQ av))) aD)
   (aj (aT (bu bj (qv 0) (ba rfl T.m_BACKSLASH T.r_BACKSLASH)) (au (aA (aQ (aa aM (aa aM av))))) aD)
   (aj (qz 1 kK.nd (qx (EO T) T.e_tails hr aN (aa (qv 0) av)))
   (aj (aT (jz (uD (bu j5 (qv 0) (ba rfl T.m_BLANK T.r_BLANK)) (rJ (bu tS (qv 1) cM)))) (au (aA cM)) aD)
   (au (aA (aF eD (qv 1) (aQ (aa aM av))))))))),
  (aw (aU (ay (aq bp ae ah)) (aB (aS ax)) aE)
    (aw (aU (ay (aq bp ae ah)) (aB (aS (af aL (af aL ax)))) aE)
    (aw (aV (aR (af ae ax)))
    (aw (aU (uC (ay (aq j4 ae ah)) (ay (aq tU ae cK))) (aB cK) aE)
    (aB (aq fW ae (aS (af aL ax))))))))⟩
theorem uF(T:Txt w K mg t):cq P w K mg base (CXE P w) 1 t.bM t.d_short_escape kD (spP K (cn t) bM):=
 fG T.i0.F uK fun _ _ _ _ _ _ hr=>⟨_,(au (aA (zu (ba rfl T.m_SHORT_ESCAPES T.r_SHORT_ESCAPES) (qv 0)))),
  (aB (zj T.q_SHORT_ESCAPES ae))⟩
theorem qf(T:Txt w K mg t):cq P w K mg base (CXE P w) 2 t.cA t.d_behind_backslash ic (spP K (cn t) cA):=
 fG T.fX.F qj fun _ _ _ _ _ _ hr=>⟨_,(aj (aT (bu bj (qv 0) (ba rfl T.m_SMALL_U T.r_SMALL_U)) (au (aA (aQ (aa aM av)))) aD)
   (au (aA (cP (by exact(bu tS (qx (uF T) T.i0 hr aN (aa (qv 0) av)) cM)) cM (aQ av))))),
  (aw (aU (ay (aq bp ae ah)) (aB (aS (af aL ax))) aE)
    (aB (hX (ay (aq tU (aR (af ae ax)) cK)) cK (aS ax))))⟩
theorem rW(T:Txt w K mg t):cq P w K mg base (CXE P w) 4 t.bI t.d_behind_in_text i9 (spP K (cn t) bI):=
 fG T.e_behind_in_text.F mB fun _ _ _ _ _ _ hr=>⟨_,(aj (aT (bu bj (qv 0) aM) (au (aA (qx (qo T) T.fM hr aN (aa (qv 1) av)))) aD)
   (aj (aT (bu bj (qv 0) aM) (au (aA (qx (qf T) T.fX hr aN (aa (qv 1) av)))) aD)
   (aj (qz 2 mB.nd (qx (sA T) T.iV hr aN (aa (qv 1) av)))
   (aj (aT (bu tS (qv 2) cM) (au (aA cM)) aD)
   (aj (aT (bu bj (qv 0) aM) (au (aA (cP (by exact(bu bj (qv 2) ai)) (aQ (aa aM av)) (aQ (aa aM (aa aM (aa aM av))))))) aD)
   (au (aA (qx (sZ T) T.iD hr aN (aa (qv 2) av))))))))),
  (aw (aU (ay (aq bp ae aL)) (aB (aR (af ae ax))) aE)
    (aw (aU (ay (aq bp ae aL)) (aB (aR (af ae ax))) aE)
    (aw (aV (aR (af ae ax)))
    (aw (aU (ay (aq tU ae cK)) (aB cK) aE)
    (aw (aU (ay (aq bp ae aL)) (aB (hX (ay (aq bp ae ah)) (aS (af aL ax)) (aS (af aL (af aL (af aL ax)))))) aE)
    (aB (aR (af ae ax))))))))⟩
theorem wD(T:Txt w K mg t):cq P w K mg base (CXE P w) 3 t.du t.d_behind_hex mV (spP K (cn t) du):=
 fG T.e_behind_hex.F qE fun _ _ _ _ _ _ hr=>⟨_,(aj (qz 2 qE.nd (qx (sA T) T.iV hr aN (aa (qv 1) av)))
   (aj (aT (bu tS (qv 2) cM) (au (aA cM)) aD)
   (aj (aT (bu bj (qv 0) aM) (au (aA (cP (by exact(bu bj (qv 2) ai)) (aQ av) cM))) aD)
   (aj (aT (bu bj (qv 0) aM) (au (aA (cP (by exact(bu BL (qv 2) ai)) (aQ av) cM))) aD)
   (au (aA (aQ av))))))),
  (aw (aV (aR (af ae ax)))
    (aw (aU (ay (aq tU ae cK)) (aB cK) aE)
    (aw (aU (ay (aq bp ae aL)) (aB (hX (ay (aq bp ae ah)) (aS ax) cK)) aE)
    (aw (aU (ay (aq bp ae aL)) (aB (hX (ay (aq Cw ae ah)) (aS ax) cK)) aE)
    (aB (aS ax))))))⟩
theorem qq(T:Txt w K mg t):cq P w K mg base (CXE P w) 4 t.b4 t.d_behind_row_begin ib (spP K (cn t) b4):=
 fG T.fQ.F kH fun _ _ _ _ _ _ hr=>⟨_,(aj (aT (bu bj (qv 0) (ba rfl T.m_ROW_END T.r_ROW_END)) (au (aA (aQ av))) aD)
   (aj (qz 1 kH.nd (qx (oB T) T.fD hr aN (aa (qv 0) av)))
   (au (aA (cP (by exact(bu tS (qv 1) cM)) cM (aF eD (qv 1) (aQ (aa aM (aa aM av))))))))),
  (aw (aU (ay (aq bp ae ah)) (aB (aS ax)) aE)
    (aw (aV (aR (af ae ax)))
    (aB (hX (ay (aq tU ae cK)) cK (aq fW ae (aS (af aL (af aL ax))))))))⟩
theorem pj(T:Txt w K mg t):cq P w K mg base (CXE P w) 1 t.eG t.d_member_rest lq (spP K (cn t) eG):=
 fG T.dq.F u9 fun _ _ _ _ _ _ hr=>⟨_,(au (aA (aQ (aa aM (aa (cB (aa (ba rfl T.m_COLON T.r_COLON) (aa (ba rfl T.m_COLON T.r_COLON) av))) (aa aM (aa aM (aa aM (aa aM av))))))))),
  (aB (aS (af aL (af (cz (af ah (af ah ax))) (af aL (af aL (af aL (af aL ax))))))))⟩
theorem ot(T:Txt w K mg t):cq P w K mg base (CXE P w) 2 t.bY t.d_behind_fields_begin fL (spP K (cn t) bY):=
 fG T.eQ.F nj fun _ _ _ _ _ _ hr=>⟨_,(aj (aT (bu bj (qv 0) (ba rfl T.m_FIELDS_END T.r_FIELDS_END)) (au (aA (aQ av))) aD)
   (au (aA (cP (by exact(bu bj (qv 0) (ba rfl T.m_QUOTE T.r_QUOTE))) (aF eD (aQ (aa aM av)) (wH ((pj T).mono (by decide)) hr rfl T.dq.m T.dq.F.kp T.dq.b aN)) cM)))),
  (aw (aU (ay (aq bp ae ah)) (aB (aS ax)) aE)
    (aB (hX (ay (aq bp ae ah)) (aq fW (aS (af aL ax)) (aR ax)) cK)))⟩
theorem oP(T:Txt w K mg t):cq P w K mg base (CXE P w) 5 t.bb t.d_behind_in_brackets gk (spP K (cn t) bb):=
 fG T.e_behind_in_brackets.F oN fun _ _ _ _ _ _ hr=>⟨_,(aj (aT (bu bj (qv 0) aM) (au (aA (qx (qq T) T.fQ hr aN (aa (qv 1) av)))) aD)
   (aj (aT (bu bj (qv 0) aM) (au (aA (qx (ot T) T.eQ hr aN (aa (qv 1) av)))) aD)
   (aj (aT (bu bj (qv 0) aM) (aj (aT (bu bj (qv 1) (ba rfl T.m_COMMA T.r_COMMA)) (au (aA (aQ (aa aM (aa aM (aa aM (aa aM av))))))) aD)
   (au (aA (cP (by exact(bu bj (qv 1) (ba rfl T.m_ROW_END T.r_ROW_END))) (aQ av) cM)))) aD)
   (aj (aT (bu bj (qv 1) (ba rfl T.m_COMMA T.r_COMMA)) (au (aA (aF eD (aQ (aa aM (aa aM av))) (wH ((pj T).mono (by decide)) hr rfl T.dq.m T.dq.F.kp T.dq.b aN)))) aD)
   (au (aA (cP (by exact(bu bj (qv 1) (ba rfl T.m_FIELDS_END T.r_FIELDS_END))) (aQ av) cM))))))),
  (aw (aU (ay (aq bp ae aL)) (aB (aR (af ae ax))) aE)
    (aw (aU (ay (aq bp ae aL)) (aB (aR (af ae ax))) aE)
    (aw (aU (ay (aq bp ae aL)) (aw (aU (ay (aq bp ae ah)) (aB (aS (af aL (af aL (af aL (af aL ax)))))) aE)
    (aB (hX (ay (aq bp ae ah)) (aS ax) cK))) aE)
    (aw (aU (ay (aq bp ae ah)) (aB (aq fW (aS (af aL (af aL ax))) (aR ax))) aE)
    (aB (hX (ay (aq bp ae ah)) (aS ax) cK))))))⟩
theorem yR(T:Txt w K mg t):cq P w K mg base (CXE P w) 1 t.iE t.d_is_white pQ (spP K (cn t) iE):=
 fG T.nT.F y9 fun _ _ _ _ _ _ hr=>⟨_,(au (aA (gv lE (qv 0) (ba rfl T.m_WHITE T.r_WHITE) rfl))),
  (aB (aq (pP hr.units) ae (n6 T.q_WHITE)))⟩
theorem Dh(T:Txt w K mg t):cq P w K mg base (CXE P w) 6 t.j7 t.d_behind tZ (spP K (cn t) j7):=
 fG T.rR.F CO fun _ _ _ _ _ _ hr=>⟨_,(aj (aT (cg (jv o2 rfl T.n_isinstance L2.E.boot_isinstance (aa (qv 0) (aa (rY (v:=.ty _) rfl T.n_tuple L2.E.boot_tuple rfl) av))) (fun _=>rfl)) (au (aA (cP (by exact(jd mf mf (qi dZ (qv 0) ai) (qv 1) (qi dZ (qv 0) ai))) (aQ av) cM))) aD)
   (aj (aT (iC lE (qv 0) (cB (aa aM (aa aM (aa aM (aa aM (aa aM av)))))) rfl) (au (aA (qx (qp T) T.e_behind_in_number hr aN (aa (qv 0) (aa (qv 1) av))))) aD)
   (aj (aT (iC lE (qv 0) (cB (aa aM (aa aM (aa aM (aa aM av))))) rfl) (au (aA (qx (rW T) T.e_behind_in_text hr aN (aa (qv 0) (aa (qv 1) av))))) aD)
   (aj (aT (iC lE (qv 0) (cB (aa aM (aa aM (aa aM av)))) rfl) (au (aA (qx (wD T) T.e_behind_hex hr aN (aa (qv 0) (aa (qv 1) av))))) aD)
   (aj (aT (iC lE (qv 0) (ba rfl T.m_UNENDED T.r_UNENDED) rfl) (au (aA (qx (oP T) T.e_behind_in_brackets hr aN (aa (qv 0) (aa (qv 1) av))))) aD)
   (aj (aT (bu bj (qv 0) aM) (au (aA (cP (by exact(cg (qx (yR T) T.nT hr aN (aa (qv 1) av)) (fun _=>rfl))) (aQ (aa aM av)) cM))) aD)
   (aj (aT (bu bj (qv 0) aM) (au (aA (cP (by exact(bu bj (qv 1) (ba rfl T.m_QUOTE T.r_QUOTE))) (aQ (aa aM av)) cM))) aD)
   (au (aA (qx (oB T) T.fD hr aN (aa (qv 1) av))))))))))),
  (aw (aU (eM (vq ae)) (aB (hX (ay (iB lR lR (aq dQ ae ah) ae (aq dQ ae ah))) (aS ax) cK)) aE)
    (aw (aU (ay (aq (pP hr.units) ae (cz (af aL (af aL (af aL (af aL (af aL ax)))))))) (aB (aR (af ae (af ae ax)))) aE)
    (aw (aU (ay (aq (pP hr.units) ae (cz (af aL (af aL (af aL (af aL ax))))))) (aB (aR (af ae (af ae ax)))) aE)
    (aw (aU (ay (aq (pP hr.units) ae (cz (af aL (af aL (af aL ax)))))) (aB (aR (af ae (af ae ax)))) aE)
    (aw (aU (ay (aq (pP hr.units) ae (xZ fun S=>by unfold Rep;exact⟨_,_,rfl,T.q_UNENDED S,(.cons (by unfold Rep;rfl) (.cons (by unfold Rep;rfl) (.cons (by unfold Rep;rfl) (.cons (by unfold Rep;rfl) .nil))))⟩))) (aB (aR (af ae (af ae ax)))) aE)
    (aw (aU (ay (aq bp ae aL)) (aB (hX (eM (aR (af ae ax))) (aS (af aL ax)) cK)) aE)
    (aw (aU (ay (aq bp ae aL)) (aB (hX (ay (aq bp ae ah)) (aS (af aL ax)) cK)) aE)
    (aB (aR (af ae ax))))))))))⟩
theorem tw(T:Txt w K mg t):cq P w K mg base (CXE P w) 1 t.cD t.d_Walk_brackets jC (spI K (cn t) cD):=
 wt T.F_Walk_brackets tF fun _ _ _ _ _ _ hr=>⟨_,(au (aA (qh T.n_len (xq (M:=[]) (ι:=[]) (x:="item") ⟨rfl,rfl,rfl,rfl,rfl,rfl,rfl,rfl,rfl,rfl,rfl,by decide +kernel⟩ rfl (gU (tP (qv 0))) (fun _ _ _ _=>(iC lE (qv 0) (ba rfl T.m_UNENDED T.r_UNENDED) rfl)) fun _ _ _ _=>(qv 0))))),
  (aB (gf tX (rM (by decide) (fN (wI aP (gH T))) (ay (aq (pP hr.units) ae (xZ fun S=>by unfold Rep;exact⟨_,_,rfl,T.q_UNENDED S,(.cons (by unfold Rep;rfl) (.cons (by unfold Rep;rfl) (.cons (by unfold Rep;rfl) (.cons (by unfold Rep;rfl) .nil))))⟩))) ae)))⟩
theorem uG(T:Txt w K mg t):cq P w K mg base (CXE P w) 7 t.dX t.d_Walk_goes_on km (spI K (cn t) dX):=
 wt T.F_Walk_goes_on kq fun _ _ _ _ _ _ hr=>⟨_,(aj (vg gY (cg (tP (qv 0)) (fun _=>rfl)) (aj (qz 2 kq.nd (Ba PySem.F.plainAttrs_list PySem.F.slot_list_pop PySem.F.type_list_pop Eo (tP (qv 0))))
   (aj (qz 3 kq.nd (qx (Dh T) T.rR hr aN (aa (qv 2) (aa (qv 1) av))))
   (aj (aT (bu yK (qv 3) cM) (aj (qex fP (tP (qv 0)) (Ei (qv 3) (mx ja ai)))
   (au (aA (gv mf (xb (qv 0) T.c_Walk T.h_Walk_brackets ((tw T).mono (by decide)) hr T.b_Walk_brackets aN) (ba rfl T.m_MOST_BRACKETS T.r_MOST_BRACKETS) (jE _))))) aD)
   (au (aT (iC xu (qv 2) (ba rfl T.m_LOOSE T.r_LOOSE) rfl) (au (aA vH)) aD))))))
   (au (aA vH))),
  (aw (vw (g8 (wI aP (gH T))) (aw (nG (B6 (wI aP (gH T))))
    (aw (aV (aR (af ae (af ae ax))))
    (aw (aU (ay (aq xN ae cK)) (aw (fU (wI aP (gH T)) (D4 ae (mi i6 ah)))
    (aB (aq lR (zf rfl rfl (IL aP) lT) ah))) aE)
    (aU (ay (aq (zg hr.units) ae (xZ fun S=>by unfold Rep;exact⟨_,_,rfl,T.q_LOOSE S,(.cons (by unfold Rep;rfl) (.cons (by unfold Rep;rfl) (.cons (by unfold Rep;rfl) (.cons (by unfold Rep;rfl) (.cons (by unfold Rep;rfl) .nil)))))⟩))) (aB vc) aE)))))
    (aB vc))⟩
theorem sC(T:Txt w K mg t):cq P w K mg base (CXE P w) 8 t.eI t.d_Walk_take ox (spI K (cn t) eI):=
 wt T.F_Walk_take nQ fun _ _ _ _ _ _ hr=>⟨_,(aj (mN gY rfl (Gu rfl T.n_enumerate (aa (qv 1) av)) (Kl rfl (yU (jj (i:=2) nQ.nd rfl (by first|exact Or.inl rfl|exact Or.inr rfl)) (yU (jj (i:=3) nQ.nd rfl (by first|exact Or.inl rfl|exact Or.inr rfl)) GK))) (au (aT (Er (cg (vJ (qv 0) T.c_Walk T.h_Walk_goes_on ((uG T).mono (by decide)) hr T.b_Walk_goes_on aN (aa (qv 3) av)) (fun _=>rfl))) (au (aA (qv 2))) aD)))
   (au (aA (qh T.n_len (qv 1))))),
  (aw (GW ae (Ht (vt rfl rfl (oF aP) (fh (zW (W:=fun _ _ _ _=>False) ae) lT)) mW aE))
    (aB (gf tX ae)))⟩
theorem Ae(T:Txt w K mg t):cq P w K mg base (CXE P w) 1 t.iK t.d_shortest pN (spP K (cn t) iK):=
 fG T.nC.F zU fun _ _ _ _ _ _ hr=>⟨_,(aj (aT (cg (jv o2 rfl T.n_isinstance L2.E.boot_isinstance (aa (qv 0) (aa (rY (v:=.ty _) rfl T.n_tuple L2.E.boot_tuple rfl) av))) (fun _=>rfl)) (au (aA (cB (aa (qi dZ (qv 0) ai) av)))) aD)
   (au (aA (Gf (ba rfl T.m_SHORTEST T.r_SHORTEST) (qv 0) (cB av))))),
  (aw (aU (eM (vq ae)) (aB (cz (af (aq dQ ae ah) ax))) aE)
    (aB (FK T.q_SHORTEST ae (cz ax))))⟩
theorem wK(T:Txt w K mg t):cq P w K mg base (CXE P w) 9 t.ka t.d_ending tL (spP K (cn t) ka):=
 fG T.nc.F nh fun _ _ _ _ _ _ hr=>⟨_,(aj (qz 1 nh.nd (zB T.k_Walk (mY T) (hr.mono (by decide)) rfl T.m_Walk T.b_Walk___init__))
   (aj (qz 2 nh.nd (vJ (qv 1) T.c_Walk T.h_Walk_take ((sC T).mono (by decide)) hr T.b_Walk_take aN (aa (qv 0) av)))
   (aj (aT (bu j5 (qv 2) (qh T.n_len (qv 0))) (au HU) aD)
   (aj (qz 3 nh.nd (aQ av))
   (aj (mN gY rfl (gU (Ei (tP (qv 1)) (mx ja ai))) (jj (i:=4) nh.nd rfl (by first|exact Or.inl rfl|exact Or.inr rfl)) (au (qex AX (qv 3) (qx (Ae T) T.nC hr aN (aa (qv 4) av)))))
   (au (aA (qv 3)))))))),
  (aw (nN (B9 rfl))
    (aw (nG (vt rfl rfl (oF aP) (fh (zW (W:=fun _ _ _ _=>False) ae) lT)))
    (aw (aU (ay (aq j4 ae (gf tX ae))) Hw aE)
    (aw (nN (lM (aS ax)))
    (aw (pZ (D4 (fN (wI aP (gH T))) (mi i6 ah)) (Bu aP (aR (af ae ax))))
    (qY (i:=3) mW))))))⟩
theorem yi(T:Txt w K mg t):cq P w K mg base (CXE P w) 1 t.gM t.d_law_whole oy (spP K (cn t) gM):=
 fG T.mm.F xX fun _ _ _ _ _ _ hr=>⟨_,(au (aA (Fo (jv o2 rfl T.n_isinstance L2.E.boot_isinstance (aa (qv 0) (aa (rY (v:=.ty _) rfl T.n_int L2.E.boot_int rfl) av))) (EU (K3 (jv o2 rfl T.n_isinstance L2.E.boot_isinstance (aa (qv 0) (aa (rY (v:=.ty _) rfl T.n_bool L2.E.boot_bool rfl) av)))))))),
  (aB (Fi (vq ae) (Jr (vq ae))))⟩
theorem wB(T:Txt w K mg t):cq P w K mg base (CXE P w) 2 t.eX t.d_law_wholes mH (spP K (cn t) eX):=
 fG T.kP.F wy fun _ _ _ _ _ _ hr=>⟨_,(au (aA (Fo (jv o2 rfl T.n_isinstance L2.E.boot_isinstance (aa (qv 0) (aa (rY (v:=.ty _) rfl T.n_list L2.E.boot_list rfl) av))) (EU (jv xl rfl T.n_all L2.E.boot_all (aa (lW (M:=[]) (ι:=[]) (x:="_law_one") ⟨rfl,rfl,rfl,rfl,rfl,rfl,rfl,rfl,rfl,rfl,rfl,by decide +kernel⟩ rfl (gU (qv 0)) fun _ _ _ _=>(qx (yi T) T.mm hr AI (aa (qv 0) av))) av)))))),
  (aB (Fi (vq ae) (gf (DR hr.hd) (rP (by decide) ae (aR (af ae ax))))))⟩
theorem tD(T:Txt w K mg t):cq P w K mg base (CXE P w) 1 t.cY t.d_Walk_is_whole jL (spI K (cn t) cY):=
 wt T.F_Walk_is_whole tG fun _ _ _ _ _ _ hr=>⟨_,(au (aA (jv xl rfl T.n_all L2.E.boot_all (aa (lW (M:=[]) (ι:=[]) (x:="item") ⟨rfl,rfl,rfl,rfl,rfl,rfl,rfl,rfl,rfl,rfl,rfl,by decide +kernel⟩ rfl (gU (tP (qv 0))) fun _ _ _ _=>(gv lE (qv 0) (ba rfl T.m_LOOSE T.r_LOOSE) rfl)) av)))),
  (aB (gf (DR hr.hd) (rP (by decide) (fN (wI aP (gH T))) (aq (pP hr.units) ae (xZ fun S=>by unfold Rep;exact⟨_,_,rfl,T.q_LOOSE S,(.cons (by unfold Rep;rfl) (.cons (by unfold Rep;rfl) (.cons (by unfold Rep;rfl) (.cons (by unfold Rep;rfl) (.cons (by unfold Rep;rfl) .nil)))))⟩)))))⟩
theorem Fb(T:Txt w K mg t):cq P w K mg base (CXE P w) 9 t.kU t.d_fault vT (spP K (cn t) kU):=
 fG T.u6.F wu fun _ _ _ _ _ _ hr=>⟨_,(aj (qz 1 wu.nd (zB T.k_Walk (mY T) (hr.mono (by decide)) rfl T.m_Walk T.b_Walk___init__))
   (aj (qz 2 wu.nd (vJ (qv 1) T.c_Walk T.h_Walk_take ((sC T).mono (by decide)) hr T.b_Walk_take aN (aa (qv 0) av)))
   (aj (aT (jz (jh (bu bj (qv 2) (qh T.n_len (qv 0))) (jt (cg (xb (qv 1) T.c_Walk T.h_Walk_is_whole ((tD T).mono (by decide)) hr T.b_Walk_is_whole aN) (fun _=>rfl))))) (au (aA cM)) aD)
   (au (aA (qv 2)))))),
  (aw (nN (B9 rfl))
    (aw (nG (vt rfl rfl (oF aP) (fh (zW (W:=fun _ _ _ _=>False) ae) lT)))
    (aw (aU (i8 (ay (aq bp ae (gf tX ae))) (eM (zf rfl rfl (IL aP) lT))) (aB cK) aE)
    mW)))⟩
theorem Ls(T:Txt w K mg t):cq P w K mg base (CXE P w) 10 t.xy t.d_law Be (spP K (cn t) xy):=
 fG T.DO.F ia fun _ _ _ _ _ _ hr=>⟨_,(aj (qz 1 ia.nd (qx (xI T) T.e_law_built hr aN (aa (qv 0) (aa (aF cj ai (aF bO (qx (jN T) T.dJ hr aN (aa (qv 0) (aa ai av))) ai)) av))))
   (aj (qz 2 ia.nd (qi dZ (qv 1) ai))
   (aj (qz 3 ia.nd (aF bO (qx (jN T) T.dJ hr aN (aa (qv 0) (aa ai av))) (aF cj (qh T.n_len (qv 2)) ai)))
   (aj (qz 4 ia.nd (o9 rZ (qv 2) sG (sm (qv 3))))
   (aj (qz 5 ia.nd (qx (wK T) T.nc hr aN (aa (qv 4) av)))
   (aj (aT (jz (uD (Er (cg (qx (wB T) T.kP hr aN (aa (qv 5) av)) (fun _=>rfl))) (uD (bu D5 (qv 4) (o9 rZ (qv 2) sG (sm (qv 3)))) (rJ (bu yK (qx (Fb T) T.u6 hr aN (aa (aF eD (o9 rZ (qv 2) sG (sm (qv 3))) (qv 5)) av)) cM))))) (au (aA vH)) aD)
   (aj (aT (bu D5 (qx (wK T) T.nc hr aN (aa (qv 2) av)) (aQ av)) (au (aA vH)) aD)
   (aj (qz 6 ia.nd ai)
   (aj (qz 7 ia.nd ai)
   (aj (mN gY rfl (gU (qi dZ (qv 1) ai)) (jj (i:=8) ia.nd rfl (by first|exact Or.inl rfl|exact Or.inr rfl)) (au (aT (jd j5 j5 (qi dZ (qv 8) ai) (qv 3) (qi dZ (qv 8) ai)) (au (aT (iC lE (qi dZ (qv 8) ai) (cB (aa aM (aa aM av))) rfl) (au (qz 6 ia.nd (aF cj (qv 6) ai))) (au (qz 7 ia.nd (aF cj (qv 7) ai))))) aD)))
   (aj (aT (jz (uD (bu xC (qv 7) ai) (rJ (bu bj (qv 6) ai)))) (au (aA vH)) aD)
   (aj (qz 9 ia.nd (qi bT (xq (M:=[]) (ι:=[]) (x:="_law_byte") ⟨rfl,rfl,rfl,rfl,rfl,rfl,rfl,rfl,rfl,rfl,rfl,by decide +kernel⟩ rfl (gU (o9 rZ (qv 2) sG (sm (qv 3)))) (fun _ _ _ _=>(iC xu (qv 0) (cB (aa ai (aa ai (aa ai (aa ai av))))) rfl)) fun _ _ _ _=>(qv 0)) (mx ja ai)))
   (aj (CG (i:=10) ia.nd rfl (by first|exact Or.inl rfl|exact Or.inr rfl) (M:=["_law_at"]) (ι:=[3]) (x:="_law_node") ⟨rfl,rfl,rfl,rfl,rfl,rfl,rfl,rfl,rfl,rfl,rfl,by decide +kernel⟩ rfl (gU (qi dZ (qv 1) ai)) (fun _ _ _ _=>(jd j5 j5 (qi dZ (qv 1) ai) (qv 0) (qi dZ (qv 1) ai))) fun _ _ _ _=>(cP (by exact(bu bj (qi dZ (qv 1) ai) aM)) ai ai))
   (aj (yA (Ba PySem.F.plainAttrs_list PySem.F.slot_list_reverse PySem.F.type_list_reverse AS (qv 10)))
   (aj (qz 11 ia.nd cM)
   (aj (mN gY rfl (gU (qi dZ (qv 1) ai)) (jj (i:=8) ia.nd rfl (by first|exact Or.inl rfl|exact Or.inr rfl)) (au (aT (jz (jh (iC lE (qi dZ (qv 8) ai) (cB (aa aM (aa aM av))) rfl) (jh (bu mf (qi dZ (qv 8) ai) (qv 3)) (jt (jz (uD (bu tS (qv 11) cM) (rJ (bu xC (qi dZ (qv 8) ai) (qi dZ (qv 11) ai))))))))) (au (qz 11 ia.nd (qv 8))) aD)))
   (aj (aT (jz (jh (bu bj (qv 9) ai) (jt (bu bj (qi dZ (qv 11) ai) aM)))) (au (aA (gv yy (qv 5) (aF eD (aQ (aa ai (aa ai av))) (qv 10)) (jE _)))) aD)
   (aj (aT (jz (jh (bu bj (qv 9) ai) (jt (bu bj (qi bT (qv 10) ai) ai)))) (au (aA (gv yy (qv 5) (aF eD (aQ (aa ai (aa ai (aa ai (aa ai av))))) (qv 10)) (jE _)))) aD)
   (aj (aT (jz (uD (bu bj (qv 9) ai) (rJ (bu bj (qv 9) ai)))) (au (aA (gv yy (qv 5) (aF eD (aQ (aa ai av)) (qv 10)) (jE _)))) aD)
   (au (aA (gv yy (qv 5) (qv 10) (jE _))))))))))))))))))))))),
  (aw (aV (aR (af ae (af (aq cf ah (aq bN (aR (af ae (af ah ax))) ah)) ax))))
    (aw (aV (aq dQ ae ah))
    (aw (aV (aq bN (aR (af ae (af ah ax))) (aq cf (gf tX ae) ah)))
    (aw (aV (vz ae sR (sE ae)))
    (aw (ll (i:=4) (aV (aR (af ae ax))))
    (aw (ll (i:=5) (aU (uC (KU (eM (aR (af ae ax)))) (uC (ay (aq (Gi hr.units) ae (vz ae sR (sE ae)))) (ay (aq xN (aR (af (aq fW (vz ae sR (sE ae)) ae) ax)) cK)))) (aB vc) aE))
    (aw (aU (ay (aq (Gi hr.units) (aR (af ae ax)) (aS ax))) (aB vc) aE)
    (aw (aV ah)
    (aw (aV ah)
    (aw (pZ (aq dQ ae ah) (aU (ay (iB j4 j4 (aq dQ ae ah) ae (aq dQ ae ah))) (aU (ay (aq (pP hr.units) (aq dQ ae ah) (cz (af aL (af aL ax))))) (aV (aq cf ae ah)) (aV (aq cf ae ah))) aE))
    (aw (aU (uC (ay (aq wN ae ah)) (ay (aq bp ae ah))) (aB vc) aE)
    (aw (aV (aq pH (rM (by decide) (vz ae sR (sE ae)) (ay (aq (zg hr.units) ae (cz (af ah (af ah (af ah (af ah ax))))))) ae) (mi i6 ah)))
    (aw (aV (rM (by decide) (aq dQ ae ah) (ay (iB j4 j4 (aq dQ ae ah) ae (aq dQ ae ah))) (hX (ay (aq bp (aq dQ ae ah) aL)) ah ah)))
    (aw Bg
    (aw (aV cK)
    (aw (pZ (aq dQ ae ah) (aU (i8 (ay (aq (pP hr.units) (aq dQ ae ah) (cz (af aL (af aL ax))))) (i8 (ay (aq lR (aq dQ ae ah) ae)) (uC (ay (aq tU ae cK)) (ay (aq wN (aq dQ ae ah) (aq dQ ae ah)))))) (aV ae) aE))
    (aw (aU (i8 (ay (aq bp ae ah)) (ay (aq bp (aq dQ ae ah) aL))) (aB (aq (yu hr.units) ae (aq fW (aS (af ah (af ah ax))) ae))) aE)
    (aw (aU (i8 (ay (aq bp ae ah)) (ay (aq bp (aq pH ae ah) ah))) (aB (aq (yu hr.units) ae (aq fW (aS (af ah (af ah (af ah (af ah ax))))) ae))) aE)
    (aw (aU (uC (ay (aq bp ae ah)) (ay (aq bp ae ah))) (aB (aq (yu hr.units) ae (aq fW (aS (af ah ax)) ae))) aE)
    (aB (aq (yu hr.units) ae ae)))))))))))))))))))))⟩
end
open PySem.W in
theorem all_mk{l:PySem.W.OpenLaw}{w:World}{K:PySem.W.Frag}{h:Heap}{mg:Str->Option Value}{fa:Addr}(X:K.In h)(G:h.Ns mainGlobals mg)(hfa:mg "law" = some (.ref fa))
  (h0:Fd K "tails" xE f0 d0)
  (h1:Fd K "second_of_three" i4 f1 d1)
  (h2:Fd K "second_of_four" jP f2 d2)
  (h3:Fd K "is_white" q8 f3 d3)
  (h4:Fd K "is_figure" oZ f4 d4)
  (h5:Fd K "hex_worth" oR f5 d5)
  (h6:Fd K "word_rest" pL f6 d6)
  (h7:Fd K "short_escape" lx f7 d7)
  (h8:Fd K "behind" vE f8 d8)
  (h9:Fd K "behind_value" lH f9 d9)
  (h10:Fd K "behind_lead" mS f10 d10)
  (h11:Fd K "behind_in_number" iM f11 d11)
  (h12:Fd K "behind_in_text" jM f12 d12)
  (h13:Fd K "behind_character" iJ f13 d13)
  (h14:Fd K "behind_backslash" iF f14 d14)
  (h15:Fd K "behind_code_d" kG f15 d15)
  (h16:Fd K "behind_hex" nK f16 d16)
  (h17:Fd K "behind_in_brackets" gF f17 d17)
  (h18:Fd K "behind_row_begin" iI f18 d18)
  (h19:Fd K "behind_fields_begin" gj f19 d19)
  (h20:Fd K "member_rest" mG f20 d20)
  (h21:Fd K "ending" vL f21 d21)
  (h22:Fd K "shortest" rf f22 d22)
  (h23:Fd K "fault" yb f23 d23)
  (h24:Fd K "_law_cell" rq f24 d24)
  (h25:Fd K "_law_mix" tq f25 d25)
  (h26:Fd K "_law_whole" pw f26 d26)
  (h27:Fd K "_law_wholes" og f27 d27)
  (h28:Fd K "_law_point" pA f28 d28)
  (h29:Fd K "_law_points" nu f29 d29)
  (h30:Fd K "_law_eight" pJ f30 d30)
  (h31:Fd K "_law_hex" tW f31 d31)
  (h32:Fd K "_law_sign" rH f32 d32)
  (h33:Fd K "_law_text" rG f33 d33)
  (h34:Fd K "_law_number" nI f34 d34)
  (h35:Fd K "_law_plain" pY f35 d35)
  (h36:Fd K "_law_white" o8 f36 d36)
  (h37:Fd K "_law_plain_value" je f37 d37)
  (h38:Fd K "_law_name" rp f38 d38)
  (h39:Fd K "_law_close" o5 f39 d39)
  (h40:Fd K "_law_begin" pD f40 d40)
  (h41:Fd K "_law_built" pX f41 d41)
  (a42:nsIn K mainGlobals "law" = some (some (.ref f42))) (l42:K.lookup f42=some ⟨oc42,od42,.func (fnOf "law" "law" (eR zd) (dF zd) (aC zd) .none kV42 dc42 pm42 an42 cd42 ct42),sl42⟩) (c42:codeIn K cd42 "law" = true) (k42:keepIn K (.ref f42)=true)
  (a43:findIn K (.ref C0) "__init__" = some (some (.ref f43))) (i43:isFn K (.ref f43)=true) (l43:K.lookup f43=some ⟨oc43,od43,.func (fnOf "__init__" "Walk.__init__" (eR eh) (dF eh) (aC eh) .none kV43 dc43 pm43 an43 cd43 ct43),sl43⟩) (c43:codeIn K cd43 "Walk.__init__" = true) (k43:keepIn K (.ref f43)=true)
  (a44:findIn K (.ref C0) "take" = some (some (.ref f44))) (i44:isFn K (.ref f44)=true) (l44:K.lookup f44=some ⟨oc44,od44,.func (fnOf "take" "Walk.take" (eR gB) (dF gB) (aC gB) .none kV44 dc44 pm44 an44 cd44 ct44),sl44⟩) (c44:codeIn K cd44 "Walk.take" = true) (k44:keepIn K (.ref f44)=true)
  (a45:findIn K (.ref C0) "goes_on" = some (some (.ref f45))) (i45:isFn K (.ref f45)=true) (l45:K.lookup f45=some ⟨oc45,od45,.func (fnOf "goes_on" "Walk.goes_on" (eR eO) (dF eO) (aC eO) .none kV45 dc45 pm45 an45 cd45 ct45),sl45⟩) (c45:codeIn K cd45 "Walk.goes_on" = true) (k45:keepIn K (.ref f45)=true)
  (a46:findIn K (.ref C0) "brackets" = some (some (.ref f46))) (i46:isFn K (.ref f46)=true) (l46:K.lookup f46=some ⟨oc46,od46,.func (fnOf "brackets" "Walk.brackets" (eR eA) (dF eA) (aC eA) .none kV46 dc46 pm46 an46 cd46 ct46),sl46⟩) (c46:codeIn K cd46 "Walk.brackets" = true) (k46:keepIn K (.ref f46)=true)
  (a47:findIn K (.ref C0) "is_whole" = some (some (.ref f47))) (i47:isFn K (.ref f47)=true) (l47:K.lookup f47=some ⟨oc47,od47,.func (fnOf "is_whole" "Walk.is_whole" (eR ez) (dF ez) (aC ez) .none kV47 dc47 pm47 an47 cd47 ct47),sl47⟩) (c47:codeIn K cd47 "Walk.is_whole" = true) (k47:keepIn K (.ref f47)=true)
  (z0:nsIn K mainGlobals "isinstance" = some none)
  (z1:nsIn K mainGlobals "tuple" = some none)
  (z2:nsIn K mainGlobals "len" = some none)
  (z3:nsIn K mainGlobals "int" = some none)
  (z4:nsIn K mainGlobals "bool" = some none)
  (z5:nsIn K mainGlobals "list" = some none)
  (z6:nsIn K mainGlobals "all" = some none)
  (z7:nsIn K mainGlobals "range" = some none)
  (z8:nsIn K mainGlobals "str" = some none)
  (z9:nsIn K mainGlobals "ord" = some none)
  (z10:nsIn K mainGlobals "enumerate" = some none)
  (ca0:nsIn K mainGlobals "Walk" = some (some (.ref C0))) (pg0:plainGet K C0 Str.empty=true) (hd0:hasDictIn K C0=true) (po0:plainOver K C0=true) (sa0:findIn K (.ref C0) "__setattr__" = some (some (.builtin "object.__setattr__"))) (mk0:makesIn K C0=true) (kc0:keepIn K (.ref C0)=true)
  (na0_0:findIn K (.ref C0) "coming" = some none)
  (va0:nsIn K mainGlobals "TAIL" = some (some (.ref v0))) (vl0:K.lookup v0=some ⟨.type "tuple",none,.seq #[.int 128 t0_0,.int 191 t0_1] vn0,vs0⟩)
  (va1:nsIn K mainGlobals "BLANK" = some (some (.int 32 t1)))
  (va2:nsIn K mainGlobals "QUOTE" = some (some (.int 34 t2)))
  (va3:nsIn K mainGlobals "PLUS" = some (some (.int 43 t3)))
  (va4:nsIn K mainGlobals "COMMA" = some (some (.int 44 t4)))
  (va5:nsIn K mainGlobals "MINUS" = some (some (.int 45 t5)))
  (va6:nsIn K mainGlobals "POINT" = some (some (.int 46 t6)))
  (va7:nsIn K mainGlobals "NOUGHT" = some (some (.int 48 t7)))
  (va8:nsIn K mainGlobals "NINE" = some (some (.int 57 t8)))
  (va9:nsIn K mainGlobals "COLON" = some (some (.int 58 t9)))
  (va10:nsIn K mainGlobals "BIG_E" = some (some (.int 69 t10)))
  (va11:nsIn K mainGlobals "ROW_BEGIN" = some (some (.int 91 t11)))
  (va12:nsIn K mainGlobals "BACKSLASH" = some (some (.int 92 t12)))
  (va13:nsIn K mainGlobals "ROW_END" = some (some (.int 93 t13)))
  (va14:nsIn K mainGlobals "SMALL_E" = some (some (.int 101 t14)))
  (va15:nsIn K mainGlobals "SMALL_U" = some (some (.int 117 t15)))
  (va16:nsIn K mainGlobals "FIELDS_BEGIN" = some (some (.int 123 t16)))
  (va17:nsIn K mainGlobals "FIELDS_END" = some (some (.int 125 t17)))
  (va18:nsIn K mainGlobals "WHITE" = some (some (.ref v18))) (vl18:K.lookup v18=some ⟨.type "tuple",none,.seq #[.int 9 t18_0,.int 10 t18_1,.int 13 t18_2,.int 32 t18_3] vn18,vs18⟩)
  (va19:nsIn K mainGlobals "WORDS" = some (some (.ref v19))) (vl19:K.lookup v19=some ⟨.type "dict",none,.dict #[⟨110,.int 110 tk19_0,.ref w19_0⟩,⟨116,.int 116 tk19_1,.ref w19_1⟩,⟨102,.int 102 tk19_2,.ref w19_2⟩] ep19,#[]⟩)
  (wl19_0:K.lookup w19_0=some ⟨.type "tuple",none,.seq #[.int 117 tx19_0_0,.int 108 tx19_0_1,.int 108 tx19_0_2] wn19_0,ws19_0⟩)
  (wl19_1:K.lookup w19_1=some ⟨.type "tuple",none,.seq #[.int 114 tx19_1_0,.int 117 tx19_1_1,.int 101 tx19_1_2] wn19_1,ws19_1⟩)
  (wl19_2:K.lookup w19_2=some ⟨.type "tuple",none,.seq #[.int 97 tx19_2_0,.int 108 tx19_2_1,.int 115 tx19_2_2,.int 101 tx19_2_3] wn19_2,ws19_2⟩)
  (vm19:(v19==sysModules)=false)
  (va20:nsIn K mainGlobals "SHORT_ESCAPES" = some (some (.ref v20))) (vl20:K.lookup v20=some ⟨.type "dict",none,.dict #[⟨34,.int 34 tk20_0,(.int 34 tv20_0)⟩,⟨92,.int 92 tk20_1,(.int 92 tv20_1)⟩,⟨47,.int 47 tk20_2,(.int 47 tv20_2)⟩,⟨98,.int 98 tk20_3,(.int 8 tv20_3)⟩,⟨102,.int 102 tk20_4,(.int 12 tv20_4)⟩,⟨110,.int 110 tk20_5,(.int 10 tv20_5)⟩,⟨114,.int 114 tk20_6,(.int 13 tv20_6)⟩,⟨116,.int 116 tk20_7,(.int 9 tv20_7)⟩] ep20,#[]⟩)
  (vm20:(v20==sysModules)=false)
  (va21:nsIn K mainGlobals "MOST_BRACKETS" = some (some (.int 64 t21)))
  (va22:nsIn K mainGlobals "LOOSE" = some (some (.ref v22))) (vl22:K.lookup v22=some ⟨.type "tuple",none,.seq #[.str "white" t22_0,.str "figures" t22_1,.str "fraction" t22_2,.str "exponent" t22_3,.str "sign" t22_4] vn22,vs22⟩)
  (va23:nsIn K mainGlobals "UNENDED" = some (some (.ref v23))) (vl23:K.lookup v23=some ⟨.type "tuple",none,.seq #[.str "row" t23_0,.str "more row" t23_1,.str "fields" t23_2,.str "more fields" t23_3] vn23,vs23⟩)
  (va24:nsIn K mainGlobals "SHORTEST" = some (some (.ref v24))) (vl24:K.lookup v24=some ⟨.type "dict",none,.dict #[⟨hashStr w "value",.str "value" tk24_0,.ref w24_0⟩,⟨hashStr w "lead",.str "lead" tk24_1,.ref w24_1⟩,⟨hashStr w "text",.str "text" tk24_2,.ref w24_2⟩,⟨hashStr w "name",.str "name" tk24_3,.ref w24_3⟩,⟨hashStr w "escape",.str "escape" tk24_4,.ref w24_4⟩,⟨hashStr w "code",.str "code" tk24_5,.ref w24_5⟩,⟨hashStr w "code d",.str "code d" tk24_6,.ref w24_6⟩,⟨hashStr w "hex",.str "hex" tk24_7,.ref w24_7⟩,⟨hashStr w "hex d",.str "hex d" tk24_8,.ref w24_8⟩,⟨hashStr w "hex c to f",.str "hex c to f" tk24_9,.ref w24_9⟩,⟨hashStr w "row",.str "row" tk24_10,.ref w24_10⟩,⟨hashStr w "more row",.str "more row" tk24_11,.ref w24_11⟩,⟨hashStr w "fields",.str "fields" tk24_12,.ref w24_12⟩,⟨hashStr w "more fields",.str "more fields" tk24_13,.ref w24_13⟩] ep24,#[]⟩)
  (wl24_0:K.lookup w24_0=some ⟨.type "tuple",none,.seq #[.int 48 tx24_0_0] wn24_0,ws24_0⟩)
  (wl24_1:K.lookup w24_1=some ⟨.type "tuple",none,.seq #[.int 48 tx24_1_0] wn24_1,ws24_1⟩)
  (wl24_2:K.lookup w24_2=some ⟨.type "tuple",none,.seq #[.int 34 tx24_2_0] wn24_2,ws24_2⟩)
  (wl24_3:K.lookup w24_3=some ⟨.type "tuple",none,.seq #[.int 34 tx24_3_0,.int 34 tx24_3_1] wn24_3,ws24_3⟩)
  (wl24_4:K.lookup w24_4=some ⟨.type "tuple",none,.seq #[.int 34 tx24_4_0] wn24_4,ws24_4⟩)
  (wl24_5:K.lookup w24_5=some ⟨.type "tuple",none,.seq #[.int 48 tx24_5_0,.int 48 tx24_5_1,.int 48 tx24_5_2,.int 48 tx24_5_3] wn24_5,ws24_5⟩)
  (wl24_6:K.lookup w24_6=some ⟨.type "tuple",none,.seq #[.int 48 tx24_6_0,.int 48 tx24_6_1,.int 48 tx24_6_2] wn24_6,ws24_6⟩)
  (wl24_7:K.lookup w24_7=some ⟨.type "tuple",none,.seq #[.int 48 tx24_7_0] wn24_7,ws24_7⟩)
  (wl24_8:K.lookup w24_8=some ⟨.type "tuple",none,.seq #[.int 68 tx24_8_0] wn24_8,ws24_8⟩)
  (wl24_9:K.lookup w24_9=some ⟨.type "tuple",none,.seq #[.int 67 tx24_9_0] wn24_9,ws24_9⟩)
  (wl24_10:K.lookup w24_10=some ⟨.type "tuple",none,.seq #[.int 93 tx24_10_0] wn24_10,ws24_10⟩)
  (wl24_11:K.lookup w24_11=some ⟨.type "tuple",none,.seq #[.int 93 tx24_11_0] wn24_11,ws24_11⟩)
  (wl24_12:K.lookup w24_12=some ⟨.type "tuple",none,.seq #[.int 125 tx24_12_0] wn24_12,ws24_12⟩)
  (wl24_13:K.lookup w24_13=some ⟨.type "tuple",none,.seq #[.int 125 tx24_13_0] wn24_13,ws24_13⟩)
  (vm24:(v24==sysModules)=false):
  ∃ fd:FuncData,(∀(s:Shared) (v:Value),BindsTo s fd ⟨[v],[]⟩ [("_law_script",v)]) /\ ∀ base:Heap,K.In base->base.Ns mainGlobals mg->cq l.prog w K mg base (CXE l.prog w) 10 fa fd ["_law_script"] (yN K):=by
 have e:=hfa.symm.trans (PySem.W.mg_of X G a42);cases e
 have T:Txt w K mg ⟨f0,d0,f1,d1,f2,d2,f3,d3,f4,d4,f5,d5,f6,d6,f7,d7,f8,d8,f9,d9,f10,d10,f11,d11,f12,d12,f13,d13,f14,d14,f15,d15,f16,d16,f17,d17,f18,d18,f19,d19,f20,d20,f21,d21,f22,d22,f23,d23,f24,d24,f25,d25,f26,d26,f27,d27,f28,d28,f29,d29,f30,d30,f31,d31,f32,d32,f33,d33,f34,d34,f35,d35,f36,d36,f37,d37,f38,d38,f39,d39,f40,d40,f41,d41,f42,_,f43,_,f44,_,f45,_,f46,_,f47,_,C0,v0,_,_,_,_,_,_,_,_,_,_,_,_,_,_,_,_,_,v18,v19,v20,_,v22,v23,v24⟩:=⟨h0.e1 X G,
  h1.e1 X G,
  h2.e1 X G,
  h3.e1 X G,
  h4.e1 X G,
  h5.e1 X G,
  h6.e1 X G,
  h7.e1 X G,
  h8.e2 X G,
  h9.e1 X G,
  h10.e1 X G,
  h11.e2 X G,
  h12.e2 X G,
  h13.e1 X G,
  h14.e1 X G,
  h15.e1 X G,
  h16.e2 X G,
  h17.e2 X G,
  h18.e1 X G,
  h19.e1 X G,
  h20.e0 X G,
  h21.e1 X G,
  h22.e1 X G,
  h23.e1 X G,
  h24.e2 X G,
  h25.e2 X G,
  h26.e1 X G,
  h27.e1 X G,
  h28.e1 X G,
  h29.e2 X G,
  h30.e1 X G,
  h31.e2 X G,
  h32.e2 X G,
  h33.e2 X G,
  h34.e1 X G,
  h35.e2 X G,
  h36.e1 X G,
  h37.e2 X G,
  h38.e2 X G,
  h39.e3 X G,
  h40.e5 X G,
  h41.e2 X G,
  (cV a42 l42 c42 k42).e1 X G,
  lr (st:=eh) l43 c43 k43,(lr (st:=eh) l43 c43 k43).binds (ps:=["self"]) fun _ _ _ _ _ _ us hl=>match us,hl with|[_],_=>rfl,
  lr (st:=gB) l44 c44 k44,⟨a44,i44,k44⟩,(lr (st:=gB) l44 c44 k44).binds (ps:=["self","row"]) fun _ _ _ _ _ _ us hl=>match us,hl with|[_,_],_=>rfl,
  lr (st:=eO) l45 c45 k45,⟨a45,i45,k45⟩,(lr (st:=eO) l45 c45 k45).binds (ps:=["self","byte"]) fun _ _ _ _ _ _ us hl=>match us,hl with|[_,_],_=>rfl,
  lr (st:=eA) l46 c46 k46,⟨a46,i46,k46⟩,(lr (st:=eA) l46 c46 k46).binds (ps:=["self"]) fun _ _ _ _ _ _ us hl=>match us,hl with|[_],_=>rfl,
  lr (st:=ez) l47 c47 k47,⟨a47,i47,k47⟩,(lr (st:=ez) l47 c47 k47).binds (ps:=["self"]) fun _ _ _ _ _ _ us hl=>match us,hl with|[_],_=>rfl,
  PySem.W.mg_none_of X G z0,
  PySem.W.mg_none_of X G z1,
  PySem.W.mg_none_of X G z2,
  PySem.W.mg_none_of X G z3,
  PySem.W.mg_none_of X G z4,
  PySem.W.mg_none_of X G z5,
  PySem.W.mg_none_of X G z6,
  PySem.W.mg_none_of X G z7,
  PySem.W.mg_none_of X G z8,
  PySem.W.mg_none_of X G z9,
  PySem.W.mg_none_of X G z10,
  PySem.W.mg_of X G ca0,⟨pg0,hd0,po0,sa0⟩,⟨mk0,a43,i43,kc0⟩,
  na0_0,
  PySem.W.mg_of X G va0,rfl,fun H=>.inr ⟨_,_,_,vl0,⟨rfl,rfl⟩,rfl,(by show 2<=sizeLine;decide),.cons ⟨_,rfl⟩ (.cons ⟨_,rfl⟩ (.nil))⟩,
  PySem.W.mg_of X G va1,⟨t1,rfl⟩,
  PySem.W.mg_of X G va2,⟨t2,rfl⟩,
  PySem.W.mg_of X G va3,⟨t3,rfl⟩,
  PySem.W.mg_of X G va4,⟨t4,rfl⟩,
  PySem.W.mg_of X G va5,⟨t5,rfl⟩,
  PySem.W.mg_of X G va6,⟨t6,rfl⟩,
  PySem.W.mg_of X G va7,⟨t7,rfl⟩,
  PySem.W.mg_of X G va8,⟨t8,rfl⟩,
  PySem.W.mg_of X G va9,⟨t9,rfl⟩,
  PySem.W.mg_of X G va10,⟨t10,rfl⟩,
  PySem.W.mg_of X G va11,⟨t11,rfl⟩,
  PySem.W.mg_of X G va12,⟨t12,rfl⟩,
  PySem.W.mg_of X G va13,⟨t13,rfl⟩,
  PySem.W.mg_of X G va14,⟨t14,rfl⟩,
  PySem.W.mg_of X G va15,⟨t15,rfl⟩,
  PySem.W.mg_of X G va16,⟨t16,rfl⟩,
  PySem.W.mg_of X G va17,⟨t17,rfl⟩,
  PySem.W.mg_of X G va18,rfl,fun H=>.inr ⟨_,_,_,vl18,⟨rfl,rfl⟩,rfl,(by show 4<=sizeLine;decide),.cons ⟨_,rfl⟩ (.cons ⟨_,rfl⟩ (.cons ⟨_,rfl⟩ (.cons ⟨_,rfl⟩ (.nil))))⟩,
  PySem.W.mg_of X G va19,rfl,⟨[(110,.ref w19_0),(116,.ref w19_1),(102,.ref w19_2)],⟨vm19,by simp,_,_,vl19,.cons ⟨rfl,⟨_,rfl⟩,rfl⟩ (.cons ⟨rfl,⟨_,rfl⟩,rfl⟩ (.cons ⟨rfl,⟨_,rfl⟩,rfl⟩ (.nil)))⟩,.cons ⟨rfl,fun _=>by unfold Rep;exact⟨_,[.int 117,.int 108,.int 108],rfl,.inr ⟨_,_,_,wl19_0,⟨rfl,rfl⟩,rfl,(by show 3<=sizeLine;decide),.cons ⟨_,rfl⟩ (.cons ⟨_,rfl⟩ (.cons ⟨_,rfl⟩ (.nil)))⟩,bw.ints (ns:=[117,108,108])⟩⟩ (.cons ⟨rfl,fun _=>by unfold Rep;exact⟨_,[.int 114,.int 117,.int 101],rfl,.inr ⟨_,_,_,wl19_1,⟨rfl,rfl⟩,rfl,(by show 3<=sizeLine;decide),.cons ⟨_,rfl⟩ (.cons ⟨_,rfl⟩ (.cons ⟨_,rfl⟩ (.nil)))⟩,bw.ints (ns:=[114,117,101])⟩⟩ (.cons ⟨rfl,fun _=>by unfold Rep;exact⟨_,[.int 97,.int 108,.int 115,.int 101],rfl,.inr ⟨_,_,_,wl19_2,⟨rfl,rfl⟩,rfl,(by show 4<=sizeLine;decide),.cons ⟨_,rfl⟩ (.cons ⟨_,rfl⟩ (.cons ⟨_,rfl⟩ (.cons ⟨_,rfl⟩ (.nil))))⟩,bw.ints (ns:=[97,108,115,101])⟩⟩ (.nil)))⟩,
  PySem.W.mg_of X G va20,rfl,⟨[(34,.int 34),(92,.int 92),(47,.int 47),(98,.int 8),(102,.int 12),(110,.int 10),(114,.int 13),(116,.int 9)],⟨vm20,by simp,_,_,vl20,.cons ⟨rfl,⟨_,rfl⟩,⟨_,rfl⟩⟩ (.cons ⟨rfl,⟨_,rfl⟩,⟨_,rfl⟩⟩ (.cons ⟨rfl,⟨_,rfl⟩,⟨_,rfl⟩⟩ (.cons ⟨rfl,⟨_,rfl⟩,⟨_,rfl⟩⟩ (.cons ⟨rfl,⟨_,rfl⟩,⟨_,rfl⟩⟩ (.cons ⟨rfl,⟨_,rfl⟩,⟨_,rfl⟩⟩ (.cons ⟨rfl,⟨_,rfl⟩,⟨_,rfl⟩⟩ (.cons ⟨rfl,⟨_,rfl⟩,⟨_,rfl⟩⟩ (.nil))))))))⟩,.cons ⟨rfl,fun _=>by unfold Rep;rfl⟩ (.cons ⟨rfl,fun _=>by unfold Rep;rfl⟩ (.cons ⟨rfl,fun _=>by unfold Rep;rfl⟩ (.cons ⟨rfl,fun _=>by unfold Rep;rfl⟩ (.cons ⟨rfl,fun _=>by unfold Rep;rfl⟩ (.cons ⟨rfl,fun _=>by unfold Rep;rfl⟩ (.cons ⟨rfl,fun _=>by unfold Rep;rfl⟩ (.cons ⟨rfl,fun _=>by unfold Rep;rfl⟩ (.nil))))))))⟩,
  PySem.W.mg_of X G va21,⟨t21,rfl⟩,
  PySem.W.mg_of X G va22,rfl,fun H=>.inr ⟨_,_,_,vl22,⟨rfl,rfl⟩,rfl,(by show 5<=sizeLine;decide),.cons ⟨_,rfl⟩ (.cons ⟨_,rfl⟩ (.cons ⟨_,rfl⟩ (.cons ⟨_,rfl⟩ (.cons ⟨_,rfl⟩ (.nil)))))⟩,
  PySem.W.mg_of X G va23,rfl,fun H=>.inr ⟨_,_,_,vl23,⟨rfl,rfl⟩,rfl,(by show 4<=sizeLine;decide),.cons ⟨_,rfl⟩ (.cons ⟨_,rfl⟩ (.cons ⟨_,rfl⟩ (.cons ⟨_,rfl⟩ (.nil))))⟩,
  PySem.W.mg_of X G va24,rfl,⟨[("value",.ref w24_0),("lead",.ref w24_1),("text",.ref w24_2),("name",.ref w24_3),("escape",.ref w24_4),("code",.ref w24_5),("code d",.ref w24_6),("hex",.ref w24_7),("hex d",.ref w24_8),("hex c to f",.ref w24_9),("row",.ref w24_10),("more row",.ref w24_11),("fields",.ref w24_12),("more fields",.ref w24_13)],⟨vm24,by(simp only[List.map];decide),_,_,vl24,.cons ⟨rfl,⟨_,rfl⟩,rfl⟩ (.cons ⟨rfl,⟨_,rfl⟩,rfl⟩ (.cons ⟨rfl,⟨_,rfl⟩,rfl⟩ (.cons ⟨rfl,⟨_,rfl⟩,rfl⟩ (.cons ⟨rfl,⟨_,rfl⟩,rfl⟩ (.cons ⟨rfl,⟨_,rfl⟩,rfl⟩ (.cons ⟨rfl,⟨_,rfl⟩,rfl⟩ (.cons ⟨rfl,⟨_,rfl⟩,rfl⟩ (.cons ⟨rfl,⟨_,rfl⟩,rfl⟩ (.cons ⟨rfl,⟨_,rfl⟩,rfl⟩ (.cons ⟨rfl,⟨_,rfl⟩,rfl⟩ (.cons ⟨rfl,⟨_,rfl⟩,rfl⟩ (.cons ⟨rfl,⟨_,rfl⟩,rfl⟩ (.cons ⟨rfl,⟨_,rfl⟩,rfl⟩ (.nil))))))))))))))⟩,.cons ⟨rfl,fun _=>by unfold Rep;exact⟨_,[.int 48],rfl,.inr ⟨_,_,_,wl24_0,⟨rfl,rfl⟩,rfl,(by show 1<=sizeLine;decide),.cons ⟨_,rfl⟩ (.nil)⟩,bw.ints (ns:=[48])⟩⟩ (.cons ⟨rfl,fun _=>by unfold Rep;exact⟨_,[.int 48],rfl,.inr ⟨_,_,_,wl24_1,⟨rfl,rfl⟩,rfl,(by show 1<=sizeLine;decide),.cons ⟨_,rfl⟩ (.nil)⟩,bw.ints (ns:=[48])⟩⟩ (.cons ⟨rfl,fun _=>by unfold Rep;exact⟨_,[.int 34],rfl,.inr ⟨_,_,_,wl24_2,⟨rfl,rfl⟩,rfl,(by show 1<=sizeLine;decide),.cons ⟨_,rfl⟩ (.nil)⟩,bw.ints (ns:=[34])⟩⟩ (.cons ⟨rfl,fun _=>by unfold Rep;exact⟨_,[.int 34,.int 34],rfl,.inr ⟨_,_,_,wl24_3,⟨rfl,rfl⟩,rfl,(by show 2<=sizeLine;decide),.cons ⟨_,rfl⟩ (.cons ⟨_,rfl⟩ (.nil))⟩,bw.ints (ns:=[34,34])⟩⟩ (.cons ⟨rfl,fun _=>by unfold Rep;exact⟨_,[.int 34],rfl,.inr ⟨_,_,_,wl24_4,⟨rfl,rfl⟩,rfl,(by show 1<=sizeLine;decide),.cons ⟨_,rfl⟩ (.nil)⟩,bw.ints (ns:=[34])⟩⟩ (.cons ⟨rfl,fun _=>by unfold Rep;exact⟨_,[.int 48,.int 48,.int 48,.int 48],rfl,.inr ⟨_,_,_,wl24_5,⟨rfl,rfl⟩,rfl,(by show 4<=sizeLine;decide),.cons ⟨_,rfl⟩ (.cons ⟨_,rfl⟩ (.cons ⟨_,rfl⟩ (.cons ⟨_,rfl⟩ (.nil))))⟩,bw.ints (ns:=[48,48,48,48])⟩⟩ (.cons ⟨rfl,fun _=>by unfold Rep;exact⟨_,[.int 48,.int 48,.int 48],rfl,.inr ⟨_,_,_,wl24_6,⟨rfl,rfl⟩,rfl,(by show 3<=sizeLine;decide),.cons ⟨_,rfl⟩ (.cons ⟨_,rfl⟩ (.cons ⟨_,rfl⟩ (.nil)))⟩,bw.ints (ns:=[48,48,48])⟩⟩ (.cons ⟨rfl,fun _=>by unfold Rep;exact⟨_,[.int 48],rfl,.inr ⟨_,_,_,wl24_7,⟨rfl,rfl⟩,rfl,(by show 1<=sizeLine;decide),.cons ⟨_,rfl⟩ (.nil)⟩,bw.ints (ns:=[48])⟩⟩ (.cons ⟨rfl,fun _=>by unfold Rep;exact⟨_,[.int 68],rfl,.inr ⟨_,_,_,wl24_8,⟨rfl,rfl⟩,rfl,(by show 1<=sizeLine;decide),.cons ⟨_,rfl⟩ (.nil)⟩,bw.ints (ns:=[68])⟩⟩ (.cons ⟨rfl,fun _=>by unfold Rep;exact⟨_,[.int 67],rfl,.inr ⟨_,_,_,wl24_9,⟨rfl,rfl⟩,rfl,(by show 1<=sizeLine;decide),.cons ⟨_,rfl⟩ (.nil)⟩,bw.ints (ns:=[67])⟩⟩ (.cons ⟨rfl,fun _=>by unfold Rep;exact⟨_,[.int 93],rfl,.inr ⟨_,_,_,wl24_10,⟨rfl,rfl⟩,rfl,(by show 1<=sizeLine;decide),.cons ⟨_,rfl⟩ (.nil)⟩,bw.ints (ns:=[93])⟩⟩ (.cons ⟨rfl,fun _=>by unfold Rep;exact⟨_,[.int 93],rfl,.inr ⟨_,_,_,wl24_11,⟨rfl,rfl⟩,rfl,(by show 1<=sizeLine;decide),.cons ⟨_,rfl⟩ (.nil)⟩,bw.ints (ns:=[93])⟩⟩ (.cons ⟨rfl,fun _=>by unfold Rep;exact⟨_,[.int 125],rfl,.inr ⟨_,_,_,wl24_12,⟨rfl,rfl⟩,rfl,(by show 1<=sizeLine;decide),.cons ⟨_,rfl⟩ (.nil)⟩,bw.ints (ns:=[125])⟩⟩ (.cons ⟨rfl,fun _=>by unfold Rep;exact⟨_,[.int 125],rfl,.inr ⟨_,_,_,wl24_13,⟨rfl,rfl⟩,rfl,(by show 1<=sizeLine;decide),.cons ⟨_,rfl⟩ (.nil)⟩,bw.ints (ns:=[125])⟩⟩ (.nil))))))))))))))⟩⟩
 exact⟨_,fun s v=>.of_eq rfl,fun base _ _=>(Ls T).imp (H0 fun ns h=>DO ns h)⟩
theorem walk{l:PySem.W.OpenLaw}{q:Program}{loose:List Str}{XP:(Str->Option Value)->Heap->Prop}{YP:World->Heap->Prop}{d:DefRec}{K:Params->PySem.W.Frag}(hn:l.most=some 63)(hdf:d.params.defaults=[])
  (hY:∀(w:World) (h:Heap),YP w h->(K w.params).In h)
  (F:∀(w:World) (mg:Str->Option Value) (fa:Addr) (h:Heap),(K w.params).In h->h.Ns mainGlobals mg->mg d.name=some (.ref fa) ->
    ∃ fd:FuncData,(∀(s:Shared) (u:Value),BindsTo s fd ⟨[u],[]⟩ [("_law_script",u)]) /\ ∀ base:Heap,(K w.params).In base->base.Ns mainGlobals mg->cq l.prog w (K w.params) mg base (CXE l.prog w) 10 fa fd ["_law_script"] (yN (K w.params))):
  PySem.W.WalkO q loose XP YP l.row.toRowW d [] (fun f vs=>PySem.call f vs):=
 L2.Hk (n:=63) (k:=10) (x:="_law_script") (CX:=fun w=>CXE l.prog w) (sp:=fun w=>yN (K w.params)) hn (by decide) hdf ⟨rfl,by decide,by decide⟩ hY F (fun _ _ a ns hl _ hS=>⟨a,ns,rfl,hS,hl,fun _=>rfl⟩) fun _ _ _ _ _ z=>let ⟨_,_,_,_,_,_,_,_,_,_,f⟩:=z;f
end L2.plainglass_k09_endings
open PySem PySem.W PyProof.Rows
namespace PySem.W.Fast
def tw8671569774302242023:=0
def tw14353214821407301050:=0
def tw13163772250187576187:=0
def tw2250507599568070101:=0
def tw8458046579689347538:=0
def tw13943289944158391893:=0
def tw9752215797306349335:=0
def tw17472147483177579462:=0
def tw16531498152699292380:=0
def tw12251059722121284932:=0
def tw2812639294275305818:=0
def tw1796745786144850349:=0
def tw18138291065402969352:=0
def tw7016533487481742552:=0
def tw2606028936304389719:=0
def tw971751485916450437:=0
def tw87944032135942231:=0
def tw4235383021912798909:=0
def tw17497954338400243456:=0
def tw11238948873682658312:=0
def tw7544156370600739431:=0
def tw12462906038315524119:=0
def tw10353753177114783229:=0
def tw5527830434359729098:=0
def tw3033888155937040884:=0
def tw6728490598313246419:=0
def tw16161035647068720450:=0
def tw6312435547951390554:=0
def tw14378637716316239776:=0
def tw15394584634455630914:=0
def tw3008466051812625948:=0
def tw2103487800090906758:=0
def tw13139821815729378811:=0
def tw7870810430457508766:=0
def tw7437197967605185511:=0
def tw4536492543435427265:=0
def tw10476245832154751095:=0
def tw6944433633962284537:=0
def tw12524694639283833019:=0
def tw9457868874484818709:=0
def tw9906818151756215566:=0
def tw4604715694182166948:=0
def tw8342007030707973459:=0
def tw961982191633725737:=0
def tw5443788613729141747:=0
def tw3762533631350733276:=0
def tw16918264994809383522:=0
def tw4910403977237574331:=0
def tw14347289361983187570:=0
def tw3404051008645950567:=0
def tw6535593389206242193:=0
def tw2299089853610206044:=0
def tw13870036963002775139:=0
def tw726734947841450133:=0
def tw10424029415732720444:=0
def tw12370057706751277095:=0
def tw2458356026318900578:=0
def tw10796176522409355627:=0
def tw14190447725587958084:=0
def tw17952746951641258478:=0
def tw5022807253401219931:=0
def tw5794185488154389543:=0
def tw15275019090975897010:=0
def tw3756086326251175197:=0
def tw14672861873419875806:=0
def tw17382823302688392466:=0
def tw9443783953883977056:=0
def tw3232805035764411240:=0
def tw9962976574012413787:=0
def tw15070496516927603835:=0
def tw12609393169107267238:=0
def tw2490774374669361723:=0
def tw7214275366407039647:=0
def tw7870967733939821238:=0
def tw15616943046942765344:=0
def tw7131224001774323149:=0
def tw1850558576218746681:=0
def tw7333554217778584152:=0
def tw9493486588787113206:=0
def tw15279012263850212717:=0
def tw5464906584344308529:=0
def tw11084347742712930034:=0
def tw14264262139281288417:=0
def tw10278223661402496783:=0
def tw6855190543168788297:=0
def tw12181324189129882878:=0
def tw7596261869902335661:=0
def tw13320526028715752675:=0
def tw16307363584337664487:=0
def tw4103774042453634626:=0
def tw6784008473983610183:=0
def tw12760098103563240035:=0
def tw1168679478889389639:=0
def tw7344431859025672987:=0
def tw3124245973346416704:=0
def tw14739219335972424444:=0
def tw9136907330499491922:=0
def tw13880603946709228036:=0
def tw6024329509994500619:=0
def tw1392875344244436106:=0
def tw4149445387825310266:=0
def tw14560817742742715833:=0
def tw1337054577818420998:=0
def tw10129894345942009322:=0
def tw18270553849519164566:=0
def tw16917468142671179267:=0
def tw1648359823199974381:=0
def tw6075311266361496110:=0
def tw12015005240399069305:=0
def tw14619268596146737533:=0
def tw15118076205996948827:=0
def tw260453801953919636:=0
def tw5263384583748893393:=0
def tw2314207718898796911:=0
def tw2085605914242783094:=0
end PySem.W.Fast
set_option maxRecDepth 100000 in
set_option maxHeartbeats 0 in
theorem PySem.Challenge.cw_plainglass_k09_endings_holds : PySem.Challenge.rw_plainglass_k09_endings.Holds := by
 w_on;o_law;k_head;(case hw=>w_witness2)
 k_fill
 refine L2.plainglass_k09_endings.walk (l:=PySem.Challenge.rw_plainglass_k09_endings) rfl rfl (fun w h Y=>PySem.W.kIn_of Y) ?F
 case F=>
  intro w mg fa h KX G hmg
  refine' L2.plainglass_k09_endings.all_mk KX G hmg (L2.E.cV ?a0 ?l0 ?c0 ?k0) (L2.E.cV ?a1 ?l1 ?c1 ?k1) (L2.E.cV ?a2 ?l2 ?c2 ?k2) (L2.E.cV ?a3 ?l3 ?c3 ?k3) (L2.E.cV ?a4 ?l4 ?c4 ?k4) (L2.E.cV ?a5 ?l5 ?c5 ?k5) (L2.E.cV ?a6 ?l6 ?c6 ?k6) (L2.E.cV ?a7 ?l7 ?c7 ?k7) (L2.E.cV ?a8 ?l8 ?c8 ?k8) (L2.E.cV ?a9 ?l9 ?c9 ?k9) (L2.E.cV ?a10 ?l10 ?c10 ?k10) (L2.E.cV ?a11 ?l11 ?c11 ?k11) (L2.E.cV ?a12 ?l12 ?c12 ?k12) (L2.E.cV ?a13 ?l13 ?c13 ?k13) (L2.E.cV ?a14 ?l14 ?c14 ?k14) (L2.E.cV ?a15 ?l15 ?c15 ?k15) (L2.E.cV ?a16 ?l16 ?c16 ?k16) (L2.E.cV ?a17 ?l17 ?c17 ?k17) (L2.E.cV ?a18 ?l18 ?c18 ?k18) (L2.E.cV ?a19 ?l19 ?c19 ?k19) (L2.E.cV ?a20 ?l20 ?c20 ?k20) (L2.E.cV ?a21 ?l21 ?c21 ?k21) (L2.E.cV ?a22 ?l22 ?c22 ?k22) (L2.E.cV ?a23 ?l23 ?c23 ?k23) (L2.E.cV ?a24 ?l24 ?c24 ?k24) (L2.E.cV ?a25 ?l25 ?c25 ?k25) (L2.E.cV ?a26 ?l26 ?c26 ?k26) (L2.E.cV ?a27 ?l27 ?c27 ?k27) (L2.E.cV ?a28 ?l28 ?c28 ?k28) (L2.E.cV ?a29 ?l29 ?c29 ?k29) (L2.E.cV ?a30 ?l30 ?c30 ?k30) (L2.E.cV ?a31 ?l31 ?c31 ?k31) (L2.E.cV ?a32 ?l32 ?c32 ?k32) (L2.E.cV ?a33 ?l33 ?c33 ?k33) (L2.E.cV ?a34 ?l34 ?c34 ?k34) (L2.E.cV ?a35 ?l35 ?c35 ?k35) (L2.E.cV ?a36 ?l36 ?c36 ?k36) (L2.E.cV ?a37 ?l37 ?c37 ?k37) (L2.E.cV ?a38 ?l38 ?c38 ?k38) (L2.E.cV ?a39 ?l39 ?c39 ?k39) (L2.E.cV ?a40 ?l40 ?c40 ?k40) (L2.E.cV ?a41 ?l41 ?c41 ?k41) ?a42 ?l42 ?c42 ?k42 ?a43 ?i43 ?l43 ?c43 ?k43 ?a44 ?i44 ?l44 ?c44 ?k44 ?a45 ?i45 ?l45 ?c45 ?k45 ?a46 ?i46 ?l46 ?c46 ?k46 ?a47 ?i47 ?l47 ?c47 ?k47 ?z0 ?z1 ?z2 ?z3 ?z4 ?z5 ?z6 ?z7 ?z8 ?z9 ?z10 ?ca0 ?pg0 ?hd0 ?po0 ?sa0 ?mk0 ?kc0 ?na0_0 ?va0 ?vl0 ?va1 ?va2 ?va3 ?va4 ?va5 ?va6 ?va7 ?va8 ?va9 ?va10 ?va11 ?va12 ?va13 ?va14 ?va15 ?va16 ?va17 ?va18 ?vl18 ?va19 ?vl19 ?wl19_0 ?wl19_1 ?wl19_2 ?vm19 ?va20 ?vl20 ?vm20 ?va21 ?va22 ?vl22 ?va23 ?vl23 ?va24 ?vl24 ?wl24_0 ?wl24_1 ?wl24_2 ?wl24_3 ?wl24_4 ?wl24_5 ?wl24_6 ?wl24_7 ?wl24_8 ?wl24_9 ?wl24_10 ?wl24_11 ?wl24_12 ?wl24_13 ?vm24
  (case ca0|a0|l0|c0|k0|a1|l1|c1|k1|a2|l2|c2|k2|a3|l3|c3|k3|a4|l4|c4|k4|a5|l5|c5|k5|a6|l6|c6|k6|a7|l7|c7|k7|a8|l8|c8|k8|a9|l9|c9|k9|a10|l10|c10|k10|a11|l11|c11|k11|a12|l12|c12|k12|a13|l13|c13|k13|a14|l14|c14|k14|a15|l15|c15|k15|a16|l16|c16|k16|a17|l17|c17|k17|a18|l18|c18|k18|a19|l19|c19|k19|a20|l20|c20|k20|a21|l21|c21|k21|a22|l22|c22|k22|a23|l23|c23|k23|a24|l24|c24|k24|a25|l25|c25|k25|a26|l26|c26|k26|a27|l27|c27|k27|a28|l28|c28|k28|a29|l29|c29|k29|a30|l30|c30|k30|a31|l31|c31|k31|a32|l32|c32|k32|a33|l33|c33|k33|a34|l34|c34|k34|a35|l35|c35|k35|a36|l36|c36|k36|a37|l37|c37|k37|a38|l38|c38|k38|a39|l39|c39|k39|a40|l40|c40|k40|a41|l41|c41|k41|a42|l42|c42|k42|a43|i43|l43|c43|k43|a44|i44|l44|c44|k44|a45|i45|l45|c45|k45|a46|i46|l46|c46|k46|a47|i47|l47|c47|k47|z0|z1|z2|z3|z4|z5|z6|z7|z8|z9|z10|pg0|hd0|po0|sa0|mk0|kc0|na0_0|va0|vl0|va1|va2|va3|va4|va5|va6|va7|va8|va9|va10|va11|va12|va13|va14|va15|va16|va17|va18|vl18|va19|vl19|wl19_0|wl19_1|wl19_2=>k_is)
  (case vm19=>first|decide|rfl)
  (case va20|vl20=>k_is)
  (case vm20=>first|decide|rfl)
  (case va21|va22|vl22|va23|vl23|va24|vl24|wl24_0|wl24_1|wl24_2|wl24_3|wl24_4|wl24_5|wl24_6|wl24_7|wl24_8|wl24_9|wl24_10|wl24_11|wl24_12|wl24_13=>k_is)
  (case vm24=>first|decide|rfl)
