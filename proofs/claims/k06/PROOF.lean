import PyProof.Rows.All
import Wide.All
import OpenK.AllK
import Wide.FinOn
import Lean
import PyProof.EqAt
import PyProof.EqKinds
import PyProof.TupleCall
import PySem.Challenge.RW_plainglass_k06_faults_placed
set_option Elab.async false
set_option linter.all false
set_option maxRecDepth 100000
namespace L2
open PySem PySem.Spec PyProof.Rows
abbrev Key:=Sum Int Str
noncomputable def vq:Key -> Value -> Bool
 |.inl k,v=>Value.isInt k v
 |.inr x,v=>Value.isStrOf x v
noncomputable def LM (w:World):Key -> Int
 |.inl k=>hashInt k
 |.inr x=>hashStr w x
theorem eV:∀ {k:Key} {v:Value},vq k v=true -> (∃ i t,k=Sum.inl i /\ v=Value.int i t) \/ (∃ x t,k=Sum.inr x /\ v=Value.str x t)
 | .inl i,v,h=>by
   obtain ⟨t,e⟩:=Value.isInt_shape (k:=i) (v:=v) h
   exact .inl ⟨i,t,rfl,e⟩
 | .inr x,v,h=>by
   obtain ⟨t,e⟩:=Value.isStrOf_shape (x:=x) (v:=v) h
   exact .inr ⟨x,t,rfl,e⟩
theorem Bf (i:Int) (t:Tok):vq (.inl i) (.int i t)=true:=by simp [vq,Value.isInt]
theorem B6 (x:Str) (t:Tok):vq (.inr x) (.str x t)=true:=by simp [vq,Value.isStrOf]
theorem ID (a b:Int):decide ((Sum.inl a:Key)=Sum.inl b)=(a==b):=by
 by_cases e:a=b
 . subst e; simp
 . have h:¬ (Sum.inl a:Key)=Sum.inl b:=fun q=>e (Sum.inl.inj q)
   rw [decide_eq_false h]
   exact (beq_eq_false_iff_ne.mpr e).symm
theorem Ht (a b:Str):decide ((Sum.inr a:Key)=Sum.inr b)=decide (a=b):=by
 by_cases e:a=b
 . subst e; simp
 . have h:¬ (Sum.inr a:Key)=Sum.inr b:=fun q=>e (Sum.inr.inj q)
   rw [decide_eq_false h,decide_eq_false e]
theorem HL (a:Int) (b:Str):decide ((Sum.inl a:Key)=Sum.inr b)=false:=decide_eq_false (fun q=>nomatch q)
theorem HX (a:Str) (b:Int):decide ((Sum.inr a:Key)=Sum.inl b)=false:=decide_eq_false (fun q=>nomatch q)
noncomputable def fE (prog:Program) (w:World):PySem.KeyKind prog w Key where
 is:=vq
 hash:=LM w
 inj:=fun v a b ha hb=>by
  rcases eV ha with ⟨i,t,rfl,rfl⟩|⟨x,t,rfl,rfl⟩
  . rcases eV hb with ⟨j,u,rfl,e⟩|⟨y,u,rfl,e⟩
    . injection e with e1 _; rw [e1]
    . exact nomatch e
  . rcases eV hb with ⟨j,u,rfl,e⟩|⟨y,u,rfl,e⟩
    . exact nomatch e
    . injection e with e1 _; rw [e1]
 byValue:=fun k v h=>by
  rcases eV h with ⟨i,t,rfl,rfl⟩|⟨x,t,rfl,rfl⟩<;>rfl
 pyHash:=fun hv h=>by
  rcases eV hv with ⟨i,t,rfl,rfl⟩|⟨x,t,rfl,rfl⟩
  . exact wpAny_pyHash_int h
  . exact wpAny_pyHash_str h
 eqBool:=fun hu hv h=>by
  rcases eV hu with ⟨i,t,rfl,rfl⟩|⟨x,t,rfl,rfl⟩
  . rcases eV hv with ⟨j,u,rfl,rfl⟩|⟨y,u,rfl,rfl⟩
    . rw [ID] at h; exact wpAny_eqBool_int h
    . rw [HL] at h; exact SeqAt.EqAt.int_str i t y u _ _ _ _ h
  . rcases eV hv with ⟨j,u,rfl,rfl⟩|⟨y,u,rfl,rfl⟩
    . rw [HX] at h; exact SeqAt.EqAt.str_int x t j u _ _ _ _ h
    . rw [Ht] at h; exact wpAny_eqBool_str h
 «strs»:=fun k x t v h=>by
  rcases eV h with ⟨i,u,rfl,e⟩|⟨y,u,rfl,e⟩
  . exact nomatch e
  . injection e with e1 _
    subst e1
    cases v<;>rfl
theorem xI (prog:Program) (w:World) (i:Int) (t:Tok):(fE prog w).is (.inl i) (.int i t)=true:=Bf i t
theorem yf (prog:Program) (w:World) (x:Str) (t:Tok):(fE prog w).is (.inr x) (.str x t)=true:=B6 x t
inductive V where
 |non|bl (b:Bool)|int (i:Int)|str (x:Str)|byt (b:Array UInt8)|flt (b:UInt64)|ref (a:Addr)|ty (n:String)
 deriving DecidableEq
noncomputable def RelV:V -> Value -> Prop
 |.non,u=>u=Value.none
 |.bl b,u=>u=Value.bool b
 |.int i,u=>∃ t,u=Value.int i t
 |.str x,u=>∃ t,u=Value.str x t
 |.byt b,u=>∃ t,u=Value.bytes b t
 |.flt b,u=>∃ t,u=Value.float b t
 |.ref a,u=>u=Value.ref a
 |.ty n,u=>u=Value.type n
abbrev Vals:List V -> List Value -> Prop:=Paired RelV
theorem Vals.length {xs:List V} {us:List Value} (r:Vals xs us):xs.length=us.length:=Paired.length r
theorem Vals.get:∀ {xs:List V} {us:List Value} {i:Nat} {x:V},Vals xs us -> xs[i]?=some x -> ∃ u,us[i]?=some u /\ RelV x u
 |_,_,_,_,.nil,e=>by simp at e
 |_,_,0,_,.cons r _,e=>by simp at e; subst e; exact ⟨_,rfl,r⟩
 | _,_,i+1,x,.cons _ t,e=>by
   obtain ⟨u,h1,h2⟩:=Vals.get (i:=i) (x:=x) t (by simpa using e)
   exact ⟨u,by simpa using h1,h2⟩
theorem Vals.set {x:V} {u:Value} (r:RelV x u):∀ {xs:List V} {us:List Value} (i:Nat),Vals xs us -> Vals (xs.set i x) (us.set i u)
 |_,_,_,.nil=>.nil
 |_,_,0,.cons _ t=>.cons r t
 |_,_,i+1,.cons q t=>.cons q (Vals.set r i t)
theorem Vals.append:∀ {xs ys:List V} {us ws:List Value},Vals xs us -> Vals ys ws -> Vals (xs++ys) (us++ws)
 |_,_,_,_,.nil,s=>s
 |_,_,_,_,.cons r t,s=>.cons r (Vals.append t s)
theorem Vals.take:∀ {xs:List V} {us:List Value} (n:Nat),Vals xs us -> Vals (xs.take n) (us.take n)
 |_,_,0,_=>.nil
 |_,_,_+1,.nil=>.nil
 |_,_,n+1,.cons r t=>.cons r (Vals.take n t)
theorem Vals.drop:∀ {xs:List V} {us:List Value} (n:Nat),Vals xs us -> Vals (xs.drop n) (us.drop n)
 |_,_,0,r=>r
 |_,_,_+1,.nil=>.nil
 |_,_,n+1,.cons _ t=>Vals.drop n t
noncomputable def bz:Option V -> Option Value -> Prop
 |some v,some u=>RelV v u
 |none,none=>True
 |_,_=>False
noncomputable def KV {κ:Type}:List (κ×V) -> List (κ×Value) -> Prop:=Paired fun (p:κ×V) (q:κ×Value)=>p.1=q.1 /\ RelV p.2 q.2
noncomputable def kV:Key -> V
 |.inl i=>.int i
 |.inr x=>.str x
inductive HO where
  |lst (xs:List V)
  |tup (xs:List V)
  |dK (kvs:List (Key×V))|dT (kvs:List (List Key×V))
  |set (S:Int -> Bool) (n:Nat)
  |ins (C dx:Addr) (fs:List (Str×V))
  |own (x:Addr)
  |xd (fs:List (Str×V))
  |met (f x:Addr)
  |rng (lo hi:Int)
  |frz (o:Obj) (u:HO)
  |tbl (ps:Array Value)
  |ext (φ:Heap -> Prop)
abbrev Hp:=Addr -> Option HO
noncomputable def upd (H:Hp) (a:Addr) (o:HO):Hp:=fun b=>if b=a then some o else H b
theorem bQ {H:Hp} {a:Addr} {o:HO}:upd H a o a=some o:=by unfold upd; rw [if_pos rfl]
theorem bJ {H:Hp} {a b:Addr} {o:HO} (h:b≠a):upd H a o b=H b:=by unfold upd; rw [if_neg h]
theorem FK {H:Hp} {a:Addr} {o u:HO}:upd (upd H a o) a u=upd H a u:=by
 funext b; unfold upd; split<;>rfl
theorem eI {H:Hp} {a b:Addr} {o:HO} (h:H a=some o) (h':H b=none):a≠b:=by
 intro e; subst e; rw [h] at h'; cases h'
section
variable (P:Program) (w:World)
noncomputable def gd (H:Hp) (h:Heap) (a:Addr):HO -> Prop
 |.lst xs=>xs.length <= sizeLine /\ ∃ (its:List Value) (n:Nat),Vals xs its /\ h.get? a=some { cls:=.type "list",data:=.seq its.toArray n }
 |.tup xs=>xs.length <= sizeLine /\ ∃ its:List Value,Vals xs its /\ IsTup h a its.toArray
 |.dK kvs=>kvs.length <= sizeLine /\ (a==sysModules)=false /\ ∃ vs,KV kvs vs /\ h.DictOf (fE P w) a vs
 | .dT kvs=>kvs.length <= sizeLine /\ (a == sysModules) = false /\ ∃ xs:List (List Key × Addr × Value),
    Paired (fun (p:List Key×V) (q:List Key×Addr×Value)=>p.1=q.1 /\ H q.2.1=some (.tup (p.1.map kV)) /\ RelV p.2 q.2.2) kvs xs /\
    ∃ o es ep,h.get? a=some o /\ o.ExactDict /\ o.data=.dict es ep /\ es.toList=xs.map (entryOfKey (tupleKind (fE P w))) /\ (xs.map (·.1)).Nodup
 |.set S n=>h.SetOf (intKind P w) a S n
 | .ins C dx fs=>H dx = some (.own a) /\ fs.length <= 1000 /\ dx ≠ a /\ h.get? a = some (PySem.W.instObj C dx) /\
    ∃ mA,h.Ns1 dx mA /\ (∀ f,bz (fs.lookup f) (mA f)) /\ PySem.Within mA (fs.map (·.1))
 |.own _=>∃ o,h.get? a=some o
 |.xd fs=>∃ mA,h.Ns1 a mA /\ ∀ f,bz (fs.lookup f) (mA f)
 |.rng lo hi=>∃ t u v,h.get? a=some { cls:=.type "range",data:=.fields #[.int lo t,.int hi u,.int 1 v] }
 |.frz o u=>h.get? a=some o /\ gd H h a u
 |.tbl ps=>h.get? a=some { cls:=.none,data:=.fields ps }
 |.met f x=>h.get? a=some (PySem.W.methodObj (.ref f) (.ref x))
 |.ext φ=>φ h /\ (∃ o,h.get? a=some o) /\ ∀ h1 h2:Heap,φ h1 -> (∀ o,h1.get? a=some o -> h2.get? a=some o) -> φ h2
noncomputable def HOk (H:Hp) (h:Heap):Prop:=∀ a o,H a=some o -> gd P w H h a o
end
section
variable {P:Program} {w:World} {H H':Hp} {h h':Heap} {a:Addr} {o:HO}
theorem gd.lt (x:gd P w H h a o):a<h.objs.size:=by
 cases o with
 |lst xs=>obtain ⟨_,_,_,_,e⟩:=x; exact Heap.lt_size e
 |tup xs=>obtain ⟨_,_,_,p⟩:=x; exact p.lt
 |dK kvs=>obtain ⟨_,_,_,_,o,_,_,e,_⟩:=x; exact Heap.lt_size e
 |dT kvs=>obtain ⟨_,_,_,_,o,_,_,e,_⟩:=x; exact Heap.lt_size e
 |set S n=>obtain ⟨o,_,_,_,e,_⟩:=x; exact Heap.lt_size e
 |ins C dx fs=>obtain ⟨_,_,_,e,_⟩:=x; exact Heap.lt_size e
 |own y=>obtain ⟨_,e⟩:=x; exact Heap.lt_size e
 |xd fs=>obtain ⟨_,⟨_,_,_,e,_⟩,_⟩:=x; exact Heap.lt_size e
 |rng lo hi=>obtain ⟨_,_,_,e⟩:=x; exact Heap.lt_size e
 |frz ob u=>obtain ⟨e,_⟩:=x; exact Heap.lt_size e
 |tbl ps=>exact Heap.lt_size (show h.get? a=some _ from x)
 |met f y=>exact Heap.lt_size (show h.get? a=some _ from x)
 |ext φ=>obtain ⟨_,⟨_,e⟩,_⟩:=x; exact Heap.lt_size e
theorem Paired.GP {α β:Type} {F G:α -> β -> Prop}:∀ {l₁:List α} {l₂:List β},Paired F l₁ l₂ -> (∀ a b,F a b -> G a b) -> Paired G l₁ l₂
 |_,_,.nil,_=>.nil
 |_,_,.cons r t,f=>.cons (f _ _ r) (Paired.GP t f)
theorem gd.tI (x:gd P w H h a o) (k:∀ b u,(b=a \/ H b=some (.own a)) -> h.get? b=some u -> h'.get? b=some u)
  (ho:∀ b,H b=some (.own a) -> H' b=some (.own a)) (ht:∀ b xs,H b=some (.tup xs) -> H' b=some (.tup xs)):gd P w H' h' a o:=by
 induction o with
 |lst xs=>obtain ⟨z,its,n,r,e⟩:=x; exact ⟨z,its,n,r,k _ _ (.inl rfl) e⟩
 |tup xs=>obtain ⟨z,its,r,ob,e,c⟩:=x; exact ⟨z,its,r,ob,k _ _ (.inl rfl) e,c⟩
 |dK kvs=>obtain ⟨z,y,vs,r,ob,es,ep,e,c⟩:=x; exact ⟨z,y,vs,r,ob,es,ep,k _ _ (.inl rfl) e,c⟩
 | dT kvs=>
   obtain ⟨z,y,xs,r,ob,es,ep,e,c⟩:=x
   exact ⟨z,y,xs,Paired.GP r fun p q z=>⟨z.1,ht _ _ z.2.1,z.2.2⟩,ob,es,ep,k _ _ (.inl rfl) e,c⟩
 |set S n=>obtain ⟨ob,es,ep,t,e,c⟩:=x; exact ⟨ob,es,ep,t,k _ _ (.inl rfl) e,c⟩
 | ins C dx fs=>
   obtain ⟨d,z,ne,e,mA,⟨od,es,ep,e2,c⟩,r⟩:=x
   exact ⟨ho _ d,z,ne,k _ _ (.inl rfl) e,mA,⟨od,es,ep,k _ _ (.inr d) e2,c⟩,r⟩
 |own y=>obtain ⟨ob,e⟩:=x; exact ⟨ob,k _ _ (.inl rfl) e⟩
 |xd fs=>obtain ⟨mA,⟨od,es,ep,e,c⟩,r⟩:=x; exact ⟨mA,⟨od,es,ep,k _ _ (.inl rfl) e,c⟩,r⟩
 |rng lo hi=>obtain ⟨t,u,v,e⟩:=x; exact ⟨t,u,v,k _ _ (.inl rfl) e⟩
 |frz ob u ih=>obtain ⟨e,q⟩:=x; exact ⟨k _ _ (.inl rfl) e,ih q⟩
 | tbl ps=>
   have e:h.get? a=some { cls:=.none,data:=.fields ps }:=x
   show h'.get? a=some { cls:=.none,data:=.fields ps }
   exact k a _ (.inl rfl) e
 | met f y=>
   have e:h.get? a=some (PySem.W.methodObj (.ref f) (.ref y)):=x
   show h'.get? a=some (PySem.W.methodObj (.ref f) (.ref y))
   exact k a _ (.inl rfl) e
 |ext φ=>obtain ⟨p,⟨o,e⟩,st⟩:=x; exact ⟨st _ _ p fun o q=>k _ _ (.inl rfl) q,⟨o,k _ _ (.inl rfl) e⟩,st⟩
theorem HOk.lt (x:HOk P w H h) (e:H a=some o):a<h.objs.size:=(x a o e).lt
theorem HOk.fresh (x:HOk P w H h) (e:h.objs.size <= a):H a=none:=by
 cases q:H a with
 |none=>rfl
 |some u=>exact absurd (Nat.lt_of_lt_of_le (x.lt q) e) (Nat.lt_irrefl _)
theorem HOk.kept (x:HOk P w H h) (k:∀ b u,h.get? b=some u -> h'.get? b=some u):HOk P w H h':=fun a o e=>
 (x a o e).tI (fun b u _ q=>k b u q) (fun _ q=>q) fun _ _ q=>q
theorem HOk.laid (x:HOk P w H h) (k:∀ b u,h.get? b=some u -> h'.get? b=some u) (hp:h.objs.size <= a) (new:gd P w (upd H a o) h' a o):HOk P w (upd H a o) h':=fun b u e=>by
 have hn:=x.fresh hp
 by_cases hb:b=a
 . subst hb; rw [bQ] at e; cases e; exact new
 . rw [bJ hb] at e
   exact (x b u e).tI (fun c v _ q=>k c v q) (fun c q=>by rw [bJ (eI q hn)]; exact q) fun c xs q=>by rw [bJ (eI q hn)]; exact q
end
noncomputable def Rd (H:Hp) (a:Addr) (u:HO):Prop:=H a=some u \/ ∃ o,H a=some (.frz o u)
theorem Rd.ok {P:Program} {w:World} {H:Hp} {h:Heap} {a:Addr} {u:HO} (r:Rd H a u) (x:HOk P w H h):gd P w H h a u:=by
 rcases r with r|⟨o,r⟩
 . exact x a u r
 . obtain ⟨_,q⟩:=x a _ r
   exact q
noncomputable def Mut:Option HO -> Prop
 |some (.lst _)=>True
 |some (.dK _)=>True
 |some (.dT _)=>True
 |some (.set _ _)=>True
 |some (.ins _ _ _)=>True
 |some (.ext _)=>True
 |_=>False
section
variable {P:Program} {w:World} {H:Hp} {h h':Heap} {x e:Addr} {o':HO}
theorem HOk.write (ok:HOk P w H h) (mu:Mut (H x)) (he:e=x \/ H e=some (.own x)) (k:∀ b u,b≠e -> h.get? b=some u -> h'.get? b=some u) (heo:∃ u,h'.get? e=some u)
  (new:gd P w (upd H x o') h' x o'):HOk P w (upd H x o') h':=fun b u q=>by
 have nown:∀ c y,H c=some (.own y) -> c≠x:=fun c y r z=>by subst z; rw [r] at mu; exact mu
 have ntup:∀ c xs,H c=some (.tup xs) -> c≠x:=fun c xs r z=>by subst z; rw [r] at mu; exact mu
 by_cases hb:b=x
 . subst hb; rw [bQ] at q; cases q; exact new
 . rw [bJ hb] at q
   by_cases hbe:b=e
   . have q':H b = some (.own x):=by
      rcases he with z|z
      . exact absurd (hbe.trans z) hb
      . rw [hbe]; exact z
     rw [q] at q'; cases q'
     obtain ⟨v,hv⟩:=heo
     exact ⟨v,by rw [hbe]; exact hv⟩
   . refine (ok b u q).tI (fun c v hc r=>k c v ?_ r) (fun c r=>by rw [bJ (nown c b r)]; exact r) fun c xs r=>by rw [bJ (ntup c xs r)]; exact r
     rcases hc with rfl|hc
     . exact hbe
     . rintro rfl
       rcases he with z|z
       . exact nown c b hc z
       . rw [hc] at z; cases z; exact hb rfl
end
structure Un (fs ex:List Addr) (H H':Hp) (h h':Heap):Prop where
 keep:∀ b o,h.get? b=some o -> H b=none -> b∉fs -> b∉ex -> h'.get? b=some o
 slot:∀ b o,h.get? b=some o -> H b=none -> b∈fs -> b∉ex -> ∃ sl,h'.get? b=some { o with slots:=sl }
 free:∀ b o,h.get? b=some o -> H b=none -> b∉ex -> H' b=none
 there:∀ b o,h.get? b=some o -> b∉ex -> ∃ o',h'.get? b=some o'
 tups:∀ b xs,H b=some (.tup xs) -> H' b=some (.tup xs)
 frzs:∀ b o u,H b=some (.frz o u) -> H' b=some (.frz o u)
 tbls:∀ b ps,H b=some (.tbl ps) -> ∃ more,H' b=some (.tbl (ps++more))
section
variable {fs fs' ex ex':List Addr} {H H1 H2:Hp} {h h1 h2 h':Heap} {a x e:Addr} {o:HO}
theorem Un.any (u:Un fs ex H H1 h h1) {b:Addr} {ob:Obj} (q:h.get? b=some ob) (n:H b=none) (hx:b∉ex):∃ sl,h1.get? b=some { ob with slots:=sl }:=by
 by_cases hb:b∈fs
 . exact u.slot b ob q n hb hx
 . exact ⟨ob.slots,u.keep b ob q n hb hx⟩
theorem Un.kept (k:∀ b u,h.get? b=some u -> h'.get? b=some u):Un fs ex H H h h':=
 ⟨fun b ob q _ _ _=>k b ob q,fun b ob q _ _ _=>⟨ob.slots,k b ob q⟩,fun _ _ _ n _=>n,fun b ob q _=>⟨ob,k b ob q⟩,fun _ _ q=>q,fun _ _ _ q=>q,fun _ ps q=>⟨#[],by rw [q]; simp⟩⟩
theorem Un.refl:Un fs ex H H h h:=Un.kept fun _ _ q=>q
theorem Un.laid (k:∀ b u,h.get? b=some u -> h'.get? b=some u) (hp:h.objs.size <= a) (hn:H a=none):Un fs ex H (upd H a o) h h' where
 keep:=fun b u q _ _ _=>k b u q
 slot:=fun b u q _ _ _=>⟨u.slots,k b u q⟩
 free:=fun b u q n _=>by rw [bJ (Nat.ne_of_lt (Nat.lt_of_lt_of_le (Heap.lt_size q) hp))]; exact n
 there:=fun b u q _=>⟨u,k b u q⟩
 tups:=fun b xs q=>by rw [bJ (eI q hn)]; exact q
 frzs:=fun b u xs q=>by rw [bJ (eI q hn)]; exact q
 tbls:=fun b ps q=>⟨#[],by rw [bJ (eI q hn),q]; simp⟩
theorem Un.write (mu:Mut (H x)) (he:e=x \/ H e=some (.own x)) (k:∀ b u,b≠e -> h.get? b=some u -> h'.get? b=some u) (heo:∃ u,h'.get? e=some u):Un fs ex H (upd H x o) h h':=by
 have hx:∀ b,H b=none -> b≠x:=fun b n z=>by subst z; rw [n] at mu; exact mu
 have hb:∀ b,H b=none -> b≠e:=fun b n z=>by
  subst z
  rcases he with r|r
  . exact hx b n r
  . rw [n] at r; cases r
 have hm:∀ b u,H b=some u -> ¬ Mut (some u) -> b≠x:=fun b u q nm z=>by subst z; rw [q] at mu; exact nm mu
 refine ⟨fun b u q n _ _=>k b u (hb b n) q,fun b u q n _ _=>⟨u.slots,k b u (hb b n) q⟩,fun b u q n _=>by rw [bJ (hx b n)]; exact n,fun b u q _=>?_,
  fun b xs q=>by rw [bJ (hm b _ q fun z=>z)]; exact q,fun b u xs q=>by rw [bJ (hm b _ q fun z=>z)]; exact q,fun b ps q=>⟨#[],by rw [bJ (hm b _ q fun z=>z),q]; simp⟩⟩
 by_cases hbe:b=e
 . subst hbe; exact heo
 . exact ⟨u,k b u hbe q⟩
end
noncomputable def trk (h:Heap) (H:Hp):List Addr:=(List.range h.objs.size).filter fun a=>(H a).isSome
noncomputable def w9 (h:Heap) (H:Hp):Heap:=PySem.W.hideAll h (trk h H)
theorem Bn (h:Heap) (H:Hp):(w9 h H).objs.size=h.objs.size:=PySem.W.hideAll_size _ _
theorem CB {h:Heap} {H:Hp} {b:Addr} {o:Obj} (e:h.get? b=some o) (n:H b=none):(w9 h H).get? b=some o:=
 PySem.W.hideAll_get _ e fun hm=>by
  have q:(H b).isSome=true:=(List.mem_filter.mp hm).2
  rw [n] at q; simp at q
theorem Fg {h:Heap} {H:Hp} {b:Addr} {o:Obj} (e:(w9 h H).get? b=some o):h.get? b=some o /\ H b=none:=by
 have e':h.get? b=some o:=PySem.W.of_hideAll (trk h H) e
 refine ⟨e',?_⟩
 cases q:H b with
 |none=>rfl
 | some x=>
   have hm:b∈trk h H:=List.mem_filter.mpr ⟨List.mem_range.mpr (Heap.lt_size e'),by simp [q]⟩
   have z:(w9 h H).get? b=none:=PySem.W.hideAll_none (trk h H) hm
   rw [z] at e; cases e
noncomputable def EA (g h:Heap) (L:Addr):List (Addr×Obj):=(List.range h.objs.size).filterMap fun a=>if a=L \/ (g.get? a).isSome=true then none else (h.get? a).map fun o=>(a,o)
noncomputable def rest (g h:Heap) (L d:Addr):List (Addr×Obj):=(EA g h L).filter fun p=>decide (p.1≠d)
structure Mod (K:PySem.W.Frag) (mg:Str -> Option Value) (base:Heap):Prop where
 kin:K.In base
 glob:base.Ns mainGlobals mg
 blt:∃ mb,base.Ns builtinsNs mb /\ ∀ x:Str,x ≠ "__name__" -> mb x=bootBuiltins x
 nolimit:base.NoLimit
structure Cx where
 prog:Program
 w:World
 K:PySem.W.Frag
 mg:Str -> Option Value
 base:Heap
 A:Around
 N:List Str
 s₀:Shared
 H₀:Hp
 env:Env
 outer:List Env
 stack:List Env
 ex:List Addr
 fn:Str -> Bool
 calm:Bool
 pn:List (Addr×Obj)
 xe:Value -> Shared -> Prop
noncomputable def frs (l:List Env):List Addr:=l.filterMap (·.frame)
noncomputable abbrev Cx.fs (X:Cx):List Addr:=frs X.outer
noncomputable def Vis (sc:Scope) (x:Str):Prop:=sc.names.lookup x=some .local \/ sc.names.lookup x=some .cell \/ sc.names.lookup x=some .free
noncomputable def Loc (sc:Scope) (x:Str):Prop:=sc.names.lookup x=some .local \/ sc.names.lookup x=some .cell
noncomputable def Look (env:Env) (h:Heap) (m:Str -> Option Value) (x:Str) (u:Value):Prop:=
 (env.kindOf x=some .local /\ m x=some u) \/ ((env.kindOf x=some .cell \/ env.kindOf x=some .free) /\ ∃ c,env.cells.lookup x=some c /\ h.IsCell c (some u))
structure Cx.Ok (X:Cx):Prop where
 mod:Mod X.K X.mg X.base
 kind:X.env.scope.kind=.function
 glob:X.env.globals=mainGlobals
 blt:X.env.builtins=builtinsNs
 above:X.s₀.heap.objs.size <= X.env.locals
 inj:∀ x y c,X.env.cells.lookup x=some c -> X.env.cells.lookup y=some c -> x=y
 has:∀ x,(X.env.kindOf x=some .cell \/ X.env.kindOf x=some .free) -> ∃ c,X.env.cells.lookup x=some c
 cab:∀ x c,X.fn x=true -> X.env.cells.lookup x=some c -> X.s₀.heap.objs.size <= c
 hd:X.calm=true -> X.A.handled=none
 frames:X.A.frames=some X.stack
 stk:X.stack=X.outer \/ (X.stack=X.env ::X.outer /\ X.env.frame=some X.env.locals)
 exf:∀ b∈X.ex,b≠X.env.locals /\ ∀ x c,X.env.cells.lookup x=some c -> c≠b
 bs:∀ b o,X.base.get? b=some o -> X.s₀.heap.get? b=some o /\ X.H₀ b=none
 bsz:X.base.objs.size <= X.s₀.heap.objs.size
 noex:∀ b o,X.base.get? b=some o -> b∉X.ex
 exfs:∀ b∈X.ex,b∉X.fs
 vg:X.s₀.heap.FunFrames X.base X.outer
 frf:∀ b∈X.fs,X.H₀ b=none
structure Inv (X:Cx) (pins:List (Addr×Obj)) (σ:List (Option V)) (H:Hp) (s:Shared):Prop where
 ok:X.Ok
 os:s.os=X.s₀.os
 bare:AllBare s.gens
 base:Un X.fs X.ex X.H₀ H X.s₀.heap s.heap
 loc:∃ m,s.heap.Ns X.env.locals m /\ ∀ (i:Nat) (x:Str) (v:V),X.N[i]?=some x -> σ[i]?=some (some v) -> Vis X.env.scope x -> ∃ u,RelV v u /\ Look X.env s.heap m x u
 cell:∀ x c,X.env.cells.lookup x=some c -> ∃ v,s.heap.IsCell c v
 free:H X.env.locals=none
 freeC:∀ x c,X.env.cells.lookup x=some c -> H c=none
 pin:∀ p∈X.pn++pins,s.heap.get? p.1=some p.2 /\ H p.1=none /\ p.1≠X.env.locals /\ p.1∉X.fs /\ ∀ v,p.2.data≠.cell v
 hok:HOk X.prog X.w H s.heap
 len:σ.length=X.N.length
section
variable {X:Cx} {pins:List (Addr×Obj)} {σ:List (Option V)} {H H':Hp} {s:Shared} {h':Heap}
theorem Cx.Ok.LC (ok:X.Ok) {b:Addr} {o:Obj} (e:X.base.get? b=some o):b∉X.fs:=fun hb=>by
 have:=(ok.vg.mem hb).1
 rw [e] at this; cases this
theorem Inv.bs (I:Inv X pins σ H s):∀ b o,X.base.get? b=some o -> s.heap.get? b=some o /\ H b=none:=fun b o e=>
 ⟨I.base.keep b o (I.ok.bs b o e).1 (I.ok.bs b o e).2 (I.ok.LC e) (I.ok.noex b o e),I.base.free b o (I.ok.bs b o e).1 (I.ok.bs b o e).2 (I.ok.noex b o e)⟩
theorem Inv.bk (I:Inv X pins σ H s):∀ b o,X.base.get? b=some o -> s.heap.get? b=some o:=fun b o e=>(I.bs b o e).1
theorem Inv.mod (I:Inv X pins σ H s):Mod X.K X.mg X.base:=I.ok.mod
theorem Inv.kIn (I:Inv X pins σ H s):X.K.In s.heap:=I.ok.mod.kin.keeps I.bk
theorem Inv.nolimit (I:Inv X pins σ H s):s.heap.NoLimit:=I.ok.mod.nolimit.keeps I.bk
theorem Inv.lt (I:Inv X pins σ H s):X.env.locals<s.heap.objs.size:=let ⟨_,hn,_⟩:=I.loc; hn.lt
theorem Inv.sz (I:Inv X pins σ H s):X.s₀.heap.objs.size <= s.heap.objs.size:=Nat.le_trans I.ok.above (Nat.le_of_lt I.lt)
theorem Inv.K4 (I:Inv X pins σ H s) {a:Addr} (h:s.heap.objs.size <= a):a∉X.fs:=fun hb=>by
 obtain ⟨_,o,ho,_⟩:=I.ok.vg.mem hb
 exact absurd (Nat.lt_of_lt_of_le (Heap.lt_size ho) (Nat.le_trans I.sz h)) (Nat.lt_irrefl _)
theorem Inv.cne (I:Inv X pins σ H s):∀ x c,X.env.cells.lookup x=some c -> c≠X.env.locals:=fun x c e z=>by
 obtain ⟨v,o,ho,hd⟩:=I.cell x c e
 obtain ⟨m,⟨o',es,ep,ho',hd',_⟩,_⟩:=I.loc
 rw [z,ho'] at ho; cases ho; rw [hd'] at hd; cases hd
theorem Inv.vg (I:Inv X pins σ H s):s.heap.FunFrames X.base X.outer:=by
 have all:∀ (l:List Env),(∀ b∈frs l,b∈X.fs) -> X.s₀.heap.FunFrames X.base l -> s.heap.FunFrames X.base l:=by
  intro l
  induction l with
  |nil=>intro _ _; trivial
  | cons env r ih=>
    intro hs hl
    obtain ⟨hk,⟨L,o,hf,hn,ho,hd⟩,hr⟩:=hl
    have hL:L∈X.fs:=hs L (by unfold frs; rw [List.filterMap_cons,hf]; exact List.mem_cons_self)
    obtain ⟨sl,e⟩:=I.base.slot L o ho (I.ok.frf L hL) hL fun z=>I.ok.exfs L z hL
    exact ⟨hk,⟨L,_,hf,hn,e,hd⟩,ih (fun b hb=>hs b (by unfold frs; rw [List.filterMap_cons,hf]; exact List.mem_cons_of_mem _ hb)) hr⟩
 exact all X.outer (fun _ hb=>hb) I.ok.vg
theorem Inv.stack (I:Inv X pins σ H s):s.heap.FunFrames X.base X.stack:=by
 rcases I.ok.stk with e|⟨e,hf⟩
 . rw [e]; exact I.vg
 . rw [e]
   obtain ⟨m,hn,_⟩:=I.loc
   refine .cons (by rw [I.ok.kind]; decide) hf hn ?_ I.vg
   exact Heap.get?_none_of_le (Nat.le_trans I.ok.bsz I.ok.above)
theorem Inv.zR (I:Inv X pins σ H s):∀ b∈frs X.stack,b∈X.env.locals ::X.fs:=fun b hb=>by
 rcases I.ok.stk with e|⟨e,hf⟩
 . rw [e] at hb; exact List.mem_cons_of_mem _ hb
 . rw [e] at hb
   unfold frs at hb
   rw [List.filterMap_cons,hf] at hb
   exact hb
theorem Inv.wz (I:Inv X pins σ H s):∀ b∈frs X.stack,H b=none:=fun b hb=>by
 rcases List.mem_cons.mp (I.zR b hb) with e|hb
 . rw [e]; exact I.free
 . obtain ⟨_,o,ho,_⟩:=I.ok.vg.mem hb
   exact I.base.free b o ho (I.ok.frf b hb) fun z=>I.ok.exfs b z hb
theorem Inv.step {g':Array GenState} {t':Nat} {d':Drawn} {ch:List Addr} (I:Inv X pins σ H s)
  (hch:∀ b∈ch,(b∈X.ex \/ X.s₀.heap.objs.size <= b) /\ b≠X.env.locals /\ (∀ x c,X.env.cells.lookup x=some c -> c≠b) /\ ∀ p∈X.pn++pins,p.1≠b)
  (keep:∀ b o,b≠X.env.locals -> b∉X.fs -> b∉ch -> s.heap.get? b=some o -> H b=none -> h'.get? b=some o)
  (slot:∀ b o,b≠X.env.locals -> b∈X.fs -> b∉ch -> s.heap.get? b=some o -> H b=none -> ∃ sl,h'.get? b=some { o with slots:=sl }) (free:∀ b o,b∉ch -> s.heap.get? b=some o -> H b=none -> H' b=none)
  (there:∀ b o,b∉ch -> s.heap.get? b=some o -> ∃ o',h'.get? b=some o')
  (tups:∀ b xs,H b=some (.tup xs) -> H' b=some (.tup xs)) (frzs:∀ b o u,H b=some (.frz o u) -> H' b=some (.frz o u)) (tbls:∀ b ps,H b=some (.tbl ps) -> ∃ more,H' b=some (.tbl (ps++more)))
  (ns:∀ m,s.heap.Ns X.env.locals m -> h'.Ns X.env.locals m) (hok:HOk X.prog X.w H' h') (hg:AllBare g'):
  Inv X pins σ H' { s with heap:=h',gens:=g',drawn:=d',toks:=t' }:=by
 have neL:∀ b o,X.s₀.heap.get? b=some o -> b≠X.env.locals:=fun b o e=>Nat.ne_of_lt (Nat.lt_of_lt_of_le (Heap.lt_size e) I.ok.above)
 have neC:∀ b o,X.s₀.heap.get? b=some o -> b∉X.ex -> b∉ch:=fun b o e hx hb=>by
  rcases (hch b hb).1 with z|z
  . exact hx z
  . exact absurd (Nat.lt_of_lt_of_le (Heap.lt_size e) z) (Nat.lt_irrefl _)
 have cellK:∀ x c,X.env.cells.lookup x=some c -> ∀ v,s.heap.IsCell c v -> h'.IsCell c v:=fun x c e v ⟨o,ho,hd⟩=>by
  have nch:c∉ch:=fun z=>(hch c z).2.2.1 x c e rfl
  by_cases hc:c∈X.fs
  . obtain ⟨sl,q⟩:=slot c o (I.cne x c e) hc nch ho (I.freeC x c e)
    exact ⟨_,q,hd⟩
  . exact ⟨o,keep c o (I.cne x c e) hc nch ho (I.freeC x c e),hd⟩
 refine ⟨I.ok,I.os,hg,⟨fun b o e n hb hx=>?_,fun b o e n hb hx=>?_,fun b o e n hx=>?_,fun b o e hx=>?_,fun b xs e=>tups b xs (I.base.tups b xs e),fun b o xs e=>frzs b o xs (I.base.frzs b o xs e),fun b ps e=>?_⟩,?_,fun x c e=>?_,?_,fun x c e=>?_,fun p hp=>?_,hok,I.len⟩
 . exact keep b o (neL b o e) hb (neC b o e hx) (I.base.keep b o e n hb hx) (I.base.free b o e n hx)
 . obtain ⟨sl,e1⟩:=I.base.slot b o e n hb hx
   obtain ⟨sl',e2⟩:=slot b _ (neL b o e) hb (neC b o e hx) e1 (I.base.free b o e n hx)
   exact ⟨sl',e2⟩
 . obtain ⟨o',e1⟩:=I.base.there b o e hx
   exact free b o' (neC b o e hx) e1 (I.base.free b o e n hx)
 . obtain ⟨o',e1⟩:=I.base.there b o e hx
   exact there b o' (neC b o e hx) e1
 . obtain ⟨m1,e1⟩:=I.base.tbls b ps e
   obtain ⟨m2,e2⟩:=tbls b _ e1
   exact ⟨m1++m2,by rw [e2,Array.append_assoc]⟩
 . obtain ⟨m,hn,hl⟩:=I.loc
   refine ⟨m,ns m hn,fun i x v e1 e2 e3=>?_⟩
   obtain ⟨u,r,l⟩:=hl i x v e1 e2 e3
   refine ⟨u,r,?_⟩
   rcases l with l|⟨k,c,e,z⟩
   . exact .inl l
   . exact .inr ⟨k,c,e,cellK x c e _ z⟩
 . obtain ⟨v,z⟩:=I.cell x c e
   exact ⟨v,cellK x c e v z⟩
 . obtain ⟨m,⟨o,_,_,ho,_⟩,_⟩:=I.loc
   exact free _ o (fun z=>(hch _ z).2.1 rfl) ho I.free
 . obtain ⟨v,o,ho,hd⟩:=I.cell x c e
   exact free c o (fun z=>(hch c z).2.2.1 x c e rfl) ho (I.freeC x c e)
 . obtain ⟨e,n,ne,nf,d⟩:=I.pin p hp
   have nch:p.1∉ch:=fun z=>(hch p.1 z).2.2.2 p hp rfl
   exact ⟨keep p.1 p.2 ne nf nch e n,free p.1 p.2 nch e n,ne,nf,d⟩
theorem Inv.un {t':Nat} (I:Inv X pins σ H s) (u:Un X.fs [] H H' s.heap h') (hok:HOk X.prog X.w H' h'):Inv X pins σ H' { s with heap:=h',toks:=t' }:=by
 obtain ⟨m,⟨o,es,ep,ho,r⟩,_⟩:=id I.loc
 obtain ⟨sl,hL⟩:=u.any ho I.free (by simp)
 exact I.step (g':=s.gens) (d':=s.drawn) (ch:=[]) (fun _ z=>nomatch z) (fun b o _ hb _ e n=>u.keep b o e n hb (by simp)) (fun b o _ hb _ e n=>u.slot b o e n hb (by simp)) (fun b o _ e n=>u.free b o e n (by simp)) (fun b o _ e=>u.there b o e (by simp)) u.tups u.frzs u.tbls (fun m' hm=>by
  obtain ⟨o',es',ep',ho',r'⟩:=hm
  rw [ho] at ho'; cases ho'
  exact ⟨_,es',ep',hL,r'⟩) hok I.bare
theorem Inv.call {g':Array GenState} {t':Nat} {d':Drawn} {ch:List Addr} (I:Inv X pins σ H s) (u:Un (frs X.stack) ch H H' s.heap h') (hok:HOk X.prog X.w H' h') (hg:AllBare g')
  (hch:∀ b∈ch,(b∈X.ex \/ X.s₀.heap.objs.size <= b) /\ b≠X.env.locals /\ (∀ x c,X.env.cells.lookup x=some c -> c≠b) /\ ∀ p∈X.pn++pins,p.1≠b):
  Inv X pins σ H' { s with heap:=h',gens:=g',drawn:=d',toks:=t' }:=by
 obtain ⟨m,⟨o,es,ep,ho,r⟩,_⟩:=id I.loc
 obtain ⟨sl,hL⟩:=u.any ho I.free fun z=>(hch _ z).2.1 rfl
 exact I.step (ch:=ch) hch (fun b o hL hb hc e n=>u.keep b o e n (fun z=>(List.mem_cons.mp (I.zR b z)).elim hL hb) hc) (fun b o _ _ hc e n=>u.any e n hc) (fun b o hc e n=>u.free b o e n hc) (fun b o hc e=>u.there b o e hc) u.tups u.frzs u.tbls (fun m' hm=>by
  obtain ⟨o',es',ep',ho',r'⟩:=hm
  rw [ho] at ho'; cases ho'
  exact ⟨_,es',ep',hL,r'⟩) hok hg
theorem Inv.turned {t':Nat} {it:Addr} (I:Inv X pins σ H s) (k:∀ b o,b≠it -> s.heap.get? b=some o -> h'.get? b=some o) (hn:H it=none) (hL:it≠X.env.locals)
  (h1:it∈X.ex \/ X.s₀.heap.objs.size <= it) (h2:∀ x c,X.env.cells.lookup x=some c -> c≠it) (h3:∀ p∈X.pn++pins,p.1≠it):Inv X pins σ H { s with heap:=h',toks:=t' }:=by
 have nit:∀ b u,H b=some u -> b≠it:=fun b u e z=>by rw [z,hn] at e; cases e
 refine I.step (g':=s.gens) (d':=s.drawn) (ch:=[it]) (fun b hb=>?_) (fun b o _ _ hc e _=>k b o (fun z=>hc (by simp [z])) e) (fun b o _ _ hc e _=>⟨o.slots,k b o (fun z=>hc (by simp [z])) e⟩) (fun _ _ _ _ n=>n)
  (fun b o hc e=>⟨o,k b o (fun z=>hc (by simp [z])) e⟩) (fun _ _ e=>e) (fun _ _ _ e=>e) (fun b ps e=>⟨#[],by rw [e]; simp⟩) (fun m hm=>?_) (fun b u e=>?_) I.bare
 . have e:b=it:=by simpa using hb
   subst e
   exact ⟨h1,hL,h2,h3⟩
 . obtain ⟨o,es,ep,ho,r⟩:=hm
   exact ⟨o,es,ep,k _ o (Ne.symm hL) ho,r⟩
 . refine (I.hok b u e).tI (fun c v hc q=>k c v ?_ q) (fun _ q=>q) fun _ _ q=>q
   rcases hc with z|z
   . rw [z]; exact nit b u e
   . exact nit c _ z
theorem Inv.tok (I:Inv X pins σ H s) (t:Nat):Inv X pins σ H { s with toks:=t }:=I.un (h':=s.heap) (t':=t) Un.refl I.hok
theorem Inv.kept {t':Nat} (I:Inv X pins σ H s) (k:∀ b u,s.heap.get? b=some u -> h'.get? b=some u):Inv X pins σ H { s with heap:=h',toks:=t' }:=I.un (Un.kept k) (I.hok.kept k)
theorem Inv.laid {a:Addr} {o:HO} {t':Nat} (I:Inv X pins σ H s) (k:∀ b u,s.heap.get? b=some u -> h'.get? b=some u) (hp:s.heap.objs.size <= a) (new:gd X.prog X.w (upd H a o) h' a o):
  Inv X pins σ (upd H a o) { s with heap:=h',toks:=t' }:=I.un (Un.laid k hp (I.hok.fresh hp)) (I.hok.laid k hp new)
theorem Inv.write {x e:Addr} {o:HO} {t':Nat} (I:Inv X pins σ H s) (mu:Mut (H x)) (he:e=x \/ H e=some (.own x)) (k:∀ b u,b≠e -> s.heap.get? b=some u -> h'.get? b=some u) (heo:∃ u,h'.get? e=some u)
  (new:gd X.prog X.w (upd H x o) h' x o):Inv X pins σ (upd H x o) { s with heap:=h',toks:=t' }:=I.un (Un.write mu he k heo) (I.hok.write mu he k heo new)
theorem Inv.Ao {pins':List (Addr×Obj)} (I:Inv X pins σ H s) (h:∀ p∈pins',s.heap.get? p.1=some p.2 /\ H p.1=none /\ p.1≠X.env.locals /\ p.1∉X.fs /\ ∀ v,p.2.data≠.cell v):Inv X pins' σ H s:=
 ⟨I.ok,I.os,I.bare,I.base,I.loc,I.cell,I.free,I.freeC,fun p hp=>(List.mem_append.mp hp).elim (fun z=>I.pin p (List.mem_append_left _ z)) (h p),I.hok,I.len⟩
theorem yl {N:List Str} (hN:N.Nodup) {i j:Nat} {x:Str} (a:N[i]?=some x) (b:N[j]?=some x):i=j:=by
 obtain ⟨h1,e1⟩:=List.getElem?_eq_some_iff.mp a
 obtain ⟨h2,e2⟩:=List.getElem?_eq_some_iff.mp b
 exact (List.getElem_inj hN).mp (e1.trans e2.symm)
theorem BV {M:Model} {A:Around} {E:Value -> Shared -> Prop} {i:Nat} {x:Str} {v:V} {u:Value} {Q:Unit -> Shared -> Prop} (I:Inv X pins σ H s) (hN:X.N.Nodup) (hi:X.N[i]?=some x) (hx:Loc X.env.scope x) (r:RelV v u)
  (h:∀ s',Inv X pins (σ.set i (some v)) H s' -> (∃ a,Heap.SameBut a s.heap s'.heap /\ (a=X.env.locals \/ X.env.cells.lookup x=some a)) -> Q () s') (hf:X.fn x=true \/ X.env.scope.names.lookup x=some .local:=by first|exact .inl rfl|exact .inr rfl|assumption):wpAny M A (storeName X.env x u) Q E s:=by
 obtain ⟨m,hn,hl⟩:=id I.loc
 have hcls:(X.env.scope.kind == .class||(X.env.scope.kind == .module&&X.env.locals != X.env.globals))=false:=by rw [I.ok.kind]; rfl
 have hiσ:i<σ.length:=by rw [I.len]; exact (List.getElem?_eq_some_iff.mp hi).1
 have cne:=I.cne
 have tracked:∀ {a:Addr} {h':Heap},(∃ o,s.heap.get? a=some o /\ H a=none) -> Heap.SameBut a s.heap h' -> HOk X.prog X.w H h':=fun {a h'} ha hs b ob e=>by
  obtain ⟨_,_,hfree⟩:=ha
  refine (I.hok b ob e).tI (fun c w' hc q=>(hs.2 c ?_).trans q) (fun _ q=>q) fun _ _ q=>q
  rintro rfl
  rcases hc with rfl|hc
  . rw [hfree] at e; cases e
  . rw [hfree] at hc; cases hc
 rcases hx with hk|hk
 . refine wpAny_storeName_local hk hn (fun h' hn' hs=>?_) hcls
   obtain ⟨oL,_,_,hoL,_⟩:=id hn
   refine h _ ⟨I.ok,I.os,I.bare,⟨fun b o e n hb hx=>?_,fun b o e n hb hx=>?_,I.base.free,fun b o e hx=>?_,I.base.tups,I.base.frzs,I.base.tbls⟩,⟨_,hn',fun j y v' e1 e2 e3=>?_⟩,fun y c e=>?_,I.free,I.freeC,fun p hp=>?_,tracked ⟨oL,hoL,I.free⟩ hs,by simpa using I.len⟩ ⟨_,hs,.inl rfl⟩
   . exact (hs.2 b (Nat.ne_of_lt (Nat.lt_of_lt_of_le (Heap.lt_size e) I.ok.above))).trans (I.base.keep b o e n hb hx)
   . obtain ⟨sl,e1⟩:=I.base.slot b o e n hb hx
     exact ⟨sl,(hs.2 b (Nat.ne_of_lt (Nat.lt_of_lt_of_le (Heap.lt_size e) I.ok.above))).trans e1⟩
   . obtain ⟨o',e1⟩:=I.base.there b o e hx
     exact ⟨o',(hs.2 b (Nat.ne_of_lt (Nat.lt_of_lt_of_le (Heap.lt_size e) I.ok.above))).trans e1⟩
   . by_cases hj:j=i
     . subst hj
       rw [hi] at e1; cases e1
       rw [List.getElem?_set_self hiσ] at e2
       cases e2
       exact ⟨u,r,.inl ⟨hk,by simp⟩⟩
     . rw [List.getElem?_set_ne (Ne.symm hj)] at e2
       obtain ⟨u',r',q⟩:=hl j y v' e1 e2 e3
       refine ⟨u',r',?_⟩
       rcases q with ⟨k,e⟩|⟨k,c,e,z⟩
       . refine .inl ⟨k,?_⟩
         have:y≠x:=fun e=>hj (yl hN e1 (e ▸ hi))
         simp [this,e]
       . exact .inr ⟨k,c,e,z.sameBut hs (cne y c e)⟩
   . obtain ⟨w',z⟩:=I.cell y c e
     exact ⟨w',z.sameBut hs (cne y c e)⟩
   . obtain ⟨e,n,ne,nf,d⟩:=I.pin p hp
     exact ⟨(hs.2 p.1 ne).trans e,n,ne,nf,d⟩
 . have hfn:X.fn x = true:=by
    rcases hf with z|z
    . exact z
    . rw [z] at hk; cases hk
   obtain ⟨c,hc⟩:=I.ok.has x (.inl hk)
   obtain ⟨w',z⟩:=I.cell x c hc
   refine wpAny_storeName_cell I.ok.kind hk hc z (fun h' hc' hs=>?_)
   obtain ⟨oc,hoc,hocd⟩:=id z
   refine h { s with heap:=h' } ⟨I.ok,I.os,I.bare,⟨fun b o e n hb hx=>?_,fun b o e n hb hx=>?_,I.base.free,fun b o e hx=>?_,I.base.tups,I.base.frzs,I.base.tbls⟩,⟨m,hn.sameBut hs (Ne.symm (cne x c hc)),fun j y v' e1 e2 e3=>?_⟩,fun y c' e=>?_,I.free,I.freeC,fun p hp=>?_,tracked ⟨oc,hoc,I.freeC x c hc⟩ hs,by simpa using I.len⟩ ⟨c,hs,.inr hc⟩
   . exact (hs.2 b (Nat.ne_of_lt (Nat.lt_of_lt_of_le (Heap.lt_size e) (I.ok.cab x c hfn hc)))).trans (I.base.keep b o e n hb hx)
   . obtain ⟨sl,e1⟩:=I.base.slot b o e n hb hx
     exact ⟨sl,(hs.2 b (Nat.ne_of_lt (Nat.lt_of_lt_of_le (Heap.lt_size e) (I.ok.cab x c hfn hc)))).trans e1⟩
   . obtain ⟨o',e1⟩:=I.base.there b o e hx
     exact ⟨o',(hs.2 b (Nat.ne_of_lt (Nat.lt_of_lt_of_le (Heap.lt_size e) (I.ok.cab x c hfn hc)))).trans e1⟩
   . by_cases hj:j=i
     . subst hj
       rw [hi] at e1; cases e1
       rw [List.getElem?_set_self hiσ] at e2
       cases e2
       exact ⟨u,r,.inr ⟨.inl hk,c,hc,hc'⟩⟩
     . rw [List.getElem?_set_ne (Ne.symm hj)] at e2
       obtain ⟨u',r',q⟩:=hl j y v' e1 e2 e3
       refine ⟨u',r',?_⟩
       rcases q with q|⟨k,c',e,z'⟩
       . exact .inl q
       . refine .inr ⟨k,c',e,z'.sameBut hs ?_⟩
         rintro rfl
         exact hj (yl hN e1 (I.ok.inj _ _ _ e hc ▸ hi))
   . by_cases hcc:c'=c
     . subst hcc; exact ⟨_,hc'⟩
     . obtain ⟨w2,z2⟩:=I.cell y c' e
       exact ⟨w2,z2.sameBut hs hcc⟩
   . obtain ⟨e,n,ne,nf,d⟩:=I.pin p hp
     refine ⟨(hs.2 p.1 ?_).trans e,n,ne,nf,d⟩
     intro q
     rw [q,hoc] at e
     have q':oc=p.2:=Option.some.inj e
     exact d w' (by rw [<- q']; exact hocd)
theorem jV {M:Model} {A:Around} {E:Value -> Shared -> Prop} {i:Nat} {x:Str} {v:V} {u:Value} {Q:Unit -> Shared -> Prop} (I:Inv X pins σ H s) (hN:X.N.Nodup) (hi:X.N[i]?=some x) (hx:Loc X.env.scope x) (r:RelV v u)
  (h:∀ s',Inv X pins (σ.set i (some v)) H s' -> Q () s') (hf:X.fn x=true \/ X.env.scope.names.lookup x=some .local:=by first|exact .inl rfl|exact .inr rfl|assumption):wpAny M A (storeName X.env x u) Q E s:=
 BV I hN hi hx r (fun s' I' _=>h s' I') hf
theorem Inv.GC {s':Shared} {ch:List Addr} (I:Inv X pins σ H s) (ho:s'.os=s.os) (u:Un (frs X.stack) ch H H' s.heap s'.heap) (hok:HOk X.prog X.w H' s'.heap) (hg:AllBare s'.gens)
  (hch:∀ b∈ch,(b∈X.ex \/ X.s₀.heap.objs.size <= b) /\ b≠X.env.locals /\ (∀ x c,X.env.cells.lookup x=some c -> c≠b) /\ ∀ p∈X.pn++pins,p.1≠b):Inv X pins σ H' s':=by
 obtain ⟨h',g',d',t',o'⟩:=s'
 have e:o'=s.os:=ho
 subst e
 exact I.call (g':=g') (t':=t') (d':=d') u hok hg hch
end
abbrev XK:=Value -> Option Addr -> Hp -> Prop
abbrev St:=List (Option V)
abbrev VK:=V -> Hp -> Prop
abbrev TE:=St -> Hp -> VK -> Prop
abbrev TT:=St -> Hp -> (Bool -> Hp -> Prop) -> Prop
abbrev TA:=St -> Hp -> (List V -> Hp -> Prop) -> Prop
structure Ends where
 nx:St -> Hp -> Prop
 rt:VK
 bk:St -> Hp -> Prop:=fun _ _=>False
 ct:St -> Hp -> Prop:=fun _ _=>False
abbrev TS:=Ends -> St -> Hp -> Prop
noncomputable def EP (X:Cx) (pins:List (Addr×Obj)) (σ:St) (Q:VK) (u:Value) (s':Shared):Prop:=∃ v H',Inv X pins σ H' s' /\ RelV v u /\ Q v H'
noncomputable def TP (X:Cx) (pins:List (Addr×Obj)) (σ:St) (Q:Bool -> Hp -> Prop) (b:Bool) (s':Shared):Prop:=∃ H',Inv X pins σ H' s' /\ Q b H'
noncomputable def AP (X:Cx) (pins:List (Addr×Obj)) (σ:St) (Q:List V -> Hp -> Prop) (us:List Value) (s':Shared):Prop:=∃ vs H',Inv X pins σ H' s' /\ Vals vs us /\ Q vs H'
noncomputable def SP (X:Cx) (pins:List (Addr×Obj)) (D:Ends) (f:Flow) (s':Shared):Prop:=
 match f with
 |.next=>∃ σ' H',Inv X pins σ' H' s' /\ D.nx σ' H'
 |.brk=>∃ σ' H',Inv X pins σ' H' s' /\ D.bk σ' H'
 |.cont=>∃ σ' H',Inv X pins σ' H' s' /\ D.ct σ' H'
 |.ret u=>∃ v σ' H',Inv X pins σ' H' s' /\ RelV v u /\ D.rt v H'
noncomputable def PE (X:Cx) (e:Expr) (t:TE):Prop:=
 ∀ (pins:List (Addr×Obj)) (s:Shared) (σ:St) (H:Hp) (Q:VK),Inv X pins σ H s -> t σ H Q -> wpAny (model X.prog X.w) X.A (eval e X.env) (EP X pins σ Q) X.xe s
noncomputable def PT (X:Cx) (e:Expr) (t:TT):Prop:=
 ∀ (pins:List (Addr×Obj)) (s:Shared) (σ:St) (H:Hp) (Q:Bool -> Hp -> Prop),Inv X pins σ H s -> t σ H Q -> wpAny (model X.prog X.w) X.A (isTrue e X.env (eval e X.env)) (TP X pins σ Q) X.xe s
noncomputable def PW (X:Cx) (e:Expr) (t:TT):Prop:=
 ∀ (whole:Sem Value) (pins:List (Addr×Obj)) (s:Shared) (σ:St) (H:Hp) (Q:Bool -> Hp -> Prop),Inv X pins σ H s -> t σ H Q -> wpAny (model X.prog X.w) X.A (isTrue e X.env whole) (TP X pins σ Q) X.xe s
theorem PW.pt {X:Cx} {e:Expr} {t:TT} (h:PW X e t):PT X e t:=h _
noncomputable def PA (X:Cx) (es:List Expr) (t:TA):Prop:=
 ∀ (pos:Pos) (pins:List (Addr×Obj)) (s:Shared) (σ:St) (H:Hp) (Q:List V -> Hp -> Prop),Inv X pins σ H s -> t σ H Q -> wpAny (model X.prog X.w) X.A (spliced (backTo pos (starEach es X.env))) (AP X pins σ Q) X.xe s
noncomputable def PS (X:Cx) (st:Stmt) (t:TS):Prop:=
 ∀ (pins:List (Addr×Obj)) (s:Shared) (σ:St) (H:Hp) (D:Ends),Inv X pins σ H s -> t D σ H -> wpAny (model X.prog X.w) X.A (exec st X.env) (SP X pins D) X.xe s
noncomputable def PSs (X:Cx) (st:List Stmt) (t:TS):Prop:=
 ∀ (pins:List (Addr×Obj)) (s:Shared) (σ:St) (H:Hp) (D:Ends),Inv X pins σ H s -> t D σ H -> wpAny (model X.prog X.w) X.A (execs st X.env) (SP X pins D) X.xe s
theorem thn {α:Type} {t:Sem α} {Q Q':α -> Shared -> Prop} {M:Model} {A:Around} {E:Value -> Shared -> Prop} {s:Shared} (h:wpAny M A t Q E s) (hQ:∀ a s,Q a s -> Q' a s):wpAny M A t Q' E s:=wpAny_mono h hQ fun _ _ x=>x
section
variable {X:Cx}
theorem bin {a b:Expr} {ta tb:TE} (ha:PE X a ta) (hb:PE X b tb) {pins:List (Addr×Obj)} {s:Shared} {σ:St} {H:Hp} {R:V -> V -> Hp -> Prop} (I:Inv X pins σ H s) (h:ta σ H fun x H1=>tb σ H1 fun y H2=>R x y H2)
  {α:Type} {Q:α -> Shared -> Prop} {f:Value -> Value -> Sem α}
  (hf:∀ v u s2 x y H2,Inv X pins σ H2 s2 -> RelV x v -> RelV y u -> R x y H2 -> wpAny (model X.prog X.w) X.A (f v u) Q X.xe s2):
  wpAny (model X.prog X.w) X.A (eval a X.env) (fun v s₁=>wpAny (model X.prog X.w) X.A (eval b X.env) (fun u s₂=>wpAny (model X.prog X.w) X.A (f v u) Q X.xe s₂) X.xe s₁) X.xe s:=by
 refine thn (ha pins s σ H _ I h) fun v s1 ⟨x,H1,I1,r1,q1⟩=>?_
 refine thn (hb pins s1 σ H1 _ I1 q1) fun u s2 ⟨y,H2,I2,r2,q2⟩=>?_
 exact hf v u s2 x y H2 I2 r1 r2 q2
noncomputable def zp (i:Nat):TE:=fun σ H Q=>∃ v,σ[i]?=some (some v) /\ Q v H
noncomputable def tC (v:V):TE:=fun _ H Q=>Q v H
theorem HH {i:Nat} {x:Str} {pos:Pos} (hN:X.N[i]?=some x) (hv:Vis X.env.scope x) (hd:(x==("__debug__":Str))=false:=by decide) (hcd:(x==("__classdict__":Str))=false:=by decide):PE X (.Name x pos) (zp i):=by
 intro pins s σ H Q I h
 obtain ⟨v,e,h⟩:=h
 obtain ⟨m,hn,hl⟩:=I.loc
 obtain ⟨u,r,l⟩:=hl i x v hN e hv
 have fin:EP X pins σ Q u s:=⟨v,H,I,r,h⟩
 rcases l with ⟨hk,hm⟩|⟨hk,c,hc,hcell⟩
 . exact wpAny_Name (wpAny_loadName_local I.ok.kind hk hn hm fin) hd
 . rcases hk with hk|hk
   . exact wpAny_Name (wpAny_loadName_cell I.ok.kind hk hc hcell fin) hd
   . exact wpAny_Name (wpAny_loadName_free I.ok.kind hk hc hcell fin hcd) hd
theorem GZ {i j pos}:PE X (.Constant (.int i) j pos) (tC (.int i)):=fun _ _ _ H _ I h=>wpAny_Constant_int ⟨.int i,H,I.tok _,⟨_,rfl⟩,h⟩
theorem JM {b j pos}:PE X (.Constant (.bool b) j pos) (tC (.bl b)):=fun _ _ _ H _ I h=>Constant_bool ⟨.bl b,H,I,rfl,h⟩
theorem Hw {j pos}:PE X (.Constant .none j pos) (tC .non):=fun _ _ _ H _ I h=>Constant_none ⟨.non,H,I,rfl,h⟩
theorem GO {x j pos}:PE X (.Constant (.str x) j pos) (tC (.str x)):=fun _ _ _ H _ I h=>Calls.Constant_str ⟨.str x,H,I.tok _,⟨_,rfl⟩,h⟩
noncomputable def Gl (X:Cx) (x:Str):Prop:=X.env.kindOf x=some .globalImplicit
theorem tY {E:Value -> Shared -> Prop} {pins:List (Addr×Obj)} {s:Shared} {σ:St} {H:Hp} {x:Str} {u:Value} {pos:Pos} {Q:Value -> Shared -> Prop} (I:Inv X pins σ H s) (hg:Gl X x) (hm:X.mg x=some u) (h:Q u s)
  (hd:(x==("__debug__":Str))=false:=by decide):wpAny (model X.prog X.w) X.A (eval (.Name x pos) X.env) Q E s:=
 Calls.Name_function_global I.ok.kind hg (Calls.loadGlobal_global (by rw [I.ok.glob]; exact I.mod.glob.keeps I.bk) hm h) hd
theorem uX {E:Value -> Shared -> Prop} {pins:List (Addr×Obj)} {s:Shared} {σ:St} {H:Hp} {x:Str} {u:Value} {pos:Pos} {Q:Value -> Shared -> Prop} (I:Inv X pins σ H s) (hg:Gl X x) (hm:X.mg x=none) (hv:bootBuiltins x=some u) (h:Q u s)
  (hn:x ≠ "__name__":=by decide) (hd:(x==("__debug__":Str))=false:=by decide):wpAny (model X.prog X.w) X.A (eval (.Name x pos) X.env) Q E s:=by
 obtain ⟨mb,h1,h2⟩:=I.mod.blt
 exact Calls.Name_function_global I.ok.kind hg (Calls.loadGlobal_builtin (by rw [I.ok.glob]; exact I.mod.glob.keeps I.bk) hm (by rw [I.ok.blt]; exact h1.keeps I.bk) ((h2 x hn).trans hv) h) hd
theorem Ep {x:Str} {v:V} {u:Value} {pos:Pos} (hg:Gl X x) (hm:X.mg x=some u) (r:RelV v u) (hd:(x==("__debug__":Str))=false:=by decide):PE X (.Name x pos) (tC v):=
 fun _ _ _ H _ I h=>tY I hg hm ⟨v,H,I,r,h⟩ hd
theorem E6 {x:Str} {v:V} {u:Value} {pos:Pos} (hg:Gl X x) (hm:X.mg x=none) (hv:bootBuiltins x=some u) (r:RelV v u) (hn:x ≠ "__name__":=by decide) (hd:(x==("__debug__":Str))=false:=by decide):PE X (.Name x pos) (tC v):=
 fun _ _ _ H _ I h=>uX I hg hm hv ⟨v,H,I,r,h⟩ hn hd
variable {a b:Expr} {ta tb:TE} {pos:Pos}
noncomputable def PC (X:Cx) (op:CmpOp) (a b:Expr) (t:TE):Prop:=
 ∀ (pins:List (Addr×Obj)) (s:Shared) (σ:St) (H:Hp) (Q:VK),Inv X pins σ H s -> t σ H Q ->
   wpAny (model X.prog X.w) X.A (eval a X.env) (fun v s₁=>wpAny (model X.prog X.w) X.A (eval b X.env) (fun u s₂=>wpAny (model X.prog X.w) X.A (compareOp op v u) (EP X pins σ Q) X.xe s₂) X.xe s₁) X.xe s
theorem xE (b:Expr) {op:CmpOp} (h:op≠.In) (h2:op≠.NotIn):behindInMarks op b=false:=by
 have e1:(op==CmpOp.In)=false:=by cases op<;>first|rfl|exact absurd rfl h
 have e2:(op==CmpOp.NotIn)=false:=by cases op<;>first|rfl|exact absurd rfl h2
 cases b<;>simp [behindInMarks,e1,e2]
noncomputable def tB (t:TE):TT:=fun σ H Q=>t σ H fun x H1=>∃ c,x=.bl c /\ Q c H1
theorem Ih {op:CmpOp} {t:TE} (h:PC X op a b t) (h1:behindInMarks op b=false:=by first|exact xE _ (by decide) (by decide)|rfl):PT X (.Compare a [op] [b] pos) (tB t):=by
 intro pins s σ H Q I hw
 refine wpAny_isTrue_Compare1 (thn (h pins s σ H _ I hw) fun v s1 h1=>thn h1 fun u s2 h2=>thn h2 fun c s3 ⟨x,H1,I1,r1,q1⟩=>?_) h1
 obtain ⟨d,rfl,q⟩:=q1
 cases r1
 exact wpAny_truthy_bool ⟨H1,I1,q⟩
variable {tA tB':TT} {rest:List Expr}
noncomputable def HD (t u:TT):TT:=fun σ H Q=>t σ H fun c H1=>if c=true then u σ H1 Q else Q false H1
noncomputable def tOr (t u:TT):TT:=fun σ H Q=>t σ H fun c H1=>if c=true then Q true H1 else u σ H1 Q
noncomputable def HV (t:TT):TT:=fun σ H Q=>t σ H fun c H1=>Q (!c) H1
theorem Ew (ha:PT X a tA):PW X (.BoolOp .And [a] pos) tA:=by
 intro wh pins s σ H Q I h
 refine isTrue_and (thn (ha pins s σ H Q I h) fun c s1 e=>?_)
 cases c with
 |true=>exact isTrue_and_nil e
 |false=>exact e
theorem Hd (ha:PT X a tA):PW X (.BoolOp .Or [a] pos) tA:=by
 intro wh pins s σ H Q I h
 refine isTrue_or (thn (ha pins s σ H Q I h) fun c s1 e=>?_)
 cases c with
 |false=>exact isTrue_or_nil e
 |true=>exact e
theorem I9 (ha:PT X a tA) (hb:PW X (.BoolOp .And (b ::rest) pos) tB'):PW X (.BoolOp .And (a ::b ::rest) pos) (HD tA tB'):=by
 intro wh pins s σ H Q I h
 refine isTrue_and (thn (ha pins s σ H _ I h) fun c s1 ⟨H1,I1,q1⟩=>?_)
 cases c with
 |true=>exact hb wh pins s1 σ H1 Q I1 q1
 |false=>exact ⟨H1,I1,q1⟩
theorem Jt (ha:PT X a tA) (hb:PW X (.BoolOp .Or (b ::rest) pos) tB'):PW X (.BoolOp .Or (a ::b ::rest) pos) (tOr tA tB'):=by
 intro wh pins s σ H Q I h
 refine isTrue_or (thn (ha pins s σ H _ I h) fun c s1 ⟨H1,I1,q1⟩=>?_)
 cases c with
 |true=>exact ⟨H1,I1,q1⟩
 |false=>exact hb wh pins s1 σ H1 Q I1 q1
theorem Hg (ha:PT X a tA):PT X (.UnaryOp .Not a pos) (HV tA):=by
 intro pins s σ H Q I h
 exact isTrue_not (ha pins s σ H (fun c H1=>Q (!c) H1) I h)
noncomputable def Dm (ta tb:TE):TE:=fun σ H Q=>ta σ H fun x H1=>∃ c,x=.bl c /\ if c=true then tb σ H1 Q else Q (.bl false) H1
noncomputable def Cr (ta:TE):TE:=fun σ H Q=>ta σ H fun x H1=>∃ c,x=.bl c /\ Q (.bl (!c)) H1
theorem Ie {op} {t:TE} (h:PE X a t):PE X (.BoolOp op [a] pos) t:=fun pins s σ H Q I hw=>BoolOp_one (h pins s σ H Q I hw)
theorem Iu (ha:PE X a ta) (hb:PE X (.BoolOp .And (b ::rest) pos) tb):PE X (.BoolOp .And (a ::b ::rest) pos) (Dm ta tb):=by
 intro pins s σ H Q I h
 refine BoolOp_and (thn (ha pins s σ H _ I h) fun v s1 ⟨x,H1,I1,r1,q1⟩=>?_)
 obtain ⟨c,rfl,q1⟩:=q1
 cases r1
 refine wpAny_truthy_bool ?_
 cases c with
 |true=>exact hb pins s1 σ H1 Q I1 q1
 |false=>exact ⟨.bl false,H1,I1,rfl,q1⟩
theorem Iy (ha:PE X a ta):PE X (.UnaryOp .Not a pos) (Cr ta):=by
 intro pins s σ H Q I h
 refine UnaryOp_ (thn (ha pins s σ H _ I h) fun v s1 ⟨x,H1,I1,r1,q1⟩=>?_)
 obtain ⟨c,rfl,q1⟩:=q1
 cases r1
 exact not_of (wpAny_truthy_bool ⟨.bl (!c),H1,I1,rfl,q1⟩)
noncomputable def tIf (t:TT) (ta tb:TE):TE:=fun σ H Q=>t σ H fun c H1=>if c=true then ta σ H1 Q else tb σ H1 Q
theorem DO {c:Expr} (hc:PT X c tA) (ha:PE X a ta) (hb:PE X b tb):PE X (.IfExp c a b pos) (tIf tA ta tb):=by
 intro pins s σ H Q I h
 refine wpAny_IfExp (thn (hc pins s σ H _ I h) fun d s1 ⟨H1,I1,q1⟩=>?_)
 cases d with
 |true=>exact ha pins s1 σ H1 Q I1 q1
 |false=>exact hb pins s1 σ H1 Q I1 q1
end
noncomputable def SqL (K:PySem.W.Frag) (H:Hp) (a:Addr) (xs:List V):Prop:=
 Rd H a (.lst xs) \/
  ∃ (o:Obj) (its:Array Value) (n:Nat),K.lookup a=some o /\ o.cls=.type "list" /\ o.dict=none /\ o.data=.seq its n /\ its.size <= sizeLine /\ Vals xs its.toList
noncomputable def SqT (K:PySem.W.Frag) (H:Hp) (a:Addr) (xs:List V):Prop:=
 Rd H a (.tup xs) \/
  ∃ (o:Obj) (its:Array Value) (n:Nat),K.lookup a=some o /\ o.cls=.type "tuple" /\ o.data=.seq its n /\ its.size <= sizeLine /\ Vals xs its.toList
noncomputable def Ly:Value -> Option V
 |.none=>some .non
 |.bool b=>some (.bl b)
 |.int i _=>some (.int i)
 |.str x _=>some (.str x)
 |.bytes b _=>some (.byt b)
 |.float b _=>some (.flt b)
 |.ref a=>some (.ref a)
 |.type n=>some (.ty n)
 |_=>none
theorem RelV.abs {x:V} {u:Value} (r:RelV x u):Ly u=some x:=by
 cases x with
 |non=>cases r; rfl
 |bl _=>cases r; rfl
 |int _=>obtain ⟨t,rfl⟩:=r; rfl
 |str _=>obtain ⟨t,rfl⟩:=r; rfl
 |byt _=>obtain ⟨t,rfl⟩:=r; rfl
 |flt _=>obtain ⟨t,rfl⟩:=r; rfl
 |ref _=>cases r; rfl
 |ty _=>cases r; rfl
theorem RelV.inj {x y:V} {u:Value} (r:RelV x u) (q:RelV y u):x=y:=Option.some.inj (r.abs.symm.trans q.abs)
theorem Vals.inj:∀ {xs ys:List V} {us:List Value},Vals xs us -> Vals ys us -> xs=ys
 |_,_,_,.nil,.nil=>rfl
 |_,_,_,.cons r t,.cons r' t'=>by rw [r.inj r',Vals.inj t t']
section
variable {X:Cx} {pins:List (Addr×Obj)} {σ:St} {H:Hp} {s:Shared} {a:Addr} {xs ys:List V}
theorem Inv.list (I:Inv X pins σ H s) (h:SqL X.K H a xs):∃ its:List Value,Vals xs its /\ PlainL s.heap a its.toArray /\ xs.length <= sizeLine:=by
 rcases h with h|⟨o,its,n,hk,hc,hd,hs,hz,r⟩
 . obtain ⟨z,its,n,r,e⟩:=h.ok I.hok
   exact ⟨its,r,⟨_,n,e,rfl,rfl,rfl⟩,z⟩
 . refine ⟨its.toList,r,⟨o,n,I.kIn a o hk,hc,hd,by simpa using hs⟩,?_⟩
   have e:=r.length
   simp only [Array.length_toList] at e
   omega
theorem Inv.tuple (I:Inv X pins σ H s) (h:SqT X.K H a xs):∃ its:List Value,Vals xs its /\ IsTup s.heap a its.toArray /\ xs.length <= sizeLine:=by
 rcases h with h|⟨o,its,n,hk,hc,hs,hz,r⟩
 . obtain ⟨z,its,r,p⟩:=h.ok I.hok
   exact ⟨its,r,p,z⟩
 . refine ⟨its.toList,r,⟨o,I.kIn a o hk,hc,n,by simpa using hs⟩,?_⟩
   have e:=r.length
   simp only [Array.length_toList] at e
   omega
theorem Inv.yQ (I:Inv X pins σ H s) (h:SqL X.K H a xs) (h':SqL X.K H a ys):xs=ys:=by
 obtain ⟨its,r,⟨o,n,e,_,_,d⟩,_⟩:=I.list h
 obtain ⟨its',r',⟨o',n',e',_,_,d'⟩,_⟩:=I.list h'
 rw [e] at e'; cases e'
 rw [d] at d'
 injection d' with d1 _
 have:its=its':=by simpa using congrArg Array.toList d1
 subst this
 exact r.inj r'
theorem Inv.Be (I:Inv X pins σ H s) (h:SqT X.K H a xs) (h':SqT X.K H a ys):xs=ys:=by
 obtain ⟨its,r,⟨o,e,_,n,d⟩,_⟩:=I.tuple h
 obtain ⟨its',r',⟨o',e',_,n',d'⟩,_⟩:=I.tuple h'
 rw [e] at e'; cases e'
 rw [d] at d'
 injection d' with d1 _
 have:its=its':=by simpa using congrArg Array.toList d1
 subst this
 exact r.inj r'
end
section
variable {X:Cx} {st:Stmt} {rest:List Stmt} {t u:TS} {e:Expr} {te:TE} {pos:Pos}
noncomputable def Du:TS:=fun D σ H=>D.nx σ H
noncomputable def Jd (t u:TS):TS:=fun D σ H=>t { D with nx:=u D } σ H
theorem Fw:PSs X [] Du:=fun _ _ σ H _ I h=>wpAny_execs_nil ⟨σ,H,I,h⟩
theorem DD (h1:PS X st t) (h2:PSs X rest u):PSs X (st ::rest) (Jd t u):=by
 intro pins s σ H D I h
 refine wpAny_execs_cons (thn (h1 pins s σ H { D with nx:=u D } I h) fun f s1 q=>?_)
 cases f with
 | next=>
   obtain ⟨σ',H',I',q⟩:=q
   exact h2 pins s1 σ' H' D I' q
 |ret v=>exact q
 |brk=>exact q
 |cont=>exact q
theorem Eu (h1:PS X st t):PSs X [st] t:=by
 intro pins s σ H D I h
 refine wpAny_execs_cons (thn (h1 pins s σ H D I h) fun f s1 q=>?_)
 cases f with
 |next=>exact wpAny_execs_nil q
 |ret v=>exact q
 |brk=>exact q
 |cont=>exact q
theorem Inv.quiet {pins:List (Addr×Obj)} {σ:St} {H:Hp} {s:Shared} (I:Inv X pins σ H s):interactive X.env=false:=by simp [interactive,I.ok.kind]
noncomputable def uJ (te:TE):TS:=fun D σ H=>te σ H fun _ H1=>D.nx σ H1
theorem FH (he:PE X e te) (hs:swapsWith e none pos.line X.env=pure false:=by rfl):PS X (.Expr e pos) (uJ te):=by
 intro pins s σ H D I h
 exact wpAny_Expr_any (thn (he pins s σ H _ I h) fun v s1 ⟨x,H1,I1,r1,q1⟩=>⟨σ,H1,I1,q1⟩) I.quiet hs
noncomputable def FO (te:TE):TS:=fun D σ H=>te σ H D.rt
theorem Ho (he:PE X e te):PS X (.Return (some e) pos) (FO te):=by
 intro pins s σ H D I h
 exact wpAny_Return_some (thn (he pins s σ H _ I h) fun v s1 ⟨x,H1,I1,r1,q1⟩=>⟨x,σ,H1,I1,r1,q1⟩)
noncomputable def E0 (c:TT) (t u:TS):TS:=fun D σ H=>c σ H fun b H1=>if b=true then t D σ H1 else u D σ H1
theorem JY {c:Expr} {a b:List Stmt} {tc:TT} (hc:PT X c tc) (ha:PSs X a t) (hb:PSs X b u):PS X (.If c a b pos) (E0 tc t u):=by
 intro pins s σ H D I h
 refine wpAny_If (thn (hc pins s σ H _ I h) fun d s1 ⟨H1,I1,q1⟩=>?_)
 cases d with
 |true=>exact ha pins s1 σ H1 D I1 q1
 |false=>exact hb pins s1 σ H1 D I1 q1
end
abbrev TG:=V -> St -> Hp -> (St -> Hp -> Prop) -> Prop
abbrev TGs:=List V -> St -> Hp -> (St -> Hp -> Prop) -> Prop
noncomputable def PG (X:Cx) (target:Expr) (t:TG):Prop:=
 ∀ (pins:List (Addr×Obj)) (s:Shared) (σ:St) (H:Hp) (v:V) (u:Value) (Q:St -> Hp -> Prop),Inv X pins σ H s -> RelV v u -> t v σ H Q ->
   wpAny (model X.prog X.w) X.A (assign target X.env u) (fun _ s'=>∃ σ' H',Inv X pins σ' H' s' /\ Q σ' H') X.xe s
noncomputable def PGs (X:Cx) (ts:List Expr) (t:TGs):Prop:=
 ∀ (pins:List (Addr×Obj)) (s:Shared) (σ:St) (H:Hp) (vs:List V) (us:List Value) (Q:St -> Hp -> Prop),Inv X pins σ H s -> Vals vs us -> t vs σ H Q ->
   wpAny (model X.prog X.w) X.A (assignInOrder ((assignEach ts X.env).map (·.2)) us) (fun _ s'=>∃ σ' H',Inv X pins σ' H' s' /\ Q σ' H') X.xe s
abbrev E2:=V -> V -> V -> Hp -> (Hp -> Prop) -> Prop
noncomputable def IE (X:Cx) (t:E2):Prop:=
 ∀ (pins:List (Addr×Obj)) (s:Shared) (σ:St) (H:Hp) (o i v:V) (ov iv u:Value) (Q:Hp -> Prop),Inv X pins σ H s -> RelV o ov -> RelV i iv -> RelV v u -> t o i v H Q ->
   wpAny (model X.prog X.w) X.A (setItem ov iv u) (fun _ s'=>∃ H',Inv X pins σ H' s' /\ Q H') X.xe s
section
variable {X:Cx} {pos:Pos}
noncomputable def j0 (i:Nat):TG:=fun v σ H Q=>Q (σ.set i (some v)) H
theorem Fi {i:Nat} {x:Str} (hN:X.N.Nodup) (hi:X.N[i]?=some x) (hx:Loc X.env.scope x) (hf:X.fn x=true \/ X.env.scope.names.lookup x=some .local:=by first|exact .inl rfl|exact .inr rfl|assumption):PG X (.Name x pos) (j0 i):=by
 intro pins s σ H v u Q I r h
 exact wpAny_assign_Name (jV I hN hi hx r (fun s' I'=>⟨_,H,I',h⟩) hf)
noncomputable def HR:TGs:=fun vs σ H Q=>vs=[] /\ Q σ H
noncomputable def A4 (t:TG) (u:TGs):TGs:=fun vs σ H Q=>∃ v r,vs=v ::r /\ t v σ H fun σ' H'=>u r σ' H' Q
theorem EX:PGs X [] HR:=by
 intro pins s σ H vs us Q I r h
 obtain ⟨e,h⟩:=h
 subst e
 cases r
 exact assignInOrder_nil ⟨σ,H,I,h⟩
theorem B9 {e:Expr} {es:List Expr} {t:TG} {u:TGs} (h1:PG X e t) (h2:PGs X es u)
  (hs:(assignEach (e ::es) X.env).map (·.2)=assign e X.env ::(assignEach es X.env).map (·.2):=by rfl):PGs X (e ::es) (A4 t u):=by
 intro pins s σ H vs us Q I r h
 obtain ⟨v,vr,e1,h⟩:=h
 subst e1
 cases r with
 | cons r rr=>
   rw [hs]
   refine assignInOrder_cons (thn (h1 pins s σ H _ _ _ I r h) fun _ s1 ⟨σ1,H1,I1,q1⟩=>?_)
   exact h2 pins s1 σ1 H1 _ _ Q I1 rr q1
noncomputable def HN (K:PySem.W.Frag) (n:Nat) (t:TGs):TG:=fun v σ H Q=>∃ a xs,v=.ref a /\ SqT K H a xs /\ xs.length=n /\ t xs σ H Q
theorem IV {es:List Expr} {k:Nat} {t:TGs} {n:Nat} (hc:X.calm=true) (h:PGs X es t)
  (hn:(assignEach es X.env).length=n:=by rfl) (hst:(assignEach es X.env).findIdx? (·.1)=none:=by rfl):PG X (.Tuple es k pos) (HN X.K n t):=by
 intro pins s σ H v u Q I r hw
 obtain ⟨a,xs,e1,hq,hl,hw⟩:=hw
 subst e1
 cases r
 obtain ⟨its,rv,ht,hz⟩:=I.tuple hq
 refine assign_Tuple_tuple (I.ok.hd hc) ht (by simp [hn,<- hl,rv.length]) hst fun h' hx=>?_
 have I1:Inv X pins σ H { s with heap:=h' }:=I.kept (t':=s.toks) fun b o e=>hx b o (Nat.ne_of_lt (Heap.lt_size e)) e
 exact h pins _ σ H xs _ Q I1 (by simpa using rv) hw
noncomputable def HW (to ti:TE) (t:E2):TG:=fun v σ H Q=>to σ H fun o H1=>ti σ H1 fun i H2=>t o i v H2 fun H3=>Q σ H3
theorem Hi {o i:Expr} {to ti:TE} {t:E2} (ho:PE X o to) (hi:PE X i ti) (hs:IE X t)
  (ha:∀ v,assign (.Subscript o i pos) X.env v=(do
    let ov <- holding [v] (eval o X.env)
    let iv <- holding [v,ov] (eval i X.env)
    standAt pos
    holding [v,ov,iv] (setItem ov iv v)
    release [v,ov,iv] []):=by intro _; rfl):PG X (.Subscript o i pos) (HW to ti t):=by
 intro pins s σ H v u Q I r h
 rw [ha]
 refine wpAny_bind (wpAny_holding (thn (ho pins s σ H _ I h) fun ov s1 ⟨x,H1,I1,r1,q1⟩=>?_))
 refine wpAny_bind (wpAny_holding (thn (hi pins s1 σ H1 _ I1 q1) fun iv s2 ⟨y,H2,I2,r2,q2⟩=>?_))
 refine wpAny_bind (wpAny_standAt (wpAny_bind (wpAny_holding (thn (hs pins s2 σ H2 x y v ov iv u _ I2 r1 r2 r q2) fun _ s3 ⟨H3,I3,q3⟩=>?_))))
 exact wpAny_release ⟨σ,H3,I3,q3⟩
noncomputable def rQ (te:TE) (g:TG):TS:=fun D σ H=>te σ H fun x H1=>g x σ H1 D.nx
theorem Jc {tg e:Expr} {te:TE} {g:TG} (he:PE X e te) (hg:PG X tg g) (hs:swapsWithSole [tg] e pos.line X.env=pure false:=by rfl) (hw:swappedStores [tg] e X.env=pure none:=by rfl)
  (h1:(assignEach [tg] X.env).map (·.2)=[assign tg X.env]:=by rfl):PS X (.Assign [tg] e pos) (rQ te g):=by
 intro pins s σ H D I h
 refine wpAny_Assign_stores (thn (he pins s σ H _ I h) fun v s1 ⟨x,H1,I1,r1,q1⟩=>?_) hs hw
 rw [h1]
 exact thn (hg pins s1 σ H1 x v _ I1 r1 q1) fun _ s2 q=>q
theorem Hq {i:Nat} {x:Str} {e:Expr} {te:TE} {pos':Pos} (hN:X.N.Nodup) (hi:X.N[i]?=some x) (hx:Loc X.env.scope x) (he:PE X e te) (hs:swapsWith e (some (.Name x pos')) pos.line X.env=pure false:=by rfl) (hf:X.fn x=true \/ X.env.scope.names.lookup x=some .local:=by first|exact .inl rfl|exact .inr rfl|assumption):
  PS X (.Assign [.Name x pos'] e pos) (rQ te (j0 i)):=by
 intro pins s σ H D I h
 refine wpAny_Assign_Name (thn (he pins s σ H _ I h) fun v s1 ⟨y,H1,I1,r1,q1⟩=>?_) hs
 exact jV I1 hN hi hx r1 (fun s2 I2=>⟨_,H1,I2,q1⟩) hf
end
section
variable {X:Cx} {pos:Pos}
noncomputable def zv (c:TT) (tb:TS):TS:=fun D σ H=>∃ W:Nat -> St -> Hp -> Prop,(∃ m,W m σ H) /\ ∀ m σ H,W m σ H ->
 c σ H fun b H1=>if b=true then ∃ N:St -> Hp -> Prop,(∀ σ' H',N σ' H' -> ∃ m',m'<m /\ W m' σ' H') /\ tb { D with nx:=N,ct:=N,bk:=D.nx } σ H1 else D.nx σ H1
theorem CF {c:Expr} {body:List Stmt} {tc:TT} {tb:TS} (hp:PassesOwn (model X.prog X.w) X.A X.env X.xe) (hc:PT X c tc) (hb:PSs X body tb):PS X (.While c body [] pos) (zv tc tb):=by
 intro pins s σ H D I h
 obtain ⟨W,⟨m0,w0⟩,turn⟩:=h
 refine wpAny_While (codeAny_whileLoop (fun n s'=>∃ σ' H',Inv X pins σ' H' s' /\ W n σ' H') ?_ m0 ⟨σ,H,I,w0⟩)
 rintro n s1 ⟨σ1,H1,I1,w1⟩
 refine wpAny_passesOwn hp (thn (hc pins s1 σ1 H1 _ I1 (turn n σ1 H1 w1)) fun b s2 ⟨H2,I2,q2⟩=>?_)
 cases b with
 | true=>
   obtain ⟨N,hN,q2⟩:=q2
   rw [if_pos rfl]
   refine wpAny_passesOwn hp (thn (hb pins s2 σ1 H2 _ I2 q2) fun f s3 q3=>?_)
   cases f with
   | next=>
     obtain ⟨σ3,H3,I3,n3⟩:=q3
     obtain ⟨m',hm,w3⟩:=hN σ3 H3 n3
     exact ⟨m',hm,σ3,H3,I3,w3⟩
   | cont=>
     obtain ⟨σ3,H3,I3,n3⟩:=q3
     obtain ⟨m',hm,w3⟩:=hN σ3 H3 n3
     exact ⟨m',hm,σ3,H3,I3,w3⟩
   |brk=>exact q3
   |ret v=>exact q3
 | false=>
   rw [if_neg Bool.false_ne_true]
   exact wpAny_execs_nil ⟨σ1,H2,I2,q2⟩
end
structure It where
 go:Nat -> Hp -> Prop
 yld:Nat -> Hp -> V -> Hp -> Prop
 stop:Nat -> Hp -> Prop
noncomputable def mH (X:Cx) (pins:List (Addr×Obj)) (H:Hp) (b:Addr):Prop:=
 H b=none /\ b≠X.env.locals /\ b∉X.fs /\ (b∈X.ex \/ X.s₀.heap.objs.size <= b) /\ (∀ x c,X.env.cells.lookup x=some c -> c≠b) /\ ∀ p∈X.pn++pins,p.1≠b
theorem Inv.zy {X:Cx} {pins:List (Addr×Obj)} {σ:St} {H H':Hp} {s:Shared} {b:Addr} (I:Inv X pins σ H s) (hb:s.heap.objs.size <= b) (hn:H' b=none):mH X pins H' b:=by
 refine ⟨hn,Nat.ne_of_gt (Nat.lt_of_lt_of_le I.lt hb),I.K4 hb,.inr (Nat.le_trans I.sz hb),fun x c e z=>?_,fun p hp z=>?_⟩
 . obtain ⟨v,q⟩:=I.cell x c e
   exact absurd (Nat.lt_of_lt_of_le q.lt (by rw [z]; exact hb)) (Nat.lt_irrefl _)
 . exact absurd (Nat.lt_of_lt_of_le (Heap.lt_size (I.pin p hp).1) (by rw [z]; exact hb)) (Nat.lt_irrefl _)
structure Turn (P:Program) (w:World) (K:PySem.W.Frag) (tg:Expr) (J:It) (fp:List Addr) (it:Addr) (tn:Nat -> Heap -> Prop):Prop where
 mem:it∈fp
 obj:∀ i h,tn i h -> ∀ b∈fp,∃ o,h.get? b=some o /\ ∀ v,o.data≠.cell v
 keep:∀ i h h',tn i h -> (∀ b∈fp,∀ o,h.get? b=some o -> h'.get? b=some o) -> tn i h'
 item:∀ (X:Cx),X.prog=P -> X.w=w -> X.K=K -> X.calm=true -> ∀ (i:Nat) (pins:List (Addr×Obj)) (s:Shared) (σ:St) (H:Hp) (E:Value -> Shared -> Prop),Inv X pins σ H s -> (∀ b∈fp,mH X pins H b) -> tn i s.heap -> J.go i H ->
  wpAny (model P w) X.A (pyNext (.ref it)) (fun r s1=>∃ u,r=some u /\
   wpAny (model P w) X.A (letOwnedTupleGo tg (.ref it) u) (fun _ s2=>∃ x H',Inv X pins σ H' s2 /\ RelV x u /\ J.yld i H x H' /\ tn (i+1) s2.heap /\ ∀ b∈fp,H' b=none) E s1) E s
 done:∀ (X:Cx),X.prog=P -> X.w=w -> X.K=K -> X.calm=true -> ∀ (i:Nat) (pins:List (Addr×Obj)) (s:Shared) (σ:St) (H:Hp) (E:Value -> Shared -> Prop),Inv X pins σ H s -> (∀ b∈fp,mH X pins H b) -> tn i s.heap -> J.stop i H ->
  wpAny (model P w) X.A (pyNext (.ref it)) (fun r s1=>r=none /\ Inv X pins σ H s1) E s
 self:∀ (A:Around) (i:Nat) (s:Shared) (Q:Value -> Shared -> Prop) (E:Value -> Shared -> Prop),tn i s.heap -> Q (.ref it) s -> wpAny (model P w) A (pyIter (.ref it)) Q E s
abbrev TI:=St -> Hp -> (It -> Hp -> Prop) -> Prop
noncomputable def PIE (X:Cx) (pins:List (Addr×Obj)) (σ:St) (tg:Expr) (R:It -> Hp -> Prop) (itv:Value) (s2:Shared):Prop:=
 ∃ (it:Addr) (fp:List Addr) (tn:Nat -> Heap -> Prop) (J:It) (H':Hp),itv=.ref it /\ Inv X pins σ H' s2 /\ Turn X.prog X.w X.K tg J fp it tn /\ tn 0 s2.heap /\ (∀ b∈fp,mH X pins H' b) /\ R J H'
noncomputable def PI (X:Cx) (tg iter:Expr) (wi:TI):Prop:=
 ∀ (pins:List (Addr×Obj)) (s:Shared) (σ:St) (H:Hp) (R:It -> Hp -> Prop),Inv X pins σ H s -> wi σ H R ->
   wpAny (model X.prog X.w) X.A (eval iter X.env) (fun v s1=>wpAny (model X.prog X.w) X.A (pyIter v) (PIE X pins σ tg R) X.xe s1) X.xe s
theorem AN {M:Model} {A:Around} {E:Value -> Shared -> Prop} {s:Shared} {tg:Expr} {it:Addr} {u:Value} {o:Obj} {n:String} {vs:Array Value} {Q:Unit -> Shared -> Prop} (ho:s.heap.get? it=some o) (hc:o.cls=.type n) (hd:o.data=.fields vs)
  (hn:["enumerate","zip","dict_itemiterator","dict_reverseitemiterator","odict_iterator","itertools.zip_longest","itertools.pairwise"].contains n=false) (hQ:Q () s):wpAny M A (letOwnedTupleGo tg (.ref it) u) Q E s:=by
 unfold letOwnedTupleGo
 cases tg<;>first
  |exact wpAny_pure hQ
  | (cases u <;> first
      |exact wpAny_pure hQ
      | (refine wpAny_bind (wpAny_load ho ?_)
         rw [hc,hd]
         show wpAny M A (if (["enumerate","zip","dict_itemiterator","dict_reverseitemiterator","odict_iterator","itertools.zip_longest","itertools.pairwise"].contains n&&vs[0]?==some (rawInt _))=true then _ else _) Q E s
         rw [if_neg (by intro h; rw [hn,Bool.false_and] at h; cases h)]
         exact wpAny_pure hQ))
noncomputable def Itl (K:PySem.W.Frag) (a:Addr):It:=
 ⟨fun i H=>∃ xs x,SqL K H a xs /\ xs[i]?=some x,fun i H x H'=>H'=H /\ ∀ xs,SqL K H a xs -> xs[i]?=some x,fun i H=>∃ xs,SqL K H a xs /\ xs.length <= i⟩
noncomputable def Itt (K:PySem.W.Frag) (a:Addr):It:=
 ⟨fun i H=>∃ xs x,SqT K H a xs /\ xs[i]?=some x,fun i H x H'=>H'=H /\ ∀ xs,SqT K H a xs -> xs[i]?=some x,fun i H=>∃ xs,SqT K H a xs /\ xs.length <= i⟩
noncomputable def Itr (lo:Int) (n:Nat):It:=⟨fun i _=>i<n,fun i H x H'=>H'=H /\ x=.int (lo+i),fun i _=>n <= i⟩
theorem BI {P:Program} {w:World} {K:PySem.W.Frag} {tg:Expr} (a it:Addr):Turn P w K tg (Itl K a) [it] it (fun i h=>h.IsListIter it a i) where
 mem:=by simp
 obj:=fun i h st b hb=>by
  have e:b=it:=by simpa using hb
  subst e
  obtain ⟨o,e,c,d⟩:=st
  exact ⟨o,e,fun v z=>by rw [d] at z; cases z⟩
 keep:=fun i h h' st k=>st.at fun o e=>k it (by simp) o e
 item:=by
  intro X hP hw hK hc i pins s σ H E I hf st hg
  subst hP hw hK
  obtain ⟨xs,x,hq,hx⟩:=hg
  obtain ⟨its,rv,p,hz⟩:=I.list hq
  obtain ⟨u,hu,ru⟩:=rv.get hx
  obtain ⟨f0,f1,f2,f3,f4,f5⟩:=hf it (by simp)
  refine wpAny_pyNext_list_item st p.isList (x:=u) (by simpa using hu) fun h' st' sb=>?_
  have I1:Inv X pins σ H { s with heap:=h' }:=I.turned (t':=s.toks) (fun b o hb e=>(sb.2 b hb).trans e) f0 f1 f3 f4 f5
  obtain ⟨o,e,c,d⟩:=id st'
  exact ⟨u,rfl,AN (s:={ s with heap:=h' }) e c d (by decide) ⟨x,H,I1,ru,⟨rfl,fun ys hy=>by rw [I.yQ hy hq]; exact hx⟩,st',fun b hb=>(hf b hb).1⟩⟩
 done:=by
  intro X hP hw hK hc i pins s σ H E I hf st hg
  subst hP hw hK
  obtain ⟨xs,hq,hx⟩:=hg
  obtain ⟨its,rv,p,hz⟩:=I.list hq
  obtain ⟨f0,f1,f2,f3,f4,f5⟩:=hf it (by simp)
  have hl:=rv.length
  exact wpAny_pyNext_list_end (I.ok.hd hc) st p.isList (by simp; omega) fun h' eb=>⟨rfl,I.turned (t':=s.toks) (fun b o hb e=>eb b o hb e) f0 f1 f3 f4 f5⟩
 self:=fun _ _ _ _ _ st h=>wpAny_pyIter_listiter st h
theorem zK {P:Program} {w:World} {K:PySem.W.Frag} {tg:Expr} (a it:Addr):Turn P w K tg (Itt K a) [it] it (fun i h=>h.IsTupleIter it a i) where
 mem:=by simp
 obj:=fun i h st b hb=>by
  have e:b=it:=by simpa using hb
  subst e
  obtain ⟨o,e,c,d⟩:=st
  exact ⟨o,e,fun v z=>by rw [d] at z; cases z⟩
 keep:=fun i h h' st k=>st.at fun o e=>k it (by simp) o e
 item:=by
  intro X hP hw hK hc i pins s σ H E I hf st hg
  subst hP hw hK
  obtain ⟨xs,x,hq,hx⟩:=hg
  obtain ⟨its,rv,p,hz⟩:=I.tuple hq
  obtain ⟨u,hu,ru⟩:=rv.get hx
  obtain ⟨f0,f1,f2,f3,f4,f5⟩:=hf it (by simp)
  refine wpAny_pyNext_tuple_item st (show s.heap.IsTuple a its.toArray from p) (x:=u) (by simpa using hu) fun h' st' sb=>?_
  have I1:Inv X pins σ H { s with heap:=h' }:=I.turned (t':=s.toks) (fun b o hb e=>(sb.2 b hb).trans e) f0 f1 f3 f4 f5
  obtain ⟨o,e,c,d⟩:=id st'
  exact ⟨u,rfl,AN (s:={ s with heap:=h' }) e c d (by decide) ⟨x,H,I1,ru,⟨rfl,fun ys hy=>by rw [I.Be hy hq]; exact hx⟩,st',fun b hb=>(hf b hb).1⟩⟩
 done:=by
  intro X hP hw hK hc i pins s σ H E I hf st hg
  subst hP hw hK
  obtain ⟨xs,hq,hx⟩:=hg
  obtain ⟨its,rv,p,hz⟩:=I.tuple hq
  obtain ⟨f0,f1,f2,f3,f4,f5⟩:=hf it (by simp)
  have hl:=rv.length
  exact wpAny_pyNext_tuple_end (I.ok.hd hc) st (show s.heap.IsTuple a its.toArray from p) (by simp; omega) fun h' eb=>⟨rfl,I.turned (t':=s.toks) (fun b o hb e=>eb b o hb e) f0 f1 f3 f4 f5⟩
 self:=fun _ _ _ _ _ st h=>wpAny_pyIter_tupleiter st h
theorem zH {P:Program} {w:World} {K:PySem.W.Frag} {tg:Expr} (it:Addr) (lo:Int) (n:Nat):Turn P w K tg (Itr lo n) [it] it (fun i h=>IsRangeIter h it (lo+(i:Nat)*1) ((n:Int) - (i:Nat)) 1) where
 mem:=by simp
 obj:=fun i h st b hb=>by
  have e:b=it:=by simpa using hb
  subst e
  exact ⟨_,st,fun v z=>by
   have z':Data.fields _=Data.cell v:=z
   cases z'⟩
 keep:=fun i h h' st k=>k it (by simp) _ st
 item:=by
  intro X hP hw hK hc i pins s σ H E I hf st hg
  subst hP hw hK
  obtain ⟨f0,f1,f2,f3,f4,f5⟩:=hf it (by simp)
  have W:=Walks.range (prog:=X.prog) (w:=X.w) (I.ok.hd hc) it lo 1 n
  refine W.item i s _ _ hg st fun v h' tk hv st' kk=>?_
  obtain ⟨t,rfl⟩:=hv
  have I1:Inv X pins σ H { s with heap:=h',toks:=tk }:=I.turned (fun b o hb e=>kk b o (by simpa using hb) e) f0 f1 f3 f4 f5
  refine ⟨_,rfl,AN (s:={ s with heap:=h',toks:=tk }) (n:="range_iterator") st' rfl rfl (by decide) ⟨.int (lo+i),H,I1,⟨t,?_⟩,⟨rfl,rfl⟩,st',fun b hb=>(hf b hb).1⟩⟩
  rw [Int.mul_one]
 done:=by
  intro X hP hw hK hc i pins s σ H E I hf st hg
  subst hP hw hK
  obtain ⟨f0,f1,f2,f3,f4,f5⟩:=hf it (by simp)
  exact wpAny_pyNext_range_end (I.ok.hd hc) st (by have:n <= i:=hg; omega) fun h' eb=>⟨rfl,I.turned (t':=s.toks) (fun b o hb e=>eb b o hb e) f0 f1 f3 f4 f5⟩
 self:=fun _ _ _ _ _ st h=>wpAny_pyIter_rangeiter st h
section
variable {X:Cx} {tg:Expr}
noncomputable def xS (K:PySem.W.Frag) (tl:TE):TI:=fun σ H R=>tl σ H fun x H1=>∃ a,x=.ref a /\ (∃ xs,SqL K H1 a xs) /\ R (Itl K a) H1
noncomputable def HE (K:PySem.W.Frag) (tl:TE):TI:=fun σ H R=>tl σ H fun x H1=>∃ a,x=.ref a /\ (∃ xs,SqT K H1 a xs) /\ R (Itt K a) H1
theorem FL {l:Expr} {tl:TE} (hl:PE X l tl):PI X tg l (xS X.K tl):=by
 intro pins s σ H R I h
 refine thn (hl pins s σ H _ I h) fun v s1 ⟨x,H1,I1,r1,q1⟩=>?_
 obtain ⟨a,e,⟨xs,hq⟩,q⟩:=q1
 subst e
 cases r1
 obtain ⟨its,rv,p,hz⟩:=I1.list hq
 refine wpAny_pyIter_list p.isList ?_
 refine ⟨s1.heap.objs.size,[s1.heap.objs.size],_,_,H1,rfl,I1.kept (t':=s1.toks) fun b o e=>Heap.get?_push_of_some _ e,BI a _,⟨_,Heap.get?_push_size _ rfl,rfl,rfl⟩,fun b hb=>?_,q⟩
 have e:b=s1.heap.objs.size:=by simpa using hb
 subst e
 exact I1.zy (Nat.le_refl _) (I1.hok.fresh (Nat.le_refl _))
theorem G9 {l:Expr} {tl:TE} (hl:PE X l tl):PI X tg l (HE X.K tl):=by
 intro pins s σ H R I h
 refine thn (hl pins s σ H _ I h) fun v s1 ⟨x,H1,I1,r1,q1⟩=>?_
 obtain ⟨a,e,⟨xs,hq⟩,q⟩:=q1
 subst e
 cases r1
 obtain ⟨its,rv,p,hz⟩:=I1.tuple hq
 refine wpAny_pyIter_tuple (show s1.heap.IsTuple a its.toArray from p) ?_
 refine ⟨s1.heap.objs.size,[s1.heap.objs.size],_,_,H1,rfl,I1.kept (t':=s1.toks) fun b o e=>Heap.get?_push_of_some _ e,zK a _,⟨_,Heap.get?_push_size _ rfl,rfl,rfl⟩,fun b hb=>?_,q⟩
 have e:b=s1.heap.objs.size:=by simpa using hb
 subst e
 exact I1.zy (Nat.le_refl _) (I1.hok.fresh (Nat.le_refl _))
theorem DM {pins:List (Addr×Obj)} {σ:St} {H:Hp} {s:Shared} {R:It -> Hp -> Prop} {E:Value -> Shared -> Prop} {lo hi:Int} {t u v:Tok} {tk:Nat} (I:Inv X pins σ H s) (h1:-(2 ^ 62) <= lo) (h2:lo<2 ^ 62) (h3:-(2 ^ 62) <= hi) (h4:hi<2 ^ 62)
  (q:R (Itr lo (hi - lo).toNat) H):wpAny (model X.prog X.w) X.A (pyIter (.ref s.heap.objs.size)) (PIE X pins σ tg R) E { s with heap:=s.heap.push { cls:=.type "range",data:=.fields #[.int lo t,.int hi u,.int 1 v] },toks:=tk }:=by
 refine wpAny_pyIter_range (IsRange.new ..) (small_one h1 h2 h3 h4) ?_
 have I1:Inv X pins σ H { s with heap:=s.heap.push { cls:=.type "range",data:=.fields #[.int lo t,.int hi u,.int 1 v] },toks:=tk }:=I.kept fun b o e=>Heap.get?_push_of_some _ e
 refine ⟨(s.heap.push { cls:=.type "range",data:=.fields #[.int lo t,.int hi u,.int 1 v] }).objs.size,[(s.heap.push { cls:=.type "range",data:=.fields #[.int lo t,.int hi u,.int 1 v] }).objs.size],_,_,H,rfl,
  I1.kept (t':=tk) fun b o e=>Heap.get?_push_of_some _ e,zH _ lo (hi - lo).toNat,?_,fun b hb=>?_,q⟩
 . have e1:lo+((0:Nat):Int)*1=lo:=by simp
   have e2:(((hi - lo).toNat:Nat):Int) - ((0:Nat):Int)=Builtin.Range.rangeSize lo hi 1:=by rw [rangeSize_one]; split<;>omega
   show IsRangeIter _ _ (lo+((0:Nat):Int)*1) ((((hi - lo).toNat:Nat):Int) - ((0:Nat):Int)) 1
   rw [e1,e2]
   exact Heap.get?_push_size _ rfl
 . have e:b=(s.heap.push { cls:=.type "range",data:=.fields #[.int lo t,.int hi u,.int 1 v] }).objs.size:=by simpa using hb
   subst e
   exact I1.zy (Nat.le_refl _) (I1.hok.fresh (Nat.le_refl _))
noncomputable def zV (ta:TA):TI:=fun σ H R=>ta σ H fun vs H1=>∃ j:Int,vs=[.int j] /\ -(2 ^ 62) <= j /\ j<2 ^ 62 /\ R (Itr 0 j.toNat) H1
theorem Bm {a:Expr} {ta:TA} {p pos:Pos} (hg:Gl X "range") (hm:X.mg "range" = none) (ha:PA X [a] ta) (hs:starEach [a] X.env=[(false,eval a X.env)]:=by rfl):PI X tg (.Call (.Name "range" p) [a] [] pos) (zV ta):=by
 intro pins s σ H R I h
 refine Call_ (uX I hg hm boot_range (PyProof.Rows.callWith_type1 (thn (ha pos pins s σ H _ I h) fun us s1 ⟨vs,H1,I1,r1,q1⟩=>?_) hs rfl))
 obtain ⟨j,e,q1,q2,q⟩:=q1
 subst e
 cases r1 with
 | cons r rr=>
   cases rr
   obtain ⟨t,rfl⟩:=r
   exact call_range_1 (DM I1 (by omega) (by omega) q1 q2 (by simpa using q))
noncomputable def D5 (wi:TI) (g:TG) (tb:TS):TS:=fun D σ H=>wi σ H fun J H1=>∃ W:Nat -> Nat -> St -> Hp -> Prop,(∃ m,W 0 m σ H1) /\ ∀ i m σ H,W i m σ H ->
 (J.stop i H /\ D.nx σ H) \/ (J.go i H /\ ∃ N:St -> Hp -> Prop,(∀ σ' H',N σ' H' -> ∃ m',m'<m /\ W (i+1) m' σ' H') /\ ∀ x H',J.yld i H x H' -> g x σ H' fun σ2 H2=>tb { D with nx:=N,ct:=N,bk:=D.nx } σ2 H2)
noncomputable def wM (fp:List Addr) (h:Heap):List (Addr×Obj):=fp.filterMap fun b=>(h.get? b).map fun o=>(b,o)
theorem cL {fp:List Addr} {h:Heap} {b:Addr} {o:Obj} (hb:b∈fp) (e:h.get? b=some o):(b,o)∈wM fp h:=List.mem_filterMap.mpr ⟨b,hb,by rw [e]; rfl⟩
theorem Bp {fp:List Addr} {h:Heap} {p:Addr×Obj} (hp:p∈wM fp h):p.1∈fp /\ h.get? p.1=some p.2:=by
 obtain ⟨b,hb,e⟩:=List.mem_filterMap.mp hp
 cases q:h.get? b with
 |none=>rw [q] at e; cases e
 | some o=>
   rw [q] at e
   have e':(b,o)=p:=Option.some.inj e
   subst e'
   exact ⟨hb,q⟩
theorem Inv.pinned {pins:List (Addr×Obj)} {σ:St} {H:Hp} {s:Shared} {fp:List Addr} (I:Inv X pins σ H s) (hf:∀ b∈fp,mH X pins H b) (ho:∀ b∈fp,∃ o,s.heap.get? b=some o /\ ∀ v,o.data≠.cell v):Inv X (pins++wM fp s.heap) σ H s:=
 I.Ao fun p hp=>(List.mem_append.mp hp).elim (fun z=>I.pin p (List.mem_append_right _ z)) fun z=>by
  obtain ⟨hb,e⟩:=Bp z
  obtain ⟨f0,f1,f2,_⟩:=hf p.1 hb
  obtain ⟨o,e',d⟩:=ho p.1 hb
  rw [e] at e'; cases e'
  exact ⟨e,f0,f1,f2,d⟩
theorem Inv.gC {pins pl:List (Addr×Obj)} {σ:St} {H:Hp} {s:Shared} (I:Inv X (pins++pl) σ H s):Inv X pins σ H s:=I.Ao fun p hp=>I.pin p (List.mem_append_right _ (List.mem_append_left _ hp))
theorem Hk {iter:Expr} {body:List Stmt} {wi:TI} {g:TG} {tb:TS} {pos:Pos} (hp:PassesOwn (model X.prog X.w) X.A X.env X.xe) (hc:X.calm=true) (hi:PI X tg iter wi) (hg:PG X tg g) (hb:PSs X body tb)
  (hs:∀ x,foldedSetIterable iter X.env x=pure x:=by intro _; rfl):PS X (.For tg iter body [] pos) (D5 wi g tb):=by
 intro pins s σ H D I h
 refine wpAny_For (thn (hi pins s σ H _ I h) fun v s1 h1=>thn h1 fun itv s2 h2=>?_) hs
 obtain ⟨it,fp,tn,J,H2,e,I2,T,st2,f2,W,⟨m0,w0⟩,turn⟩:=h2
 subst e
 have stat:∀ {H':Hp},(∀ b∈fp,H' b=none) -> ∀ b∈fp,mH X pins H' b:=fun hn b hb=>⟨hn b hb,(f2 b hb).2⟩
 refine codeAny_forLoop_any (fun n s'=>∃ i σ' H',Inv X pins σ' H' s' /\ tn i s'.heap /\ (∀ b∈fp,H' b=none) /\ W i n σ' H') ?_ m0 ⟨0,σ,H2,I2,st2,fun b hb=>(f2 b hb).1,w0⟩
 rintro n s3 ⟨i,σ3,H3,I3,st3,fr3,w3⟩
 rcases turn i n σ3 H3 w3 with ⟨stop,qn⟩|⟨go,N,hN,step⟩
 . refine wpAny_passesOwn hp (thn (T.done X rfl rfl rfl hc i pins s3 σ3 H3 X.xe I3 (stat fr3) st3 stop) fun r s4 ⟨hr,I4⟩=>?_)
   subst hr
   exact wpAny_execs_nil ⟨σ3,H3,I4,qn⟩
 . refine wpAny_passesOwn hp (thn (T.item X rfl rfl rfl hc i pins s3 σ3 H3 X.xe I3 (stat fr3) st3 go) fun r s4 ⟨u,hr,h4⟩=>?_)
   subst hr
   refine wpAny_passesOwn hp (thn h4 fun _ s5 ⟨x,H5,I5,r5,y5,st5,fr5⟩=>?_)
   have I5':=I5.pinned (stat fr5) (T.obj _ _ st5)
   refine wpAny_passesOwn hp (thn (hg _ s5 σ3 H5 x u _ I5' r5 (step x H5 y5)) fun _ s6 ⟨σ6,H6,I6,q6⟩=>?_)
   refine wpAny_passesOwn hp (thn (hb _ s6 σ6 H6 _ I6 q6) fun f s7 q7=>?_)
   have again:∀ {σ7:St} {H7:Hp},Inv X (pins++wM fp s5.heap) σ7 H7 s7 -> N σ7 H7 -> ∃ m,m<n /\ ∃ i σ' H',Inv X pins σ' H' s7 /\ tn i s7.heap /\ (∀ b∈fp,H' b=none) /\ W i m σ' H':=fun {σ7 H7} I7 n7=>by
    obtain ⟨m',hm,w7⟩:=hN σ7 H7 n7
    refine ⟨m',hm,i+1,σ7,H7,I7.gC,T.keep _ _ _ st5 fun b hb o e=>(I7.pin (b,o) (List.mem_append_right _ (List.mem_append_right _ (cL hb e)))).1,fun b hb=>?_,w7⟩
    obtain ⟨o,e,d⟩:=T.obj _ _ st5 b hb
    exact (I7.pin (b,o) (List.mem_append_right _ (List.mem_append_right _ (cL hb e)))).2.1
   cases f with
   |next=>obtain ⟨σ7,H7,I7,n7⟩:=q7; exact again I7 n7
   |cont=>obtain ⟨σ7,H7,I7,n7⟩:=q7; exact again I7 n7
   |brk=>obtain ⟨σ7,H7,I7,q7⟩:=q7; exact ⟨σ7,H7,I7.gC,q7⟩
   |ret v=>obtain ⟨x7,σ7,H7,I7,r7,q7⟩:=q7; exact ⟨x7,σ7,H7,I7.gC,r7,q7⟩
end
theorem Dd {K:PySem.W.Frag} {a:Addr} {xs:List V} {g:TG} {tb:TS} {D:Ends} {σ:St} {H:Hp} (Pv:Nat -> St -> Hp -> Prop) (h0:Pv 0 σ H) (hl:∀ i σ H,i <= xs.length -> Pv i σ H -> SqL K H a xs)
  (hs:∀ i x σ H,xs[i]?=some x -> Pv i σ H -> g x σ H fun σ2 H2=>tb { D with nx:=Pv (i+1),ct:=Pv (i+1),bk:=D.nx } σ2 H2) (hd:∀ σ H,Pv xs.length σ H -> D.nx σ H):
  ∃ W:Nat -> Nat -> St -> Hp -> Prop,(∃ m,W 0 m σ H) /\ ∀ i m σ H,W i m σ H ->
    ((Itl K a).stop i H /\ D.nx σ H) \/ ((Itl K a).go i H /\ ∃ N:St -> Hp -> Prop,(∀ σ' H',N σ' H' -> ∃ m',m'<m /\ W (i+1) m' σ' H') /\ ∀ x H',(Itl K a).yld i H x H' -> g x σ H' fun σ2 H2=>tb { D with nx:=N,ct:=N,bk:=D.nx } σ2 H2):=by
 refine ⟨fun i m σ H=>m=xs.length - i /\ i <= xs.length /\ Pv i σ H,⟨xs.length,by simp,Nat.zero_le _,h0⟩,?_⟩
 rintro i m σ H ⟨rfl,hi,p⟩
 have q:=hl i σ H hi p
 by_cases hlt:i<xs.length
 . refine .inr ⟨⟨xs,xs[i],q,by simp [hlt]⟩,Pv (i+1),fun σ' H' p'=>⟨xs.length - (i+1),by omega,rfl,hlt,p'⟩,fun x H' y=>?_⟩
   obtain ⟨e,y⟩:=y
   subst e
   exact hs i x σ _ (y xs q) p
 . have e:i=xs.length:=by omega
   subst e
   exact .inl ⟨⟨xs,q,Nat.le_refl _⟩,hd σ H p⟩
theorem Bq {lo:Int} {n:Nat} {g:TG} {tb:TS} {D:Ends} {σ:St} {H:Hp} (Pv:Nat -> St -> Hp -> Prop) (h0:Pv 0 σ H)
  (hs:∀ i σ H,i<n -> Pv i σ H -> g (.int (lo+i)) σ H fun σ2 H2=>tb { D with nx:=Pv (i+1),ct:=Pv (i+1),bk:=D.nx } σ2 H2) (hd:∀ σ H,Pv n σ H -> D.nx σ H):
  ∃ W:Nat -> Nat -> St -> Hp -> Prop,(∃ m,W 0 m σ H) /\ ∀ i m σ H,W i m σ H ->
    ((Itr lo n).stop i H /\ D.nx σ H) \/ ((Itr lo n).go i H /\ ∃ N:St -> Hp -> Prop,(∀ σ' H',N σ' H' -> ∃ m',m'<m /\ W (i+1) m' σ' H') /\ ∀ x H',(Itr lo n).yld i H x H' -> g x σ H' fun σ2 H2=>tb { D with nx:=N,ct:=N,bk:=D.nx } σ2 H2):=by
 refine ⟨fun i m σ H=>m=n - i /\ i <= n /\ Pv i σ H,⟨n,by simp,Nat.zero_le _,h0⟩,?_⟩
 rintro i m σ H ⟨rfl,hi,p⟩
 by_cases hlt:i<n
 . refine .inr ⟨hlt,Pv (i+1),fun σ' H' p'=>⟨n - (i+1),by omega,rfl,hlt,p'⟩,fun x H' y=>?_⟩
   obtain ⟨e,y⟩:=y
   subst e y
   exact hs i σ _ hlt p
 . have e:i=n:=by omega
   subst e
   exact .inl ⟨Nat.le_refl _,hd σ H p⟩
abbrev R2:=V -> V -> Hp -> VK -> Prop
noncomputable def OpR (X:Cx) (f:Value -> Value -> Sem Value) (r:R2):Prop:=
 ∀ (pins:List (Addr×Obj)) (s:Shared) (σ:St) (H:Hp) (x y:V) (v u:Value) (Q:VK),Inv X pins σ H s -> RelV x v -> RelV y u -> r x y H Q ->
   wpAny (model X.prog X.w) X.A (f v u) (EP X pins σ Q) X.xe s
noncomputable def UnR (X:Cx) (f:Value -> Sem Value) (r:V -> Hp -> VK -> Prop):Prop:=
 ∀ (pins:List (Addr×Obj)) (s:Shared) (σ:St) (H:Hp) (x:V) (v:Value) (Q:VK),Inv X pins σ H s -> RelV x v -> r x H Q ->
   wpAny (model X.prog X.w) X.A (f v) (EP X pins σ Q) X.xe s
noncomputable def nU (X:Cx) (f:Value) (r:List V -> Hp -> VK -> Prop):Prop:=
 ∀ (pins:List (Addr×Obj)) (s:Shared) (σ:St) (H:Hp) (xs:List V) (us:List Value) (Q:VK),Inv X pins σ H s -> Vals xs us -> r xs H Q ->
   wpAny (model X.prog X.w) X.A (call f us) (EP X pins σ Q) X.xe s
noncomputable def K0 (X:Cx) (r:V -> Hp -> (Bool -> Hp -> Prop) -> Prop):Prop:=
 ∀ (pins:List (Addr×Obj)) (s:Shared) (σ:St) (H:Hp) (x:V) (v:Value) (Q:Bool -> Hp -> Prop),Inv X pins σ H s -> RelV x v -> r x H Q ->
   wpAny (model X.prog X.w) X.A (truthy v) (TP X pins σ Q) X.xe s
noncomputable def tOp (r:R2) (ta tb:TE):TE:=fun σ H Q=>ta σ H fun x H1=>tb σ H1 fun y H2=>r x y H2 Q
noncomputable def tUn (r:V -> Hp -> VK -> Prop) (ta:TE):TE:=fun σ H Q=>ta σ H fun x H1=>r x H1 Q
noncomputable def rI (C:Int -> Int -> Prop) (g:Int -> Int -> V):R2:=fun x y H Q=>∃ i j,x=.int i /\ y=.int j /\ C i j /\ Q (g i j) H
noncomputable def rI0 (g:Int -> Int -> V):R2:=fun x y H Q=>∃ i j,x=.int i /\ y=.int j /\ Q (g i j) H
noncomputable def rU (g:Int -> V):V -> Hp -> VK -> Prop:=fun x H Q=>∃ i,x=.int i /\ Q (g i) H
section
variable {X:Cx} {a b c:Expr} {ta tb tc:TE} {pos:Pos}
theorem Ia (ha:PE X a ta) (hb:PE X b tb) {pins:List (Addr×Obj)} {s:Shared} {σ:St} {H:Hp} {R:V -> V -> Hp -> Prop} (I:Inv X pins σ H s)
  (h:ta σ H fun x H1=>tb σ H1 fun y H2=>R x y H2) {Q:Value -> Shared -> Prop} {f:Value -> Value -> Sem Value}
  (hf:∀ v u s2 x y H2,Inv X pins σ H2 s2 -> RelV x v -> RelV y u -> R x y H2 -> wpAny (model X.prog X.w) X.A (f v u) Q X.xe s2):
  wpAny (model X.prog X.w) X.A (eval a X.env) (fun v s₁=>wpAny (model X.prog X.w) X.A (eval b X.env) (fun u s₂=>wpAny (model X.prog X.w) X.A (f v u) Q X.xe s₂) X.xe s₁) X.xe s:=by
 refine thn (ha pins s σ H _ I h) fun v s1 ⟨x,H1,I1,r1,q1⟩=>?_
 refine thn (hb pins s1 σ H1 _ I1 q1) fun u s2 ⟨y,H2,I2,r2,q2⟩=>?_
 exact hf v u s2 x y H2 I2 r1 r2 q2
theorem Jz {op:Operator} {r:R2} (ho:OpR X (binaryOp op) r) (ha:PE X a ta) (hb:PE X b tb):PE X (.BinOp a op b pos) (tOp r ta tb):=by
 intro pins s σ H Q I h
 exact wpAny_BinOp (Ia ha hb I h fun v u s2 x y H2 I2 rx ry q=>ho pins s2 σ H2 x y v u Q I2 rx ry q)
theorem Km {op:UnaryOp} {r:V -> Hp -> VK -> Prop} (ho:UnR X (unaryOp op) r) (ha:PE X a ta):PE X (.UnaryOp op a pos) (tUn r ta):=by
 intro pins s σ H Q I h
 exact UnaryOp_ (thn (ha pins s σ H _ I h) fun v s1 ⟨x,H1,I1,r1,q1⟩=>ho pins s1 σ H1 x v Q I1 r1 q1)
theorem opI {f:Value -> Value -> Sem Value} {C:Int -> Int -> Prop} {g:Int -> Int -> Int}
  (rule:∀ (i j:Int) (t u:Tok) (s:Shared) (Q:Value -> Shared -> Prop) (E:Value -> Shared -> Prop),C i j -> Q (.int (g i j) s.toks) { s with toks:=s.toks+1 } -> wpAny (model X.prog X.w) X.A (f (.int i t) (.int j u)) Q E s):
  OpR X f (rI C fun i j=>.int (g i j)):=by
 intro pins s σ H x y v u Q I rx ry h
 obtain ⟨i,j,rfl,rfl,hc,q⟩:=h
 obtain ⟨t,rfl⟩:=rx
 obtain ⟨t',rfl⟩:=ry
 exact rule i j t t' s _ _ hc ⟨.int (g i j),H,I.tok _,⟨_,rfl⟩,q⟩
theorem JF {f:Value -> Value -> Sem Value} {g:Int -> Int -> Int}
  (rule:∀ (i j:Int) (t u:Tok) (s:Shared) (Q:Value -> Shared -> Prop) (E:Value -> Shared -> Prop),Q (.int (g i j) s.toks) { s with toks:=s.toks+1 } -> wpAny (model X.prog X.w) X.A (f (.int i t) (.int j u)) Q E s):
  OpR X f (rI0 fun i j=>.int (g i j)):=by
 intro pins s σ H x y v u Q I rx ry h
 obtain ⟨i,j,rfl,rfl,q⟩:=h
 obtain ⟨t,rfl⟩:=rx
 obtain ⟨t',rfl⟩:=ry
 exact rule i j t t' s _ _ ⟨.int (g i j),H,I.tok _,⟨_,rfl⟩,q⟩
theorem EZ {f:Value -> Value -> Sem Value} {g:Int -> Int -> Bool}
  (rule:∀ (i j:Int) (t u:Tok) (s:Shared) (Q:Value -> Shared -> Prop) (E:Value -> Shared -> Prop),Q (.bool (g i j)) s -> wpAny (model X.prog X.w) X.A (f (.int i t) (.int j u)) Q E s):
  OpR X f (rI0 fun i j=>.bl (g i j)):=by
 intro pins s σ H x y v u Q I rx ry h
 obtain ⟨i,j,rfl,rfl,q⟩:=h
 obtain ⟨t,rfl⟩:=rx
 obtain ⟨t',rfl⟩:=ry
 exact rule i j t t' s _ _ ⟨.bl (g i j),H,I,rfl,q⟩
noncomputable def H0 (i j:Int):Prop:=0<j /\ j<1073741824
noncomputable def Ds (i j:Int):Prop:=(-(2 ^ 64)<i /\ i<2 ^ 64) \/ (-(2 ^ 64)<j /\ j<2 ^ 64)
theorem Ds.ok {i j:Int} (h:Ds i j):IntMulOk i j:=by
 rcases h with ⟨h1,h2⟩|⟨h1,h2⟩
 . exact .of_left (intBits_le_64 h1 h2)
 . exact .of_right (intBits_le_64 h1 h2)
theorem cz:OpR X (binaryOp .Add) (rI0 fun i j=>.int (i+j)):=JF fun _ _ _ _ _ _ _ q=>add_int q
theorem qp:OpR X (binaryOp .Sub) (rI0 fun i j=>.int (i - j)):=JF fun _ _ _ _ _ _ _ q=>sub_int q
theorem sq:OpR X (binaryOp .Mult) (rI Ds fun i j=>.int (i*j)):=opI fun _ _ _ _ _ _ _ hc q=>mul_int q hc.ok
theorem bR:OpR X (binaryOp .FloorDiv) (rI H0 fun i j=>.int (i/j)):=opI fun i j _ _ _ _ _ hc q=>by
 have h1:(0:Int)<j:=hc.1
 have h2:j<1073741824:=hc.2
 exact floordiv_int (by omega) (by rw [Int.fdiv_eq_ediv_of_nonneg i (by omega)]; exact q) (.inl (PyProof.noPylong_small (by omega)))
theorem bx:OpR X (binaryOp .Mod) (rI (fun _ j=>0<j) fun i j=>.int (i%j)):=opI fun i j _ _ _ _ _ hc q=>by
 have h1:(0:Int)<j:=hc
 exact mod_int' (by omega) (by rw [Int.fmod_eq_emod_of_nonneg i (by omega)]; exact q)
theorem unI {f:Value -> Sem Value} {g:Int -> Int}
  (rule:∀ (i:Int) (t:Tok) (s:Shared) (Q:Value -> Shared -> Prop) (E:Value -> Shared -> Prop),Q (.int (g i) s.toks) { s with toks:=s.toks+1 } -> wpAny (model X.prog X.w) X.A (f (.int i t)) Q E s):
  UnR X f (rU fun i=>.int (g i)):=by
 intro pins s σ H x v Q I rx h
 obtain ⟨i,rfl,q⟩:=h
 obtain ⟨t,rfl⟩:=rx
 exact rule i t s _ _ ⟨.int (g i),H,I.tok _,⟨_,rfl⟩,q⟩
theorem jw:UnR X (unaryOp .USub) (rU fun i=>.int (-i)):=unI fun _ _ _ _ _ q=>neg_int q
end
noncomputable def IA:V -> V -> Bool
 |.non,.non=>true|.non,.int _=>true|.int _,.non=>true|.non,.bl _=>true|.bl _,.non=>true|.non,.str _=>true|.str _,.non=>true
 |.int _,.int _=>true|.bl _,.bl _=>true|.str _,.str _=>true|.byt _,.byt _=>true
 |.int _,.str _=>true|.str _,.int _=>true|.bl _,.str _=>true|.str _,.bl _=>true
 |_,_=>false
noncomputable def rEq:R2:=fun x y H Q=>IA x y=true /\ Q (.bl (decide (x=y))) H
noncomputable def rNe:R2:=fun x y H Q=>IA x y=true /\ Q (.bl (!decide (x=y))) H
theorem Aa {i j:Int}:decide (V.int i=V.int j)=(i==j):=by
 rw [Bool.eq_iff_iff]
 simp
theorem B8 {i j:Bool}:decide (V.bl i=V.bl j)=(i==j):=by
 rw [Bool.eq_iff_iff]
 simp
theorem AI {i j:Str}:decide (V.str i=V.str j)=(i==j):=by
 rw [Bool.eq_iff_iff]
 simp
theorem AV {i j:Array UInt8}:decide (V.byt i=V.byt j)=(i.toList==j.toList):=by
 rw [Bool.eq_iff_iff]
 cases i
 cases j
 simp
section
variable {X:Cx} {a b c:Expr} {ta tb tc:TE} {pos:Pos}
theorem cT {pins:List (Addr×Obj)} {σ:St} {H:Hp} {s:Shared} {Q:VK} {k k':Bool} (I:Inv X pins σ H s) (q:Q (.bl k) H) (e:k=k'):EP X pins σ Q (.bool k') s:=by
 subst e
 exact ⟨.bl k,H,I,rfl,q⟩
theorem bt:OpR X (compareOp .Eq) rEq:=by
 intro pins s σ H x y v u Q I rx ry h
 obtain ⟨hs,q⟩:=h
 cases x with
 | non=>
   cases rx
   cases y with
   |non=>cases ry; exact PySem.EqNone.eq_none_none (cT I q (by simp))
   |bl j=>cases ry; exact PySem.EqNone.eq_none_bool (cT I q (by simp))
   |int j=>obtain ⟨t',rfl⟩:=ry; exact PySem.EqNone.eq_none_int (cT I q (by simp))
   |str j=>obtain ⟨t',rfl⟩:=ry; exact PySem.EqNone.eq_none_str (cT I q (by simp))
   |_=>exact absurd (show false=true from hs) Bool.false_ne_true
 | bl i=>
   cases rx
   cases y with
   |non=>cases ry; exact PySem.EqNone.eq_bool_none (cT I q (by simp))
   |bl j=>cases ry; exact eq_bool (cT I q B8)
   |str j=>obtain ⟨t',rfl⟩:=ry; exact PySem.EqMixed.eq_bool_str (cT I q (by simp))
   |_=>exact absurd (show false=true from hs) Bool.false_ne_true
 | int i=>
   obtain ⟨t,rfl⟩:=rx
   cases y with
   |non=>cases ry; exact PySem.EqNone.eq_int_none (cT I q (by simp))
   |int j=>obtain ⟨t',rfl⟩:=ry; exact eq_int (cT I q Aa)
   |str j=>obtain ⟨t',rfl⟩:=ry; exact PySem.EqMixed.eq_int_str (cT I q (by simp))
   |_=>exact absurd (show false=true from hs) Bool.false_ne_true
 | str i=>
   obtain ⟨t,rfl⟩:=rx
   cases y with
   |non=>cases ry; exact PySem.EqNone.eq_str_none (cT I q (by simp))
   |bl j=>cases ry; exact PySem.EqMixed.eq_str_bool (cT I q (by simp))
   |int j=>obtain ⟨t',rfl⟩:=ry; exact PySem.EqMixed.eq_str_int (cT I q (by simp))
   |str j=>obtain ⟨t',rfl⟩:=ry; exact eq_str (cT I q AI)
   |_=>exact absurd (show false=true from hs) Bool.false_ne_true
 | byt i=>
   obtain ⟨t,rfl⟩:=rx
   cases y with
   |byt j=>obtain ⟨t',rfl⟩:=ry; exact PySem.W.eq_bytes (cT I q AV)
   |_=>exact absurd (show false=true from hs) Bool.false_ne_true
 |_=>cases y<;>exact absurd (show false=true from hs) Bool.false_ne_true
theorem Dr:OpR X (compareOp .NotEq) rNe:=by
 intro pins s σ H x y v u Q I rx ry h
 obtain ⟨hs,q⟩:=h
 cases x with
 | non=>
   cases rx
   cases y with
   |non=>cases ry; exact PySem.EqNone.ne_none_none (cT I q (by simp))
   |bl j=>cases ry; exact PySem.EqNone.ne_none_bool (cT I q (by simp))
   |int j=>obtain ⟨t',rfl⟩:=ry; exact PySem.EqNone.ne_none_int (cT I q (by simp))
   |str j=>obtain ⟨t',rfl⟩:=ry; exact PySem.EqNone.ne_none_str (cT I q (by simp))
   |_=>exact absurd (show false=true from hs) Bool.false_ne_true
 | bl i=>
   cases rx
   cases y with
   |non=>cases ry; exact PySem.EqNone.ne_bool_none (cT I q (by simp))
   |bl j=>cases ry; exact ne_bool (cT I q (congrArg not B8))
   |str j=>obtain ⟨t',rfl⟩:=ry; exact PySem.EqMixed.ne_bool_str (cT I q (by simp))
   |_=>exact absurd (show false=true from hs) Bool.false_ne_true
 | int i=>
   obtain ⟨t,rfl⟩:=rx
   cases y with
   |non=>cases ry; exact PySem.EqNone.ne_int_none (cT I q (by simp))
   |int j=>obtain ⟨t',rfl⟩:=ry; exact ne_int (cT I q (congrArg not Aa))
   |str j=>obtain ⟨t',rfl⟩:=ry; exact PySem.EqMixed.ne_int_str (cT I q (by simp))
   |_=>exact absurd (show false=true from hs) Bool.false_ne_true
 | str i=>
   obtain ⟨t,rfl⟩:=rx
   cases y with
   |non=>cases ry; exact PySem.EqNone.ne_str_none (cT I q (by simp))
   |bl j=>cases ry; exact PySem.EqMixed.ne_str_bool (cT I q (by simp))
   |int j=>obtain ⟨t',rfl⟩:=ry; exact PySem.EqMixed.ne_str_int (cT I q (by simp))
   |str j=>obtain ⟨t',rfl⟩:=ry; exact ne_str (cT I q (congrArg not AI))
   |_=>exact absurd (show false=true from hs) Bool.false_ne_true
 | byt i=>
   obtain ⟨t,rfl⟩:=rx
   cases y with
   |byt j=>obtain ⟨t',rfl⟩:=ry; exact PySem.W.ne_bytes (cT I q (congrArg not AV))
   |_=>exact absurd (show false=true from hs) Bool.false_ne_true
 |_=>cases y<;>exact absurd (show false=true from hs) Bool.false_ne_true
theorem nM:OpR X (compareOp .Lt) (rI0 fun i j=>.bl (decide (i<j))):=EZ fun _ _ _ _ _ _ _ q=>lt_int q
theorem mJ:OpR X (compareOp .LtE) (rI0 fun i j=>.bl (decide (i <= j))):=EZ fun _ _ _ _ _ _ _ q=>le_int q
theorem Aw:OpR X (compareOp .Gt) (rI0 fun i j=>.bl (decide (j<i))):=EZ fun _ _ _ _ _ _ _ q=>gt_int q
theorem As:OpR X (compareOp .GtE) (rI0 fun i j=>.bl (decide (j <= i))):=EZ fun _ _ _ _ _ _ _ q=>ge_int q
theorem va:OpR X (compareOp .Is) (fun x y H Q=>y=.non /\ Q (.bl (decide (x=.non))) H):=by
 intro pins s σ H x y v u Q I rx ry h
 obtain ⟨rfl,q⟩:=h
 cases ry
 refine is_none_gen (cT I q ?_)
 cases x<;>first
  |(cases rx; rfl)
  |(obtain ⟨t,rfl⟩:=rx; rfl)
theorem Ad:OpR X (compareOp .IsNot) (fun x y H Q=>y=.non /\ Q (.bl (!decide (x=.non))) H):=by
 intro pins s σ H x y v u Q I rx ry h
 obtain ⟨rfl,q⟩:=h
 cases ry
 refine isnot_none_gen (cT I q ?_)
 cases x<;>first
  |(cases rx; rfl)
  |(obtain ⟨t,rfl⟩:=rx; rfl)
theorem kL (b:Expr) {op:CmpOp} (h:op≠.In:=by decide) (h2:op≠.NotIn:=by decide):behindInMarks op b=false:=by
 have e1:(op==CmpOp.In)=false:=by cases op<;>first|rfl|exact absurd rfl h
 have e2:(op==CmpOp.NotIn)=false:=by cases op<;>first|rfl|exact absurd rfl h2
 cases b<;>simp [behindInMarks,e1,e2]
theorem E5 {op:CmpOp} {r:R2} (ho:OpR X (compareOp op) r) (ha:PE X a ta) (hb:PE X b tb) (hm:behindInMarks op b=false):PE X (.Compare a [op] [b] pos) (tOp r ta tb):=by
 intro pins s σ H Q I h
 exact wpAny_Compare1 (Ia ha hb I h fun v u s2 x y H2 I2 rx ry q=>ho pins s2 σ H2 x y v u Q I2 rx ry q) hm
noncomputable def vW (t:TE):TT:=fun σ H Q=>t σ H fun x H'=>∃ k,x=.bl k /\ Q k H'
theorem Er {op:CmpOp} {r:R2} (ho:OpR X (compareOp op) r) (ha:PE X a ta) (hb:PE X b tb) (hm:behindInMarks op b=false):PT X (.Compare a [op] [b] pos) (vW (tOp r ta tb)):=by
 intro pins s σ H Q I h
 refine wpAny_isTrue_Compare1 (thn (ha pins s σ H _ I h) fun v s1 ⟨x,H1,I1,r1,q1⟩=>thn (hb pins s1 σ H1 _ I1 q1) fun u s2 ⟨y,H2,I2,r2,q2⟩=>
  thn (ho pins s2 σ H2 x y v u _ I2 r1 r2 q2) fun c s3 ⟨z,H3,I3,r3,k,e,q3⟩=>?_) hm
 subst e
 cases r3
 exact wpAny_truthy_bool ⟨H3,I3,q3⟩
noncomputable def uI (r r':R2) (ta tb tc:TE):TE:=fun σ H Q=>ta σ H fun x H1=>tb σ H1 fun y H2=>r x y H2 fun z H3=>∃ k,z=.bl k /\
 (if k=true then tc σ H3 fun w' H4=>r' y w' H4 Q else Q (.bl false) H3)
theorem Cq {op op':CmpOp} {r r':R2} (ho:OpR X (compareOp op) r) (ho':OpR X (compareOp op') r') (ha:PE X a ta) (hb:PE X b tb) (hc:PE X c tc)
  (hm:lastMarks [op,op'] [b,c]=false:=by with_unfolding_all rfl):PE X (.Compare a [op,op'] [b,c] pos) (uI r r' ta tb tc):=by
 intro pins s σ H Q I h
 refine Compare_chain (thn (ha pins s σ H _ I h) fun v s1 ⟨x,H1,I1,r1,q1⟩=>chain_link (thn (hb pins s1 σ H1 _ I1 q1) fun u s2 ⟨y,H2,I2,r2,q2⟩=>
  thn (ho pins s2 σ H2 x y v u _ I2 r1 r2 q2) fun d s3 ⟨z,H3,I3,r3,k,e,q3⟩=>?_)) hm
 subst e
 cases r3
 refine wpAny_truthy_bool ?_
 cases k with
 |false=>exact ite_ff ⟨.bl false,H3,I3,rfl,q3⟩
 |true=>exact ite_tt (chain_last (thn (hc pins s3 σ H3 _ I3 q3) fun w' s4 ⟨z',H4,I4,r4,q4⟩=>ho' pins s4 σ H4 y z' u w' Q I4 r2 r4 q4))
theorem D6 {op op':CmpOp} {r r':R2} (ho:OpR X (compareOp op) r) (ho':OpR X (compareOp op') r') (ha:PE X a ta) (hb:PE X b tb) (hc:PE X c tc)
  (hm:lastMarks [op,op'] [b,c]=false:=by with_unfolding_all rfl):PT X (.Compare a [op,op'] [b,c] pos) (vW (uI r r' ta tb tc)):=by
 intro pins s σ H Q I h
 refine isTrue_chain (thn (ha pins s σ H _ I h) fun v s1 ⟨x,H1,I1,r1,q1⟩=>test_link (thn (hb pins s1 σ H1 _ I1 q1) fun u s2 ⟨y,H2,I2,r2,q2⟩=>
  thn (ho pins s2 σ H2 x y v u _ I2 r1 r2 q2) fun d s3 ⟨z,H3,I3,r3,k,e,q3⟩=>?_)) hm
 subst e
 cases r3
 refine wpAny_truthy_bool ?_
 cases k with
 | false=>
   obtain ⟨k',e',q'⟩:=q3
   cases e'
   exact ite_ff ⟨H3,I3,q'⟩
 | true=>
   refine ite_tt (test_last (thn (hc pins s3 σ H3 _ I3 q3) fun w' s4 ⟨z',H4,I4,r4,q4⟩=>thn (ho' pins s4 σ H4 y z' u w' _ I4 r2 r4 q4) fun d' s5 ⟨z2,H5,I5,r5,k2,e2,q5⟩=>?_))
   subst e2
   cases r5
   exact wpAny_truthy_bool ⟨H5,I5,q5⟩
noncomputable def y6 (K:PySem.W.Frag) (x:V) (H:Hp) (k:Bool):Prop:=
 match x with
 |.non=>k=false
 |.bl b=>k=b
 |.int i=>k=(i != 0)
 |.str y=>y.length <= sizeLine /\ k=((y.length:Int) != 0)
 |.byt y=>y.size <= sizeLine /\ k=((y.size:Int) != 0)
 |.ref p=>(∃ xs,SqL K H p xs /\ k=!xs.isEmpty) \/ (∃ xs,SqT K H p xs /\ k=!xs.isEmpty) \/ ∃ kvs,H p=some (.dK kvs) /\ k=!kvs.isEmpty
 |_=>False
theorem y9 {κ:Type} {kvs:List (κ×V)} {vs:List (κ×Value)} (r:KV kvs vs):(!vs.isEmpty)=!kvs.isEmpty:=by
 cases r<;>rfl
theorem um {xs:List V} {its:List Value} (r:Vals xs its):(!its.toArray.isEmpty)=!xs.isEmpty:=by
 cases r<;>simp
theorem uH:(sizeLine:Nat)<2 ^ 63:=by rw [sizeLine_eq]; decide
theorem HA:K0 X (fun x H Q=>∃ k,y6 X.K x H k /\ Q k H):=by
 intro pins s σ H x v Q I rx h
 obtain ⟨k,e,q⟩:=h
 have hl:=uH
 have hs:sizeLine=16777216:=sizeLine_eq
 cases x with
 | non=>
   cases rx
   have e':k=false:=e
   subst e'
   exact truthy_none ⟨H,I,q⟩
 | bl b=>
   cases rx
   have e':k=b:=e
   subst e'
   exact wpAny_truthy_bool ⟨H,I,q⟩
 | int i=>
   obtain ⟨t,rfl⟩:=rx
   have e':k=(i != 0):=e
   subst e'
   exact PySem.P.truthy_int ⟨H,I,q⟩
 | str y=>
   obtain ⟨t,rfl⟩:=rx
   obtain ⟨hy,e'⟩:y.length <= sizeLine /\ k=((y.length:Int) != 0):=e
   subst e'
   exact PySem.P.truthy_str (by omega) ⟨H,I.tok _,q⟩
 | byt y=>
   obtain ⟨t,rfl⟩:=rx
   obtain ⟨hy,e'⟩:y.size <= sizeLine /\ k=((y.size:Int) != 0):=e
   subst e'
   exact PySem.W.truthy_bytes (by omega) ⟨H,I.tok _,q⟩
 | ref p=>
   cases rx
   have e':(∃ xs,SqL X.K H p xs /\ k=!xs.isEmpty) \/ (∃ xs,SqT X.K H p xs /\ k=!xs.isEmpty) \/ ∃ kvs,H p=some (.dK kvs) /\ k=!kvs.isEmpty:=e
   rcases e' with ⟨xs,hx,e'⟩|⟨xs,hx,e'⟩|⟨kvs,hx,e'⟩
   . subst e'
     obtain ⟨its,r,pl,hz⟩:=I.list hx
     have hlen:=r.length
     exact wpAny_truthy_list pl.isList (by simp only [List.size_toArray]; omega) ⟨H,I.tok _,by rw [um r]; exact q⟩
   . subst e'
     obtain ⟨its,r,pl,hz⟩:=I.tuple hx
     have hlen:=r.length
     exact truthy_tuple pl (by simp only [List.size_toArray]; omega) ⟨H,I.tok _,by rw [um r]; exact q⟩
   . subst e'
     obtain ⟨hz,hS,vs,r,m⟩:kvs.length <= sizeLine /\ (p==sysModules)=false /\ ∃ vs,KV kvs vs /\ s.heap.DictOf (fE X.prog X.w) p vs:=I.hok p _ hx
     have hlen:kvs.length=vs.length:=Paired.length r
     exact wpAny_truthy_dict hS m (by omega) ⟨H,I.tok _,by rw [y9 r]; exact q⟩
 |_=>exact (show False from e).elim
theorem Eb (ha:PE X a ta) (he:∀ whole,isTrue a X.env whole=(do let v <- whole; standAt a.pos; holding [v] (truthy v))):
  PT X a (fun σ H Q=>ta σ H fun x H'=>∃ k,y6 X.K x H' k /\ Q k H'):=by
 intro pins s σ H Q I h
 exact isTrue_plain (thn (ha pins s σ H _ I h) fun v s1 ⟨x,H1,I1,r1,q1⟩=>HA pins s1 σ H1 x v Q I1 r1 q1) (he _)
theorem vals1 {x:V} {us:List Value} (r:Vals [x] us):∃ u,us=[u] /\ RelV x u:=by
 cases r with
 |cons r1 r2=>cases r2; exact ⟨_,rfl,r1⟩
theorem vN:nU X (.type "int") (fun xs H Q=>(∃ i,xs=[.int i] /\ Q (.int i) H) \/ ∃ k,xs=[.bl k] /\ Q (.int (if k then 1 else 0)) H):=by
 intro pins s σ H xs us Q I r h
 rcases h with ⟨i,rfl,q⟩|⟨k,rfl,q⟩
 . obtain ⟨u,rfl,t,rfl⟩:=vals1 r
   exact call_int_int ⟨.int i,H,I,⟨_,rfl⟩,q⟩
 . obtain ⟨u,rfl,r1⟩:=vals1 r
   cases r1
   exact call_int_bool ⟨.int (if k then 1 else 0),H,I.tok _,⟨_,rfl⟩,q⟩
theorem rz:nU X (.type "str") (fun xs H Q=>∃ i,xs=[.int i] /\ i.natAbs.log2<1920 /\ Q (.str (toString i)) H):=by
 intro pins s σ H xs us Q I r h
 obtain ⟨i,rfl,hz,q⟩:=h
 obtain ⟨u,rfl,t,rfl⟩:=vals1 r
 exact PySem.P.str_of_int hz ⟨.str _,H,I.tok _,⟨_,rfl⟩,q⟩
theorem Cc:nU X (.builtin "ord") (fun xs H Q=>∃ x,xs=[.str x] /\ x.length=1 /\ Q (.int (x.cps.getD 0 0:Nat)) H):=by
 intro pins s σ H xs us Q I r h
 obtain ⟨x,rfl,hz,q⟩:=h
 obtain ⟨u,rfl,t,rfl⟩:=vals1 r
 exact ord_of_one hz ⟨.int _,H,I.tok _,⟨_,rfl⟩,q⟩
end
structure za (h:Heap) (x dx C:Addr) (mA:Str -> Option Value):Prop where
 obj:h.get? x=some (PySem.W.instObj C dx)
 ns:h.Ns1 dx mA
 ne:dx≠x
theorem A9 {h:Heap} {dx:Addr} {mA:Str -> Option Value} (n:h.Ns1 dx mA):∃ od,h.get? dx=some od /\ ∀ name,PySem.W.lookIn name od=some (mA name):=by
 obtain ⟨o,es,ep,ho,hd,hk,_,hm⟩:=n
 refine ⟨o,ho,fun name=>?_⟩
 have e:=hm name
 unfold nsFind findBy at e
 rw [<- Array.find?_toList] at e
 unfold PySem.W.lookIn
 rw [hd]
 dsimp only
 split
 . rename_i y q
   rw [q] at e
   exact congrArg some e
 . rename_i q
   rw [q] at e
   have a:es.toList.any (·.refKey)=false:=by
    rw [List.any_eq_false]
    intro y hy
    obtain ⟨z,t,hkey⟩:=hk y (Array.mem_toList_iff.mp hy)
    simp [DictEntry.refKey,hkey]
   have a':¬ es.toList.any (·.refKey)=true:=by rw [a]; exact Bool.false_ne_true
   rw [if_neg a']
   exact congrArg some e
theorem za.look {h:Heap} {x dx C:Addr} {mA:Str -> Option Value} (I:za h x dx C mA):∃ od,PySem.W.InstAt h x (PySem.W.instObj C dx) C (some od) /\ ∀ name,PySem.W.lookIn name od=some (mA name):=
 let ⟨od,ho,hl⟩:=A9 I.ns
 ⟨od,⟨I.obj,rfl,rfl,ho⟩,hl⟩
section
variable {prog:Program} {w:World} {A:Around} {E:Value -> Shared -> Prop} {s:Shared} {K:PySem.W.Frag} {x dx C f:Addr} {mA:Str -> Option Value} {name:Str} {v:Value}
theorem get_map {expr:Bool} {Q:Value -> Shared -> Prop} (X:K.In s.heap) (I:za s.heap x dx C mA) (hg:PySem.W.plainGet K C name=true) (hh:PySem.W.hasDictIn K C=true)
  (ha:PySem.W.findIn K (.ref C) name=some none) (hv:mA name=some v) (hv':PySem.W.handedIn v=true) (h:Q v { s with toks:=s.toks+1 }):
  wpAny (model prog w) A (getAttr (.ref x) name expr) Q E s:=by
 obtain ⟨od,J,hl⟩:=I.look
 exact PySem.W.get_value X J (PySem.W.plainGet_of hg).1 (PySem.W.findObj_own hh ha rfl (by rw [hl,hv])) hv' h
theorem D9 {pl:Sem Bool} {Q:Value×List Value -> Shared -> Prop} (X:K.In s.heap) (I:za s.heap x dx C mA) (hg:PySem.W.plainGet K C name=true)
  (hf:PySem.W.findIn K (.ref C) name=some (some (.ref f))) (ht:PySem.W.isFn K (.ref f)=true) (hv:mA name=none) (h:Q (.ref f,[.ref x]) s):
  wpAny (model prog w) A (getMethod (.ref x) name pl) Q E s:=by
 obtain ⟨od,J,hl⟩:=I.look
 exact PySem.W.method_fn X J (PySem.W.plainGet_of hg).1 (PySem.W.plainGet_of hg).2 hf (beq_iff_eq.mp ht) (by show (PySem.W.lookIn name od).map (·.isSome)=some false; rw [hl,hv]; rfl) h
theorem Fz {ns:List Str} {Q:Unit -> Shared -> Prop} (X:K.In s.heap) (I:za s.heap x dx C mA)
  (hs:PySem.W.findIn K (.ref C) "__setattr__" = some (some (.builtin "object.__setattr__"))) (hp:PySem.W.plainOver K C=true) (ht:PySem.W.takerIn K C name=some none) (hh:PySem.W.hasDictIn K C=true)
  (hw:PySem.Within mA ns) (hsz:ns.length <= sizeLine)
  (h:∀ h',za h' x dx C (fun y=>if y=name then some v else mA y) -> Heap.SameBut dx s.heap h' -> Q () { s with heap:=h',toks:=s.toks+2 }):
  wpAny (model prog w) A (setAttr (.ref x) name v) Q E s:=by
 obtain ⟨od,J,hl⟩:=I.look
 refine PySem.W.set_plain X J hs (PySem.W.osa_open (s:={ s with toks:=s.toks+1 }) (r:=none) X J hp ht fun b=>?_)
 obtain ⟨cd,hc,hd'⟩:=PySem.W.any_some hh
 have hx:s.heap.get? x=some ⟨.ref C,some dx,.plain,#[]⟩:=I.obj
 refine wpAny_bind (wpAny_pure (wpAny_bind (wpAny_bind (wpAny_loadPart hx (wpAny_bind (PySem.W.Looks.here (s:={ s with toks:=s.toks+1 }) (PySem.W.looks_clsIn X hc) ?_))))))
 rw [hd']
 refine wpAny_pure (a:=some dx) (wpAny_bind (wpAny_pure (wpAny_bind ?_)))
 refine wpAny_nsSet1 (s:={ s with toks:=s.toks+1 }) I.ns fun h' hn2 hs2=>?_
 obtain ⟨oD,esD,epD,hoD,hdD,hcD⟩:=hn2.count (PySem.Within.cons name v hw)
 refine wpAny_bind (wpAny_lookBehind hoD (by rw [hdD]; exact pastItsLine_dict (Nat.le_trans hcD (by rw [List.length_cons]; omega))) ?_)
 exact wpAny_pure (h _ ⟨(hs2.2 _ (Ne.symm I.ne)).trans I.obj,hn2,I.ne⟩ hs2)
theorem CT {R:Result -> Shared -> Prop} {vs:List Value} {kw:List (Str×Value)} (X:K.In s.heap) (hm:PySem.W.makesIn K C=true)
  (hi:PySem.W.findIn K (.ref C) "__init__" = some (some (.ref f))) (hf:PySem.W.typeIn K (.ref f)=some (.type "function"))
  (h:codeAny (model prog w) (A.under (.builtin "type.__call__" ⟨.ref C ::vs,kw⟩)) (.call (.ref f) ⟨.ref (s.heap.objs.size+1) ::vs,kw⟩) (PySem.W.InitBack (s.heap.objs.size+1) R)
    { s with heap:=(s.heap.push PySem.W.emptyDict).push (PySem.W.instObj C s.heap.objs.size) }):
  codeAny (model prog w) A (.call (.ref C) ⟨vs,kw⟩) R s:=by
 obtain ⟨hh,g,d,t,os⟩:=s
 exact PySem.W.make_core (PySem.W.makes_of X hm) (PySem.W.looks_findIn X hi) (fun self=>PySem.W.bind_fn X self hf) (.inl rfl) h
end
noncomputable def j4 (f:Str) (v:V):List (Str×V) -> List (Str×V)
 |[]=>[(f,v)]
 |(g,x) ::r=>if g=f then (g,v) ::r else (g,x) ::j4 f v r
theorem sQ (f g:Str) (v:V):∀ fs:List (Str×V),(j4 f v fs).lookup g=if g=f then some v else fs.lookup g
 | []=>by
   show List.lookup g [(f,v)]=_
   by_cases h:g=f
   . have hb:(g==f)=true:=beq_iff_eq.mpr h
     simp only [List.lookup,hb,if_pos h]
   . have hb:(g==f)=false:=beq_eq_false_iff_ne.mpr h
     simp only [List.lookup,hb,if_neg h]
 | (k,x) ::r=>by
   have ih:=sQ f g v r
   rw [show j4 f v ((k,x) ::r)=(if k=f then (k,v) ::r else (k,x) ::j4 f v r) from rfl]
   by_cases hk:k=f
   . rw [if_pos hk]
     by_cases h:g=k
     . have hb:(g==k)=true:=beq_iff_eq.mpr h
       simp only [List.lookup,hb,if_pos (h.trans hk)]
     . have hb:(g==k)=false:=beq_eq_false_iff_ne.mpr h
       simp only [List.lookup,hb,if_neg (fun e:g=f=>h (e.trans hk.symm))]
   . rw [if_neg hk]
     by_cases h:g=k
     . have hb:(g==k)=true:=beq_iff_eq.mpr h
       simp only [List.lookup,hb,if_neg (fun e:g=f=>hk (h.symm.trans e))]
     . have hb:(g==k)=false:=beq_eq_false_iff_ne.mpr h
       simp only [List.lookup,hb]
       exact ih
theorem r6 (f:Str) (v:V):∀ fs:List (Str×V),f∈(j4 f v fs).map (·.1) /\ ∀ g,g∈fs.map (·.1) -> g∈(j4 f v fs).map (·.1)
 |[]=>⟨by simp [j4],fun g h=>by simp at h⟩
 | (k,x) ::r=>by
   obtain ⟨i1,i2⟩:=r6 f v r
   rw [show j4 f v ((k,x) ::r)=(if k=f then (k,v) ::r else (k,x) ::j4 f v r) from rfl]
   by_cases hk:k=f
   . rw [if_pos hk]
     subst hk
     exact ⟨by simp,fun g h=>by simpa using h⟩
   . rw [if_neg hk]
     refine ⟨?_,fun g h=>?_⟩
     . rw [List.map_cons]
       exact List.mem_cons_of_mem _ i1
     . rw [List.map_cons] at h ⊢
       rcases List.mem_cons.mp h with e|e
       . exact List.mem_cons.mpr (.inl e)
       . exact List.mem_cons_of_mem _ (i2 g e)
theorem sP (f:Str) (v:V):∀ fs:List (Str×V),(j4 f v fs).length <= fs.length+1
 |[]=>by simp [j4]
 | (k,x) ::r=>by
   have ih:=sP f v r
   rw [show j4 f v ((k,x) ::r)=(if k=f then (k,v) ::r else (k,x) ::j4 f v r) from rfl]
   by_cases hk:k=f
   . rw [if_pos hk,List.length_cons,List.length_cons]; omega
   . rw [if_neg hk,List.length_cons,List.length_cons]; omega
theorem bz.some_of {v:V} {o:Option Value} (r:bz (some v) o):∃ u,o=some u /\ RelV v u:=by
 cases o with
 |none=>exact (show False from r).elim
 |some u=>exact ⟨u,rfl,r⟩
theorem bz.none_of {o:Option Value} (r:bz none o):o=none:=by
 cases o with
 |none=>rfl
 |some u=>exact (show False from r).elim
theorem Bj {v:V} {u:Value} (r:RelV v u):PySem.W.handedIn u=true:=by
 cases v with
 |non=>cases (show u=Value.none from r); rfl
 |bl b=>cases (show u=Value.bool b from r); rfl
 |int i=>obtain ⟨t,e⟩:=(show ∃ t,u=Value.int i t from r); cases e; rfl
 |str x=>obtain ⟨t,e⟩:=(show ∃ t,u=Value.str x t from r); cases e; rfl
 |byt b=>obtain ⟨t,e⟩:=(show ∃ t,u=Value.bytes b t from r); cases e; rfl
 |flt b=>obtain ⟨t,e⟩:=(show ∃ t,u=Value.float b t from r); cases e; rfl
 |ref a=>cases (show u=Value.ref a from r); rfl
 |ty n=>cases (show u=Value.type n from r); rfl
section
variable {P:Program} {w:World} {H H':Hp} {h h':Heap} {a C dx:Addr} {fs fs':List (Str×V)}
theorem v8 (hok:HOk P w H h) (e:H a=some (.ins C dx fs)):∃ mA,za h a dx C mA /\ (∀ f,bz (fs.lookup f) (mA f)) /\ PySem.Within mA (fs.map (·.1)) /\ fs.length <= 1000 /\ H dx=some (.own a):=by
 obtain ⟨d,z,ne,ob,mA,n,r,q⟩:=(show gd P w H h a (.ins C dx fs) from hok a _ e)
 exact ⟨mA,⟨ob,n,ne⟩,r,q,z,d⟩
end
structure Cls (K:PySem.W.Frag) (C:Addr):Prop where
 pg:PySem.W.plainGet K C Str.empty=true
 hd:PySem.W.hasDictIn K C=true
 po:PySem.W.plainOver K C=true
 sa:PySem.W.findIn K (.ref C) "__setattr__" = some (some (.builtin "object.__setattr__"))
theorem Cls.get {K:PySem.W.Frag} {C:Addr} (c:Cls K C) (f:Str):PySem.W.plainGet K C f=true:=c.pg
noncomputable def mm (K:PySem.W.Frag) (C:Addr) (f:Str):Prop:=PySem.W.findIn K (.ref C) f=some none
theorem mm.Js {K:PySem.W.Frag} {C:Addr} {f:Str} (n:mm K C f):PySem.W.takerIn K C f=some none:=by
 unfold PySem.W.takerIn
 rw [show PySem.W.findIn K (.ref C) f=some none from n]
 rfl
structure Meth (K:PySem.W.Frag) (C:Addr) (m:Str) (f:Addr):Prop where
 at_:PySem.W.findIn K (.ref C) m=some (some (.ref f))
 fn:PySem.W.isFn K (.ref f)=true
 kp:PySem.W.keepIn K (.ref f)=true
section
variable {X:Cx} {pins:List (Addr×Obj)} {σ:St} {H:Hp} {s:Shared} {a C dx:Addr} {fs:List (Str×V)} {f:Str} {v:V} {A:Around} {E:Value -> Shared -> Prop}
theorem zk {b:Bool} {Q:Value -> Shared -> Prop} (I:Inv X pins σ H s) (e:H a=some (.ins C dx fs)) (c:Cls X.K C) (n:mm X.K C f) (l:fs.lookup f=some v)
  (h:∀ u s',Inv X pins σ H s' -> RelV v u -> Q u s'):wpAny (model X.prog X.w) A (getAttr (.ref a) f b) Q E s:=by
 obtain ⟨mA,O,r,_,_,_⟩:=v8 I.hok e
 obtain ⟨u,hu,ru⟩:=bz.some_of (v:=v) (o:=mA f) (by rw [<- l]; exact r f)
 exact get_map I.kIn O (c.get f) c.hd n hu (Bj ru) (h u _ (I.tok _) ru)
theorem uG {m:Str} {g:Addr} {pl:Sem Bool} {Q:Value×List Value -> Shared -> Prop} (I:Inv X pins σ H s) (e:H a=some (.ins C dx fs)) (c:Cls X.K C) (k:Meth X.K C m g) (l:fs.lookup m=none)
  (h:Q (.ref g,[.ref a]) s):wpAny (model X.prog X.w) A (getMethod (.ref a) m pl) Q E s:=by
 obtain ⟨mA,O,r,_,_,_⟩:=v8 I.hok e
 have hn:mA m=none:=bz.none_of (by rw [<- l]; exact r m)
 exact D9 I.kIn O (c.get m) k.at_ k.fn hn h
theorem zq {y:V} {u:Value} {Q:Unit -> Shared -> Prop} (I:Inv X pins σ H s) (e:H a=some (.ins C dx fs)) (c:Cls X.K C) (n:mm X.K C f) (hl:fs.length<1000) (ry:RelV y u)
  (h:∀ s',Inv X pins σ (upd H a (.ins C dx (j4 f y fs))) s' -> Q () s'):wpAny (model X.prog X.w) A (setAttr (.ref a) f u) Q E s:=by
 obtain ⟨mA,O,r,wi,_,ho⟩:=v8 I.hok e
 have hz:(fs.map (·.1)).length <= sizeLine:=by rw [List.length_map,sizeLine_eq]; omega
 refine Fz I.kIn O c.sa c.po n.Js c.hd wi hz fun h' O' sb=>h _ ?_
 have hd:∃ o,h'.get? dx=some o:=let ⟨o,_,_,e',_⟩:=O'.ns; ⟨o,e'⟩
 refine I.write (x:=a) (e:=dx) (by rw [e]; exact True.intro) (.inr ho) (fun b q hb z=>(sb.2 b hb).trans z) hd ?_
 refine ⟨by rw [bJ O.ne]; exact ho,?_,O.ne,O'.obj,_,O'.ns,fun g=>?_,fun g hg=>?_⟩
 . have:=sP f y fs; omega
 . show bz ((j4 f y fs).lookup g) (if g=f then some u else mA g)
   rw [sQ]
   by_cases q:g=f
   . rw [if_pos q,if_pos q]; exact ry
   . rw [if_neg q,if_neg q]; exact r g
 . by_cases q:g=f
   . rw [q]; exact (r6 f y fs).1
   . refine (r6 f y fs).2 g (wi g fun z=>hg ?_)
     show (if g=f then some u else mA g)=none
     rw [if_neg q]; exact z
theorem Inv.made (I:Inv X pins σ H s):Inv X pins σ (upd (upd H s.heap.objs.size (.own (s.heap.objs.size+1))) (s.heap.objs.size+1) (.ins C s.heap.objs.size []))
  { s with heap:=(s.heap.push PySem.W.emptyDict).push (PySem.W.instObj C s.heap.objs.size) }:=by
 have e1:(s.heap.push PySem.W.emptyDict).get? s.heap.objs.size=some PySem.W.emptyDict:=Heap.get?_push_size s.heap rfl
 have e2:((s.heap.push PySem.W.emptyDict).push (PySem.W.instObj C s.heap.objs.size)).get? (s.heap.objs.size+1)=some (PySem.W.instObj C s.heap.objs.size):=by
  have:=Heap.get?_push_size (s.heap.push PySem.W.emptyDict) (o:=PySem.W.instObj C s.heap.objs.size) rfl
  rwa [Heap.size_push] at this
 have e3:(s.heap.push PySem.W.emptyDict).Ns s.heap.objs.size (fun _=>none):=⟨PySem.W.emptyDict,#[],_,e1,rfl,(fun e he=>absurd he (by simp)),fun _=>rfl⟩
 have I1:=I.laid (a:=s.heap.objs.size) (o:=.own (s.heap.objs.size+1)) (h':=s.heap.push PySem.W.emptyDict) (t':=s.toks) (fun b u q=>Heap.get?_push_of_some _ q) (Nat.le_refl _) ⟨_,e1⟩
 refine I1.laid (a:=s.heap.objs.size+1) (o:=.ins C s.heap.objs.size []) (t':=s.toks) (fun b u q=>Heap.get?_push_of_some _ q) (Nat.le_of_eq (Heap.size_push _ _)) ?_
 have ne:s.heap.objs.size≠s.heap.objs.size+1:=Nat.ne_of_lt (Nat.lt_succ_self _)
 refine ⟨by rw [bJ ne,bQ],Nat.zero_le _,ne,e2,fun _=>none,(Heap.Ns1.of_empty e3).at fun o q=>Heap.get?_push_of_some _ q,fun _=>True.intro,fun y hy=>absurd rfl hy⟩
theorem FX {prog:Program} {w:World} {env:Env} {e:Expr} {f:Str} {pos:Pos} {s:Shared} {Q:Value -> Shared -> Prop} (hb:attributeBase e f env (eval e env)=eval e env)
  (h:wpAny (model prog w) A (eval e env) (fun o s₁=>wpAny (model prog w) A (getAttr o f true) Q E s₁) E s):wpAny (model prog w) A (eval (.Attribute e f pos) env) Q E s:=
 Attribute_any_ h (by rw [arm_eval_Attribute,hb])
end
noncomputable def G0 (K:PySem.W.Frag) (ta:TE) (f:Str):TE:=fun σ H Q=>ta σ H fun x H1=>∃ a C dx fs v,x=.ref a /\ H1 a=some (.ins C dx fs) /\ Cls K C /\ mm K C f /\ fs.lookup f=some v /\ Q v H1
noncomputable def HU (K:PySem.W.Frag) (ta tv:TE) (f:Str):TS:=fun D σ H=>tv σ H fun y H1=>ta σ H1 fun x H2=>∃ a C dx fs,x=.ref a /\ H2 a=some (.ins C dx fs) /\ Cls K C /\ mm K C f /\ fs.length<1000 /\
 D.nx σ (upd H2 a (.ins C dx (j4 f y fs)))
section
variable {X:Cx} {o e value:Expr} {f:Str} {pos pos' tpos:Pos} {ta tv:TE}
theorem Il (he:PE X e ta) (hb:attributeBase e f X.env (eval e X.env)=eval e X.env):PE X (.Attribute e f pos) (G0 X.K ta f):=by
 intro pins s σ H Q I h
 refine FX hb (thn (he pins s σ H _ I h) fun u s1 ⟨x,H1,I1,rx,a,C,dx,fs,v,ex,ea,c,n,l,q⟩=>?_)
 subst ex
 obtain rfl:u=Value.ref a:=rx
 exact zk I1 ea c n l fun u' s2 I2 ru=>⟨v,H1,I2,ru,q⟩
theorem GV (ha:PE X o ta) (hv:PE X value tv) (hs:swapsWith value (some (.Attribute o f pos')) pos.line X.env=pure false):PS X (.Assign [.Attribute o f pos'] value pos) (HU X.K ta tv f):=by
 intro pins s σ H D I h
 refine plainObj_wpAny_Assign_Attribute (thn (hv pins s σ H _ I h) fun u s1 ⟨y,H1,I1,ry,q⟩=>thn (ha pins s1 σ H1 _ I1 q) fun ov s2 ⟨x,H2,I2,rx,a,C,dx,fs,ex,ea,c,n,l,q2⟩=>?_) hs
 subst ex
 obtain rfl:ov=Value.ref a:=rx
 exact zq I2 ea c n l ry fun s3 I3=>⟨σ,_,I3,q2⟩
end
structure gY (k:Nat) (A:Around):Prop where
 hd:A.handled=none
 dp:A.depth+3*k+5<recursionLimit
 un:A.units+16*k+200<cLine
theorem gY.mono {j k:Nat} {A:Around} (r:gY k A) (h:j <= k):gY j A:=⟨r.hd,by have:=r.dp; omega,by have:=r.un; omega⟩
theorem gY.deeper {k:Nat} {A:Around} (r:gY (k+1) A) (env:Env):gY k (A.deeper env):=
 ⟨r.hd,by have:=r.dp; show A.depth+1+3*k+5<_; omega,by have:=r.un; show A.units+3+16*k+200<_; omega⟩
theorem y4 {A:Around} {C:Addr} {us:List Value} {kw:List (Str×Value)}:(A.under (.builtin "type.__call__" ⟨.ref C ::us,kw⟩)).depth=A.depth+1:=by
 first|rfl|simp [Around.under,Code.weight,Code.isCreation,Code.isGuard,Code.isCaller,Code.frames,Code.isFrame,guardIds]
theorem zt {A:Around} {C:Addr} {us:List Value} {kw:List (Str×Value)}:(A.under (.builtin "type.__call__" ⟨.ref C ::us,kw⟩)).units=A.units+1:=by
 first|rfl|simp [Around.under,Code.cUnits,Code.frames,Code.isFrame]
theorem gY.make {k:Nat} {A:Around} (r:gY (k+1) A) (C:Addr) (us:List Value) (kw:List (Str×Value)):gY k (A.under (.builtin "type.__call__" ⟨.ref C ::us,kw⟩)):=
 ⟨r.hd,by have:=r.dp; rw [y4]; omega,by have:=r.un; rw [zt]; omega⟩
theorem gY.depth {k:Nat} {A:Around} (r:gY k A):A.depth<recursionLimit:=by have:=r.dp; omega
theorem gY.units {k:Nat} {A:Around} (r:gY k A):A.units+64<cLine:=by have:=r.un; omega
noncomputable def kU:TA:=fun _ H Q=>Q [] H
noncomputable def ja (ta:TE) (tr:TA):TA:=fun σ H Q=>ta σ H fun x H1=>tr σ H1 fun xs H2=>Q (x ::xs) H2
section
variable {X:Cx} {e:Expr} {es:List Expr} {te:TE} {t:TA} {pos:Pos}
theorem HS:PA X [] kU:=fun _ _ _ _ H Q I h=>Calls.spliced_nil ⟨[],H,I,.nil,h⟩
theorem ES (ha:PE X e te) (hr:PA X es t) (hs:starEach (e ::es) X.env=(false,eval e X.env) ::starEach es X.env:=by rfl):PA X (e ::es) (ja te t):=by
 intro pos pins s σ H Q I h
 rw [hs]
 show wpAny _ _ (spliced ((false,eval e X.env) ::backTo pos (starEach es X.env))) _ _ s
 refine Calls.spliced_cons (thn (ha pins s σ H _ I h) fun u s1 ⟨x,H1,I1,r1,q1⟩=>?_)
 exact thn (hr pos pins s1 σ H1 _ I1 q1) fun us s2 ⟨xs,H2,I2,r2,q2⟩=>⟨x ::xs,H2,I2,.cons r1 r2,q2⟩
noncomputable def HF (t:TA):TE:=fun σ H Q=>t σ H fun xs H1=>xs.length <= sizeLine /\ ∀ p,H1 p=none -> Q (.ref p) (upd H1 p (.tup xs))
noncomputable def E8 (t:TA):TE:=fun σ H Q=>t σ H fun xs H1=>xs.length <= sizeLine /\ ∀ p,H1 p=none -> Q (.ref p) (upd H1 p (.lst xs))
theorem IP {x1} (h:PA X es t):PE X (.Tuple es x1 pos) (HF t):=by
 intro pins s σ H Q I hq
 refine wpAny_Tuple_spliced (thn (h pos pins s σ H _ I hq) fun us s1 ⟨xs,H1,I1,r,z,q⟩=>⟨by rw [<- r.length]; exact z,?_⟩)
 have hf:H1 s1.heap.objs.size=none:=I1.hok.fresh (Nat.le_refl _)
 refine ⟨.ref s1.heap.objs.size,upd H1 s1.heap.objs.size (.tup xs),I1.laid (t':=s1.toks) (fun b u e=>Heap.get?_push_of_some _ e) (Nat.le_refl _) ?_,rfl,q _ hf⟩
 exact ⟨z,us,r,⟨_,Heap.get?_push_size _ rfl,rfl,_,rfl⟩⟩
theorem Jb (h:PA X es t):PE X (.List es pos) (E8 t):=by
 intro pins s σ H Q I hq
 refine wpAny_List_spliced (thn (h pos pins s σ H _ I hq) fun us s1 ⟨xs,H1,I1,r,z,q⟩=>⟨by rw [<- r.length]; exact z,?_⟩)
 have hf:H1 s1.heap.objs.size=none:=I1.hok.fresh (Nat.le_refl _)
 refine ⟨.ref s1.heap.objs.size,upd H1 s1.heap.objs.size (.lst xs),I1.laid (t':=s1.toks) (fun b u e=>Heap.get?_push_of_some _ e) (Nat.le_refl _) ?_,rfl,q _ hf⟩
 exact ⟨z,us,0,r,Heap.get?_push_size _ rfl⟩
end
abbrev Sp:=List V -> Hp -> VK -> XK -> Prop
abbrev CXT:=List Env -> Hp -> Shared -> XK -> Value -> Shared -> Prop
structure zr (P:Program) (w:World) (K:PySem.W.Frag) (mg:Str -> Option Value) (base:Heap) (A:Around) (outer:List Env) (s:Shared) (H:Hp):Prop where
 frames:A.frames=some outer
 mod:Mod K mg base
 bs:∀ b o,base.get? b=some o -> s.heap.get? b=some o /\ H b=none
 bsz:base.objs.size <= s.heap.objs.size
 vg:s.heap.FunFrames base outer
 frf:∀ b∈frs outer,H b=none
 hok:HOk P w H s.heap
 bare:AllBare s.gens
noncomputable def CE (outer:List Env) (P:Program) (w:World) (H:Hp) (s:Shared) (Q:VK) (u:Value) (s':Shared):Prop:=
 ∃ v H',s'.os=s.os /\ AllBare s'.gens /\ Un (frs outer) [] H H' s.heap s'.heap /\ HOk P w H' s'.heap /\ RelV v u /\ Q v H'
noncomputable def CR (CX:CXT) (outer:List Env) (P:Program) (w:World) (H:Hp) (s:Shared) (Q:VK) (E:XK) (r:Result) (s':Shared):Prop:=
 match r with
 |.ok (.ret u)=>CE outer P w H s Q u s'
 |.ok _=>False
 |.error e=>CX outer H s E e s'
structure cA (P:Program) (w:World) (K:PySem.W.Frag) (mg:Str -> Option Value) (base:Heap) (CX:CXT) (k:Nat) (f:Addr) (fd:FuncData) (ps:List Str) (sp:Sp):Prop where
 len:∀ vs H Q E,sp vs H Q E -> vs.length=ps.length
 run:∀ (A:Around) (outer:List Env) (s:Shared) (H:Hp) (args:Args) (us:List Value) (vs:List V) (Q:VK) (E:XK),gY k A -> zr P w K mg base A outer s H -> BindsTo s fd args (ps.zip us) -> Vals vs us -> sp vs H Q E ->
  codeAny (model P w) A (.call (.ref f) args) (CR CX outer P w H s Q E) s
theorem cA.mono {P:Program} {w:World} {K:PySem.W.Frag} {mg:Str -> Option Value} {base:Heap} {CX:CXT} {j k:Nat} {f:Addr} {fd:FuncData} {ps:List Str} {sp:Sp} (F:cA P w K mg base CX j f fd ps sp) (h:j <= k):
  cA P w K mg base CX k f fd ps sp:=⟨F.len,fun A outer s H args us vs Q E hr=>F.run A outer s H args us vs Q E (hr.mono h)⟩
theorem cA.imp {P:Program} {w:World} {K:PySem.W.Frag} {mg:Str -> Option Value} {base:Heap} {CX:CXT} {k:Nat} {f:Addr} {fd:FuncData} {ps:List Str} {sp sp':Sp} (F:cA P w K mg base CX k f fd ps sp)
  (h:∀ vs H Q E,sp' vs H Q E -> sp vs H Q E):cA P w K mg base CX k f fd ps sp':=
 ⟨fun vs H Q E q=>F.len vs H Q E (h _ _ _ _ q),fun A outer s H args us vs Q E hr he hb hv hs=>F.run A outer s H args us vs Q E hr he hb hv (h _ _ _ _ hs)⟩
theorem zr.make {P:Program} {w:World} {K:PySem.W.Frag} {mg:Str -> Option Value} {base:Heap} {A:Around} {outer:List Env} {s:Shared} {H:Hp} (e:zr P w K mg base A outer s H) (C:Addr) (us:List Value) (kw:List (Str×Value)):
  zr P w K mg base (A.under (.builtin "type.__call__" ⟨.ref C ::us,kw⟩)) outer s H:=⟨by first|exact e.frames|(simpa [Around.under,Code.envs,Code.isFrame,pushEnvs] using e.frames),e.mod,e.bs,e.bsz,e.vg,e.frf,e.hok,e.bare⟩
section
variable {X:Cx} {pins:List (Addr×Obj)} {σ:St} {H:Hp} {s s':Shared}
theorem Inv.JC (I:Inv X pins σ H s):zr X.prog X.w X.K X.mg X.base X.A X.stack s H:=
 ⟨I.ok.frames,I.ok.mod,I.bs,Nat.le_trans I.ok.bsz I.sz,I.stack,I.wz,I.hok,I.bare⟩
theorem Inv.after {Q:VK} {u:Value} (I:Inv X pins σ H s) (h:CE X.stack X.prog X.w H s Q u s'):EP X pins σ Q u s':=by
 obtain ⟨v,H',os,bare,un,hok,r,q⟩:=h
 obtain ⟨hh,g,d,t,os'⟩:=s'
 obtain rfl:os'=s.os:=os
 exact ⟨v,H',I.call (h':=hh) (g':=g) (d':=d) (t':=t) (ch:=[]) un hok bare (fun b z=>absurd z (by simp)),r,q⟩
end
noncomputable def Cp (C:Addr) (sp:Sp) (dvs:List V) (E:XK) (t:TA):TE:=fun σ H Q=>t σ H fun vs H1=>∀ x dx,H1 x=none -> H1 dx=none -> dx≠x ->
 sp (.ref x ::(vs++dvs)) (upd (upd H1 dx (.own x)) x (.ins C dx [])) (fun v H2=>v=.non /\ Q (.ref x) H2) E
noncomputable def Binds (K:PySem.W.Frag) (fd:FuncData) (ps:List Str) (ds:List Value):Prop:=
 ∀ (s:Shared) (us:List Value),K.In s.heap -> (us++ds).length=ps.length -> BindsTo s fd ⟨us,[]⟩ (ps.zip (us++ds))
theorem Binds.all {K:PySem.W.Frag} {fd:FuncData} {ps:List Str} (h:∀ us:List Value,us.length=ps.length -> bindArgs fd ⟨us,[]⟩=pure (ps.zip us)):Binds K fd ps []:=fun s us _ hl=>by
 rw [List.append_nil] at hl ⊢
 exact .of_eq (h us hl)
noncomputable def Passes (CX:CXT) (X:Cx) (E:XK):Prop:=∀ (pins:List (Addr×Obj)) (σ:St) (H:Hp) (s:Shared) (e:Value) (s':Shared),Inv X pins σ H s -> CX X.stack H s E e s' -> X.xe e s'
section
variable {X:Cx} {CX:CXT} {k:Nat} {f C:Addr} {fd:FuncData} {ps:List Str} {sp:Sp} {dvs:List V} {ds:List Value} {E:XK} {x m:Str} {p pos apos:Pos} {e o:Expr} {es:List Expr} {ta:TE} {t:TA}
structure Mk (K:PySem.W.Frag) (C f:Addr):Prop where
 makes:PySem.W.makesIn K C=true
 init:PySem.W.findIn K (.ref C) "__init__" = some (some (.ref f))
 fn:PySem.W.isFn K (.ref f)=true
 kp:PySem.W.keepIn K (.ref C)=true
theorem DS {pins:List (Addr×Obj)} {σ:St} {H:Hp} {s:Shared} {Q:VK} {us:List Value} {vs:List V} (M:Mk X.K C f) (F:cA X.prog X.w X.K X.mg X.base CX k f fd ps sp) (hr:gY (k+1) X.A) (hb:Binds X.K fd ps ds) (hd:Vals dvs ds)
  (hx:Passes CX X E) (I:Inv X pins σ H s) (r:Vals vs us)
  (h:∀ x dx,H x=none -> H dx=none -> dx≠x -> sp (.ref x ::(vs++dvs)) (upd (upd H dx (.own x)) x (.ins C dx [])) (fun v H2=>v=.non /\ Q (.ref x) H2) E):
  wpAny (model X.prog X.w) X.A (call (.ref C) us) (EP X pins σ Q) X.xe s:=by
 have hq:=h (s.heap.objs.size+1) s.heap.objs.size (I.hok.fresh (Nat.le_succ _)) (I.hok.fresh (Nat.le_refl _)) (Nat.ne_of_lt (Nat.lt_succ_self _))
 have I2:=Inv.made (C:=C) I
 have r2:Vals (V.ref (s.heap.objs.size+1) ::(vs++dvs)) (Value.ref (s.heap.objs.size+1) ::(us++ds)):=.cons rfl (r.append hd)
 have hl:(Value.ref (s.heap.objs.size+1) ::us++ds).length=ps.length:=by
  have e:=r2.length
  rw [F.len _ _ _ _ hq] at e
  exact e.symm
 refine wpAny_call (CT (f:=f) I.kIn M.makes M.init (beq_iff_eq.mp M.fn) (codeAny_mono (F.run _ X.stack _ _ ⟨Value.ref (s.heap.objs.size+1) ::us,[]⟩ (Value.ref (s.heap.objs.size+1) ::(us++ds)) _ _ E (hr.make C us [])
  (I2.JC.make C us []) (hb _ (Value.ref (s.heap.objs.size+1) ::us) I2.kIn hl) r2 hq) fun r s' hq'=>?_))
 cases r with
 |error e=>exact hx pins σ _ _ e s' I2 hq'
 | ok fl=>
   cases fl with
   | ret u=>
     obtain ⟨v,H',I3,rv,ev,q3⟩:=I2.after hq'
     subst ev
     exact ⟨rv,⟨V.ref (s.heap.objs.size+1),H',I3,rfl,q3⟩⟩
   |next=>exact False.elim hq'
   |brk=>exact False.elim hq'
   |cont=>exact False.elim hq'
theorem Cm (M:Mk X.K C f) (F:cA X.prog X.w X.K X.mg X.base CX k f fd ps sp) (hr:gY (k+1) X.A) (hg:Gl X x) (hm:X.mg x=some (.ref C)) (hb:Binds X.K fd ps ds) (hd:Vals dvs ds) (hx:Passes CX X E)
  (hdb:(x==("__debug__":Str))=false:=by decide):PE X (.Call (.Name x p) [] [] pos) (Cp C sp dvs E kU):=by
 intro pins s σ H Q I h
 refine wpAny_Call_Name_kw (tY I hg hm ?_ hdb)
 exact PySem.W.callWith_K0 I.kIn M.kp (DS (us:=[]) M F hr hb hd hx I .nil h)
end
structure aY (N P:List Str) (sc:Scope):Prop where
 kind:sc.kind=.function
 co:sc.isCoroutine=false
 gen:sc.isGenerator=false
 nd:N.Nodup
 pre:N.take P.length=P
 par:∀ x∈P,sc.names.lookup x=some .local \/ sc.names.lookup x=some .cell
 nofree:∀ y∈sc.names,y.2≠.free
theorem vG {kindOf:Str -> Option NameKind} {x:Str}:∀ {binds:List (Str×Value)} {m:Str -> Option Value},(∀ v,(x,v)∉binds) -> bindL kindOf binds m x=m x
 |[],_,_=>rfl
 | (n,v) ::r,m,h=>by
   unfold bindL
   rw [vG fun w hw=>h w (List.mem_cons_of_mem _ hw)]
   split
   . have:x≠n:=by rintro rfl; exact h v List.mem_cons_self
     simp [this]
   . rfl
theorem vU {kindOf:Str -> Option NameKind} {x:Str}:∀ {binds:List (Str×Value)} {m:Str -> Option Value},(∀ v,(x,v)∉binds) -> bindC kindOf binds m x=m x
 |[],_,_=>rfl
 | (n,v) ::r,m,h=>by
   unfold bindC
   rw [vU fun w hw=>h w (List.mem_cons_of_mem _ hw)]
   split
   . rfl
   . have:x≠n:=by rintro rfl; exact h v List.mem_cons_self
     simp [this]
theorem vz {kindOf:Str -> Option NameKind} {x:Str} {v:Value}:∀ {P:List Str} {vs:List Value} {i:Nat} {m:Str -> Option Value},P.Nodup -> P[i]?=some x -> vs[i]?=some v -> kindOf x=some .local ->
  bindL kindOf (P.zip vs) m x=some v
 |[],_,_,_,_,h,_,_=>by simp at h
 |_ ::_,[],_,_,_,_,h,_=>by simp at h
 | p ::P,w ::vs,0,m,nd,h1,h2,hk=>by
   simp at h1 h2; subst h1; subst h2
   show bindL kindOf ((p,w) ::P.zip vs) m p=_
   unfold bindL
   rw [vG fun v hv=>(List.nodup_cons.mp nd).1 (List.of_mem_zip hv).1,if_pos hk]
   simp
 | p ::P,w ::vs,i+1,m,nd,h1,h2,hk=>by
   show bindL kindOf ((p,w) ::P.zip vs) m x=_
   unfold bindL
   exact vz (i:=i) (List.nodup_cons.mp nd).2 (by simpa using h1) (by simpa using h2) hk
theorem vR {kindOf:Str -> Option NameKind} {x:Str} {v:Value}:∀ {P:List Str} {vs:List Value} {i:Nat} {m:Str -> Option Value},P.Nodup -> P[i]?=some x -> vs[i]?=some v -> kindOf x≠some .local ->
  bindC kindOf (P.zip vs) m x=some v
 |[],_,_,_,_,h,_,_=>by simp at h
 |_ ::_,[],_,_,_,_,h,_=>by simp at h
 | p ::P,w ::vs,0,m,nd,h1,h2,hk=>by
   simp at h1 h2; subst h1; subst h2
   show bindC kindOf ((p,w) ::P.zip vs) m p=_
   unfold bindC
   rw [vU fun v hv=>(List.nodup_cons.mp nd).1 (List.of_mem_zip hv).1,if_neg hk]
   simp
 | p ::P,w ::vs,i+1,m,nd,h1,h2,hk=>by
   show bindC kindOf ((p,w) ::P.zip vs) m x=_
   unfold bindC
   exact vR (i:=i) (List.nodup_cons.mp nd).2 (by simpa using h1) (by simpa using h2) hk
noncomputable def start (N:List Str) (vs:List V):St:=vs.map some++List.replicate (N.length - vs.length) none
noncomputable def rR (CX:CXT) (P:Program) (w:World) (K:PySem.W.Frag) (mg:Str -> Option Value) (base:Heap) (N:List Str) (qual:Str) (scope:Scope) (f:Addr) (cd:Value) (A:Around) (outer:List Env) (s:Shared) (H:Hp) (E:XK):Cx where
 prog:=P
 w:=w
 K:=K
 mg:=mg
 base:=base
 A:=A.deeper (envOfC qual scope s.heap.objs.size f cd)
 N:=N
 s₀:=s
 H₀:=H
 env:=envOfC qual scope s.heap.objs.size f cd
 outer:=outer
 stack:=envOfC qual scope s.heap.objs.size f cd ::outer
 ex:=[]
 calm:=true
 fn:=fun _=>true
 pn:=[]
 xe:=fun e s'=>wpAny (model P w) (A.deeper (envOfC qual scope s.heap.objs.size f cd)) (leaving (envOfC qual scope s.heap.objs.size f cd) e) (fun _ s''=>CX outer H s E e s'') (fun e' s''=>CX outer H s E e' s'') s'
theorem xD {sc:Scope} {n:Nat} {x:Str} (h:sc.names.lookup x=some .cell):∃ c,(cellsFrom n sc.names []).lookup x=some c:=by
 have q:=PySem.W.cellsFrom_some sc.names n [] (.inl h)
 exact Option.isSome_iff_exists.mp q
theorem B3 {CX:CXT} {P:Program} {w:World} {K:PySem.W.Frag} {mg:Str -> Option Value} {base:Heap} {N ps:List Str} {qual:Str} {scope:Scope} {f:Addr} {cd:Value} {A:Around} {outer:List Env} {s s1:Shared} {H:Hp} {E:XK} {us:List Value} {vs:List V}
  (S:aY N ps scope) (hd:A.handled=none) (e0:zr P w K mg base A outer s H) (hl:vs.length=ps.length) (r:Vals vs us)
  (x:InCallC s s.heap.objs.size (bindL (envOfC qual scope s.heap.objs.size f cd).kindOf (ps.zip us) fun _=>none) (cellsFrom (s.heap.objs.size+1) scope.names []) (bindC (envOfC qual scope s.heap.objs.size f cd).kindOf (ps.zip us) fun _=>none) s1):
  Inv (rR CX P w K mg base N qual scope f cd A outer s H E) [] (start N vs) H s1:=by
 have hpl:ps.length <= N.length:=by have:=congrArg List.length S.pre; rw [List.length_take] at this; omega
 obtain ⟨h1,tk,rfl,hk⟩:=x.done
 have noA:∀ b:Addr,b∉(rR CX P w K mg base N qual scope f cd A outer s H E).ex:=fun b z=>absurd (show b∈([]:List Addr) from z) (by simp)
 refine ⟨⟨e0.mod,S.kind,rfl,rfl,Nat.le_refl _,fun y z c h1 h2=>?_,fun y hy=>?_,fun y c _ h=>?_,fun _=>hd,Around.frames_deeper e0.frames,.inr ⟨rfl,rfl⟩,fun b z=>absurd z (noA b),e0.bs,e0.bsz,fun b _ _=>noA b,fun b z=>absurd z (noA b),e0.vg,e0.frf⟩,
  rfl,e0.bare,Un.kept hk,⟨_,x.toInCall.ns,fun i y v h1 h2 h3=>?_⟩,fun y c h=>⟨_,x.cell y c h⟩,e0.hok.fresh (Nat.le_refl _),fun y c h=>?_,fun p hp=>absurd (show p∈([]:List (Addr×Obj)) from hp) (by simp),e0.hok.kept hk,?_⟩
 . exact name_of_addr x.apart (PySem.mem_of_lookup h1) (PySem.mem_of_lookup h2)
 . have hy:scope.names.lookup y=some .cell \/ scope.names.lookup y=some .free:=hy
   rcases hy with hy|hy
   . exact xD hy
   . exact absurd rfl (S.nofree _ (PySem.mem_of_lookup hy))
 . exact Nat.le_of_lt (x.above y c (PySem.mem_of_lookup h))
 . have hi:i < vs.length:=by
    unfold start at h2
    by_cases hi:i<vs.length
    . exact hi
    . rw [List.getElem?_append_right (by simpa using hi)] at h2
      rw [List.getElem?_replicate] at h2
      split at h2<;>cases h2
   have ha:vs[i]?=some v:=by
    unfold start at h2
    rw [List.getElem?_append_left (by simpa using hi),List.getElem?_map] at h2
    cases e:vs[i]? with
    |none=>rw [e] at h2; cases h2
    |some a=>rw [e] at h2; cases h2; rfl
   obtain ⟨u,hu,rv⟩:=r.get ha
   have hp:ps[i]?=some y:=by
    rw [<- S.pre,List.getElem?_take_of_lt (by omega)]; exact h1
   have ndP:ps.Nodup:=by rw [<- S.pre]; exact S.nd.sublist (List.take_sublist _ _)
   refine ⟨u,rv,?_⟩
   rcases S.par y (List.mem_of_getElem? hp) with k|k
   . exact .inl ⟨k,vz ndP hp hu k⟩
   . obtain ⟨c,e⟩:=xD (n:=s.heap.objs.size+1) k
     refine .inr ⟨.inl k,c,e,?_⟩
     have q:=x.cell y c e
     rw [vR ndP hp hu (by show scope.names.lookup y≠_; rw [k]; decide)] at q
     exact q
 . exact e0.hok.fresh (Nat.le_of_lt (x.above y c (PySem.mem_of_lookup h)))
 . unfold start
   show _=N.length
   rw [List.length_append,List.length_map,List.length_replicate]
   omega
theorem Ju {CX:CXT} {P:Program} {w:World} {K:PySem.W.Frag} {mg:Str -> Option Value} {base:Heap} {k:Nat} {f:Addr} {name qual:Str} {params:Arguments} {body:List Stmt} {scope:Scope} {dV kV doc pm cdv ct oc:Value} {an od:Option Addr}
  {osl:Array (Option Value)} {N ps:List Str} {sp:Sp} (lk:K.lookup f=some ⟨oc,od,.func (PySem.W.fnOf name qual params body scope dV kV doc pm an cdv ct),osl⟩) (hcd:PySem.W.codeIn K cdv qual=true) (S:aY N ps scope)
  (len:∀ vs H Q E,sp vs H Q E -> vs.length=ps.length)
  (hbody:∀ (A:Around) (outer:List Env) (s:Shared) (H:Hp) (vs:List V) (Q:VK) (E:XK),gY k (A.deeper (envOfC qual scope s.heap.objs.size f cdv)) -> sp vs H Q E ->
    ∃ t,PSs (rR CX P w K mg base N qual scope f cdv A outer s H E) body t /\ t { nx:=fun _ H'=>Q .non H',rt:=Q } (start N vs) H):
  cA P w K mg base CX (k+1) f (PySem.W.fnOf name qual params body scope dV kV doc pm an cdv ct) ps sp:=by
 refine ⟨len,fun A outer s H args us vs Q E hr e0 hb r hsp=>?_⟩
 have hl:=len _ _ _ _ hsp
 have KX:K.In s.heap:=e0.mod.kin.keeps fun b o e=>(e0.bs b o e).1
 have lim:s.heap.NoLimit:=e0.mod.nolimit.keeps fun b o e=>(e0.bs b o e).1
 have hkind:∀ y∈ps.zip us,scope.names.lookup y.1=some .local \/ (scope.names.lookup y.1=some .cell /\ ((cellsFrom (s.heap.objs.size+1) scope.names []).lookup y.1).isSome=true):=fun ⟨n,v⟩ hy=>by
  rcases S.par n (List.of_mem_zip hy).1 with q|q
  . exact .inl q
  . exact .inr ⟨q,PySem.W.cellsFrom_some _ _ _ (.inl q)⟩
 refine codeAny_call_function hr.depth (KX _ _ lk) rfl S.co S.gen rfl (PySem.W.codeRec_of KX hcd) (hb _ _ _ _ ?_)
 refine wpAny_newFunctionEnv_cells S.kind hkind fun env he s1 x=>?_
 subst he
 refine ⟨lim.keeps x.toInCall.keep,codeAny_func ?_⟩
 obtain ⟨t,ht,hq⟩:=hbody A outer s H vs Q E (hr.deeper _) hsp
 have I:Inv (rR CX P w K mg base N qual scope f cdv A outer s H E) [] (start N vs) H s1:=B3 S hr.hd e0 hl r x
 refine wpAny_mono (ht [] s1 (start N vs) H _ I hq) (fun fl s' hs=>?_) fun e s' hs=>hs
 have fin:∀ {σ':St} {H':Hp} {v:V} {u:Value},Inv (rR CX P w K mg base N qual scope f cdv A outer s H E) [] σ' H' s' -> RelV v u -> Q v H' -> CE outer P w H s Q u s':=
  fun {σ' H' v u} J rv q=>⟨v,H',J.os,J.bare,J.base,J.hok,rv,q⟩
 cases fl with
 | ret u=>
   obtain ⟨v,σ',H',J,rv,q⟩:=hs
   exact fin J rv q
 | next=>
   obtain ⟨σ',H',J,q⟩:=hs
   exact fin (v:=V.non) (u:=Value.none) J rfl q
 | brk=>
   obtain ⟨_,_,_,q⟩:=hs
   exact False.elim q
 | cont=>
   obtain ⟨_,_,_,q⟩:=hs
   exact False.elim q
section
variable {X:Cx} {x:Str} {p pos:Pos} {e:Expr} {es:List Expr} {t:TA} {id T:String} {r:List V -> Hp -> VK -> Prop}
noncomputable def tCB (r:List V -> Hp -> VK -> Prop) (t:TA):TE:=fun σ H Q=>t σ H fun vs H1=>r vs H1 Q
theorem Ed (hc:nU X (.builtin id) r) (hg:Gl X x) (hm:X.mg x=none) (hv:bootBuiltins x=some (.builtin id)) (ha:PA X (e ::es) t) (hn:x ≠ "__name__":=by decide) (hdb:(x==("__debug__":Str))=false:=by decide)
  (he:starEach (e ::es) X.env=(false,eval e X.env) ::starEach es X.env:=by rfl) (hpl:(backTo pos (starEach es X.env)).any (·.1)=false:=by rfl):PE X (.Call (.Name x p) (e ::es) [] pos) (tCB r t):=by
 intro pins s σ H Q I h
 refine wpAny_Call_Name_kw (uX I hg hm hv ?_ hn hdb)
 exact PyProof.Rows.callWith_builtin1 (thn (ha pos pins s σ H _ I h) fun us s1 ⟨vs,H1,I1,r1,q1⟩=>hc pins s1 σ H1 vs us Q I1 r1 q1) he hpl
theorem BF (hc:nU X (.type T) r) (hg:Gl X x) (hm:X.mg x=none) (hv:bootBuiltins x=some (.type T)) (ha:PA X (e ::es) t) (hn:x ≠ "__name__":=by decide) (hdb:(x==("__debug__":Str))=false:=by decide)
  (he:starEach (e ::es) X.env=(false,eval e X.env) ::starEach es X.env:=by rfl) (hpl:(backTo pos (starEach es X.env)).any (·.1)=false:=by rfl):PE X (.Call (.Name x p) (e ::es) [] pos) (tCB r t):=by
 intro pins s σ H Q I h
 refine wpAny_Call_Name_kw (uX I hg hm hv ?_ hn hdb)
 exact PyProof.Rows.callWith_type1 (thn (ha pos pins s σ H _ I h) fun us s1 ⟨vs,H1,I1,r1,q1⟩=>hc pins s1 σ H1 vs us Q I1 r1 q1) he hpl
end
end L2
namespace HT
open PySem PyProof.Rows
section
open PySem.SeqAt
open PySem.AutoSeq1 (wpAny_loadPart')
open PySem.MeetsSeq PySem.MeetsSeq2 PySem.MeetsSeq3
end
section
variable {prog:Program} {w:World} {A:Around} {E:Value -> Shared -> Prop} {s:Shared}
noncomputable def sIx (n d:Nat):Option Int -> Nat
 |none=>d
 |some v=>if v<0 then (v+(n:Int)).toNat else min v.toNat n
end
end HT
namespace L2
open PySem PySem.Spec PyProof.Rows
abbrev TO:=St -> Hp -> (Option Int -> Hp -> Prop) -> Prop
noncomputable def PO (X:Cx) (e:Option Expr) (t:TO):Prop:=
 ∀ (pins:List (Addr×Obj)) (s:Shared) (σ:St) (H:Hp) (Q:Option Int -> Hp -> Prop),Inv X pins σ H s -> t σ H Q ->
   wpAny (model X.prog X.w) X.A (evalPart e X.env) (fun u s'=>∃ o H',Inv X pins σ H' s' /\ IsPart u o /\ Q o H') X.xe s
noncomputable def wL:TO:=fun _ H Q=>Q none H
noncomputable def DR (t:TE):TO:=fun σ H Q=>t σ H fun x H1=>∃ i,x=.int i /\ Q (some i) H1
section
variable {X:Cx} {e:Expr} {te:TE} {lo hi:Option Expr} {tl th:TO} {pos p2:Pos}
theorem ER:PO X none wL:=by
 intro pins s σ H Q I h
 rw [evalPart_none]
 exact wpAny_pure ⟨none,H,I,.none,h⟩
theorem E9 (h:PE X e te):PO X (some e) (DR te):=by
 intro pins s σ H Q I hw
 rw [evalPart_some]
 refine thn (h pins s σ H _ I hw) fun u s1 ⟨x,H1,I1,r1,q1⟩=>?_
 obtain ⟨i,rfl,q⟩:=q1
 obtain ⟨t,rfl⟩:=r1
 exact ⟨some i,H1,I1,.int i t,q⟩
noncomputable def SlR (X:Cx) (r:V -> Option Int -> Option Int -> Hp -> VK -> Prop):Prop:=
 ∀ (pins:List (Addr×Obj)) (s:Shared) (σ:St) (H:Hp) (x:V) (v vl vu:Value) (lo hi:Option Int) (sl:Addr) (Q:VK),Inv X pins σ H s -> RelV x v -> s.heap.IsSliceOf sl vl vu .none -> IsPart vl lo -> IsPart vu hi -> r x lo hi H Q ->
   ∃ T id,typeLookup (.type T) "__getitem__" = pure (some (.builtin id)) /\ s.TypeIs v T /\ wpAny (model X.prog X.w) X.A (getItem v (.ref sl)) (EP X pins σ Q) X.xe s
noncomputable def tSl (r:V -> Option Int -> Option Int -> Hp -> VK -> Prop) (te:TE) (tl th:TO):TE:=fun σ H Q=>te σ H fun x H1=>tl σ H1 fun l H2=>th σ H2 fun u H3=>r x l u H3 Q
theorem Cd {r:V -> Option Int -> Option Int -> Hp -> VK -> Prop} (hr:SlR X r) (he:PE X e te) (hl:PO X lo tl) (hu:PO X hi th):PE X (.Subscript e (.Slice lo hi none p2) pos) (tSl r te tl th):=by
 intro pins s σ H Q I h
 refine Subscript_ (thn (he pins s σ H _ I h) fun v s1 ⟨x,H1,I1,r1,q1⟩=>?_)
 refine wpAny_Slice (thn (hl pins s1 σ H1 _ I1 q1) fun vl s2 ⟨l,H2,I2,pl,q2⟩=>thn (hu pins s2 σ H2 _ I2 q2) fun vu s3 ⟨u,H3,I3,pu,q3⟩=>?_)
 rw [evalPart_none]
 refine wpAny_pure ?_
 have I4:Inv X pins σ H3 { s3 with heap:=s3.heap.push { cls:=.type "slice",data:=.fields #[vl,vu,.none] } }:=I3.kept (t':=s3.toks) fun b ob q=>Heap.get?_push_of_some _ q
 obtain ⟨T,id,hT,ht,hg⟩:=hr pins { s3 with heap:=s3.heap.push { cls:=.type "slice",data:=.fields #[vl,vu,.none] } } σ H3 x v vl vu l u s3.heap.objs.size Q I4 r1 (Heap.IsSliceOf.new ..) pl pu q3
 show wpAny (model X.prog X.w) X.A (subscriptTail e (.Slice lo hi none p2) v (.ref s3.heap.objs.size)) (EP X pins σ Q) X.xe { s3 with heap:=s3.heap.push { cls:=.type "slice",data:=.fields #[vl,vu,.none] } }
 exact tail_any (ops:=[.ref s3.heap.objs.size,v]) ht hT hg (by with_unfolding_all rfl)
noncomputable def Bh (xs:List V) (lo hi:Option Int):List V:=(xs.drop (HT.sIx xs.length 0 lo)).take (HT.sIx xs.length xs.length hi - HT.sIx xs.length 0 lo)
theorem yb (xs:List V) (lo hi:Option Int):(Bh xs lo hi).length <= xs.length:=by
 unfold Bh
 rw [List.length_take,List.length_drop]
 omega
end
noncomputable def ixN (n:Nat) (i:Int):Option Nat:=if 0 <= i then (if i<n then some i.toNat else none) else if -(n:Int) <= i then some (i+n).toNat else none
noncomputable def atI {α:Type} (xs:List α) (i:Int):Option α:=(ixN xs.length i).bind fun j=>xs[j]?
theorem AD {n:Nat} {i:Int} {j:Nat} (h:ixN n i=some j):seqIndex? i n=some j /\ j<n /\ -(n:Int) <= i /\ i<n:=by
 unfold ixN at h
 by_cases h0:0 <= i
 . rw [if_pos h0] at h
   by_cases h1:i<n
   . rw [if_pos h1] at h
     have e:i.toNat=j:=Option.some.inj h
     exact ⟨by rw [seqIndex_of h0 h1,e],by omega,by omega,h1⟩
   . rw [if_neg h1] at h; cases h
 . rw [if_neg h0] at h
   by_cases h1:-(n:Int) <= i
   . rw [if_pos h1] at h
     have e:(i+n).toNat=j:=Option.some.inj h
     exact ⟨by rw [seqIndex_neg (by omega) h1,e],by omega,h1,by omega⟩
   . rw [if_neg h1] at h; cases h
theorem zY {α:Type} {xs:List α} {i:Int} {v:α} (h:atI xs i=some v):∃ j,seqIndex? i xs.length=some j /\ xs[j]?=some v /\ j<xs.length /\ -(xs.length:Int) <= i /\ i<xs.length:=by
 unfold atI at h
 cases e:ixN xs.length i with
 |none=>rw [e] at h; cases h
 | some j=>
   rw [e] at h
   obtain ⟨h1,h2,h3,h4⟩:=AD e
   exact ⟨j,h1,h,h2,h3,h4⟩
noncomputable def wo (b:Expr):Prop:=∀ o i,subscripted b false o i=operate [o,i] (getItem o i)
noncomputable def IxR (X:Cx) (r:R2):Prop:=
 ∀ (value slice:Expr) (pins:List (Addr×Obj)) (s:Shared) (σ:St) (H:Hp) (x y:V) (v u:Value) (Q:VK),Inv X pins σ H s -> RelV x v -> RelV y u -> r x y H Q ->
   subscripted slice false v u=operate [v,u] (getItem v u) -> wpAny (model X.prog X.w) X.A (subscriptTail value slice v u) (EP X pins σ Q) X.xe s
noncomputable def MtR (X:Cx) (id:String) (r:V -> List V -> Hp -> VK -> Prop):Prop:=
 ∀ (pins:List (Addr×Obj)) (s:Shared) (σ:St) (H:Hp) (x:V) (xs:List V) (v:Value) (us:List Value) (Q:VK),Inv X pins σ H s -> RelV x v -> Vals xs us -> r x xs H Q ->
   wpAny (model X.prog X.w) X.A (call (.builtin id) (v ::us)) (EP X pins σ Q) X.xe s
section
variable {X:Cx} {a b:Expr} {ta tb:TE} {pos:Pos}
theorem Kh {r:R2} (hr:IxR X r) (ha:PE X a ta) (hb:PE X b tb) (hs:wo b):PE X (.Subscript a b pos) (tOp r ta tb):=by
 intro pins s σ H Q I h
 exact Subscript_ (Ia ha hb I h fun v u s2 x y H2 I2 rx ry q=>hr a b pins s2 σ H2 x y v u Q I2 rx ry q (hs _ _))
noncomputable def Ei (K:PySem.W.Frag):R2:=fun x y H Q=>∃ p xs i v,x=.ref p /\ y=.int i /\ SqL K H p xs /\ atI xs i=some v /\ Q v H
noncomputable def JB (K:PySem.W.Frag):R2:=fun x y H Q=>∃ p xs i v,x=.ref p /\ y=.int i /\ SqT K H p xs /\ atI xs i=some v /\ Q v H
theorem bM:IxR X (Ei X.K):=by
 intro value slice pins s σ H x y v u Q I rx ry h hs
 obtain ⟨p,xs,i,z,rfl,rfl,hq,he,q⟩:=h
 cases rx
 obtain ⟨t,rfl⟩:=ry
 obtain ⟨its,r,pl,hz⟩:=I.list hq
 obtain ⟨j,h1,h2,h3,h4,h5⟩:=zY he
 obtain ⟨w,ew,rw'⟩:=r.get h2
 have hl:=r.length
 have hn:=uH
 have fin:EP X pins σ Q w s:=⟨z,H,I,rw',q⟩
 by_cases h0:0 <= i
 . have hj:i.toNat = j:=by
    rw [seqIndex_of h0 h5] at h1
    exact Option.some.inj h1
   exact item_listR pl.isList h0 (by omega) (by rw [hj]; simpa using ew) fin hs
 . have hj:(i + (its.toArray.size:Int)).toNat = j:=by
    rw [seqIndex_neg (by omega) h4] at h1
    rw [List.size_toArray,<- hl]
    exact Option.some.inj h1
   exact subscriptTail_builtinR (x:=w) pl.isList.typeIs slot_list_getitem.lookup
    (wpAny_getItem_list_neg (Q:=fun r s'=>r=w /\ EP X pins σ Q r s') pl.isList (by omega) (by rw [List.size_toArray]<;>omega) (by omega) (by rw [hj]; simpa using ew) ⟨rfl,fin⟩) hs
theorem gF:IxR X (JB X.K):=by
 intro value slice pins s σ H x y v u Q I rx ry h hs
 obtain ⟨p,xs,i,z,rfl,rfl,hq,he,q⟩:=h
 cases rx
 obtain ⟨t,rfl⟩:=ry
 obtain ⟨its,r,pl,hz⟩:=I.tuple hq
 obtain ⟨j,h1,h2,h3,h4,h5⟩:=zY he
 obtain ⟨w,ew,rw'⟩:=r.get h2
 have hl:=r.length
 have hn:=uH
 have fin:EP X pins σ Q w s:=⟨z,H,I,rw',q⟩
 exact subscriptTail_builtinR (x:=w) pl.typeIs slot_tuple_getitem.lookup
  (getItem_tuple (j:=j) (Q:=fun r s'=>r=w /\ EP X pins σ Q r s') pl (by omega) (by omega) (by rw [List.size_toArray,<- hl]; exact h1) (by simpa using ew) ⟨rfl,fin⟩) hs
theorem y8 (its:List Value) (n j:Nat) (u:Value):Obj.mapSeq (·.setIfInBounds j u) { cls:=.type "list",data:=.seq its.toArray n }={ cls:=.type "list",data:=.seq (its.set j u).toArray n }:=by
 simp [Obj.mapSeq]
theorem Inv.lst {pins:List (Addr×Obj)} {σ:St} {H:Hp} {s:Shared} {p:Addr} {xs:List V} (I:Inv X pins σ H s) (h:H p=some (.lst xs)):
  ∃ (its:List Value) (n:Nat),Vals xs its /\ s.heap.get? p=some { cls:=.type "list",data:=.seq its.toArray n } /\ xs.length <= sizeLine:=by
 obtain ⟨z,its,n,r,e⟩:=I.hok p _ h
 exact ⟨its,n,r,e,z⟩
theorem Inv.Hl {pins:List (Addr×Obj)} {σ:St} {H:Hp} {s:Shared} {p:Addr} {xs ys:List V} {its its':List Value} {n n':Nat} {f:Obj -> Obj} (I:Inv X pins σ H s) (h:H p=some (.lst xs))
  (ho:s.heap.get? p=some { cls:=.type "list",data:=.seq its.toArray n }) (hf:f { cls:=.type "list",data:=.seq its.toArray n }={ cls:=.type "list",data:=.seq its'.toArray n' }) (r:Vals ys its') (hz:ys.length <= sizeLine) (t:Nat):
  Inv X pins σ (upd H p (.lst ys)) { s with heap:=s.heap.update p f,toks:=t }:=by
 have e:(s.heap.update p f).get? p=some { cls:=.type "list",data:=.seq its'.toArray n' }:=by
  rw [Heap.get?_update_self f ho (by rw [hf]<;>rfl),hf]
 refine I.write (x:=p) (e:=p) (by rw [h]; trivial) (.inl rfl) (fun b u hb q=>(Heap.get?_update_other _ _ (Ne.symm hb)).trans q) ⟨_,e⟩ ?_
 exact ⟨hz,its',n',r,e⟩
noncomputable def Gz:V -> V -> V -> Hp -> (Hp -> Prop) -> Prop:=fun o i v H Q=>∃ p xs k j,o=.ref p /\ i=.int k /\ H p=some (.lst xs) /\ ixN xs.length k=some j /\ Q (upd H p (.lst (xs.set j v)))
theorem set_list:IE X Gz:=by
 intro pins s σ H o i v ov iv u Q I ro ri rv h
 obtain ⟨p,xs,k,j,rfl,rfl,hp,hj,q⟩:=h
 cases ro
 obtain ⟨t,rfl⟩:=ri
 obtain ⟨its,n,r,ho,hz⟩:=I.lst hp
 obtain ⟨h1,h2,h3,h4⟩:=AD hj
 have hl:=r.length
 have hn:=uH
 have I':Inv X pins σ (upd H p (.lst (xs.set j v))) { s with heap:=s.heap.update p (Obj.mapSeq (·.setIfInBounds j u)) }:=
  I.Hl hp ho (y8 its n j u) (r.set rv j) (by rw [List.length_set]; exact hz) s.toks
 by_cases h0:0 <= k
 . have hk:k.toNat = j:=by
    rw [seqIndex_of h0 h4] at h1
    exact Option.some.inj h1
   exact PySem.W.ki_setAt ho h0 (by omega) (by rw [List.size_toArray,<- hl]; exact h4) (by rw [hk]; exact ⟨_,I',q⟩)
 . have hk:(k + (its.toArray.size:Int)).toNat = j:=by
    rw [seqIndex_neg (by omega) h3] at h1
    rw [List.size_toArray,<- hl]
    exact Option.some.inj h1
   exact PySem.W.ki_setBack ho (by omega) (by rw [List.size_toArray,<- hl]; exact h3) (by omega) (by rw [hk]; exact ⟨_,I',q⟩)
theorem wB (lo hi:Option Int) (n:Nat):(sliceBounds lo hi none n).1=((HT.sIx n 0 lo:Nat):Int) /\ (sliceBounds lo hi none n).2.1=((HT.sIx n n hi:Nat):Int) /\ (sliceBounds lo hi none n).2.2=1:=by
 refine ⟨?_,?_,rfl⟩
 . cases lo with
   |none=>simp [sliceBounds,HT.sIx]
   | some i=>
     simp only [sliceBounds,HT.sIx,Option.getD_none,show (1:Int)>0 by decide,if_true]
     by_cases h:i<0
     . simp only [h,if_true]<;>omega
     . simp only [h,if_false]<;>omega
 . cases hi with
   |none=>simp [sliceBounds,HT.sIx]
   | some i=>
     simp only [sliceBounds,HT.sIx,Option.getD_none,show (1:Int)>0 by decide,if_true]
     by_cases h:i<0
     . simp only [h,if_true]<;>omega
     . simp only [h,if_false]<;>omega
theorem vf (its:List Value) (lo hi:Option Int):slicePick its.toArray lo hi none=((its.drop (HT.sIx its.length 0 lo)).take (HT.sIx its.length its.length hi - HT.sIx its.length 0 lo)).toArray:=by
 obtain ⟨h1,h2,h3⟩:=wB lo hi its.toArray.size
 unfold slicePick
 rw [h1,h2,h3]
 simp only [sliceRange_one,pick_run,List.size_toArray]<;>rfl
noncomputable def JZ (K:PySem.W.Frag):V -> Option Int -> Option Int -> Hp -> VK -> Prop:=fun x lo hi H Q=>∃ a xs,x=.ref a /\ SqL K H a xs /\ ∀ p,H p=none -> Q (.ref p) (upd H p (.lst (Bh xs lo hi)))
theorem rn:SlR X (JZ X.K):=by
 intro pins s σ H x v vl vu lo hi sl Q I rx hs pl pu h
 obtain ⟨a,xs,rfl,hx,q⟩:=h
 cases rx
 obtain ⟨its,r,ht,hz⟩:=I.list hx
 have hlen:=r.length
 refine ⟨"list",_,slot_list_getitem.lookup,ht.isList.typeIs,?_⟩
 refine wpAny_getItem_list_slice ht.isList hs pl pu .none (by simp) ?_ (by rw [List.size_toArray]<;>omega)
 rw [vf,<- hlen]
 refine ⟨.ref s.heap.objs.size,_,I.laid (t':=s.toks) (o:=.lst (Bh xs lo hi)) (fun b ob q=>Heap.get?_push_of_some _ q) (Nat.le_refl _) ?_,rfl,q _ (I.hok.fresh (Nat.le_refl _))⟩
 exact ⟨Nat.le_trans (yb xs lo hi) hz,_,0,(r.drop (HT.sIx xs.length 0 lo)).take (HT.sIx xs.length xs.length hi - HT.sIx xs.length 0 lo),Heap.get?_push_size _ rfl⟩
noncomputable def pY:V -> Bool
 |.non=>true
 |.bl _=>true
 |.int _=>true
 |.str _=>true
 |_=>false
noncomputable def eqV:V -> V -> Bool
 |.non,.non=>true
 |.bl a,.bl b=>a==b
 |.bl a,.int b=>(if a then 1 else 0)==b
 |.int a,.bl b=>a==(if b then 1 else 0)
 |.int a,.int b=>a==b
 |.str a,.str b=>a==b
 |_,_=>false
theorem G6 {A:Around} {s:Shared} {y x:V} {u v:Value} (ry:RelV y u) (rx:RelV x v) (fy:pY y=true) (fx:pY x=true):SeqAt.EqAt A s u v (eqV y x):=by
 cases y with
 | non=>
   cases ry
   cases x with
   |non=>cases rx; exact SeqAt.EqAt.same _
   |bl b=>cases rx; exact SeqAt.EqAt.none_bool b
   |int b=>obtain ⟨t,rfl⟩:=rx; exact SeqAt.EqAt.none_int b t
   |str b=>obtain ⟨t,rfl⟩:=rx; exact SeqAt.EqAt.none_str b t
   |_=>exact absurd (show false=true from fx) Bool.false_ne_true
 | bl a=>
   cases ry
   cases x with
   |non=>cases rx; exact SeqAt.EqAt.bool_none a
   |bl b=>cases rx; exact SeqAt.EqAt.bool_bool a b
   |int b=>obtain ⟨t,rfl⟩:=rx; exact SeqAt.EqAt.bool_int a b t
   |str b=>obtain ⟨t,rfl⟩:=rx; exact SeqAt.EqAt.bool_str a b t
   |_=>exact absurd (show false=true from fx) Bool.false_ne_true
 | int a=>
   obtain ⟨t',rfl⟩:=ry
   cases x with
   |non=>cases rx; exact SeqAt.EqAt.int_none a t'
   |bl b=>cases rx; exact SeqAt.EqAt.int_bool a t' b
   |int b=>obtain ⟨t,rfl⟩:=rx; exact SeqAt.EqAt.int_int a t' b t
   |str b=>obtain ⟨t,rfl⟩:=rx; exact SeqAt.EqAt.int_str a t' b t
   |_=>exact absurd (show false=true from fx) Bool.false_ne_true
 | str a=>
   obtain ⟨t',rfl⟩:=ry
   cases x with
   |non=>cases rx; exact SeqAt.EqAt.str_none a t'
   |bl b=>cases rx; exact SeqAt.EqAt.str_bool a t' b
   |int b=>obtain ⟨t,rfl⟩:=rx; exact SeqAt.EqAt.str_int a t' b t
   |str b=>obtain ⟨t,rfl⟩:=rx; exact SeqAt.EqAt.str_str a t' b t
   |_=>exact absurd (show false=true from fx) Bool.false_ne_true
 |_=>exact absurd (show false=true from fy) Bool.false_ne_true
noncomputable def eqU (x:V) (u:Value):Bool:=match u with
 |.none=>eqV .non x
 |.bool b=>eqV (.bl b) x
 |.int i _=>eqV (.int i) x
 |.str z _=>eqV (.str z) x
 |_=>false
theorem Ck {x y:V} {u:Value} (r:RelV y u) (f:pY y=true):eqU x u=eqV y x:=by
 cases y with
 |non=>cases r; rfl
 |bl b=>cases r; rfl
 |int i=>obtain ⟨t,rfl⟩:=r; rfl
 |str z=>obtain ⟨t,rfl⟩:=r; rfl
 |_=>exact absurd (show false=true from f) Bool.false_ne_true
theorem rb {x:V}:∀ {xs:List V} {us:List Value},Vals xs us -> xs.all pY=true -> us.any (eqU x)=xs.any fun y=>eqV y x
 |_,_,.nil,_=>rfl
 | y ::xs,u ::us,.cons r t,f=>by
   rw [List.all_cons,Bool.and_eq_true] at f
   rw [List.any_cons,List.any_cons,Ck r f.1,rb t f.2]
theorem oR {A:Around} {s:Shared} {x:V} {v:Value} (rx:RelV x v) (fx:pY x=true):∀ {xs:List V} {us:List Value},Vals xs us -> xs.all pY=true -> ∀ u∈us,SeqAt.EqAt A s u v (eqU x u)
 |_,_,.nil,_=>fun u hu=>by cases hu
 | y ::xs,u ::us,.cons r t,f=>fun u' hu=>by
   rw [List.all_cons,Bool.and_eq_true] at f
   rcases List.mem_cons.mp hu with rfl|hu
   . rw [Ck r f.1]; exact G6 r rx f.1 fx
   . exact oR rx fx t f.2 u' hu
noncomputable def inV (x:V) (xs:List V):Bool:=xs.any fun y=>eqV y x
noncomputable def rIn (K:PySem.W.Frag) (neg:Bool):R2:=fun x y H Q=>∃ p xs,y=.ref p /\ (SqL K H p xs \/ SqT K H p xs) /\ pY x=true /\ xs.all pY=true /\ Q (.bl (if neg then !inV x xs else inV x xs)) H
theorem BZ:OpR X (compareOp .In) (rIn X.K false):=by
 intro pins s σ H x y v u Q I rx ry h
 obtain ⟨p,xs,rfl,hq,fx,fs,q⟩:=h
 cases ry
 rcases hq with hq|hq
 . obtain ⟨its,r,pl,hz⟩:=I.list hq
   refine SeqAt.in_listAt (eqU x) pl.isList (fun w hw=>oR rx fx r fs w (by simpa using hw)) ⟨.bl _,H,I,rfl,?_⟩
   rw [show its.toArray.any (eqU x)=its.any (eqU x) by simp,rb r fs]
   exact q
 . obtain ⟨its,r,pl,hz⟩:=I.tuple hq
   refine SeqAt.in_tupleAt (eqU x) pl (fun w hw=>oR rx fx r fs w (by simpa using hw)) ⟨.bl _,H,I,rfl,?_⟩
   rw [show its.toArray.any (eqU x)=its.any (eqU x) by simp,rb r fs]
   exact q
theorem wx:OpR X (compareOp .NotIn) (rIn X.K true):=by
 intro pins s σ H x y v u Q I rx ry h
 obtain ⟨p,xs,rfl,hq,fx,fs,q⟩:=h
 cases ry
 rcases hq with hq|hq
 . obtain ⟨its,r,pl,hz⟩:=I.list hq
   refine SeqAt.notIn_listAt (eqU x) pl.isList (fun w hw=>oR rx fx r fs w (by simpa using hw)) ⟨.bl _,H,I,rfl,?_⟩
   rw [show its.toArray.any (eqU x)=its.any (eqU x) by simp,rb r fs]
   exact q
 . obtain ⟨its,r,pl,hz⟩:=I.tuple hq
   refine SeqAt.notIn_tupleAt (eqU x) pl (fun w hw=>oR rx fx r fs w (by simpa using hw)) ⟨.bl _,H,I,rfl,?_⟩
   rw [show its.toArray.any (eqU x)=its.any (eqU x) by simp,rb r fs]
   exact q
theorem wN:nU X (.builtin "len") (fun xs H Q=>∃ p ys,xs=[.ref p] /\ (SqL X.K H p ys \/ SqT X.K H p ys) /\ Q (.int ys.length) H):=by
 intro pins s σ H xs us Q I r h
 obtain ⟨p,ys,rfl,hq,q⟩:=h
 obtain ⟨u,rfl,rx⟩:=vals1 r
 cases rx
 have hn:=uH
 rcases hq with hq|hq
 . obtain ⟨its,r',pl,hz⟩:=I.list hq
   have hlen:=r'.length
   exact Calls.call_len_list pl.isList (by simp only [List.size_toArray]<;>omega) ⟨.int ys.length,H,I.tok _,⟨s.toks+1,by rw [List.size_toArray,hlen]⟩,q⟩
 . obtain ⟨its,r',pl,hz⟩:=I.tuple hq
   have hlen:=r'.length
   exact len_tuple pl (by simp only [List.size_toArray]<;>omega) ⟨.int ys.length,H,I.tok _,⟨s.toks+1,by rw [List.size_toArray,hlen]⟩,q⟩
theorem jM:nU X (.type "tuple") (fun xs H Q=>∃ p ys,xs=[.ref p] /\ ((SqL X.K H p ys /\ ∀ l,H l=none -> Q (.ref l) (upd H l (.tup ys))) \/ (SqT X.K H p ys /\ Q (.ref p) H))):=by
 intro pins s σ H xs us Q I r h
 obtain ⟨p,ys,rfl,h⟩:=h
 obtain ⟨u,rfl,rx⟩:=vals1 r
 cases rx
 rcases h with ⟨hq,q⟩|⟨hq,q⟩
 . obtain ⟨its,r',pl,hz⟩:=I.list hq
   have hlen:=r'.length
   refine call_tuple_list pl.isList (fun h' kp=>?_) (by simp only [List.size_toArray]<;>omega)
   have I1:Inv X pins σ H { s with heap:=h' }:=I.kept (t':=s.toks) kp
   have I2:Inv X pins σ (upd H h'.objs.size (.tup ys)) { s with heap:=h'.push { cls:=.type "tuple",data:=.seq its.toArray } }:=
    I1.laid (t':=s.toks) (fun b o e=>Heap.get?_push_of_some _ e) (Nat.le_refl _) (show gd X.prog X.w _ _ _ (.tup ys) from ⟨hz,its,r',IsTup.new _ _⟩)
   exact ⟨.ref h'.objs.size,_,I2,rfl,q _ (I1.hok.fresh (Nat.le_refl _))⟩
 . obtain ⟨its,r',pl,hz⟩:=I.tuple hq
   exact call_tuple_same pl ⟨.ref p,H,I,rfl,q⟩
noncomputable def tyV (K:PySem.W.Frag) (T:String) (x:V) (H:Hp):Prop:=match x with
 |.str _=>T = "str"
 |.int _=>T = "int"
 | .ref p=>(T = "list" /\ ∃ xs,SqL K H p xs) \/ (T = "tuple" /\ ∃ o,K.lookup p = some o /\ o.cls = .type "tuple" /\ o.dict = none) \/
    (T = "dict" /\ ((∃ kvs,H p=some (.dK kvs)) \/ ∃ kvs,H p=some (.dT kvs))) \/ (T = "set" /\ ∃ S n,H p=some (.set S n))
 |_=>False
theorem CL {pins:List (Addr×Obj)} {σ:St} {H:Hp} {s:Shared} {T:String} {x:V} {v:Value} (I:Inv X pins σ H s) (r:RelV x v) (ty:tyV X.K T x H):
  s.TypeIs v T /\ ∀ a,v=.ref a -> ∃ ob,s.heap.get? a=some ob /\ ob.dict=none:=by
 cases x with
 | str z=>
   obtain ⟨t,rfl⟩:=r
   cases (show T = "str" from ty)
   exact ⟨typeIs_str s z t,fun _ e=>nomatch e⟩
 | int i=>
   obtain ⟨t,rfl⟩:=r
   cases (show T = "int" from ty)
   exact ⟨typeIs_int s i t,fun _ e=>nomatch e⟩
 | ref p=>
   cases r
   rcases ty with ⟨rfl,xs,hq⟩|⟨rfl,o,hk,hc,hd⟩|⟨rfl,hk⟩|⟨rfl,S,n,hk⟩
   . obtain ⟨its,_,pl,_⟩:=I.list hq
     refine ⟨pl.isList.typeIs,fun a e=>?_⟩
     cases e
     obtain ⟨o,n,e,c,hd,_⟩:=pl
     exact ⟨o,e,hd⟩
   . refine ⟨⟨o,I.kIn p o hk,hc⟩,fun a e=>?_⟩
     cases e
     exact ⟨o,I.kIn _ o hk,hd⟩
   . have z:∃ o,s.heap.get? p = some o /\ o.ExactDict:=by
      rcases hk with ⟨kvs,hk⟩|⟨kvs,hk⟩
      . obtain ⟨_,_,_,_,o,_,_,e,ex,_⟩:=I.hok p _ hk
        exact ⟨o,e,ex⟩
      . obtain ⟨_,_,_,_,o,_,_,e,ex,_⟩:=I.hok p _ hk
        exact ⟨o,e,ex⟩
     obtain ⟨o,e,ex⟩:=z
     refine ⟨⟨o,e,ex.1⟩,fun a e2=>?_⟩
     cases e2
     exact ⟨o,e,ex.2.1⟩
   . obtain ⟨o,_,_,_,e,ex,_⟩:=I.hok p _ hk
     refine ⟨⟨o,e,ex.1⟩,fun a e2=>?_⟩
     cases e2
     exact ⟨o,e,ex.2.1⟩
 |_=>exact False.elim ty
noncomputable def HK (K:PySem.W.Frag) (T:String) (r:V -> List V -> Hp -> VK -> Prop) (to:TE):TE:=fun σ H Q=>to σ H fun x H1=>tyV K T x H1 /\ r x [] H1 Q
noncomputable def tBM (K:PySem.W.Frag) (T:String) (r:V -> List V -> Hp -> VK -> Prop) (to:TE) (t:TA):TE:=fun σ H Q=>to σ H fun x H1=>tyV K T x H1 /\ t σ H1 fun xs H2=>r x xs H2 Q
variable {o e:Expr} {es:List Expr} {to:TE} {t:TA} {name:Str} {apos cpos:Pos} {T id:String} {r:V -> List V -> Hp -> VK -> Prop}
theorem HZ (pa:PlainAttrs T) (slot:Slot T name id) (hty:typeOf (.builtin id)=pure (.type "method_descriptor")) (hm:MtR X id r) (ho:PE X o to)
  (hbase:attributeBase o name X.env (eval o X.env)=eval o X.env:=by rfl) (hline:(apos.endLine==cpos.line)=true:=by rfl):PE X (.Call (.Attribute o name apos) [] [] cpos) (HK X.K T r to):=by
 intro pins s σ H Q I h
 refine wpAny_Call_method0_late hbase hline (thn (ho pins s σ H _ I h) fun v s1 ⟨x,H1,I1,r1,ty,q1⟩=>?_)
 obtain ⟨h1,h2⟩:=CL I1 r1 ty
 exact ⟨T,id,pa,slot,hty,h1,h2,Calls.callWith_builtin rfl (PySem.evalArgs_none (hm pins s1 σ H1 x [] v [] Q I1 r1 .nil q1))⟩
theorem Jw (pa:PlainAttrs T) (slot:Slot T name id) (hty:typeOf (.builtin id)=pure (.type "method_descriptor")) (hm:MtR X id r) (ho:PE X o to) (ha:PA X (e ::es) t)
  (hbase:attributeBase o name X.env (eval o X.env)=eval o X.env:=by rfl)
  (hfew:((backTo cpos (starEach (e ::es) X.env)).all (fun x=>!x.1)&&(backToKw cpos (keywordEach [] X.env)).all (fun x=>x.1.isSome)
    && decide ((e ::es).length+([]:List Keyword).length+(if ([]:List Keyword).isEmpty then 0 else 1)<30))=true:=by rfl)
  (hline:(apos.endLine==cpos.line)=true:=by rfl) (hs:starEach (e ::es) X.env=(false,eval e X.env) ::starEach es X.env:=by rfl) (hplain:(backTo cpos (starEach es X.env)).any (·.1)=false:=by rfl):
  PE X (.Call (.Attribute o name apos) (e ::es) [] cpos) (tBM X.K T r to t):=by
 intro pins s σ H Q I h
 refine wpAny_Call_method_late hbase hfew hline rfl (thn (ho pins s σ H _ I h) fun v s1 ⟨x,H1,I1,r1,ty,q1⟩=>?_)
 obtain ⟨h1,h2⟩:=CL I1 r1 ty
 refine ⟨T,id,pa,slot,hty,h1,h2,?_⟩
 have hA:=ha cpos pins s1 σ H1 _ I1 q1
 rw [hs] at hA ⊢
 refine Calls.callWith_builtin (by show (false||(backTo cpos (starEach es X.env)).any (·.1))=false; rw [hplain]<;>rfl) (Calls.evalArgs_plain ?_)
 exact thn hA fun us s2 ⟨vs,H2,I2,r2,q2⟩=>hm pins s2 σ H2 x vs v us Q I2 r1 r2 q2
end
noncomputable def MtM (X:Cx) (id:String) (r:V -> List V -> Hp -> VK -> Prop):Prop:=
 ∀ (pins:List (Addr×Obj)) (s:Shared) (σ:St) (H:Hp) (x:V) (xs:List V) (v:Value) (us:List Value) (Q:VK),Inv X pins σ H s -> RelV x v -> Vals xs us -> r x xs H Q ->
   wpAny (model X.prog X.w) X.A (call (.builtin id) (v ::us)) (EP X pins σ Q) X.xe s
theorem Vals.one:∀ {x:V} {us:List Value},Vals [x] us -> ∃ u,us=[u] /\ RelV x u
 |_,_,.cons r .nil=>⟨_,rfl,r⟩
theorem Vals.two:∀ {x y:V} {us:List Value},Vals [x,y] us -> ∃ u v,us=[u,v] /\ RelV x u /\ RelV y v
 |_,_,_,.cons r (.cons q .nil)=>⟨_,_,rfl,r,q⟩
theorem Vals.zero:∀ {us:List Value},Vals [] us -> us=[]
 |_,.nil=>rfl
theorem Vals.dropLast {xs:List V} {us:List Value} (h:Vals xs us):Vals xs.dropLast us.dropLast:=by
 induction h with
 |nil=>exact .nil
 | cons r t ih=>
   cases t with
   |nil=>exact .nil
   |cons q t'=>exact .cons r ih
theorem Vals.eraseIdx:∀ {xs:List V} {us:List Value} (i:Nat),Vals xs us -> Vals (xs.eraseIdx i) (us.eraseIdx i)
 |_,_,_,.nil=>.nil
 |_,_,0,.cons _ t=>t
 |_,_,i+1,.cons r t=>.cons r (Vals.eraseIdx i t)
theorem zf {α:Type} (l:List α):l.eraseIdx (l.length - 1)=l.dropLast:=by
 induction l with
 |nil=>rfl
 | cons a r ih=>
   cases r with
   |nil=>rfl
   | cons b r=>
     have e:(a ::b ::r).length - 1=((b ::r).length - 1)+1:=by
      have h1:(a ::b ::r).length=r.length+2:=rfl
      have h2:(b ::r).length=r.length+1:=rfl
      omega
     rw [e,List.eraseIdx_cons_succ,ih]
     all_goals rfl
section
variable {X:Cx} {pins:List (Addr×Obj)} {σ:St} {H:Hp} {s:Shared} {l b:Addr} {xs ys zs:List V}
theorem Inv.GS {its its':List Value} {n:Nat} {f:Array Value -> Array Value} {t':Nat} (I:Inv X pins σ H s) (hH:H l=some (.lst xs))
  (e:s.heap.get? l=some { cls:=.type "list",data:=.seq its.toArray n }) (hf:f its.toArray=its'.toArray) (hv:Vals ys its') (hz:ys.length <= sizeLine):
  Inv X pins σ (upd H l (.lst ys)) { s with heap:=s.heap.update l (Obj.mapSeq f),toks:=t' }:=by
 have q:=PySem.IsL.update e f
 rw [hf] at q
 refine I.write (x:=l) (e:=l) (by rw [hH]; exact trivial) (.inl rfl) (fun b' u hb hu=>(Heap.get?_update_other s.heap (Obj.mapSeq f) (Ne.symm hb)).trans hu) ⟨_,q⟩ ?_
 exact ⟨hz,its',_,hv,q⟩
theorem Inv.C6 {its:List Value} {t':Nat} (I:Inv X pins σ H s) (hv:Vals ys its) (hz:ys.length <= sizeLine):
  Inv X pins σ (upd H s.heap.objs.size (.lst ys)) { s with heap:=s.heap.push { cls:=.type "list",data:=.seq its.toArray },toks:=t' }:=
 I.laid (fun _ _ q=>Heap.get?_push_of_some _ q) (Nat.le_refl _) ⟨hz,its,0,hv,Heap.get?_push_size _ rfl⟩
theorem Inv.fresh (I:Inv X pins σ H s):H s.heap.objs.size=none:=I.hok.fresh (Nat.le_refl _)
theorem Inv.HB (I:Inv X pins σ H s) (hH:H l=some (.lst xs)):xs.length <= sizeLine /\ ∃ (its:List Value) (n:Nat),Vals xs its /\ xs.length=its.length /\ s.heap.get? l=some { cls:=.type "list",data:=.seq its.toArray n }:=by
 obtain ⟨z,its,n,r,e⟩:=I.hok l _ hH
 exact ⟨z,its,n,r,r.length,e⟩
theorem DE {n:Nat} (h:n <= sizeLine):Builtin.List.listTooLong n=false:=by
 unfold Builtin.List.listTooLong
 exact decide_eq_false (by omega)
end
section
variable {X:Cx}
noncomputable def v9:V -> List V -> Hp -> VK -> Prop:=fun x vs H Q=>∃ l xs y,x=.ref l /\ vs=[y] /\ H l=some (.lst xs) /\ xs.length<sizeLine /\ Q .non (upd H l (.lst (xs++[y])))
theorem ck:MtM X "list.append" v9:=by
 intro pins s σ H x vs v us Q I rx rv h
 obtain ⟨l,xs,y,rfl,rfl,hH,hz,q⟩:=h
 cases rx
 obtain ⟨u,rfl,ru⟩:=rv.one
 obtain ⟨z,its,n,r,hl,e⟩:=I.HB hH
 refine call_meets F.slot_list_append ⟨_,e,rfl⟩ F.entry_list_append (F.args_list_append_2 _ _) (PySem.list_append l its.toArray n u (by rw [List.size_toArray]; omega)) ⟨e,?_⟩
 refine ⟨.non,_,I.GS (its':=its++[u]) hH e (by simp) (r.append (.cons ru .nil)) ?_,rfl,q⟩
 rw [List.length_append,List.length_singleton]
 omega
noncomputable def Ka:V -> List V -> Hp -> VK -> Prop:=fun x vs H Q=>∃ l xs y,x=.ref l /\ vs=[] /\ H l=some (.lst xs) /\ xs[xs.length - 1]?=some y /\ Q y (upd H l (.lst xs.dropLast))
theorem CH:MtM X "list.pop" Ka:=by
 intro pins s σ H x vs v us Q I rx rv h
 obtain ⟨l,xs,y,rfl,rfl,hH,hy,q⟩:=h
 cases rx
 have hus:=rv.zero
 subst hus
 obtain ⟨z,its,n,r,hl,e⟩:=I.HB hH
 obtain ⟨u,hu,ru⟩:=r.get hy
 have hy':its.toArray[its.toArray.size - 1]?=some u:=by
  show its.toArray[its.length - 1]?=some u
  rw [<- Array.getElem?_toList,<- hl]
  exact hu
 refine call_meets F.slot_list_pop ⟨_,e,rfl⟩ F.entry_list_pop (F.args_list_pop_1 _) (MeetsSeq.list_pop_last l its.toArray n u hy' (by rw [List.size_toArray]; omega)) ⟨e,?_⟩
 refine ⟨y,_,I.GS (its':=its.dropLast) hH e ?_ r.dropLast ?_,ru,q⟩
 . show its.toArray.eraseIdxIfInBounds (its.toArray.size - 1)=its.dropLast.toArray
   rw [List.size_toArray,List.eraseIdxIfInBounds_toArray,zf]
 . rw [List.length_dropLast]
   omega
end
section
variable {prog:Program} {w:World} {A:Around} {E:Value -> Shared -> Prop} {s:Shared}
set_option maxRecDepth 100000 in
end
end L2
namespace Att
open PySem PySem.W PySem.Calls PyProof.Rows
theorem tK {P:Params} {h:Heap}:∀ (ns:List Int) (vs:List Value),WellAll P h vs (ns.map WData.int) -> IntsAre vs ns:=by
 intro ns
 induction ns with
 | nil=>
   intro vs w
   rw [List.map_nil] at w
   cases w
   exact .nil
 | cons n ns ih=>
   intro vs w
   rw [List.map_cons] at w
   cases w with
   | cons a b=>
     cases a
     exact .cons _ _ (ih _ b)
theorem B0 {l:OpenLaw} {n:Nat} (hn:l.most=some n) {P:Params} {h:Heap} {args:List WData} {vals:List Value}
  (hpre:l.row.toRowW.claim.pre args=true) (hwl:WellAll P h vals args):
  ∃ a vs ns,vals=[Value.ref a] /\ args=[WData.list (ns.map WData.int)] /\ h.get? a=some { cls:=.type "list",data:=.seq vs.toArray } /\ IntsAre vs ns /\ ns.length <= n:=by
 have hsh:WShape.hasAll [] args [.list .int]=true:=(pre_splitW hpre).1
 have hc:l.pre.holds [] { args:=args }=true:=(pre_splitW hpre).2
 obtain ⟨d,r,rfl,h1,h2⟩:=hasAllW_cons hsh
 obtain rfl:=hasAllW_nil h2
 obtain ⟨xs,rfl,h3⟩:=hasW_list h1
 obtain ⟨ns,rfl⟩:=items_int h3
 have hlen:ns.length <= n:=by
  unfold OpenLaw.pre at hc
  have h4:(WTm.not (.lt (.lit (.int (n:Int))) (.len (.arg 0)))).holds [] { args:=[.list (ns.map .int)] }=true:=by
   have h4:=(holds_andW hc).1
   rw [hn] at h4
   exact h4
  have h5:=condW_of h4 (w_not (w_lt w_lit (w_len_list (w_arg rfl))))
  rw [List.length_map] at h5
  refine Nat.le_of_not_lt fun q=>?_
  have q':(n:Int)<((ns.length:Nat):Int):=by omega
  first
   |(rw [decide_eq_true q'] at h5; exact absurd h5 (by decide))
   |(simp at h5; omega)
 cases hwl with
 | cons w1 w2=>
   cases w2
   cases w1 with
   |list ho hall=>exact ⟨_,_,ns,rfl,rfl,ho,tK ns _ hall,hlen⟩
theorem By (l:OpenLaw) (args:List WData):l.row.toRowW.claim.post args (.bool true) args=true:=
 postW_of (r:=l.row.toRowW) (X:=(true==true))
  (show WShape.has [] (.bool true) .bool=true by first|rfl|decide|simp [WShape.has,WShape.arms,WShape.armsAll])
  (show (WTm.eq .res (.lit (.bool true))).value [] { args:=args,res:=some (.bool true),after:=args }=some (.bool (true==true)) from w_eq_bool (w_res rfl) w_lit) rfl
theorem yz {l:OpenLaw} {n:Nat} {q:Program} {loose:List Str} {XP:(Str -> Option Value) -> Heap -> Prop} {YP:World -> Heap -> Prop} {d:DefRec}
  (hn:l.most=some n) (hdf:d.params.defaults=[])
  (call:∀ (w:World) (s₀ s₁:Shared) (mg mb:Str -> Option Value) (fa:Addr) (o:Obj) (pm cd doc:Value) (a:Addr) (vs:List Value) (ns:List Int),
    Ground q loose [] XP w s₀ mg mb s₁.heap -> YP w s₁.heap ->
    s₁.heap.get? fa=some o -> o.data=.func (docDef d.name d.params d.body d.scope pm cd doc) -> s₁.heap.CodeRec cd d.name -> mg d.name=some (.ref fa) ->
    s₁.heap.get? a=some { cls:=.type "list",data:=.seq vs.toArray } -> IntsAre vs ns -> ns.length <= n -> s₁.gens=#[] ->
    codeAny (model l.prog w) callerA (.call (.ref fa) ⟨[.ref a],[]⟩) (fun r s'=>r=.ok (.ret (.bool true)) /\ OldK s₁.heap s'.heap /\ s'.os=s₁.os /\ AllBare s'.gens) s₁):
  WalkO q loose XP YP l.row.toRowW d [] (fun f vs=>PySem.call f vs):=by
 intro w s₀ s₁ mg mb G Y fa o pm cd doc dV kV ho hd hcd hD hmg hg args vals as hpre hlay hrd hwl hlo
 obtain rfl:dV=.none:=Dflts.none hD hdf
 obtain rfl:kV=.none:=Dflts.noKw hD
 obtain ⟨a,vs,ns,rfl,rfl,hobj,hints,hlen⟩:=B0 hn hpre hwl
 refine enter_call (codeAny_mono (call w s₀ s₁ mg mb fa o pm cd doc a vs ns G Y ho (fd_plain hd) hcd hmg hobj hints hlen hg) fun r s' hq=>?_)
 obtain ⟨rfl,h2,h3,h4⟩:=hq
 exact ⟨.inl ⟨.bool true,.bool true,[],rfl,fun _=>rfl,.bool true,By l _,fun _=>⟨List.Pairwise.nil,fun _ hm=>(nomatch hm)⟩⟩,h2,h3,h4⟩
end Att
namespace L2
open PySem PySem.Spec PyProof.Rows
theorem vE:∀ {vs:List Value} {ns:List Int},IntsAre vs ns -> Vals (ns.map V.int) vs
 |_,_,.nil=>.nil
 |_,_,.cons n t h=>.cons ⟨t,rfl⟩ (vE h)
noncomputable def HQ (H:Hp):Prop:=∀ b,H b=none \/ ∃ o xs,H b=some (.frz o (.lst xs))
theorem CD {P:Program} {w:World} {K:PySem.W.Frag} {mg mb:Str -> Option Value} {CX:CXT} {k:Nat} {fa a:Addr} {fd:FuncData} {x:Str} {sp:Sp} {s₁:Shared} {vs:List Value} {ns:List Int}
  (KX:K.In s₁.heap) (hns:s₁.heap.Ns mainGlobals mg) (hb:s₁.heap.Ns builtinsNs mb) (hbb:∀ x:Str,x ≠ "__name__" -> mb x=bootBuiltins x) (hlim:s₁.heap.NoLimit) (hg:s₁.gens=#[])
  (ha:s₁.heap.get? a=some { cls:=.type "list",data:=.seq vs.toArray }) (hi:IntsAre vs ns) (hl:ns.length <= sizeLine) (hr:gY k callerA)
  (F:∀ base:Heap,K.In base -> base.Ns mainGlobals mg -> cA P w K mg base CX k fa fd [x] sp) (hbind:∀ (s:Shared) (u:Value),BindsTo s fd ⟨[u],[]⟩ [(x,u)])
  (hsp:∀ H:Hp,HQ H -> SqL K H a (ns.map V.int) -> sp [.ref a] H (fun v _=>v=.bl true) fun _ _ _=>False)
  (hCX:∀ H e s',CX [] H s₁ (fun _ _ _=>False) e s' -> False):
  codeAny (model P w) callerA (.call (.ref fa) ⟨[.ref a],[]⟩) (fun r s'=>r=.ok (.ret (.bool true)) /\ OldK s₁.heap s'.heap /\ s'.os=s₁.os /\ AllBare s'.gens) s₁:=by
 have rv:=vE hi
 have lenV:=hi.length
 have core:∀ H:Hp,HQ H -> SqL K H a (ns.map V.int) -> HOk P w H s₁.heap -> (∀ b,H b≠none -> b=a) -> (H a≠none -> K.lookup a=none) ->
   codeAny (model P w) callerA (.call (.ref fa) ⟨[.ref a],[]⟩) (fun r s'=>r=.ok (.ret (.bool true)) /\ OldK s₁.heap s'.heap /\ s'.os=s₁.os /\ AllBare s'.gens) s₁:=by
  intro H hO hS hok hA hK
  have base_of:∀ {b:Addr} {o:Obj},s₁.heap.get? b=some o -> H b=none -> (w9 s₁.heap H).get? b=some o:=fun e n=>CB e n
  have noA:∀ {b:Addr} {o:Obj} {es:Array DictEntry} {ep:Nat},s₁.heap.get? b=some o -> o.data=.dict es ep -> H b=none:=fun {b o es ep} e d=>by
   cases q:H b with
   |none=>rfl
   | some u=>
     have e':b=a:=hA b (by rw [q]; simp)
     subst e'
     rw [ha] at e; cases e
     have d':Data.seq vs.toArray _=Data.dict es ep:=d
     cases d'
  have nsK:∀ {b:Addr} {m:Str -> Option Value},s₁.heap.Ns b m -> (w9 s₁.heap H).Ns b m:=fun {b m} ⟨o,es,ep,e,d,r⟩=>⟨o,es,ep,base_of e (noA e d),d,r⟩
  have hKb:K.In (w9 s₁.heap H):=fun b o e=>base_of (KX b o e) (by
   cases q:H b with
   |none=>rfl
   | some u=>
     have e':b=a:=hA b (by rw [q]; simp)
     subst e'
     rw [hK (by rw [q]; simp)] at e; cases e)
  have hM:Mod K mg (w9 s₁.heap H):=⟨hKb,nsK hns,⟨mb,nsK hb,hbb⟩,let ⟨mc,h1,h2⟩:=hlim; ⟨mc,nsK h1,h2⟩⟩
  have e0:zr P w K mg (w9 s₁.heap H) callerA [] s₁ H:=⟨rfl,hM,fun b o e=>Fg e,Nat.le_of_eq (Bn _ _),trivial,fun b hb=>absurd (show b∈([]:List Addr) from hb) (by simp),hok,.of_eq hg⟩
  refine codeAny_mono ((F _ hKb (nsK hns)).run callerA [] s₁ H ⟨[.ref a],[]⟩ [.ref a] [.ref a] _ _ hr e0 (hbind s₁ (.ref a)) (.cons rfl .nil) (hsp H hO hS)) fun r s' h=>?_
  cases r with
  |error e=>exact (hCX H e s' h).elim
  | ok fl=>
    cases fl with
    |next=>exact False.elim h
    |brk=>exact False.elim h
    |cont=>exact False.elim h
    | ret u=>
      obtain ⟨v,H',os,bare,un,hok',r',q⟩:=h
      have q':v=.bl true:=q
      subst q'
      obtain rfl:u=Value.bool true:=r'
      refine ⟨rfl,OldK.of_keep fun b o e=>?_,os,bare⟩
      cases q:H b with
      |none=>exact un.keep b o e q (by intro z; exact absurd (show b∈([]:List Addr) from z) (by simp)) (by simp)
      | some u=>
        rcases hO b with z|⟨ob,xs,z⟩
        . rw [q] at z; cases z
        . have z2:=un.frzs b ob _ z
          obtain ⟨e1,_⟩:=hok b _ z
          obtain ⟨e2,_⟩:=hok' b _ z2
          rw [e] at e1; cases e1
          exact e2
 cases hk:K.lookup a with
 | some o=>
   have e:=KX a o hk
   rw [ha] at e
   cases e
   refine core (fun _=>none) (fun _=>.inl rfl) (.inr ⟨_,vs.toArray,_,hk,rfl,rfl,rfl,by rw [List.size_toArray,lenV]; exact hl,by simpa using rv⟩) (fun b u z=>by have z':(none:Option HO)=some u:=z; cases z') (fun b z=>absurd rfl z) fun z=>absurd rfl z
 | none=>
   refine core (fun b=>if b=a then some (.frz { cls:=.type "list",data:=.seq vs.toArray } (.lst (ns.map V.int))) else none) (fun b=>?_) (.inl (.inr ⟨{ cls:=.type "list",data:=.seq vs.toArray },if_pos rfl⟩)) (fun b u z=>?_) (fun b z=>?_) fun _=>hk
   . by_cases hb:b=a
     . exact .inr ⟨_,_,if_pos hb⟩
     . exact .inl (if_neg hb)
   . by_cases hb:b=a
     . have z':=(if_pos hb).symm.trans z
       cases z'
       subst hb
       exact ⟨ha,by rw [List.length_map]; exact hl,vs,_,rv,ha⟩
     . have z':=(if_neg hb).symm.trans z
       cases z'
   . by_cases hb:b=a
     . exact hb
     . exact absurd (if_neg hb) z
abbrev KOf {K:PySem.W.Frag} {h:Heap} (_:K.In h):PySem.W.Frag:=K
theorem FV {l:PySem.W.OpenLaw} {n k:Nat} {q:Program} {loose:List Str} {XP:(Str -> Option Value) -> Heap -> Prop} {YP:World -> Heap -> Prop} {d:DefRec} {K:Params -> PySem.W.Frag} {CX:World -> CXT} {sp:World -> Sp} {x:Str}
  (hn:l.most=some n) (hn2:n <= sizeLine) (hdf:d.params.defaults=[]) (hr:gY k callerA)
  (hY:∀ (w:World) (h:Heap),YP w h -> (K w.params).In h)
  (F:∀ (w:World) (mg:Str -> Option Value) (fa:Addr) (h:Heap),(K w.params).In h -> h.Ns mainGlobals mg -> mg d.name=some (.ref fa) ->
    ∃ fd:FuncData,(∀ (s:Shared) (u:Value),BindsTo s fd ⟨[u],[]⟩ [(x,u)]) /\
      ∀ base:Heap,(K w.params).In base -> base.Ns mainGlobals mg -> cA l.prog w (K w.params) mg base (CX w) k fa fd [x] (sp w))
  (hsp:∀ (w:World) (H:Hp) (a:Addr) (ns:List Int),ns.length <= n -> HQ H -> SqL (K w.params) H a (ns.map V.int) -> sp w [.ref a] H (fun v _=>v=.bl true) fun _ _ _=>False)
  (hCX:∀ (w:World) (H:Hp) (s:Shared) (e:Value) (s':Shared),CX w [] H s (fun _ _ _=>False) e s' -> False):
  PySem.W.WalkO q loose XP YP l.row.toRowW d [] (fun f vs=>PySem.call f vs):=by
 refine Att.yz hn hdf fun w s₀ s₁ mg mb fa o pm cd doc a vs ns G Y ho hd hcd hmg hobj hints hlen hg=>?_
 have KX:=hY w _ Y
 obtain ⟨fd,hb,hF⟩:=F w mg fa _ KX G.T.g hmg
 exact CD KX G.T.g G.T.b G.T.builtins G.T.nolimit hg hobj hints (Nat.le_trans hlen hn2) hr hF hb (fun H hO hS=>hsp w H a ns hlen hO hS) fun H e s'=>hCX w H s₁ e s'
def inClass (s:Stmt) (j:Nat):Stmt:=match s with
 |.ClassDef _ _ _ body _ _ _ _ _ _ _=>body.getD j (.Pass ⟨0,0,0,0⟩)
 |_=>.Pass ⟨0,0,0,0⟩
noncomputable def eL (s:Stmt):Arguments:=match s with
 |.FunctionDef _ a _ _ _ _ _ _ _ _=>a
 |_=>{ posonlyargs:=[],args:=[],vararg:=none,kwonlyargs:=[],kw_defaults:=[],kwarg:=none,defaults:=[] }
noncomputable def dH (s:Stmt):List Stmt:=match s with
 |.FunctionDef _ _ b _ _ _ _ _ _ _=>b
 |_=>[]
noncomputable def aC (s:Stmt):Scope:=match s with
 |.FunctionDef _ _ _ _ _ _ sc _ _ _=>sc
 |_=>{ kind:=.function,names:=[],isGenerator:=false,isCoroutine:=false }
structure Fun (K:PySem.W.Frag) (x qual:Str) (st:Stmt) (f:Addr) (fd:FuncData):Prop where
 ex:∃ (oc:Value) (od:Option Addr) (kV doc pm:Value) (an:Option Addr) (cdv ct:Value) (osl:Array (Option Value)),
  fd=PySem.W.fnOf x qual (eL st) (dH st) (aC st) .none kV doc pm an cdv ct /\ K.lookup f=some ⟨oc,od,.func fd,osl⟩ /\ PySem.W.codeIn K cdv qual=true
 kp:PySem.W.keepIn K (.ref f)=true
section
variable {P:Program} {w:World} {K:PySem.W.Frag} {mg:Str -> Option Value} {base:Heap}
theorem Fun.binds {x qual:Str} {st:Stmt} {f:Addr} {fd:FuncData} {ps:List Str} (F:Fun K x qual st f fd)
  (h:∀ (kV doc pm:Value) (an:Option Addr) (cdv ct:Value) (us:List Value),us.length=ps.length -> bindArgs (PySem.W.fnOf x qual (eL st) (dH st) (aC st) .none kV doc pm an cdv ct) ⟨us,[]⟩=pure (ps.zip us)):Binds K fd ps []:=by
 obtain ⟨oc,od,kV,doc,pm,an,cdv,ct,osl,rfl,lk,hcd⟩:=F.ex
 exact .all (h kV doc pm an cdv ct)
theorem kZ {x qual:Str} {st:Stmt} {f:Addr} {oc:Value} {od an:Option Addr} {osl:Array (Option Value)} {kV doc pm cdv ct:Value} (l:K.lookup f=some ⟨oc,od,.func (PySem.W.fnOf x qual (eL st) (dH st) (aC st) .none kV doc pm an cdv ct),osl⟩)
  (c:PySem.W.codeIn K cdv qual=true) (k:PySem.W.keepIn K (.ref f)=true):Fun K x qual st f (PySem.W.fnOf x qual (eL st) (dH st) (aC st) .none kV doc pm an cdv ct):=⟨⟨oc,od,kV,doc,pm,an,cdv,ct,osl,rfl,l,c⟩,k⟩
end
theorem Gp {A:Around} {k:Nat} (hr:gY k A):A.units+1<cLine:=Nat.lt_of_le_of_lt (Nat.add_le_add_left (by decide:1 <= 64) _) hr.units
section
variable {X:Cx}
theorem pv (i:Nat) {x:Str} {pos:Pos} (hN:X.N[i]?=some x:=by rfl) (hv:Vis X.env.scope x:=by first|exact Or.inl rfl|exact Or.inr (Or.inl rfl)|exact Or.inr (Or.inr rfl)) (hd:(x==("__debug__":Str))=false:=by decide)
  (hcd:(x==("__classdict__":Str))=false:=by decide):PE X (.Name x pos) (zp i):=HH hN hv hd hcd
end
theorem yr {A B:Prop} (h:B):if false=true then A else B:=by
 rw [if_neg Bool.false_ne_true]
 exact h
theorem yD {A B:Prop} (h:A):if true=true then A else B:=by
 rw [if_pos rfl]
 exact h
noncomputable def aJ (H H':Hp):Prop:=∀ b o,H b=some o -> H' b=some o
theorem aJ.refl (H:Hp):aJ H H:=fun _ _ h=>h
theorem aJ.trans {H H1 H2:Hp} (a:aJ H H1) (b:aJ H1 H2):aJ H H2:=fun c o h=>b c o (a c o h)
theorem aJ.free {H H':Hp} (e:aJ H H') {l:Addr} (h:H' l=Option.none):H l=Option.none:=by
 cases q:H l with
 |none=>rfl
 | some o=>
   rw [e l o q] at h
   cases h
theorem aJ.seq {K:PySem.W.Frag} {H H':Hp} {a:Addr} {xs:List V} (e:aJ H H') (h:SqL K H a xs):SqL K H' a xs:=by
 rcases h with (h|⟨o,h⟩)|h
 . exact .inl (.inl (e _ _ h))
 . exact .inl (.inr ⟨o,e _ _ h⟩)
 . exact .inr h
section
variable {κ:Type} [DecidableEq κ]
noncomputable def lX (kvs:List (κ×V)) (k:κ):Option V:=(kvs.find? fun kv=>decide (kv.1=k)).map (·.2)
noncomputable def putK (kvs:List (κ×V)) (k:κ) (v:V):List (κ×V):=
 if (kvs.any fun kv=>decide (kv.1=k))=true then kvs.map (fun kv=>if kv.1=k then (kv.1,v) else kv) else kvs++[(k,v)]
theorem uE {p:κ×V} {r:List (κ×V)} {k:κ} (e:p.1=k):lX (p ::r) k=some p.2:=by simp [lX,List.find?_cons,e]
theorem uv {p:κ×V} {r:List (κ×V)} {k:κ} (e:¬ p.1=k):lX (p ::r) k=lX r k:=by simp [lX,List.find?_cons,e]
theorem xQ (k:κ):∀ kvs:List (κ×V),(kvs.any fun kv=>decide (kv.1=k))=(lX kvs k).isSome
 |[]=>rfl
 | p ::r=>by
   rw [List.any_cons]
   by_cases e:p.1=k
   . simp only [uE e,decide_eq_true e,Bool.true_or,Option.isSome_some]
   . rw [uv e,decide_eq_false e,Bool.false_or]; exact xQ k r
theorem xP (kvs:List (κ×V)) (k:κ) (v:V):(putK kvs k v).length <= kvs.length+1:=by
 unfold putK
 split
 . rw [List.length_map]; omega
 . rw [List.length_append,List.length_cons,List.length_nil]; omega
theorem Cs {kvs:List (κ×V)} {k:κ} (v:V) (h:lX kvs k=none):putK kvs k v=kvs++[(k,v)]:=by
 unfold putK
 rw [xQ,h]
 exact if_neg (by decide)
theorem bz.vI {o:Option V} {u:Option Value} (r:bz o u):o.isSome=u.isSome:=by
 cases o with
 | none=>cases u with
   |none=>rfl
   |some _=>exact (show False from r).elim
 | some _=>cases u with
   |none=>exact (show False from r).elim
   |some _=>rfl
theorem bz.getD {o:Option V} {u:Option Value} {d:V} {d':Value} (r:bz o u) (rd:RelV d d'):RelV (o.getD d) (u.getD d'):=by
 cases o with
 | none=>cases u with
   |none=>exact rd
   |some _=>exact (show False from r).elim
 | some _=>cases u with
   |none=>exact (show False from r).elim
   |some _=>exact r
theorem KV.val {kvs:List (κ×V)} {vs:List (κ×Value)} (r:KV kvs vs) (k:κ):bz (lX kvs k) (valueAt vs k):=by
 unfold KV at r
 induction r with
 |nil=>exact True.intro
 | @cons p q ps qs h t ih=>
   obtain ⟨h1,h2⟩:=h
   by_cases e:p.1=k
   . have e':q.1=k:=h1.symm.trans e
     have b:valueAt (q ::qs) k=some q.2:=by simp [valueAt,List.find?_cons,e']
     rw [uE e,b]; exact h2
   . have e':¬ q.1=k:=fun z=>e (h1.trans z)
     have b:valueAt (q ::qs) k=valueAt qs k:=by simp [valueAt,List.find?_cons,e']
     rw [uv e,b]; exact ih
theorem KV.any {kvs:List (κ×V)} {vs:List (κ×Value)} (r:KV kvs vs) (k:κ):(kvs.any fun kv=>decide (kv.1=k))=vs.any fun kv=>decide (kv.1=k):=by
 unfold KV at r
 induction r with
 |nil=>rfl
 |cons h t ih=>rw [List.any_cons,List.any_cons,ih,h.1]
theorem KV.Ll {kvs:List (κ×V)} {vs:List (κ×Value)} (r:KV kvs vs) (k:κ) {y:V} {u:Value} (ry:RelV y u):
  KV (kvs.map fun kv=>if kv.1=k then (kv.1,y) else kv) (vs.map fun kv=>if kv.1=k then (kv.1,u) else kv):=by
 unfold KV at r ⊢
 induction r with
 |nil=>exact .nil
 | @cons p q ps qs h t ih=>
   rw [List.map_cons,List.map_cons]
   refine .cons ?_ ih
   obtain ⟨h1,h2⟩:=h
   by_cases e:p.1=k
   . rw [if_pos e,if_pos (h1.symm.trans e)]; exact ⟨h1,ry⟩
   . rw [if_neg e,if_neg (fun z=>e (h1.trans z))]; exact ⟨h1,h2⟩
theorem KV.put {kvs:List (κ×V)} {vs:List (κ×Value)} (r:KV kvs vs) (k:κ) {y:V} {u:Value} (ry:RelV y u):KV (putK kvs k y) (stored vs k u):=by
 unfold putK stored
 rw [r.any k]
 by_cases e:(vs.any fun kv=>decide (kv.1=k))=true
 . rw [if_pos e,if_pos e]; exact r.Ll k ry
 . rw [if_neg e,if_neg e]; exact Paired.snoc r ⟨rfl,ry⟩
theorem KV.keys {kvs:List (κ×V)} {vs:List (κ×Value)} (r:KV kvs vs):kvs.map (·.1)=vs.map (·.1):=by
 unfold KV at r
 induction r with
 |nil=>rfl
 |cons h t ih=>rw [List.map_cons,List.map_cons,ih,h.1]
end
theorem A5 {P:Program} {w:World} {k:Key} {u:Value} (r:RelV (kV k) u):(fE P w).is k u=true:=by
 cases k with
 |inl i=>obtain ⟨t,e⟩:=(show ∃ t,u=Value.int i t from r); subst e; exact xI P w i t
 |inr x=>obtain ⟨t,e⟩:=(show ∃ t,u=Value.str x t from r); subst e; exact yf P w x t
theorem vB {P:Program} {w:World}:∀ {ks:List Key} {us:List Value},Vals (ks.map kV) us -> ItemsAre (fE P w) ks us
 |[],_,r=>by rw [List.map_nil] at r; cases r; exact .nil
 | k ::ks,_,r=>by
   rw [List.map_cons] at r
   cases r with
   |cons h t=>exact .cons (A5 h) (vB t)
abbrev KT (H:Hp):List (List Key×V) -> List (List Key×Addr×Value) -> Prop:=Paired fun p q=>p.1=q.1 /\ H q.2.1=some (.tup (p.1.map kV)) /\ RelV p.2 q.2.2
theorem KT.val {H:Hp} {kvs:List (List Key×V)} {xs:List (List Key×Addr×Value)} (r:KT H kvs xs) (k:List Key):bz (lX kvs k) ((atKey xs k).map (·.2)):=by
 induction r with
 |nil=>exact True.intro
 | @cons p q ps qs h t ih=>
   obtain ⟨h1,_,h2⟩:=h
   by_cases e:p.1=k
   . have e':q.1=k:=h1.symm.trans e
     have b:atKey (q ::qs) k=some q.2:=by simp [atKey,List.find?_cons,e']
     rw [uE e,b]; exact h2
   . have e':¬ q.1=k:=fun z=>e (h1.trans z)
     have b:atKey (q ::qs) k=atKey qs k:=by simp [atKey,List.find?_cons,e']
     rw [uv e,b]; exact ih
theorem KT.keeps {H H':Hp} {kvs:List (List Key×V)} {xs:List (List Key×Addr×Value)} (r:KT H kvs xs) (ht:∀ b ys,H b=some (.tup ys) -> H' b=some (.tup ys)):KT H' kvs xs:=
 Paired.GP r fun _ _ z=>⟨z.1,ht _ _ z.2.1,z.2.2⟩
section
variable {P:Program} {w:World} {H:Hp} {h:Heap} {a:Addr}
theorem FZ {u:HO} (ok:HOk P w H h) (e:Rd H a u):gd P w H h a u:=e.ok ok
theorem Ax {kvs:List (Key×V)} (ok:HOk P w H h) (e:Rd H a (.dK kvs)):kvs.length <= sizeLine /\ (a==sysModules)=false /\ ∃ vs,KV kvs vs /\ h.DictOf (fE P w) a vs:=
 show gd P w H h a (.dK kvs) from FZ ok e
theorem JQ {kvs:List (Key×V)} (ok:HOk P w H h) (e:H a=some (.dK kvs)):kvs.length <= sizeLine /\ (a==sysModules)=false /\ ∃ vs,KV kvs vs /\ h.DictOf (fE P w) a vs:=Ax ok (.inl e)
theorem zo {ks:List Key} (ok:HOk P w H h) (e:H a=some (.tup (ks.map kV))):(tupleKind (fE P w)).is h ks a:=by
 obtain ⟨_,its,r,o,h1,h2,n,h3⟩:=(show gd P w H h a (.tup (ks.map kV)) from ok a _ e)
 exact ⟨o,its.toArray,n,h1,h2,h3,by simpa using vB r⟩
theorem CV {kvs:List (List Key×V)} (ok:HOk P w H h) (e:Rd H a (.dT kvs)):kvs.length <= sizeLine /\ (a==sysModules)=false /\
  ∃ xs,KT H kvs xs /\ h.DictOfH (tupleKind (fE P w)) a xs:=by
 obtain ⟨z,y,xs,r,o,es,ep,h1,h2,h3,h4,h5⟩:=(show gd P w H h a (.dT kvs) from FZ ok e)
 refine ⟨z,y,xs,r,o,es,ep,h1,h2,h3,h4,fun x hx=>?_,h5⟩
 have all:∀ {l:List (List Key×V)} {m:List (List Key×Addr×Value)},KT H l m -> ∀ x∈m,(tupleKind (fE P w)).is h x.1 x.2.1:=by
  intro l m q
  induction q with
  |nil=>intro x hx; exact nomatch hx
  | @cons p q ps qs hq t ih=>
    intro x hx
    rcases List.mem_cons.mp hx with e|hx
    . subst e
      exact zo ok (by rw [<- hq.1]; exact hq.2.1)
    . exact ih x hx
 exact all r x hx
end
noncomputable def wX (H:Hp) (a:Addr) (y:V) (r:Option V):Prop:=
 (∃ kvs k,Rd H a (.dK kvs) /\ y=kV k /\ r=lX kvs k) \/ ∃ kvs k b,Rd H a (.dT kvs) /\ y=.ref b /\ H b=some (.tup (k.map kV)) /\ r=lX kvs k
theorem wX.k {H:Hp} {a:Addr} {kvs:List (Key×V)} {k:Key} (e:H a=some (.dK kvs)):wX H a (kV k) (lX kvs k):=.inl ⟨kvs,k,.inl e,rfl,rfl⟩
section
variable {X:Cx} {pins:List (Addr×Obj)} {σ:St} {H:Hp} {s:Shared} {a:Addr} {y v:V} {u r:Value} {o:Option V} {A:Around} {E:Value -> Shared -> Prop}
theorem Inv.big (I:Inv X pins σ H s):sysModules<s.heap.objs.size:=by
 have h:mainGlobals<s.heap.objs.size:=(I.mod.glob.keeps I.bk).lt
 exact Nat.lt_trans (by decide) h
theorem BW {Q:Value -> Shared -> Prop} (hu:A.units+1<cLine) (I:Inv X pins σ H s) (g:wX H a y (some v)) (ry:RelV y u) (h:∀ w' s',Inv X pins σ H s' -> RelV v w' -> Q w' s'):
  wpAny (model X.prog X.w) A (getItem (.ref a) u) Q E s:=by
 rcases g with ⟨kvs,k,e,ey,l⟩|⟨kvs,k,b,e,ey,eb,l⟩
 . subst ey
   obtain ⟨z,hd,vs,rel,dd⟩:=Ax I.hok e
   obtain ⟨w',hw,rw'⟩:=bz.some_of (v:=v) (o:=valueAt vs k) (by rw [l]; exact rel.val k)
   exact wpAny_getItem_of (A5 ry) dd.mapOf hw (h w' _ (I.tok _) rw')
 . subst ey
   cases (show u=Value.ref b from ry)
   obtain ⟨z,hd,xs,rel,dd⟩:=CV I.hok e
   obtain ⟨w',hw,rw'⟩:=bz.some_of (v:=v) (o:=(atKey xs k).map (·.2)) (by rw [l]; exact rel.val k)
   obtain ⟨p,hp,hp2⟩:=Option.map_eq_some_iff.mp hw
   refine wpAny_getItem_heap (tupleKind_room_in1 hu) (zo I.hok eb) dd hp ?_
   rw [hp2]
   exact h w' _ (I.tok _) rw'
theorem K9 {Q:Value -> Shared -> Prop} (hu:A.units+1<cLine) (I:Inv X pins σ H s) (g:wX H a y o) (ry:RelV y u) (h:∀ s',Inv X pins σ H s' -> Q (.bool o.isSome) s'):
  wpAny (model X.prog X.w) A (compareOp .In u (.ref a)) Q E s:=by
 rcases g with ⟨kvs,k,e,ey,l⟩|⟨kvs,k,b,e,ey,eb,l⟩
 . subst ey
   obtain ⟨z,hd,vs,rel,dd⟩:=Ax I.hok e
   refine wpAny_in_of (A5 ry) hd dd.mapOf ?_
   rw [<- (rel.val k).vI,<- l]
   exact h _ (I.tok _)
 . subst ey
   cases (show u=Value.ref b from ry)
   obtain ⟨z,hd,xs,rel,dd⟩:=CV I.hok e
   refine wpAny_in_heap (tupleKind_room_in1 hu) (zo I.hok eb) hd dd ?_
   have q:=(rel.val k).vI
   rw [Option.isSome_map] at q
   rw [<- q,<- l]
   exact h _ (I.tok _)
theorem Fe {h':Heap} {t':Nat} {ob:HO} (I:Inv X pins σ H s) (mu:Mut (H a)) (hs:Heap.SameBut a s.heap h') (he:∃ q,h'.get? a=some q) (new:gd X.prog X.w (upd H a ob) h' a ob):
  Inv X pins σ (upd H a ob) { s with heap:=h',toks:=t' }:=
 I.write (x:=a) (e:=a) mu (.inl rfl) (fun b q hb z=>(hs.2 b hb).trans z) he new
theorem GX {P:Program} {w:World} {H':Hp} {h':Heap} {kvs:List (Key×V)} {vs:List (Key×Value)} (z:kvs.length <= sizeLine) (hd:(a==sysModules)=false) (rel:KV kvs vs) (dd:h'.DictOf (fE P w) a vs):
  gd P w H' h' a (.dK kvs):=⟨z,hd,vs,rel,dd⟩
end
noncomputable def GQ (i:Expr):Prop:=∀ ov iv,subscripted i false ov iv=operate [ov,iv] (getItem ov iv)
theorem EH {prog:Program} {w:World} {A:Around} {E:Value -> Shared -> Prop} {s:Shared} {env:Env} {value slice:Expr} {pos:Pos} {T id:String} {Q:Value -> Shared -> Prop}
  (hl:typeLookup (.type T) "__getitem__" = pure (some (.builtin id))) (hs:GQ slice)
  (h:wpAny (model prog w) A (eval value env) (fun o s₁=>wpAny (model prog w) A (eval slice env) (fun i s₂=>s₂.TypeIs o T /\ wpAny (model prog w) A (getItem o i) Q E s₂) E s₁) E s):
  wpAny (model prog w) A (eval (.Subscript value slice pos) env) Q E s:=by
 refine Subscript_ (wpAny_mono h (fun o s₁ h₁=>wpAny_mono h₁ (fun i s₂ h₂=>?_) fun _ _ x=>x) fun _ _ x=>x)
 obtain ⟨hT,h₂⟩:=h₂
 unfold subscriptTail
 refine wpAny_bind ?_
 rw [getitemInPython_of_ne hT.not_modules]
 refine wpAny_bind (wpAny_specialOf hT hl ?_)
 have fin:wpAny (model prog w) A (subscripted slice false o i) (fun r s₃=>wpAny (model prog w) A (letTemporaryGo value o r >>= fun _=>pure r) Q E s₃) E s₂:=by
  rw [hs o i]
  exact wpAny_operating (wpAny_mono h₂ (fun r s₃ h₃=>wpAny_bind (wpAny_letTemporaryGo (wpAny_pure h₃))) fun _ _ x=>x)
 first
  |exact wpAny_pure (wpAny_bind fin)
  |exact wpAny_bind (wpAny_pure (wpAny_bind fin))
  |exact wpAny_bind fin
theorem yi {X:Cx} {pins:List (Addr×Obj)} {σ:St} {H:Hp} {s:Shared} {a:Addr} {y:V} {o:Option V} (I:Inv X pins σ H s) (g:wX H a y o):s.TypeIs (.ref a) "dict":=by
 rcases g with ⟨kvs,k,e,_,_⟩|⟨kvs,k,b,e,_,_,_⟩
 . obtain ⟨_,_,vs,_,dd⟩:=Ax I.hok e
   exact dd.typeIs
 . obtain ⟨_,_,xs,_,dd⟩:=CV I.hok e
   exact dd.typeIs
noncomputable def Dk (td ty:TE):TE:=fun σ H Q=>td σ H fun x H1=>ty σ H1 fun y H2=>∃ a v,x=.ref a /\ wX H2 a y (some v) /\ Q v H2
noncomputable def G3 (ty td:TE):TE:=fun σ H Q=>ty σ H fun y H1=>td σ H1 fun x H2=>∃ a o,x=.ref a /\ wX H2 a y o /\ Q (.bl o.isSome) H2
section
variable {X:Cx} {o i e value:Expr} {pos pos' tpos:Pos} {td ty tv:TE}
theorem Fb (hu:X.A.units+1<cLine) (ho:PE X o td) (hi:PE X i ty) (hs:GQ i):PE X (.Subscript o i pos) (Dk td ty):=by
 intro pins s σ H Q I h
 refine EH PySem.F.slot_dict_getitem.lookup hs (thn (ho pins s σ H _ I h) fun u s1 ⟨x,H1,I1,rx,q1⟩=>thn (hi pins s1 σ H1 _ I1 q1) fun iv s2 ⟨y,H2,I2,ry,a,v,ex,g,q2⟩=>?_)
 subst ex
 obtain rfl:u=Value.ref a:=rx
 exact ⟨yi I2 g,BW hu I2 g ry fun w' s3 I3 rw'=>⟨v,H2,I3,rw',q2⟩⟩
theorem He (hu:X.A.units+1<cLine) (hi:PE X i ty) (ho:PE X o td):PC X .In i o (G3 ty td):=by
 intro pins s σ H Q I h
 refine thn (hi pins s σ H _ I h) fun iv s1 ⟨y,H1,I1,ry,q1⟩=>thn (ho pins s1 σ H1 _ I1 q1) fun u s2 ⟨x,H2,I2,rx,a,ov,ex,g,q2⟩=>?_
 subst ex
 obtain rfl:u=Value.ref a:=rx
 exact K9 hu I2 g ry fun s3 I3=>⟨.bl ov.isSome,H2,I3,rfl,q2⟩
end
theorem CU {P:Program} {w:World} {H:Hp} (h:Heap) (hb:sysModules<h.objs.size):gd P w H (h.push { cls:=.type "dict",data:=.dict #[] }) h.objs.size (.dK []):=
 ⟨Nat.zero_le _,beq_eq_false_iff_ne.mpr (Ne.symm (Nat.ne_of_lt hb)),[],.nil,Heap.DictOf.new h⟩
noncomputable def v5:List (TE×TE) -> St -> Hp -> (List (V×V) -> Hp -> Prop) -> Prop
 |[],_,H,Q=>Q [] H
 |(tk,tv) ::r,σ,H,Q=>tk σ H fun x H1=>tv σ H1 fun y H2=>v5 r σ H2 fun ps H3=>Q ((x,y) ::ps) H3
abbrev VV:List (V×V) -> List (Value×Value) -> Prop:=Paired fun p q=>RelV p.1 q.1 /\ RelV p.2 q.2
noncomputable def PPs (X:Cx) (pos:Pos) (keys:List (Option Expr)) (values:List Expr) (trs:List (TE×TE)):Prop:=
 ∀ (pins:List (Addr×Obj)) (s:Shared) (σ:St) (H:Hp) (Q:List (V×V) -> Hp -> Prop),Inv X pins σ H s -> v5 trs σ H Q ->
   wpAny (model X.prog X.w) X.A (evalPairs (pairTrees keys values X.env pos)) (fun vs s'=>∃ ps H',Inv X pins σ H' s' /\ VV ps vs /\ Q ps H') X.xe s
theorem Fs {X:Cx} {pos:Pos}:PPs X pos [] [] []:=fun pins s σ H Q I h=>pairTrees_nil_walk ⟨[],H,I,.nil,h⟩
theorem CQ {X:Cx} {pos:Pos} {k v:Expr} {ks:List (Option Expr)} {vs:List Expr} {tk tv:TE} {trs:List (TE×TE)} (hk:PE X k tk) (hv:PE X v tv) (hr:PPs X pos ks vs trs):
  PPs X pos (some k ::ks) (v ::vs) ((tk,tv) ::trs):=fun pins s σ H Q I h=>
 pairTrees_cons_walk (thn (hk pins s σ H _ I h) fun u s1 ⟨x,H1,I1,rx,q1⟩=>thn (hv pins s1 σ H1 _ I1 q1) fun w2 s2 ⟨y,H2,I2,ry,q2⟩=>
  thn (hr pins s2 σ H2 _ I2 q2) fun ws s3 ⟨ps,H3,I3,rel,q3⟩=>⟨(x,y) ::ps,H3,I3,.cons ⟨rx,ry⟩ rel,q3⟩)
noncomputable def oo (kvs more:List (Key×V)):List (Key×V):=more.foldl (fun acc kv=>putK acc kv.1 kv.2) kvs
theorem KV.merge:∀ {more:List (Key×V)} {rs:List (Key×Value)} {kvs:List (Key×V)} {vs:List (Key×Value)},KV more rs -> KV kvs vs -> KV (oo kvs more) (merged vs rs):=by
 intro more rs kvs vs r
 unfold KV at r
 induction r generalizing kvs vs with
 |nil=>intro q; exact q
 | @cons p q ps qs h t ih=>
   intro r0
   have e:KV (putK kvs p.1 p.2) (stored vs q.1 q.2):=by
    have:=r0.put p.1 h.2
    rw [<- h.1]; exact this
   exact ih e
theorem qa:∀ (more kvs:List (Key×V)),(oo kvs more).length <= kvs.length+more.length
 |[],kvs=>by show kvs.length <= kvs.length+0; omega
 | p ::r,kvs=>by
   have h1:=qa r (putK kvs p.1 p.2)
   have h2:=xP kvs p.1 p.2
   show (oo (putK kvs p.1 p.2) r).length <= _
   rw [List.length_cons]; omega
theorem ux {P:Program} {w:World}:∀ {kvs:List (Key×V)} {ws:List (Value×Value)},VV (kvs.map fun kv=>(kV kv.1,kv.2)) ws -> ∃ rs,Carries (fE P w) ws rs /\ KV kvs rs
 |[],_,r=>by rw [List.map_nil] at r; cases r; exact ⟨[],True.intro,.nil⟩
 | p ::kvs,_,r=>by
   rw [List.map_cons] at r
   cases r with
   | @cons a b as bs h t=>
     obtain ⟨rs,c,q⟩:=ux (P:=P) (w:=w) t
     obtain ⟨b1,b2⟩:=b
     exact ⟨(p.1,b2) ::rs,⟨A5 h.1,rfl,c⟩,.cons ⟨rfl,h.2⟩ q⟩
noncomputable def C3 (trs:List (TE×TE)):TE:=fun σ H Q=>∀ p,H p=none -> v5 trs σ (upd H p (.dK [])) fun ps H2=>H2 p=some (.dK []) /\ ∃ kvs:List (Key×V),ps=kvs.map (fun kv=>(kV kv.1,kv.2)) /\ kvs.length <= 15 /\ Q (.ref p) (upd H2 p (.dK (oo [] kvs)))
theorem Ez {X:Cx} {pos:Pos} {keys:List (Option Expr)} {values:List Expr} {trs:List (TE×TE)} (h:PPs X pos keys values trs) (hall:keys.all (·.isSome)=true) (hl:keys.length=values.length) (h0:keys≠[])
  (h15:keys.length <= 15):PE X (.Dict keys values pos) (C3 trs):=by
 intro pins s σ H Q I q
 have hn:=I.hok.fresh (Nat.le_refl s.heap.objs.size)
 have I1:=I.laid (a:=s.heap.objs.size) (o:=.dK []) (h':=s.heap.push { cls:=.type "dict",data:=.dict #[] }) (t':=s.toks) (fun _ _ q=>Heap.get?_push_of_some _ q) (Nat.le_refl _) (CU s.heap I.big)
 refine wpAny_Dict_walk (knd:=fE X.prog X.w) hall hl h0 h15 (thn (h pins _ σ _ _ I1 (q _ hn)) fun ws s2 ⟨ps,H2,I2,rel,e,kvs,ep,lk,q2⟩=>?_)
 subst ep
 obtain ⟨rs,c,rk⟩:=ux (P:=X.prog) (w:=X.w) rel
 obtain ⟨z,hd,vs0,r0,dd⟩:=JQ I2.hok e
 cases r0
 refine ⟨rs,c,dd,fun h' dd' hs=>⟨.ref s.heap.objs.size,_,?_,rfl,q2⟩⟩
 have hz:(oo [] kvs).length <= sizeLine:=by
  have h1:=qa kvs []
  rw [List.length_nil] at h1
  rw [sizeLine_eq]; omega
 have he:∃ q,h'.get? s.heap.objs.size=some q:=let ⟨q,_,_,hq,_⟩:=dd'; ⟨q,hq⟩
 exact Fe I2 (by rw [e]; exact True.intro) hs he (GX hz hd (rk.merge .nil) dd')
end L2
set_option maxHeartbeats 4000000
namespace L2.E
open PySem PySem.Spec PyProof.Rows
noncomputable def Hc (a C:Addr) (dx:Option Addr) (h:Heap):Prop:=∃ o vs,h.get? a=some o /\ o.cls=.ref C /\ o.dict=dx /\ o.data=.fields vs /\ vs.size=6
noncomputable def TbO (T:Addr) (h:Heap):Prop:=∃ o ts,h.get? T=some o /\ o.data=.fields ts /\ 3<ts.size
noncomputable abbrev xO (a C:Addr) (dx:Option Addr):HO:=.ext (Hc a C dx)
noncomputable abbrev oTb (T:Addr):HO:=.ext (TbO T)
theorem G2 {P:Program} {w:World} {H:Hp} {h:Heap} {a C:Addr} {dx:Option Addr} (x:Hc a C dx h):gd P w H h a (xO a C dx):=by
 refine ⟨x,let ⟨o,_,e,_⟩:=x; ⟨o,e⟩,fun h1 h2 p k=>?_⟩
 obtain ⟨o,vs,e,r⟩:=p
 exact ⟨o,vs,k o e,r⟩
theorem Gn {P:Program} {w:World} {H:Hp} {h:Heap} {T:Addr} (x:TbO T h):gd P w H h T (oTb T):=by
 refine ⟨x,let ⟨o,_,e,_⟩:=x; ⟨o,e⟩,fun h1 h2 p k=>?_⟩
 obtain ⟨o,vs,e,r⟩:=p
 exact ⟨o,vs,k o e,r⟩
theorem C4 {H:Hp} {a:Addr} {o:HO} (h:H a=some o):upd H a o=H:=by
 funext b
 unfold upd
 split
 . rename_i e
   rw [e,h]
 . rfl
structure Fly (H:Hp) (h:Heap) (a C:Addr) (dx:Option Addr):Prop where
 exc:H a=some (xO a C dx)
 tb:∃ o vs,h.get? a=some o /\ o.data=.fields vs /\ (vs[1]?=some Value.none \/ ∃ T,vs[1]?=some (.ref T) /\ H T=some (oTb T) /\ T≠a)
structure BR (H:Hp) (h:Heap) (a C:Addr) (dx:Option Addr):Prop where
 exc:H a=some (xO a C dx)
 tb:∃ o vs T,h.get? a=some o /\ o.data=.fields vs /\ vs[1]?=some (.ref T) /\ H T=some (oTb T) /\ T≠a
theorem BR.fly {H:Hp} {h:Heap} {a C:Addr} {dx:Option Addr} (F:BR H h a C dx):Fly H h a C dx:=
 let ⟨o,vs,T,e1,e2,e3,e4,e5⟩:=F.tb
 ⟨F.exc,o,vs,e1,e2,.inr ⟨T,e3,e4,e5⟩⟩
section
variable {X:Cx} {pins:List (Addr×Obj)} {σ:St} {H:Hp} {s:Shared} {a C:Addr} {dx:Option Addr}
theorem Dy {h₁:Heap} (I:Inv X pins σ H s) (k:Heap.SlotsOnly (frs X.stack) s.heap h₁):Un (frs X.stack) [] H H s.heap h₁ where
 keep:=fun b o e _ hb _=>(k.2.1 b hb).trans e
 slot:=fun b o e _ _ _=>k.2.2 b o e
 free:=fun _ _ _ n _=>n
 there:=fun b o e _=>let ⟨_,q⟩:=k.2.2 b o e; ⟨_,q⟩
 tups:=fun _ _ q=>q
 frzs:=fun _ _ _ q=>q
 tbls:=fun _ ps q=>⟨#[],by rw [q]; simp⟩
theorem Bz {h₁:Heap} (I:Inv X pins σ H s) (k:Heap.SlotsOnly (frs X.stack) s.heap h₁):HOk X.prog X.w H h₁:=fun b o e=>by
 have nf:∀ c u,H c=some u -> c∉frs X.stack:=fun c u q z=>by rw [I.wz c z] at q; cases q
 refine (I.hok b o e).tI (fun c v hc q=>(k.2.1 c ?_).trans q) (fun _ q=>q) fun _ _ q=>q
 rcases hc with z|z
 . rw [z]; exact nf b o e
 . exact nf c _ z
theorem E1 {i:Nat} {v:Value} (I:Inv X pins σ H s) (e:H a=some (xO a C dx)):
  Inv X pins σ H { s with heap:=s.heap.update a (Obj.mapFields (·.setIfInBounds i v)) }:=by
 obtain ⟨⟨o,vs,ho,hc,hd,hf,hz⟩,_,_⟩:=I.hok a _ e
 have hs:=Heap.get?_update_self (Obj.mapFields (·.setIfInBounds i v)) ho (Obj.isFreed_of_fields (Obj.data_mapFields hf _))
 have q:=I.write (x:=a) (e:=a) (o:=xO a C dx) (t':=s.toks) (h':=s.heap.update a (Obj.mapFields (·.setIfInBounds i v))) (by rw [e]; trivial) (.inl rfl)
  (fun b u hb q=>(Heap.get?_update_other _ _ (Ne.symm hb)).trans q) ⟨_,hs⟩ (G2 ⟨_,_,hs,by rw [Obj.cls_mapFields]; exact hc,by obtain ⟨c,d,dt,sl⟩:=o; cases dt<;>exact hd,Obj.data_mapFields hf _,by simpa using hz⟩)
 rw [C4 e] at q
 exact q
theorem Cg {T:Addr} {i:Nat} {v:Value} (I:Inv X pins σ H s) (e:H T=some (oTb T)):
  Inv X pins σ H { s with heap:=s.heap.update T (Obj.mapFields (·.setIfInBounds i v)) }:=by
 obtain ⟨⟨o,vs,ho,hf,hz⟩,_,_⟩:=I.hok T _ e
 have hs:=Heap.get?_update_self (Obj.mapFields (·.setIfInBounds i v)) ho (Obj.isFreed_of_fields (Obj.data_mapFields hf _))
 have q:=I.write (x:=T) (e:=T) (o:=oTb T) (t':=s.toks) (h':=s.heap.update T (Obj.mapFields (·.setIfInBounds i v))) (by rw [e]; trivial) (.inl rfl)
  (fun b u hb q=>(Heap.get?_update_other _ _ (Ne.symm hb)).trans q) ⟨_,hs⟩ (Gn ⟨_,_,hs,Obj.data_mapFields hf _,by simpa using hz⟩)
 rw [C4 e] at q
 exact q
theorem yq {L:Addr} {head:Value} {had:Bool} {Q:Unit -> Shared -> Prop} {E:Value -> Shared -> Prop} (I:Inv X pins σ H s) (hst:X.stack=X.env ::X.outer) (hf:X.env.frame=some L) (e:H a=some (xO a C dx))
  (h:∀ s' H',Inv X pins σ H' s' -> aJ H H' -> BR H' s'.heap a C dx -> Q () s'):
  wpAny (model X.prog X.w) X.A (do let fr <- frameOf X.env; let pl <- entryPlaceOf L had; let b <- EntryCells.newEntry head fr .none (rawInt L) .none pl; setField (.ref a) 1 b) Q E s:=by
 have hfr:X.A.frames=some (X.env ::X.outer):=by rw [<- hst]; exact I.ok.frames
 have hl:s.heap.FunFrames X.base (X.env ::X.outer):=by rw [<- hst]; exact I.stack
 refine wpAny_bind (wpAny_frameOf_fun hfr hl hf fun h₁ k₁=>?_)
 have k₁':Heap.SlotsOnly (frs X.stack) s.heap h₁:=by rw [hst]; exact k₁
 have I₁:=I.call (g':=s.gens) (t':=s.toks) (d':=s.drawn) (ch:=[]) (Dy I k₁') (Bz I k₁') I.bare (fun b z=>absurd z (by simp))
 refine wpAny_bind (wpAny_entryPlaceOf fun pl hpl=>?_)
 unfold EntryCells.newEntry newFields
 refine wpAny_bind (wpAny_newObj_type ?_ (hpl.sizeOk5 _ _ _ _ _))
 have big:3<([head,.ref L,.none,rawInt L,.none]++(if pl.isEmpty then List.replicate 6 Value.none else pl)).toArray.size:=by
  rw [List.size_toArray,List.length_append]
  show 3<5+_
  omega
 have new:=Heap.get?_push_size h₁ (o:={ cls:=.type "traceback",dict:=none,data:=.fields ([head,.ref L,.none,rawInt L,.none]++(if pl.isEmpty then List.replicate 6 Value.none else pl)).toArray }) rfl
 have fr:H h₁.objs.size=none:=I₁.hok.fresh (Nat.le_refl _)
 have ne:h₁.objs.size≠a:=fun z=>by rw [z,e] at fr; cases fr
 have I₂:=I₁.laid (a:=h₁.objs.size) (o:=oTb h₁.objs.size) (t':=s.toks) (fun b u q=>Heap.get?_push_of_some _ q) (Nat.le_refl _) (Gn ⟨_,_,new,rfl,big⟩)
 have g:aJ H (upd H h₁.objs.size (oTb h₁.objs.size)):=fun b u q=>by rw [bJ (eI q fr)]; exact q
 obtain ⟨⟨o,vs,ho,hc,hd,hv,hz⟩,_,_⟩:=I₂.hok a _ (g _ _ e)
 refine wpAny_setField ho hv (by omega) ?_
 refine h _ _ (E1 I₂ (g _ _ e)) g ⟨g _ _ e,_,_,h₁.objs.size,Heap.get?_update_self _ ho (Obj.isFreed_of_fields (Obj.data_mapFields hv _)),Obj.data_mapFields hv _,by simp [hz],bQ,ne⟩
theorem FI {Q:Unit -> Shared -> Prop} {E:Value -> Shared -> Prop} (I:Inv X pins σ H s) (hst:X.stack=X.env ::X.outer /\ X.env.frame=some X.env.locals) (F:Fly H s.heap a C dx)
  (h:∀ s' H',Inv X pins σ H' s' -> aJ H H' -> BR H' s'.heap a C dx -> Q () s'):wpAny (model X.prog X.w) X.A (noteFrame (.ref a) X.env) Q E s:=by
 obtain ⟨o,vs,ho,hv,hw⟩:=F.tb
 unfold noteFrame
 simp only [hst.2]
 rcases hw with h1|⟨T,h1,hT,ne⟩
 . refine wpAny_bind (wpAny_field ho hv h1 ?_)
   rw [if_neg (by decide)]
   exact yq I hst.1 hst.2 F.exc h
 . obtain ⟨⟨oT,ts,hoT,hdT,hz⟩,_,_⟩:=I.hok T _ hT
   refine wpAny_bind (wpAny_field ho hv h1 ?_)
   rw [if_pos (show (Value.ref T != Value.none)=true from by simp)]
   have h3:ts[3]?=some ts[3]:=by simp [hz]
   refine wpAny_bind (wpAny_field hoT hdT h3 ?_)
   by_cases c:(ts[3]==rawInt X.env.locals)=true
   . rw [if_pos c]
     exact wpAny_pure (h s H I (aJ.refl H) ⟨F.exc,o,vs,T,ho,hv,h1,hT,ne⟩)
   . rw [if_neg c]
     refine wpAny_bind (wpAny_setField hoT hdT hz ?_)
     exact yq (Cg I hT) hst.1 hst.2 F.exc h
theorem BD {x:Option Addr} {Q:Unit -> Shared -> Prop} {E:Value -> Shared -> Prop} (I:Inv X pins σ H s) (F:BR H s.heap a C dx)
  (h:∀ s',Inv X pins σ H s' -> BR H s'.heap a C dx -> Q () s'):wpAny (model X.prog X.w) X.A (setFlight (.ref a) x) Q E s:=by
 obtain ⟨o,vs,T,ho,hv,h1,hT,ne⟩:=F.tb
 unfold setFlight
 obtain ⟨⟨oT,ts,hoT,hdT,hz⟩,_,_⟩:=I.hok T _ hT
 refine wpAny_bind (wpAny_field ho hv h1 ?_)
 rw [if_pos (show (Value.ref T != Value.none)=true from by simp)]
 refine wpAny_setField hoT hdT hz ?_
 exact h _ (Cg I hT) ⟨F.exc,o,vs,T,(Heap.get?_update_other _ _ ne).trans ho,hv,h1,hT,ne⟩
end
noncomputable def CXE (P:Program) (w:World):CXT:=fun outer H s E e s'=>∃ a C dx H',e=.ref a /\ s'.os=s.os /\ AllBare s'.gens /\ Un (frs outer) [] H H' s.heap s'.heap /\ HOk P w H' s'.heap /\ Fly H' s'.heap a C dx /\ E (.ref C) (some a) H'
abbrev XW:=Value -> Option Addr -> St -> Hp -> Prop
noncomputable def Thr (X:Cx) (W:XW):Prop:=∀ (pins:List (Addr×Obj)) (σ:St) (H:Hp) (s:Shared) (a C:Addr) (dx:Option Addr),Inv X pins σ H s -> Fly H s.heap a C dx -> W (.ref C) (some a) σ H -> X.xe (.ref a) s
section
variable {CX:CXT} {P:Program} {w:World} {K:PySem.W.Frag} {mg:Str -> Option Value} {base:Heap} {N:List Str} {qual:Str} {scope:Scope} {f:Addr} {cd:Value} {A:Around} {outer:List Env} {s₀:Shared} {H₀:Hp} {E:XK}
theorem aN:Thr (rR (CXE P w) P w K mg base N qual scope f cd A outer s₀ H₀ E) (fun C a _ H=>∀ H',aJ H H' -> E C a H'):=by
 intro pins σ H s a C dx I F hw
 show wpAny _ _ (leaving _ _) _ _ s
 unfold leaving
 refine wpAny_bind (FI I ⟨rfl,rfl⟩ F fun s1 H1 I1 g1 F1=>?_)
 refine BD I1 F1 fun s2 I2 F2=>?_
 exact ⟨a,C,dx,H1,rfl,I2.os,I2.bare,I2.base,I2.hok,F2.fly,hw H1 g1⟩
theorem jJ:PassesOwn (model P w) (rR (CXE P w) P w K mg base N qual scope f cd A outer s₀ H₀ E).A (rR (CXE P w) P w K mg base N qual scope f cd A outer s₀ H₀ E).env (rR (CXE P w) P w K mg base N qual scope f cd A outer s₀ H₀ E).xe:=by
 show PassesOwn (model P w) (A.deeper (envOfC qual scope s₀.heap.objs.size f cd)) (envOfC qual scope s₀.heap.objs.size f cd) (fun e s'=>wpAny (model P w) (A.deeper (envOfC qual scope s₀.heap.objs.size f cd)) (leaving (envOfC qual scope s₀.heap.objs.size f cd) e) (fun _ s''=>CXE P w outer H₀ s₀ E e s'') (fun e' s''=>CXE P w outer H₀ s₀ E e' s'') s')
 passes_own
end
section
variable {X:Cx} {k:Nat} {f:Addr} {fd:FuncData} {ps:List Str} {sp:Sp} {dvs:List V} {ds:List Value} {W:XW} {x m:Str} {p pos apos:Pos} {e o:Expr} {es:List Expr} {ta:TE} {t:TA}
noncomputable def qy (sp:Sp) (dvs:List V) (W:XW) (t:TA):TE:=fun σ H Q=>t σ H fun vs H1=>sp (vs++dvs) H1 Q fun C a H'=>W C a σ H'
theorem tR {pins:List (Addr×Obj)} {σ:St} {H:Hp} {s:Shared} {Q:VK} {us:List Value} {vs:List V} (F:cA X.prog X.w X.K X.mg X.base (CXE X.prog X.w) k f fd ps sp) (hr:gY k X.A) (hb:Binds X.K fd ps ds) (hd:Vals dvs ds) (hx:Thr X W)
  (I:Inv X pins σ H s) (r:Vals vs us) (h:sp (vs++dvs) H Q fun C a H'=>W C a σ H'):wpAny (model X.prog X.w) X.A (call (.ref f) us) (EP X pins σ Q) X.xe s:=by
 have r2:Vals (vs++dvs) (us++ds):=r.append hd
 have hl:(us++ds).length=ps.length:=by rw [<- r2.length]; exact F.len _ _ _ _ h
 refine wpAny_call (codeAny_mono (F.run X.A X.stack s H ⟨us,[]⟩ (us++ds) (vs++dvs) Q _ hr I.JC (hb s us I.kIn hl) r2 h) fun r s' hq=>?_)
 cases r with
 | error e=>
   obtain ⟨a,C,dx,H',rfl,ho,bare,un,hok,fl,hw⟩:=hq
   exact hx pins σ H' s' a C dx (I.GC ho un hok bare fun b z=>absurd z (by simp)) fl hw
 | ok fl=>
   cases fl with
   |ret u=>exact I.after hq
   |next=>exact False.elim hq
   |brk=>exact False.elim hq
   |cont=>exact False.elim hq
theorem Dv (F:cA X.prog X.w X.K X.mg X.base (CXE X.prog X.w) k f fd ps sp) (hr:gY k X.A) (hg:Gl X x) (hm:X.mg x=some (.ref f)) (hk:PySem.W.keepIn X.K (.ref f)=true) (hb:Binds X.K fd ps ds) (hd:Vals dvs ds) (hx:Thr X W)
  (ha:PA X (e ::es) t) (hdb:(x==("__debug__":Str))=false:=by decide) (he:starEach (e ::es) X.env=(false,eval e X.env) ::starEach es X.env:=by rfl) (hpl:(backTo pos (starEach es X.env)).any (·.1)=false:=by rfl):
  PE X (.Call (.Name x p) (e ::es) [] pos) (qy sp dvs W t):=by
 intro pins s σ H Q I h
 refine wpAny_Call_Name_kw (tY I hg hm ?_ hdb)
 refine PySem.W.callWith_K (h₀:=X.base) I.ok.mod.kin hk (thn (ha pos pins s σ H _ I h) fun us s1 ⟨vs,H1,I1,r,q⟩=>⟨I1.kIn,?_⟩) he hpl
 exact tR F hr hb hd hx I1 r q
theorem B5 (F:cA X.prog X.w X.K X.mg X.base (CXE X.prog X.w) k f fd ps sp) (hr:gY k X.A) (hg:Gl X x) (hm:X.mg x=some (.ref f)) (hk:PySem.W.keepIn X.K (.ref f)=true) (hb:Binds X.K fd ps ds) (hd:Vals dvs ds) (hx:Thr X W)
  (hdb:(x==("__debug__":Str))=false:=by decide):PE X (.Call (.Name x p) [] [] pos) (qy sp dvs W kU):=by
 intro pins s σ H Q I h
 refine wpAny_Call_Name_kw (tY I hg hm ?_ hdb)
 exact PySem.W.callWith_K0 I.kIn hk (tR (us:=[]) F hr hb hd hx I .nil h)
end
noncomputable abbrev blk (X:Cx) (scope:Scope) (cl:List (Str×Addr)) (N:List Str) (C:Addr) (s₀:Shared) (H₀:Hp) (ex:List Addr):Cx:=
 { prog:=X.prog,w:=X.w,K:=X.K,mg:=X.mg,base:=X.base,A:=X.A,N:=N,s₀:=s₀,H₀:=H₀,env:=compEnvC scope cl C X.env,outer:=X.stack,stack:=X.stack,ex:=ex,fn:=fun _=>false,calm:=X.calm,pn:=[],xe:=fun _ _=>False }
theorem CO {X:Cx}:Thr X (fun _ _ _ _=>False):=fun _ _ _ _ _ _ _ _ _ h=>h.elim
structure kR (X:Cx) (scope:Scope) (cl:List (Str×Addr)) (M:List Str) (ι:List Nat) (x:Str):Prop where
 clos:closureFor scope X.env=pure cl
 kind:scope.kind=.function
 nocell:(scope.names.all fun p=>p.2 != .cell)=true
 locs:(scope.names.all fun p=>p.2 != .local||scope.names.lookup p.1==some .local)=true
 var:scope.names.lookup x=some .local
 names:M.map some=ι.map fun i=>X.N[i]?
 cells:M.map (fun y=>scope.names.lookup y)=M.map fun _=>some .free
 kinds:M.map X.env.kindOf=M.map fun _=>some .cell
 same:M.map (fun y=>cl.lookup y)=M.map fun y=>X.env.cells.lookup y
 sub:cl.map (fun p=>X.env.cells.lookup p.1)=cl.map fun p=>some p.2
 all:(scope.names.all fun p=>!(p.2 == .free)||(cl.lookup p.1).isSome)=true
 nd:(M++[x]).Nodup
theorem wY {α β:Type} {f g:α -> β} {l:List α} (h:l.map f=l.map g) {a:α} (ha:a∈l):f a=g a:=by
 induction l with
 |nil=>cases ha
 | cons b r ih=>
   rw [List.map_cons,List.map_cons] at h
   injection h with h1 h2
   rcases List.mem_cons.mp ha with z|z
   . rw [z]; exact h1
   . exact ih h2 z
theorem v7 {scope:Scope} {env:Env} {y:Str} (h:scope.names.lookup y=some .free):(relabel scope env).names.lookup y=some .cell \/ (relabel scope env).names.lookup y=some .free:=by
 unfold relabel
 dsimp only
 generalize scope.names=l at h
 induction l with
 |nil=>cases h
 | cons p r ih=>
   obtain ⟨n,k⟩:=p
   rw [List.lookup_cons] at h
   rw [List.map_cons]
   by_cases e:(y==n)=true
   . rw [e] at h
     have hk:k=.free:=Option.some.inj h
     subst hk
     dsimp only
     split
     . rw [List.lookup_cons,e]; exact .inl rfl
     . rw [List.lookup_cons,e]; exact .inr rfl
   . have e':(y==n)=false:=by simpa using e
     rw [e'] at h
     dsimp only
     split
     . rw [List.lookup_cons,e']; exact ih h
     . rw [List.lookup_cons,e']; exact ih h
theorem wJ {scope:Scope} {env:Env} {y:Str} (hc:(scope.names.all fun p=>p.2 != .cell)=true) (h:(relabel scope env).names.lookup y=some .cell \/ (relabel scope env).names.lookup y=some .free):∃ p∈scope.names,p.1=y /\ p.2=.free:=by
 unfold relabel at h
 dsimp only at h
 generalize scope.names=l at h hc
 induction l with
 |nil=>rcases h with h|h<;>cases h
 | cons p r ih=>
   obtain ⟨n,k⟩:=p
   rw [List.all_cons,Bool.and_eq_true] at hc
   rw [List.map_cons] at h
   by_cases e:(y==n)=true
   . refine ⟨(n,k),List.mem_cons_self,(beq_iff_eq.mp e).symm,?_⟩
     dsimp only at h ⊢
     split at h
     . rename_i c
       simp only [Bool.and_eq_true,beq_iff_eq] at c
       exact c.1.1
     . rw [List.lookup_cons,e] at h
       have hk:(k != NameKind.cell)=true:=hc.1
       rcases h with h|h
       . have:k=.cell:=Option.some.inj h
         subst this
         exact absurd hk (by decide)
       . exact Option.some.inj h
   . have e':(y==n)=false:=by simpa using e
     have h':(List.map (fun x=>match x with|(n,k)=>if (k==NameKind.free&&env.scope.kind==ScopeKind.function&&env.kindOf n==some NameKind.cell)=true then (n,NameKind.cell) else (n,k)) r).lookup y=some .cell \/
       (List.map (fun x=>match x with|(n,k)=>if (k==NameKind.free&&env.scope.kind==ScopeKind.function&&env.kindOf n==some NameKind.cell)=true then (n,NameKind.cell) else (n,k)) r).lookup y=some .free:=by
      dsimp only at h
      split at h
      . rw [List.lookup_cons,e'] at h; exact h
      . rw [List.lookup_cons,e'] at h; exact h
     obtain ⟨q,hq,z⟩:=ih h' hc.2
     exact ⟨q,List.mem_cons_of_mem _ hq,z⟩
noncomputable def pick (ι:List Nat) (σ:St):St:=ι.map fun i=>(σ[i]?).join
noncomputable def sW (wi:TI) (ι:List Nat) (te:TE):TE:=fun σ H Q=>wi σ H fun J H1=>∀ D,H1 D=none -> ∃ W:Nat -> Nat -> List V -> Hp -> Prop,(∃ m,W 0 m [] (upd H1 D (.lst []))) /\ ∀ i m ys H,W i m ys H ->
 H D=some (.lst ys) /\ ((J.stop i H /\ Q (.ref D) H) \/ (J.go i H /\ ∀ x H',J.yld i H x H' -> te (pick ι σ++[some x]) H' fun y H2=>H2 D=some (.lst ys) /\ ys.length<sizeLine /\ ∃ m',m'<m /\ W (i+1) m' (ys++[y]) (upd H2 D (.lst (ys++[y])))))
section
variable {X:Cx} {scope:Scope} {cl:List (Str×Addr)} {M:List Str} {ι:List Nat} {x:Str}
theorem kR.u2 (S:kR X scope cl M ι x) {y:Str} {c:Addr} (h:cl.lookup y=some c):X.env.cells.lookup y=some c:=wY S.sub (PySem.mem_of_lookup h)
theorem wt {pins:List (Addr×Obj)} {σ:St} {H:Hp} {s:Shared} {h₁:Heap} {t':Nat} {ex:List Addr} (S:kR X scope cl M ι x) (I:Inv X pins σ H s) (hex:∀ b∈ex,mH X pins H b /\ b<s.heap.objs.size) (hn:h₁.Ns s.heap.objs.size (fun _=>none))
  (hk:∀ b o,s.heap.get? b=some o -> h₁.get? b=some o):Inv (blk X scope cl (M++[x]) s.heap.objs.size s H ex) [] (pick ι σ++[none]) H { s with heap:=h₁,toks:=t' }:=by
 have noM:∀ b:Addr,b∈ex -> b≠s.heap.objs.size:=fun b hb=>Nat.ne_of_lt (hex b hb).2
 have fsx:∀ b∈ex,b∉frs X.stack:=fun b hb z=>by
  obtain ⟨⟨_,f1,f2,_⟩,_⟩:=hex b hb
  rcases List.mem_cons.mp (I.zR b z) with e|e
  . exact f1 e
  . exact f2 e
 have base0:∀ b o,X.base.get? b=some o -> b∉ex:=fun b o e z=>by
  obtain ⟨⟨_,_,_,f3,_⟩,_⟩:=hex b z
  rcases f3 with f|f
  . exact I.ok.noex b o e f
  . exact absurd (Nat.lt_of_lt_of_le (Heap.lt_size e) (Nat.le_trans I.ok.bsz f)) (Nat.lt_irrefl _)
 refine ⟨⟨I.ok.mod,S.kind,I.ok.glob,I.ok.blt,Nat.le_refl _,fun y z c h1 h2=>I.ok.inj y z c (S.u2 h1) (S.u2 h2),fun y hy=>?_,fun y c z=>absurd z Bool.false_ne_true,I.ok.hd,I.ok.frames,.inl rfl,
  fun b hb=>⟨noM b hb,fun y c h z=>(hex b hb).1.2.2.2.2.1 y c (S.u2 h) z⟩,I.bs,Nat.le_trans I.ok.bsz I.sz,base0,fsx,I.stack,I.wz⟩,
  rfl,I.bare,Un.kept hk,⟨_,hn,fun i y v e1 e2 e3=>?_⟩,fun y c h=>?_,I.fresh,fun y c h=>?_,fun p hp=>absurd (show p∈([]:List (Addr×Obj)) from hp) (by simp),I.hok.kept hk,?_⟩
 . obtain ⟨p,hp,rfl,hpf⟩:=wJ S.nocell hy
   have q:=List.all_eq_true.mp S.all p hp
   rw [hpf] at q
   have q':(cl.lookup p.1).isSome=true:=by
    cases e:(cl.lookup p.1).isSome with
    |true=>rfl
    |false=>rw [e] at q; exact absurd q (by decide)
   exact Option.isSome_iff_exists.mp q'
 . have hiM:i < M.length:=by
    by_cases hlt:i<M.length
    . exact hlt
    . exfalso
      have hl:(pick ι σ).length=M.length:=by
       have q:=congrArg List.length S.names
       rw [List.length_map,List.length_map] at q
       unfold pick
       rw [List.length_map,q]
      rw [List.getElem?_append_right (by omega),hl] at e2
      have:i - M.length=0 \/ 1 <= i - M.length:=by omega
      rcases this with z|z
      . rw [z] at e2; cases e2
      . rw [List.getElem?_eq_none (by simpa using z)] at e2; cases e2
   have hl:ι.length=M.length:=by
    have q:=congrArg List.length S.names
    rw [List.length_map,List.length_map] at q
    exact q.symm
   rw [List.getElem?_append_left hiM] at e1
   have hyM:y∈M:=List.mem_of_getElem? e1
   have e2':((σ[ι[i]]?).join)=some v:=by
    rw [List.getElem?_append_left (by unfold pick; rw [List.length_map]; omega)] at e2
    unfold pick at e2
    rw [List.getElem?_map,List.getElem?_eq_getElem (by omega)] at e2
    exact Option.some.inj e2
   have e4:σ[ι[i]]?=some (some v):=by
    cases q:σ[ι[i]]? with
    |none=>rw [q] at e2'; cases e2'
    |some w=>rw [q] at e2'; exact congrArg some e2'
   have e5:X.N[ι[i]]?=some y:=by
    have q:=congrArg (fun l=>l[i]?) S.names
    rw [List.getElem?_map,List.getElem?_map,e1,List.getElem?_eq_getElem (by omega)] at q
    exact (Option.some.inj q).symm
   have kc:X.env.kindOf y=some .cell:=wY S.kinds hyM
   obtain ⟨m,hm,hl⟩:=I.loc
   obtain ⟨u,r,q⟩:=hl _ y v e5 e4 (.inr (.inl kc))
   refine ⟨u,r,.inr ⟨?_,?_⟩⟩
   . exact v7 (wY S.cells hyM)
   . rcases q with ⟨k,_⟩|⟨_,c,e,o,ho,hd⟩
     . rw [kc] at k; cases k
     . exact ⟨c,(wY S.same hyM).trans e,o,hk _ _ ho,hd⟩
 . obtain ⟨v,o,ho,hd⟩:=I.cell y c (S.u2 h)
   exact ⟨v,o,hk _ _ ho,hd⟩
 . exact I.freeC y c (S.u2 h)
 . have q:=congrArg List.length S.names
   rw [List.length_map,List.length_map] at q
   show (pick ι σ++[none]).length=(M++[x]).length
   unfold pick
   rw [List.length_append,List.length_append,List.length_map,q]
   rfl
theorem tT {pins:List (Addr×Obj)} {σ σ':St} {H H':Hp} {s s':Shared} {h':Heap} {ex:List Addr} {C:Addr} (I:Inv X pins σ H s) (hC:C=s.heap.objs.size) (hex:∀ b∈ex,mH X pins H b) {N:List Str} (J:Inv (blk X scope cl N C s H ex) [] σ' H' s')
  (hs:Heap.SameBut C s'.heap h'):Inv X pins σ H' { s' with heap:=h' }:=by
 subst hC
 have K:Inv X pins σ H' s':=I.GC (ch:=ex) J.os J.base J.hok J.bare fun b hb=>by
  obtain ⟨_,f1,_,f3,f4,f5⟩:=hex b hb
  exact ⟨f3,f1,f4,f5⟩
 refine K.turned (t':=s'.toks) (it:=s.heap.objs.size) (fun b o hb e=>(hs.2 b hb).trans e) J.free (Nat.ne_of_gt I.lt) (.inr I.sz) (fun y c e z=>?_) (fun p hp z=>?_)
 . obtain ⟨v,q⟩:=I.cell y c e
   exact absurd (z ▸ q.lt) (Nat.lt_irrefl _)
 . exact absurd (z ▸ Heap.lt_size (I.pin p hp).1) (Nat.lt_irrefl _)
theorem vL (elt target iter:Expr) (scope:Scope) (pos:Pos) (it acc:Value) (env:Env):
  compTurn (.ListComp elt [⟨target,iter,[],0⟩] scope pos) 0 it acc env=(do
   standAt iter.pos
   match <- pyNext it with
   |none=>pure (.done .next)
   | some v=>do
     letOwnedTupleGo target it v
     assign target env v
     (do let x <- eval elt env; let _ <- call (.builtin "list.append") [acc,x]; pure ())
     again (.compLoop (.ListComp elt [⟨target,iter,[],0⟩] scope pos) 0 it acc env)):=by rfl
theorem FE {elt iter:Expr} {px pos:Pos} {wi:TI} {te:TE} (S:kR X scope cl M ι x) (hc:X.calm=true) (hi:PI X (.Name x px) iter wi) (he:∀ C s₀ H₀ ex,PE (blk X scope cl (M++[x]) C s₀ H₀ ex) elt te)
  (hs:∀ v,foldedSetIterable iter X.env v=pure v:=by intro _; rfl):PE X (.ListComp elt [⟨.Name x px,iter,[],0⟩] scope pos) (sW wi ι te):=by
 intro pins s σ H Q I h
 rw [eval_ListComp]
 refine wpAny_comprehension_free (use:=none) rfl hs S.clos S.kind (fun y hy hl=>?_) (wpAny_mono (hi pins s σ H _ I h) (fun v s1 h1=>wpAny_mono h1 (fun itv s2 h2=>?_) fun _ _ z=>z) fun _ _ z=>z)
 . have q:=List.all_eq_true.mp S.locs y hy
   rw [hl] at q
   simpa using q
 obtain ⟨it,fp,tn,J,H2,rfl,I2,T,st2,f2,hW⟩:=h2
 have I3:=I2.C6 (ys:=[]) (its:=[]) (t':=s2.toks) .nil (Nat.zero_le _)
 obtain ⟨W,⟨m0,w0⟩,turn⟩:=hW s2.heap.objs.size I2.fresh
 have fpo:∀ b∈fp,b<s2.heap.objs.size:=fun b hb=>let ⟨_,e,_⟩:=T.obj _ _ st2 b hb; Heap.lt_size e
 have f3:∀ b∈fp,mH X pins (upd H2 s2.heap.objs.size (.lst [])) b:=fun b hb=>by
  obtain ⟨q0,q⟩:=f2 b hb
  exact ⟨by rw [bJ (Nat.ne_of_lt (fpo b hb))]; exact q0,q⟩
 show wpAny _ _ (newObj (.type "list") _ none) _ _ s2
 refine wpAny_newObj_type (wpAny_newFunctionEnv (fun y hy=>?_) (by intro y hy; simp at hy) (fun h₁ hn₁ sb₁=>?_) S.kind)
 . have q:=List.all_eq_true.mp S.nocell y hy
   simpa using q
 have hsz:(s2.heap.push { cls:=.type "list",dict:=none,data:=.seq ([]:List Value).toArray }).objs.size=s2.heap.objs.size+1:=Heap.size_push ..
 have hk₁:∀ b o,(s2.heap.push { cls:=.type "list",dict:=none,data:=.seq ([]:List Value).toArray }).get? b=some o -> h₁.get? b=some o:=fun b o e=>
  (sb₁.2 b (Nat.ne_of_lt (Heap.lt_size e))).trans (Heap.get?_push_of_some _ e)
 have J0:=wt (t':=s2.toks+([]:List (Str×Value)).length) S I3 (ex:=fp) (fun b hb=>⟨f3 b hb,Nat.lt_of_lt_of_le (fpo b hb) (by rw [hsz]; exact Nat.le_succ _)⟩) hn₁ hk₁
 have old:∀ b∈fp,∀ o,s2.heap.get? b=some o -> h₁.get? b=some o:=fun b _ o e=>hk₁ b o (Heap.get?_push_of_some _ e)
 have st₁:tn 0 h₁:=T.keep _ _ _ st2 old
 have loop:codeAny (model X.prog X.w) X.A (.compLoop (.ListComp elt [⟨.Name x px,iter,[],0⟩] scope pos) 0 (.ref it) (.ref s2.heap.objs.size) (compEnvC scope cl (s2.heap.objs.size+1) X.env))
   (compPost (model X.prog X.w) X.A X.xe none (EP X pins σ Q) (.ref s2.heap.objs.size) (s2.heap.objs.size+1)) { s2 with heap:=h₁,toks:=s2.toks+([]:List (Str×Value)).length }:=by
  rw [hsz] at J0
  refine codeAny_loop rfl (fun n s'=>∃ i H' ys v,Inv (blk X scope cl (M++[x]) (s2.heap.objs.size+1) { s2 with heap:=s2.heap.push { cls:=.type "list",data:=.seq ([]:List Value).toArray },toks:=s2.toks } (upd H2 s2.heap.objs.size (.lst [])) fp) [] (pick ι σ++[v]) H' s' /\ tn i s'.heap /\ (∀ b∈fp,H' b=none) /\ W i n ys H')
   (fun n s' hI=>?_) m0 ⟨0,_,[],none,J0,st₁,fun b hb=>(f3 b hb).1,w0⟩
  obtain ⟨i,H',ys,v,J',st',fr',w'⟩:=hI
  obtain ⟨hD,alt⟩:=turn i n ys H' w'
  have fpY:∀ {G:Hp},(∀ b∈fp,G b=none) -> ∀ b∈fp,mH (blk X scope cl (M++[x]) (s2.heap.objs.size+1) { s2 with heap:=s2.heap.push { cls:=.type "list",data:=.seq ([]:List Value).toArray },toks:=s2.toks } (upd H2 s2.heap.objs.size (.lst [])) fp) [] G b:=fun hG b hb=>
   ⟨hG b hb,(J'.ok.exf b hb).1,J'.ok.exfs b hb,.inl hb,(J'.ok.exf b hb).2,fun p hp=>absurd (show p∈([]:List (Addr×Obj)) from hp) (by simp)⟩
  show wpAny _ _ ((compTurn _ 0 (.ref it) (.ref s2.heap.objs.size) (compEnvC scope cl (s2.heap.objs.size+1) X.env)).onRaise _) _ _ s'
  refine wpAny_noted (wpAny_noRaise ?_)
  rw [vL]
  refine wpAny_bind (wpAny_standAt (wpAny_bind ?_))
  rcases alt with ⟨stop,qn⟩|⟨go,step⟩
  . refine thn (T.done (blk X scope cl (M++[x]) (s2.heap.objs.size+1) _ _ fp) rfl rfl rfl hc i [] s' _ H' _ J' (fpY fr') st' stop) fun r s4 ⟨hr,J4⟩=>?_
    subst hr
    refine wpAny_pure ?_
    obtain ⟨m,hm,_⟩:=id J4.loc
    refine ⟨m,hm,fun h' sb=>⟨.ref s2.heap.objs.size,H',tT I3 hsz.symm f3 J4 sb,rfl,qn⟩⟩
  . refine thn (T.item (blk X scope cl (M++[x]) (s2.heap.objs.size+1) _ _ fp) rfl rfl rfl hc i [] s' _ H' _ J' (fpY fr') st' go) fun r s4 ⟨u,hr,h4⟩=>?_
    subst hr
    refine wpAny_bind (thn h4 fun _ s5 ⟨z,H5,J5,r5,y5,st5,fr5⟩=>?_)
    have J5':=J5.pinned (fpY fr5) (T.obj _ _ st5)
    have hxN:(M++[x])[M.length]?=some x:=by simp
    refine wpAny_bind ?_
    refine wpAny_assign_Name ?_
    refine jV (X:=blk X scope cl (M++[x]) (s2.heap.objs.size+1) _ _ fp) (i:=M.length) (v:=z) J5' S.nd hxN (.inl (lookup_relabel_local S.var)) r5 (fun s6 J6=>?_) (.inr (lookup_relabel_local S.var))
    have hlp:(pick ι σ).length=M.length:=by
     have q:=congrArg List.length S.names
     rw [List.length_map,List.length_map] at q
     unfold pick
     rw [List.length_map,q]
    have hset:(pick ι σ++[v]).set M.length (some z)=pick ι σ++[some z]:=by
     rw [<- hlp,List.set_append_right _ _ (Nat.le_refl _),Nat.sub_self]
     rfl
    rw [hset] at J6
    refine wpAny_bind (wpAny_bind (thn (he _ _ _ _ _ s6 _ H5 _ J6 (step z H5 y5)) fun yv s7 ⟨y,H7,J7,r7,hD7,hz7,m',hm',w7⟩=>?_))
    refine wpAny_bind (thn (ck (X:=blk X scope cl (M++[x]) (s2.heap.objs.size+1) _ _ fp) _ s7 _ H7 (.ref s2.heap.objs.size) [y] (.ref s2.heap.objs.size) [yv] (fun _ G=>G=upd H7 s2.heap.objs.size (.lst (ys++[y]))) J7 rfl (.cons r7 .nil) ⟨_,_,y,rfl,rfl,hD7,hz7,rfl⟩) fun _ s8 ⟨_,H8,J8,_,e8⟩=>?_)
    subst e8
    refine wpAny_pure (wpAny_pure ⟨rfl,m',hm',i+1,_,_,some z,J8.gC,?_,fun b hb=>?_,w7⟩)
    . exact T.keep _ _ _ st5 fun b hb o e=>(J8.pin (b,o) (List.mem_append_right _ (List.mem_append_right _ (cL hb e)))).1
    . obtain ⟨o,e,d⟩:=T.obj _ _ st5 b hb
      exact (J8.pin (b,o) (List.mem_append_right _ (List.mem_append_right _ (cL hb e)))).2.1
 rw [hsz] at *
 exact codeAny_compStart_list loop (T.self X.A 0 _ _ _ st₁ loop)
end
section
variable {X:Cx}
noncomputable def IsV (K:PySem.W.Frag) (T:String) (x:V) (H:Hp) (b:Bool):Prop:=match x with
 |.int _=>(T = "int" /\ b=true) \/ (T = "bool" /\ b=false) \/ (T = "list" /\ b=false) \/ (T = "tuple" /\ b=false) \/ (T = "str" /\ b=false)
 |.bl _=>(T = "int" /\ b=true) \/ (T = "bool" /\ b=true) \/ (T = "list" /\ b=false) \/ (T = "tuple" /\ b=false) \/ (T = "str" /\ b=false)
 |.non=>(T = "int" /\ b=false) \/ (T = "bool" /\ b=false) \/ (T = "list" /\ b=false) \/ (T = "tuple" /\ b=false) \/ (T = "str" /\ b=false)
 |.str _=>(T = "int" /\ b=false) \/ (T = "bool" /\ b=false) \/ (T = "list" /\ b=false) \/ (T = "tuple" /\ b=false) \/ (T = "str" /\ b=true)
 | .ref p=>((∃ xs,SqL K H p xs) /\ ((T = "int" /\ b = false) \/ (T = "bool" /\ b = false) \/ (T = "list" /\ b = true) \/ (T = "tuple" /\ b = false) \/ (T = "str" /\ b = false))) \/
    ((∃ xs,SqT K H p xs) /\ ((T = "int" /\ b=false) \/ (T = "bool" /\ b=false) \/ (T = "list" /\ b=false) \/ (T = "tuple" /\ b=true) \/ (T = "str" /\ b=false)))
 |_=>False
theorem uT:nU X (.builtin "isinstance") (fun xs H Q=>∃ x T b,xs=[x,.ty T] /\ IsV X.K T x H b /\ Q (.bl b) H):=by
 intro pins s σ H vs us Q I rv h
 obtain ⟨x,T,b,rfl,hv,q⟩:=h
 obtain ⟨u,v,rfl,ru,rT⟩:=rv.two
 cases rT
 cases x with
 | int i=>
   obtain ⟨t,rfl⟩:=ru
   rcases hv with ⟨rfl,rfl⟩|⟨rfl,rfl⟩|⟨rfl,rfl⟩|⟨rfl,rfl⟩|⟨rfl,rfl⟩
   . exact IsiPair.int_int ⟨.bl _,H,I,rfl,q⟩
   . exact IsiPair.int_bool ⟨.bl _,H,I.tok _,rfl,q⟩
   . exact IsiPair.int_list ⟨.bl _,H,I.tok _,rfl,q⟩
   . exact IsiPair.int_tuple ⟨.bl _,H,I.tok _,rfl,q⟩
   . exact IsiPair.int_str ⟨.bl _,H,I.tok _,rfl,q⟩
 | bl i=>
   cases ru
   rcases hv with ⟨rfl,rfl⟩|⟨rfl,rfl⟩|⟨rfl,rfl⟩|⟨rfl,rfl⟩|⟨rfl,rfl⟩
   . exact IsiPair.bool_int ⟨.bl _,H,I,rfl,q⟩
   . exact IsiPair.bool_bool ⟨.bl _,H,I,rfl,q⟩
   . exact IsiPair.bool_list ⟨.bl _,H,I.tok _,rfl,q⟩
   . exact IsiPair.bool_tuple ⟨.bl _,H,I.tok _,rfl,q⟩
   . exact IsiPair.bool_str ⟨.bl _,H,I.tok _,rfl,q⟩
 | non=>
   cases ru
   rcases hv with ⟨rfl,rfl⟩|⟨rfl,rfl⟩|⟨rfl,rfl⟩|⟨rfl,rfl⟩|⟨rfl,rfl⟩
   . exact IsiPair.NoneType_int ⟨.bl _,H,I.tok _,rfl,q⟩
   . exact IsiPair.NoneType_bool ⟨.bl _,H,I.tok _,rfl,q⟩
   . exact IsiPair.NoneType_list ⟨.bl _,H,I.tok _,rfl,q⟩
   . exact IsiPair.NoneType_tuple ⟨.bl _,H,I.tok _,rfl,q⟩
   . exact IsiPair.NoneType_str ⟨.bl _,H,I.tok _,rfl,q⟩
 | str i=>
   obtain ⟨t,rfl⟩:=ru
   rcases hv with ⟨rfl,rfl⟩|⟨rfl,rfl⟩|⟨rfl,rfl⟩|⟨rfl,rfl⟩|⟨rfl,rfl⟩
   . exact IsiPair.str_int ⟨.bl _,H,I.tok _,rfl,q⟩
   . exact IsiPair.str_bool ⟨.bl _,H,I.tok _,rfl,q⟩
   . exact IsiPair.str_list ⟨.bl _,H,I.tok _,rfl,q⟩
   . exact IsiPair.str_tuple ⟨.bl _,H,I.tok _,rfl,q⟩
   . exact IsiPair.str_str ⟨.bl _,H,I,rfl,q⟩
 | ref p=>
   cases ru
   rcases hv with ⟨⟨xs,hS⟩,hv⟩|⟨⟨xs,hS⟩,hv⟩
   . obtain ⟨its,r,pl,hz⟩:=I.list hS
     obtain ⟨o,e,c,_⟩:=pl.isList
     rcases hv with ⟨rfl,rfl⟩|⟨rfl,rfl⟩|⟨rfl,rfl⟩|⟨rfl,rfl⟩|⟨rfl,rfl⟩
     . exact IsiPair.list_int e c ⟨.bl _,H,I.tok _,rfl,q⟩
     . exact IsiPair.list_bool e c ⟨.bl _,H,I.tok _,rfl,q⟩
     . exact IsiPair.list_list e c ⟨.bl _,H,I,rfl,q⟩
     . exact IsiPair.list_tuple e c ⟨.bl _,H,I.tok _,rfl,q⟩
     . exact IsiPair.list_str e c ⟨.bl _,H,I.tok _,rfl,q⟩
   . obtain ⟨its,r,pl,hz⟩:=I.tuple hS
     obtain ⟨o,e,c,_⟩:=pl
     rcases hv with ⟨rfl,rfl⟩|⟨rfl,rfl⟩|⟨rfl,rfl⟩|⟨rfl,rfl⟩|⟨rfl,rfl⟩
     . exact IsiPair.tuple_int e c ⟨.bl _,H,I.tok _,rfl,q⟩
     . exact IsiPair.tuple_bool e c ⟨.bl _,H,I.tok _,rfl,q⟩
     . exact IsiPair.tuple_list e c ⟨.bl _,H,I.tok _,rfl,q⟩
     . exact IsiPair.tuple_tuple e c ⟨.bl _,H,I,rfl,q⟩
     . exact IsiPair.tuple_str e c ⟨.bl _,H,I.tok _,rfl,q⟩
 |_=>exact hv.elim
theorem boot_bool:bootBuiltins "bool" = some (.type "bool"):=by decide +kernel
theorem boot_isinstance:bootBuiltins "isinstance" = some (.builtin "isinstance"):=by decide +kernel
theorem boot_all:bootBuiltins "all" = some (.builtin "all"):=by decide +kernel
theorem boot_tuple:bootBuiltins "tuple" = some (.type "tuple"):=by decide +kernel
theorem boot_int:bootBuiltins "int" = some (.type "int"):=by decide +kernel
theorem boot_str:bootBuiltins "str" = some (.type "str"):=by decide +kernel
theorem boot_len:bootBuiltins "len" = some (.builtin "len"):=by decide +kernel
end
section
variable {P:Program} {w:World} {K:PySem.W.Frag} {mg:Str -> Option Value} {base:Heap}
theorem okX {x qual:Str} {st:Stmt} {f:Addr} {fd:FuncData} {N ps:List Str} {k:Nat} {sp:Sp} (F:Fun K x qual st f fd) (S:aY N ps (aC st)) (len:∀ vs H Q E,sp vs H Q E -> vs.length=ps.length)
  (hbody:∀ (cdv:Value) (A:Around) (outer:List Env) (s:Shared) (H:Hp) (vs:List V) (Q:VK) (E:XK),gY k (A.deeper (envOfC qual (aC st) s.heap.objs.size f cdv)) -> sp vs H Q E ->
    ∃ t,PSs (rR (CXE P w) P w K mg base N qual (aC st) f cdv A outer s H E) (dH st) t /\ t { nx:=fun _ H'=>Q .non H',rt:=Q } (start N vs) H):cA P w K mg base (CXE P w) (k+1) f fd ps sp:=by
 obtain ⟨oc,od,kV,doc,pm,an,cdv,ct,osl,rfl,lk,hcd⟩:=F.ex
 exact Ju lk hcd S len fun A outer s H vs Q E hr hsp=>hbody cdv A outer s H vs Q E hr hsp
end
theorem SqL.new {K:PySem.W.Frag} {H:Hp} {p:Addr} {xs:List V} (h:H p=some (.lst xs)):SqL K H p xs:=.inl (.inl h)
theorem SqT.new {K:PySem.W.Frag} {H:Hp} {p:Addr} {xs:List V} (h:H p=some (.tup xs)):SqT K H p xs:=.inl (.inl h)
theorem FC {H:Hp} {p q:Addr} {o:HO} (h:H q=some o) (n:H p=none):q≠p:=fun z=>by rw [z,n] at h; cases h
theorem _root_.L2.aJ.upd {H H':Hp} {p:Addr} {o:HO} (e:aJ H H') (n:H p=none):aJ H (upd H' p o):=fun b u h=>by
 rw [bJ (FC h n)]; exact e b u h
theorem _root_.L2.aJ.new {H:Hp} {p:Addr} {o:HO} (n:H p=none):aJ H (L2.upd H p o):=(aJ.refl H).upd n
abbrev Goes (H:Hp) (E:XK) (C:Addr) (dx:Option Addr):Prop:=∀ H' a,aJ H H' -> H' a=some (xO a C dx) -> E (.ref C) (some a) H'
section
variable {X:Cx}
noncomputable def Gv (K:PySem.W.Frag):R2:=fun x y H Q=>∃ l b xs zs,x=.ref l /\ y=.ref b /\ SqL K H l xs /\ SqL K H b zs /\ xs.length+zs.length <= sizeLine /\ ∀ p,H p=none -> Q (.ref p) (upd H p (.lst (xs++zs)))
theorem eK:OpR X (binaryOp .Add) (Gv X.K):=by
 intro pins s σ H x y v u Q I rx ry h
 obtain ⟨l,b,xs,zs,rfl,rfl,hH,hB,hz,q⟩:=h
 cases rx
 cases ry
 obtain ⟨its,r,pl,_⟩:=I.list hH
 obtain ⟨its2,r2,pl2,_⟩:=I.list hB
 obtain ⟨⟨cls,dd,data,sl⟩,ho,hc,n,hd⟩:=pl.isList
 obtain ⟨⟨cls2,dd2,data2,sl2⟩,ho2,hc2,n2,hd2⟩:=pl2.isList
 simp only at hc hd hc2 hd2
 subst hc hd hc2 hd2
 have hsz:its.toArray.size+its2.toArray.size <= sizeLine:=by rw [List.size_toArray,List.size_toArray,<- r.length,<- r2.length]; exact hz
 refine concat_meets ⟨_,ho,rfl⟩ ⟨_,ho2,rfl⟩ noFill_list_add seq_list_add PySem.F.slot_list_add PySem.F.entry_list_add (PySem.F.args_list_add_2 _ _) (list_addW l b its.toArray its2.toArray n n2 dd dd2 sl sl2 hsz) ⟨ho,ho2,?_⟩
 have ea:its.toArray++its2.toArray=(its++its2).toArray:=by simp
 rw [ea]
 exact ⟨.ref _,_,I.C6 (t':=s.toks) (r.append r2) (by rw [List.length_append]; exact hz),rfl,q _ I.fresh⟩
theorem Bi:nU X (.builtin "all") (fun xs H Q=>∃ (p:Addr) (bs:List Bool),xs=[.ref p] /\ SqL X.K H p (bs.map V.bl) /\ X.A.handled=none /\ Q (.bl (bs.all id)) H):=by
 intro pins s σ H vs us Q I rv h
 obtain ⟨p,bs,rfl,hp,hh,q⟩:=h
 obtain ⟨u,rfl,ru⟩:=rv.one
 cases ru
 obtain ⟨its,r,pl,_⟩:=I.list hp
 have hl:=r.length
 have isl:s.heap.IsList p its.toArray:=pl.isList
 obtain ⟨o,e,_⟩:=id isl
 refine call_all_walk (wpAny_pyIter_list isl ?_)
 have ne:p≠s.heap.objs.size:=Nat.ne_of_lt (Heap.lt_size e)
 have tv:∀ (i:Nat) (v:Value),its.toArray[i]?=some v -> ∃ b,bs[i]?=some b /\ v=Value.bool b:=fun i v hv=>by
  have hv':its[i]?=some v:=by simpa using hv
  have hi:i<its.length:=(List.getElem?_eq_some_iff.mp hv').1
  rw [<- hl,List.length_map] at hi
  have hx:(bs.map V.bl)[i]?=some (V.bl bs[i]):=by simp [hi]
  obtain ⟨u,hu,ru⟩:=r.get hx
  rw [hv'] at hu; cases hu
  exact ⟨bs[i],by simp [hi],ru⟩
 refine ⟨s.heap.objs.size,_,_,_,_,_,(fun i=>(bs[i]?).getD false),rfl,Walks.list (A:=X.A.in1) hh s.heap.objs.size p ne its.toArray,⟨⟨_,Heap.get?_push_size _ rfl,rfl,rfl⟩,isl.at fun o e=>Heap.get?_push_of_some _ e⟩,fun i v s' Q' E' hP hQ=>?_,fun h' tk hk=>?_⟩
 . obtain ⟨b,hb,rfl⟩:=tv i v hP
   have hQ':Q' ((bs[i]?).getD false) s':=hQ
   rw [hb] at hQ'
   exact wpAny_truthy_bool hQ'
 . have en:its.toArray.size=bs.length:=by rw [List.size_toArray,<- hl,List.length_map]
   have eb:(List.range its.toArray.size).all (fun i=>(bs[i]?).getD false)=bs.all id:=by
    rw [en]
    rw [Bool.eq_iff_iff,List.all_eq_true,List.all_eq_true]
    constructor
    . intro hA b hb
      obtain ⟨i,hi,rfl⟩:=List.mem_iff_getElem.mp hb
      have:=hA i (by simpa using hi)
      simpa [hi] using this
    . intro hA i hi
      have hi':i<bs.length:=by simpa using hi
      have:=hA bs[i] (List.getElem_mem hi')
      simpa [hi'] using this
   rw [eb]
   refine ⟨.bl _,H,I.kept (h':=h') (t':=tk) fun b o e'=>hk b o ?_ (Heap.get?_push_of_some _ e'),rfl,q⟩
   have lt:=Heap.lt_size e'
   intro z
   have z':b=s.heap.objs.size:=by simpa using z
   exact absurd (z' ▸ lt) (Nat.lt_irrefl _)
end
noncomputable def isStar:Expr -> Bool
 |.Starred ..=>true
 |_=>false
theorem BB {e:Expr} {es:List Expr} {env:Env} (h:isStar e=false):starEach (e ::es) env=(false,eval e env) ::starEach es env:=by
 cases e<;>first|rfl|cases h
theorem C8 {X:Cx} {e:Expr} {es:List Expr} {te:TE} {t:TA} (ha:PE X e te) (hr:PA X es t) (hs:isStar e=false:=by rfl):PA X (e ::es) (ja te t):=ES ha hr (BB hs)
end L2.E
namespace L2.P
open PySem
noncomputable def ixP (n:Nat) (i:Int):Option Nat:=if 0 <= i then (if i<n then some i.toNat else none) else if -(n:Int) <= i then some (i+n).toNat else none
noncomputable def atP {α:Type} (xs:List α) (i:Int):Option α:=(ixP xs.length i).bind fun j=>xs[j]?
noncomputable def rK (n d:Nat):Option Int -> Nat
 |none=>d
 |some v=>if v<0 then (v+(n:Int)).toNat else min v.toNat n
inductive PV where
 |non|bl (b:Bool)|int (i:Int)|str (s:Str)|lst (xs:List PV)|tup (xs:List PV)
inductive OV where
 | sh (x:PV)|ol (ts:List OV)|ob (c:String) (ks:List Str) (ts:List OV)
   |di (kvs:List (Int×PV))|dt (kvs:List (List Int×PV))
inductive Sl where
 | sh (x:PV)|ow (xs:List PV)|ex (c:String) (fs:List (Str×PV))
   |tr (io:Bool) (t:OV)|bo (t:OV)
abbrev ah:=List (Option Sl)
inductive RV where
 |sh (x:PV)|fr (xs:List PV)|al (xs:List PV)
noncomputable def RV.pv:RV -> PV
 |.sh x=>x
 |.fr xs=>.lst xs
 |.al xs=>.lst xs
abbrev XF:=List (Str×PV)
inductive OE where
 |ok (r:RV)|exc (c:String) (fs:XF)|bad
inductive OT where
 |ok (b:Bool)|exc (c:String) (fs:XF)|bad
inductive OA where
 |ok (xs:List PV)|exc (c:String) (fs:XF)|bad
inductive OS where
 |nx (ρ:ah)|rt (ρ:ah) (r:RV)|bk (ρ:ah)|ct (ρ:ah)|exc (ρ:ah) (c:String) (fs:XF)|bad
noncomputable def OE.bind:OE -> (RV -> OE) -> OE
 |.ok r,f=>f r
 |.exc c fs,_=>.exc c fs
 |.bad,_=>.bad
noncomputable def OE.gK:OE -> (RV -> OT) -> OT
 |.ok r,f=>f r
 |.exc c fs,_=>.exc c fs
 |.bad,_=>.bad
noncomputable def OE.fA:OE -> (RV -> OA) -> OA
 |.ok r,f=>f r
 |.exc c fs,_=>.exc c fs
 |.bad,_=>.bad
noncomputable def OE.cX (ρ:ah):OE -> (RV -> OS) -> OS
 |.ok r,f=>f r
 |.exc c fs,_=>.exc ρ c fs
 |.bad,_=>.bad
noncomputable def OT.bind:OT -> (Bool -> OE) -> OE
 |.ok r,f=>f r
 |.exc c fs,_=>.exc c fs
 |.bad,_=>.bad
noncomputable def OT.gK:OT -> (Bool -> OT) -> OT
 |.ok r,f=>f r
 |.exc c fs,_=>.exc c fs
 |.bad,_=>.bad
noncomputable def OT.cX (ρ:ah):OT -> (Bool -> OS) -> OS
 |.ok r,f=>f r
 |.exc c fs,_=>.exc ρ c fs
 |.bad,_=>.bad
noncomputable def OA.bind:OA -> (List PV -> OE) -> OE
 |.ok r,f=>f r
 |.exc c fs,_=>.exc c fs
 |.bad,_=>.bad
noncomputable def OA.fA:OA -> (List PV -> OA) -> OA
 |.ok r,f=>f r
 |.exc c fs,_=>.exc c fs
 |.bad,_=>.bad
noncomputable def OA.cX (ρ:ah):OA -> (List PV -> OS) -> OS
 |.ok r,f=>f r
 |.exc c fs,_=>.exc ρ c fs
 |.bad,_=>.bad
noncomputable def ao (i:Nat):ah -> OE:=fun ρ=>match ρ[i]? with
 |some (some (.sh x))=>.ok (.sh x)
 |some (some (.ow xs))=>.ok (.al xs)
 |_=>.bad
noncomputable def mC (x:PV):ah -> OE:=fun _=>.ok (.sh x)
noncomputable def oE:Option RV -> OE
 |some r=>.ok r
 |none=>.bad
noncomputable def mOp (g:PV -> PV -> Option RV) (ma mb:ah -> OE):ah -> OE:=fun ρ=>(ma ρ).bind fun a=>(mb ρ).bind fun b=>oE (g a.pv b.pv)
noncomputable def gI (C:Int -> Int -> Bool) (f:Int -> Int -> PV):PV -> PV -> Option RV
 |.int i,.int j=>if C i j then some (.sh (f i j)) else none
 |_,_=>none
noncomputable def fm:=gI (fun _ _=>true) fun i j=>.int (i+j)
noncomputable def ve:=gI (fun _ _=>true) fun i j=>.int (i - j)
noncomputable def yd:=gI (fun i j=>(decide (-(2 ^ 64)<i)&&decide (i<2 ^ 64))||(decide (-(2 ^ 64)<j)&&decide (j<2 ^ 64))) fun i j=>.int (i*j)
noncomputable def dC:=gI (fun _ j=>decide (0<j)&&decide (j<1073741824)) fun i j=>.int (i/j)
noncomputable def b5:=gI (fun _ j=>decide (0<j)) fun i j=>.int (i%j)
noncomputable def gLt:=gI (fun _ _=>true) fun i j=>.bl (decide (i<j))
noncomputable def gLe:=gI (fun _ _=>true) fun i j=>.bl (decide (i <= j))
noncomputable def gGt:=gI (fun _ _=>true) fun i j=>.bl (decide (j<i))
noncomputable def gGe:=gI (fun _ _=>true) fun i j=>.bl (decide (j <= i))
noncomputable def eqS:PV -> PV -> Option Bool
 |.non,.non=>some true|.non,.int _=>some false|.int _,.non=>some false|.non,.bl _=>some false|.bl _,.non=>some false|.non,.str _=>some false|.str _,.non=>some false
 |.int a,.int b=>some (decide (a=b))|.bl a,.bl b=>some (decide (a=b))|.str a,.str b=>some (decide (a=b))
 |.int _,.str _=>some false|.str _,.int _=>some false|.bl _,.str _=>some false|.str _,.bl _=>some false
 |_,_=>none
noncomputable def gEq:PV -> PV -> Option RV:=fun x y=>(eqS x y).map fun b=>.sh (.bl b)
noncomputable def gNe:PV -> PV -> Option RV:=fun x y=>(eqS x y).map fun b=>.sh (.bl (!b))
noncomputable def mf:RV -> Option PV
 |.sh x=>some x
 |.fr xs=>some (.lst xs)
 |.al _=>none
noncomputable def aG:ah -> OA:=fun _=>.ok []
noncomputable def aj (me:ah -> OE) (mr:ah -> OA):ah -> OA:=fun ρ=>(me ρ).fA fun r=>match mf r with
 |some x=>(mr ρ).fA fun xs=>.ok (x ::xs)
 |none=>.bad
noncomputable def lim:Nat:=16777216
noncomputable def bP (ma:ah -> OA):ah -> OE:=fun ρ=>(ma ρ).bind fun xs=>if xs.length <= lim then .ok (.fr xs) else .bad
noncomputable def fU (ma:ah -> OA):ah -> OE:=fun ρ=>(ma ρ).bind fun xs=>if xs.length <= lim then .ok (.sh (.tup xs)) else .bad
noncomputable def bp (f:List PV -> OE) (ma:ah -> OA):ah -> OE:=fun ρ=>(ma ρ).bind f
noncomputable def mUn (g:PV -> Option RV) (ma:ah -> OE):ah -> OE:=fun ρ=>(ma ρ).bind fun a=>oE (g a.pv)
noncomputable def gj:PV -> Option RV
 |.int i=>some (.sh (.int (-i)))
 |_=>none
noncomputable def qQ:PV -> Option RV
 |.lst xs=>some (.sh (.int xs.length))
 |.tup xs=>some (.sh (.int xs.length))
 |_=>none
noncomputable def yx:PV -> Option RV
 |.int i=>some (.sh (.int i))
 |.bl b=>some (.sh (.int (if b then 1 else 0)))
 |_=>none
noncomputable def jX:PV -> PV -> Option RV
 |.lst xs,.int i=>(atP xs i).map .sh
 |_,_=>none
noncomputable def gv:PV -> PV -> Option RV
 |.tup xs,.int i=>(atP xs i).map .sh
 |_,_=>none
noncomputable def gz:PV -> PV -> Option RV
 |.lst xs,.lst ys=>if xs.length+ys.length <= lim then some (.fr (xs++ys)) else none
 |_,_=>none
noncomputable def rN:List PV -> Option (List Bool)
 |[]=>some []
 |.bl i ::r=>(rN r).map (i ::·)
 |_ ::_=>none
noncomputable def Ff:PV -> Option RV
 |.lst xs=>(rN xs).map fun bs=>.sh (.bl (bs.all id))
 |_=>none
noncomputable def isP (T:String):PV -> Option Bool
 |.int _=>if T = "int" then some true else if T = "bool" \/ T = "list" \/ T = "tuple" \/ T = "str" then some false else none
 |.bl _=>if T = "int" \/ T = "bool" then some true else if T = "list" \/ T = "tuple" \/ T = "str" then some false else none
 |.non=>if T = "int" \/ T = "bool" \/ T = "list" \/ T = "tuple" \/ T = "str" then some false else none
 |.str _=>if T = "str" then some true else if T = "int" \/ T = "bool" \/ T = "list" \/ T = "tuple" then some false else none
 |.lst _=>if T = "list" then some true else if T = "int" \/ T = "bool" \/ T = "tuple" \/ T = "str" then some false else none
 |.tup _=>if T = "tuple" then some true else if T = "int" \/ T = "bool" \/ T = "list" \/ T = "str" then some false else none
noncomputable def mIs (T:String) (ma:ah -> OE):ah -> OE:=mUn (fun x=>(isP T x).map fun b=>.sh (.bl b)) ma
noncomputable def pO:PV -> Option Bool
 |.non=>some false
 |.bl b=>some b
 |.int i=>some (i != 0)
 |.lst xs=>some (!xs.isEmpty)
 |.tup xs=>some (!xs.isEmpty)
 |.str _=>none
noncomputable def oT:Option Bool -> OT
 |some b=>.ok b
 |none=>.bad
noncomputable def de (ma:ah -> OE):ah -> OT:=fun ρ=>(ma ρ).gK fun r=>oT (pO r.pv)
noncomputable def az (ma:ah -> OE):ah -> OT:=fun ρ=>(ma ρ).gK fun r=>match r.pv with
 |.bl b=>.ok b
 |_=>.bad
noncomputable def dI (m n:ah -> OT):ah -> OT:=fun ρ=>(m ρ).gK fun b=>if b=true then n ρ else .ok false
noncomputable def u4 (m n:ah -> OT):ah -> OT:=fun ρ=>(m ρ).gK fun b=>if b=true then .ok true else n ρ
noncomputable def yM (m n:ah -> OE):ah -> OE:=fun ρ=>(m ρ).bind fun r=>match r.pv with
 |.bl b=>if b=true then n ρ else .ok (.sh (.bl false))
 |_=>.bad
noncomputable def CY (m:ah -> OE):ah -> OE:=fun ρ=>(m ρ).bind fun r=>match r.pv with
 |.bl b=>.ok (.sh (.bl (!b)))
 |_=>.bad
noncomputable def gi (c:ah -> OT) (m n:ah -> OE):ah -> OE:=fun ρ=>(c ρ).bind fun b=>if b=true then m ρ else n ρ
noncomputable def lV (g g':PV -> PV -> Option RV) (ma mb mc:ah -> OE):ah -> OE:=fun ρ=>(ma ρ).bind fun a=>(mb ρ).bind fun b=>(oE (g a.pv b.pv)).bind fun r=>match r.pv with
 |.bl k=>if k=true then (mc ρ).bind fun c=>oE (g' b.pv c.pv) else .ok (.sh (.bl false))
 |_=>.bad
noncomputable def OS.andThen:OS -> (ah -> OS) -> OS
 |.nx ρ,k=>k ρ
 |o,_=>o
noncomputable def OS.turn:OS -> (ah -> OS) -> OS
 |.nx ρ,k=>k ρ
 |.ct ρ,k=>k ρ
 |.bk ρ,_=>.nx ρ
 |o,_=>o
noncomputable def aH (a b:ah -> OS):ah -> OS:=fun ρ=>(a ρ).andThen b
noncomputable def aT:ah -> OS:=fun ρ=>.nx ρ
noncomputable def C1:RV -> Option Sl
 |.sh x=>some (.sh x)
 |.fr xs=>some (.ow xs)
 |.al _=>none
noncomputable def bb (i:Nat) (me:ah -> OE):ah -> OS:=fun ρ=>(me ρ).cX ρ fun r=>match C1 r with
 |some s=>.nx (ρ.set i (some s))
 |none=>.bad
noncomputable def bj (c:ah -> OT) (m n:ah -> OS):ah -> OS:=fun ρ=>(c ρ).cX ρ fun b=>if b=true then m ρ else n ρ
noncomputable def bg (me:ah -> OE):ah -> OS:=fun ρ=>(me ρ).cX ρ fun r=>match r with
 |.al _=>.bad
 |r=>.rt ρ r
noncomputable def ir (i:Nat):ah -> OS:=fun ρ=>match ρ[i]? with
 |some (some (.sh x))=>.rt ρ (.sh x)
 |some (some (.ow xs))=>.rt (ρ.set i none) (.fr xs)
 |_=>.bad
noncomputable def nr (i:Nat) (ρ:ah):ah:=match ρ[i]? with
 |some (some (.ow xs))=>ρ.set i (some (.sh (.lst xs)))
 |_=>ρ
noncomputable def eM (i:Nat) (me:ah -> OE):ah -> OS:=fun ρ=>match ρ[i]? with
 | some (some (.ow xs))=>(me ρ).cX ρ fun r=>match mf r with
   |some y=>if xs.length<lim then .nx (ρ.set i (some (.ow (xs++[y])))) else .bad
   |none=>.bad
 |_=>.bad
noncomputable def jj (i:Nat) (mb:ah -> OS):List PV -> ah -> OS
 |[],ρ=>.nx ρ
 |x ::xs,ρ=>(mb (ρ.set i (some (.sh x)))).turn (jj i mb xs)
noncomputable def zd:RV -> Option (List PV)
 |.sh (.lst xs)=>some xs
 |.fr xs=>some xs
 |_=>none
noncomputable def sU (i:Nat) (ml:ah -> OE) (mb:ah -> OS):ah -> OS:=fun ρ=>(ml ρ).cX ρ fun r=>match zd r with
 |some xs=>jj i mb xs ρ
 |none=>.bad
noncomputable def dF (n:Nat):List PV:=(List.range n).map fun k:Nat=>PV.int (k:Int)
noncomputable def tm (i:Nat) (me:ah -> OE) (mb:ah -> OS):ah -> OS:=fun ρ=>(me ρ).cX ρ fun r=>match r.pv with
 |.int j=>if -(2 ^ 62) <= j /\ j<2 ^ 62 then jj i mb (dF j.toNat) ρ else .bad
 |_=>.bad
noncomputable def fQ (mc:ah -> OT) (mb:ah -> OS):Nat -> ah -> OS
 |0,_=>.bad
 |n+1,ρ=>(mc ρ).cX ρ fun b=>if b=true then (mb ρ).turn (fQ mc mb n) else .nx ρ
noncomputable def pS:PV -> Option Int
 |.int i=>some i
 |_=>none
noncomputable def gp (m:ah -> OE):ah -> OE:=fun ρ=>(m ρ).bind fun r=>match r.pv with
 |.int i=>.ok (.sh (.int i))
 |_=>.bad
noncomputable def xn (xs:List PV) (lo hi:Option Int):List PV:=(xs.drop (rK xs.length 0 lo)).take (rK xs.length xs.length hi - rK xs.length 0 lo)
noncomputable def Bu (x:PV) (lo hi:Option Int):Option RV:=match x with
 |.lst xs=>some (.fr (xn xs lo hi))
 |_=>none
noncomputable def kY (ma ml mh:ah -> OE):ah -> OE:=fun ρ=>(ma ρ).bind fun a=>(ml ρ).bind fun l=>(mh ρ).bind fun h=>oE (Bu a.pv (pS l.pv) (pS h.pv))
noncomputable def cY (ι:List Nat) (ρ:ah):ah:=ι.map fun i=>(ρ[i]?).join
noncomputable def dr (me:ah -> OE) (ρ:ah):List PV -> OA
 |[]=>.ok []
 | x ::xs=>(me (ρ++[some (.sh x)])).fA fun r=>match mf r with
   |some y=>(dr me ρ xs).fA fun ys=>.ok (y ::ys)
   |none=>.bad
noncomputable def noX:OA -> OE
 |.ok xs=>if xs.length <= lim then .ok (.fr xs) else .bad
 |_=>.bad
noncomputable def sG (ml:ah -> OE) (ι:List Nat) (me:ah -> OE):ah -> OE:=fun ρ=>(ml ρ).bind fun r=>match r.pv with
 |.lst xs=>noX (dr me (cY ι ρ) xs)
 |_=>.bad
noncomputable def xw (mn:ah -> OE) (ι:List Nat) (me:ah -> OE):ah -> OE:=fun ρ=>(mn ρ).bind fun r=>match r.pv with
 |.int j=>if -(2 ^ 62) <= j /\ j<2 ^ 62 then noX (dr me (cY ι ρ) (dF j.toNat)) else .bad
 |_=>.bad
noncomputable def fin:OS -> OE
 |.nx _=>.ok (.sh .non)
 |.rt _ (.al _)=>.bad
 |.rt _ r=>.ok r
 |.exc _ c fs=>.exc c fs
 |_=>.bad
noncomputable def kF (n:Nat) (xs:List PV):ah:=xs.map (fun x=>some (.sh x))++List.replicate (n - xs.length) none
noncomputable def fnP (np n:Nat) (m:ah -> OS):List PV -> OE:=fun xs=>if xs.length=np then fin (m (kF n xs)) else .bad
noncomputable def fuel:Nat:=100000
noncomputable def jQ (i:Nat) (m:ah -> OS):ah -> OS:=fun ρ=>m (nr i ρ)
noncomputable def cM:PV -> Bool
 |.non=>true
 |_=>false
noncomputable def yC:PV -> PV -> Option RV
 |x,.non=>some (.sh (.bl (cM x)))
 |_,_=>none
noncomputable def yO:PV -> PV -> Option RV
 |x,.non=>some (.sh (.bl (!cM x)))
 |_,_=>none
@[simp] theorem y7 (i:Nat) (ρ:ah):ao i ρ=(match ρ[i]? with
  |some (some (.sh x))=>.ok (.sh x)
  |some (some (.ow xs))=>.ok (.al xs)
  |_=>.bad):=rfl
@[simp] theorem GF (g:PV -> PV -> Option RV) (ma mb:ah -> OE) (ρ:ah):mOp g ma mb ρ=((ma ρ).bind fun a=>(mb ρ).bind fun b=>oE (g a.pv b.pv)):=rfl
@[simp] theorem KW (me:ah -> OE) (mr:ah -> OA) (ρ:ah):aj me mr ρ=((me ρ).fA fun r=>match mf r with
  |some x=>(mr ρ).fA fun xs=>.ok (x ::xs)
  |none=>.bad):=rfl
@[simp] theorem Lu (ma:ah -> OA) (ρ:ah):bP ma ρ=((ma ρ).bind fun xs=>if xs.length <= lim then .ok (.fr xs) else .bad):=rfl
@[simp] theorem Ls (ma:ah -> OA) (ρ:ah):fU ma ρ=((ma ρ).bind fun xs=>if xs.length <= lim then .ok (.sh (.tup xs)) else .bad):=rfl
@[simp] theorem KP (f:List PV -> OE) (ma:ah -> OA) (ρ:ah):bp f ma ρ=((ma ρ).bind f):=rfl
@[simp] theorem Cb (g:PV -> Option RV) (ma:ah -> OE) (ρ:ah):mUn g ma ρ=((ma ρ).bind fun a=>oE (g a.pv)):=rfl
@[simp] theorem DK (ma:ah -> OE) (ρ:ah):de ma ρ=((ma ρ).gK fun r=>oT (pO r.pv)):=rfl
@[simp] theorem EI (ma:ah -> OE) (ρ:ah):az ma ρ=((ma ρ).gK fun r=>match r.pv with
  |.bl b=>.ok b
  |_=>.bad):=rfl
@[simp] theorem Fq (m n:ah -> OT) (ρ:ah):dI m n ρ=((m ρ).gK fun b=>if b=true then n ρ else .ok false):=rfl
@[simp] theorem LJ (m n:ah -> OT) (ρ:ah):u4 m n ρ=((m ρ).gK fun b=>if b=true then .ok true else n ρ):=rfl
@[simp] theorem KG (m n:ah -> OE) (ρ:ah):yM m n ρ=((m ρ).bind fun r=>match r.pv with
  |.bl b=>if b=true then n ρ else .ok (.sh (.bl false))
  |_=>.bad):=rfl
@[simp] theorem KS (m:ah -> OE) (ρ:ah):CY m ρ=((m ρ).bind fun r=>match r.pv with
  |.bl b=>.ok (.sh (.bl (!b)))
  |_=>.bad):=rfl
@[simp] theorem LK (c:ah -> OT) (m n:ah -> OE) (ρ:ah):gi c m n ρ=((c ρ).bind fun b=>if b=true then m ρ else n ρ):=rfl
@[simp] theorem Jy (g g':PV -> PV -> Option RV) (ma mb mc:ah -> OE) (ρ:ah):lV g g' ma mb mc ρ=((ma ρ).bind fun a=>(mb ρ).bind fun b=>(oE (g a.pv b.pv)).bind fun r=>match r.pv with
  |.bl k=>if k=true then (mc ρ).bind fun c=>oE (g' b.pv c.pv) else .ok (.sh (.bl false))
  |_=>.bad):=rfl
@[simp] theorem oU (a b:ah -> OS) (ρ:ah):aH a b ρ=((a ρ).andThen b):=rfl
@[simp] theorem ET (ρ:ah):aT  ρ=(.nx ρ):=rfl
@[simp] theorem DQ (i:Nat) (me:ah -> OE) (ρ:ah):bb i me ρ=((me ρ).cX ρ fun r=>match C1 r with
  |some s=>.nx (ρ.set i (some s))
  |none=>.bad):=rfl
@[simp] theorem zT (c:ah -> OT) (m n:ah -> OS) (ρ:ah):bj c m n ρ=((c ρ).cX ρ fun b=>if b=true then m ρ else n ρ):=rfl
@[simp] theorem Cy (me:ah -> OE) (ρ:ah):bg me ρ=((me ρ).cX ρ fun r=>match r with
  |.al _=>.bad
  |r=>.rt ρ r):=rfl
@[simp] theorem Jl (i:Nat) (ρ:ah):ir i ρ=(match ρ[i]? with
  |some (some (.sh x))=>.rt ρ (.sh x)
  |some (some (.ow xs))=>.rt (ρ.set i none) (.fr xs)
  |_=>.bad):=rfl
@[simp] theorem Jm (i:Nat) (me:ah -> OE) (ρ:ah):eM i me ρ=(match ρ[i]? with
  | some (some (.ow xs))=>(me ρ).cX ρ fun r=>match mf r with
    |some y=>if xs.length<lim then .nx (ρ.set i (some (.ow (xs++[y])))) else .bad
    |none=>.bad
  |_=>.bad):=rfl
@[simp] theorem KQ (i:Nat) (ml:ah -> OE) (mb:ah -> OS) (ρ:ah):sU i ml mb ρ=((ml ρ).cX ρ fun r=>match zd r with
  |some xs=>jj i mb xs ρ
  |none=>.bad):=rfl
@[simp] theorem KO (i:Nat) (me:ah -> OE) (mb:ah -> OS) (ρ:ah):tm i me mb ρ=((me ρ).cX ρ fun r=>match r.pv with
  |.int j=>if -(2 ^ 62) <= j /\ j<2 ^ 62 then jj i mb (dF j.toNat) ρ else .bad
  |_=>.bad):=rfl
@[simp] theorem Kv (m:ah -> OE) (ρ:ah):gp m ρ=((m ρ).bind fun r=>match r.pv with
  |.int i=>.ok (.sh (.int i))
  |_=>.bad):=rfl
@[simp] theorem LH (ma ml mh:ah -> OE) (ρ:ah):kY ma ml mh ρ=((ma ρ).bind fun a=>(ml ρ).bind fun l=>(mh ρ).bind fun h=>oE (Bu a.pv (pS l.pv) (pS h.pv))):=rfl
@[simp] theorem Cu (ml:ah -> OE) (ι:List Nat) (me:ah -> OE) (ρ:ah):sG ml ι me ρ=((ml ρ).bind fun r=>match r.pv with
  |.lst xs=>noX (dr me (cY ι ρ) xs)
  |_=>.bad):=rfl
@[simp] theorem Kf (mn:ah -> OE) (ι:List Nat) (me:ah -> OE) (ρ:ah):xw mn ι me ρ=((mn ρ).bind fun r=>match r.pv with
  |.int j=>if -(2 ^ 62) <= j /\ j<2 ^ 62 then noX (dr me (cY ι ρ) (dF j.toNat)) else .bad
  |_=>.bad):=rfl
@[simp] theorem Jk (i:Nat) (m:ah -> OS) (ρ:ah):jQ i m ρ=(m (nr i ρ)):=rfl
@[simp] theorem Mc (x:PV) (ρ:ah):mC x ρ=.ok (.sh x):=rfl
@[simp] theorem Lx (ρ:ah):aG ρ=.ok []:=rfl
@[simp] theorem pf (r:RV) (f:RV -> OE):OE.bind (.ok r) f=f r:=rfl
@[simp] theorem G8 (c:String) (fs:XF) (f:RV -> OE):OE.bind (.exc c fs) f=.exc c fs:=rfl
@[simp] theorem Iz {p:Prop} [Decidable p] (x y:OE) (f:RV -> OE):OE.bind (if p then x else y) f=if p then OE.bind x f else OE.bind y f:=by split<;>rfl
@[simp] theorem I8 (r:RV) (f:RV -> OT):OE.gK (.ok r) f=f r:=rfl
@[simp] theorem Gq (c:String) (fs:XF) (f:RV -> OT):OE.gK (.exc c fs) f=.exc c fs:=rfl
@[simp] theorem GH {p:Prop} [Decidable p] (x y:OE) (f:RV -> OT):OE.gK (if p then x else y) f=if p then OE.gK x f else OE.gK y f:=by split<;>rfl
@[simp] theorem GY (r:RV) (f:RV -> OA):OE.fA (.ok r) f=f r:=rfl
@[simp] theorem Gh (c:String) (fs:XF) (f:RV -> OA):OE.fA (.exc c fs) f=.exc c fs:=rfl
@[simp] theorem Gd {p:Prop} [Decidable p] (x y:OE) (f:RV -> OA):OE.fA (if p then x else y) f=if p then OE.fA x f else OE.fA y f:=by split<;>rfl
@[simp] theorem Jg (r:Bool) (f:Bool -> OE):OT.bind (.ok r) f=f r:=rfl
@[simp] theorem IW (c:String) (fs:XF) (f:Bool -> OE):OT.bind (.exc c fs) f=.exc c fs:=rfl
@[simp] theorem HP {p:Prop} [Decidable p] (x y:OT) (f:Bool -> OE):OT.bind (if p then x else y) f=if p then OT.bind x f else OT.bind y f:=by split<;>rfl
@[simp] theorem Ir (r:Bool) (f:Bool -> OT):OT.gK (.ok r) f=f r:=rfl
@[simp] theorem GB (c:String) (fs:XF) (f:Bool -> OT):OT.gK (.exc c fs) f=.exc c fs:=rfl
@[simp] theorem F3 {p:Prop} [Decidable p] (x y:OT) (f:Bool -> OT):OT.gK (if p then x else y) f=if p then OT.gK x f else OT.gK y f:=by split<;>rfl
@[simp] theorem Jj (r:List PV) (f:List PV -> OE):OA.bind (.ok r) f=f r:=rfl
@[simp] theorem HG (c:String) (fs:XF) (f:List PV -> OE):OA.bind (.exc c fs) f=.exc c fs:=rfl
@[simp] theorem HI {p:Prop} [Decidable p] (x y:OA) (f:List PV -> OE):OA.bind (if p then x else y) f=if p then OA.bind x f else OA.bind y f:=by split<;>rfl
@[simp] theorem IM (r:List PV) (f:List PV -> OA):OA.fA (.ok r) f=f r:=rfl
@[simp] theorem Gb (c:String) (fs:XF) (f:List PV -> OA):OA.fA (.exc c fs) f=.exc c fs:=rfl
@[simp] theorem Gm {p:Prop} [Decidable p] (x y:OA) (f:List PV -> OA):OA.fA (if p then x else y) f=if p then OA.fA x f else OA.fA y f:=by split<;>rfl
@[simp] theorem iG (ρ:ah) (r:RV) (f:RV -> OS):OE.cX ρ (.ok r) f=f r:=rfl
@[simp] theorem F9 (ρ:ah) (c:String) (fs:XF) (f:RV -> OS):OE.cX ρ (.exc c fs) f=.exc ρ c fs:=rfl
@[simp] theorem Gg {p:Prop} [Decidable p] (ρ:ah) (x y:OE) (f:RV -> OS):OE.cX ρ (if p then x else y) f=if p then OE.cX ρ x f else OE.cX ρ y f:=by split<;>rfl
@[simp] theorem lj (ρ:ah) (r:Bool) (f:Bool -> OS):OT.cX ρ (.ok r) f=f r:=rfl
@[simp] theorem Gu (ρ:ah) (c:String) (fs:XF) (f:Bool -> OS):OT.cX ρ (.exc c fs) f=.exc ρ c fs:=rfl
@[simp] theorem GD {p:Prop} [Decidable p] (ρ:ah) (x y:OT) (f:Bool -> OS):OT.cX ρ (if p then x else y) f=if p then OT.cX ρ x f else OT.cX ρ y f:=by split<;>rfl
@[simp] theorem I0 (ρ:ah) (r:List PV) (f:List PV -> OS):OA.cX ρ (.ok r) f=f r:=rfl
@[simp] theorem F5 (ρ:ah) (c:String) (fs:XF) (f:List PV -> OS):OA.cX ρ (.exc c fs) f=.exc ρ c fs:=rfl
@[simp] theorem FY {p:Prop} [Decidable p] (ρ:ah) (x y:OA) (f:List PV -> OS):OA.cX ρ (if p then x else y) f=if p then OA.cX ρ x f else OA.cX ρ y f:=by split<;>rfl
@[simp] theorem jC (ρ:ah) (k:ah -> OS):(OS.nx ρ).andThen k=k ρ:=rfl
@[simp] theorem m7 (ρ:ah) (k:ah -> OS):(OS.nx ρ).turn k=k ρ:=rfl
@[simp] theorem Hu (ρ:ah) (k:ah -> OS):(OS.bk ρ).andThen k=OS.bk ρ:=rfl
@[simp] theorem KL (ρ:ah) (k:ah -> OS):(OS.bk ρ).turn k=.nx ρ:=rfl
@[simp] theorem Iv (ρ:ah) (k:ah -> OS):(OS.ct ρ).andThen k=OS.ct ρ:=rfl
@[simp] theorem Kp (ρ:ah) (k:ah -> OS):(OS.ct ρ).turn k=k ρ:=rfl
@[simp] theorem uC (ρ:ah) (r:RV) (k:ah -> OS):(OS.rt ρ r).andThen k=OS.rt ρ r:=rfl
@[simp] theorem AG (ρ:ah) (r:RV) (k:ah -> OS):(OS.rt ρ r).turn k=OS.rt ρ r:=rfl
@[simp] theorem GI (ρ:ah) (c:String) (fs:XF) (k:ah -> OS):(OS.exc ρ c fs).andThen k=OS.exc ρ c fs:=rfl
@[simp] theorem Kd (ρ:ah) (c:String) (fs:XF) (k:ah -> OS):(OS.exc ρ c fs).turn k=OS.exc ρ c fs:=rfl
@[simp] theorem GJ {p:Prop} [Decidable p] (x y:OS) (k:ah -> OS):OS.andThen (if p then x else y) k=if p then x.andThen k else y.andThen k:=by split<;>rfl
@[simp] theorem Jx {p:Prop} [Decidable p] (x y:OS) (k:ah -> OS):OS.turn (if p then x else y) k=if p then x.turn k else y.turn k:=by split<;>rfl
@[simp] theorem LD (ρ:ah):fin (.nx ρ)=.ok (.sh .non):=rfl
@[simp] theorem LG (ρ:ah) (x:PV):fin (.rt ρ (.sh x))=.ok (.sh x):=rfl
@[simp] theorem Lp (ρ:ah) (x:List PV):fin (.rt ρ (.fr x))=.ok (.fr x):=rfl
@[simp] theorem KH (ρ:ah) (c:String) (fs:XF):fin (.exc ρ c fs)=.exc c fs:=rfl
@[simp] theorem Kt {p:Prop} [Decidable p] (x y:OS):fin (if p then x else y)=if p then fin x else fin y:=by split<;>rfl
@[simp] theorem L6 (x:PV):RV.pv (.sh x)=x:=rfl
@[simp] theorem DB (x:List PV):RV.pv (.fr x)=.lst x:=rfl
@[simp] theorem DH (x:List PV):RV.pv (.al x)=.lst x:=rfl
@[simp] theorem xo (r:RV):oE (some r)=.ok r:=rfl
@[simp] theorem KC (r:Bool):oT (some r)=.ok r:=rfl
@[simp] theorem Jf (i:Nat) (mb:ah -> OS) (ρ:ah):jj i mb [] ρ=.nx ρ:=rfl
@[simp] theorem la (i:Nat) (mb:ah -> OS) (x:PV) (xs:List PV) (ρ:ah):jj i mb (x ::xs) ρ=(mb (ρ.set i (some (.sh x)))).turn (jj i mb xs):=rfl
@[simp] theorem Lh (i j:Int):fm (.int i) (.int j)=some (.sh (.int (i+j))):=rfl
@[simp] theorem K5 (i j:Int):ve (.int i) (.int j)=some (.sh (.int (i - j))):=rfl
@[simp] theorem Lo (i j:Int):yd (.int i) (.int j)=if ((decide (-(2 ^ 64)<i)&&decide (i<2 ^ 64))||(decide (-(2 ^ 64)<j)&&decide (j<2 ^ 64)))=true then some (.sh (.int (i*j))) else none:=rfl
@[simp] theorem K7 (i j:Int):dC (.int i) (.int j)=if (decide (0<j)&&decide (j<1073741824))=true then some (.sh (.int (i/j))) else none:=rfl
@[simp] theorem Lj (i j:Int):b5 (.int i) (.int j)=if decide (0<j)=true then some (.sh (.int (i%j))) else none:=rfl
@[simp] theorem L4 (i j:Int):gLt (.int i) (.int j)=some (.sh (.bl (decide (i<j)))):=rfl
@[simp] theorem LO (i j:Int):gLe (.int i) (.int j)=some (.sh (.bl (decide (i <= j)))):=rfl
@[simp] theorem L9 (i j:Int):gGt (.int i) (.int j)=some (.sh (.bl (decide (j<i)))):=rfl
@[simp] theorem LU (i j:Int):gGe (.int i) (.int j)=some (.sh (.bl (decide (j <= i)))):=rfl
@[simp] theorem Ma (i j:Int):gEq (.int i) (.int j)=some (.sh (.bl (decide (i=j)))):=rfl
@[simp] theorem L3 (i j:Int):gNe (.int i) (.int j)=some (.sh (.bl (!decide (i=j)))):=rfl
@[simp] theorem LY (i j:Bool):gEq (.bl i) (.bl j)=some (.sh (.bl (decide (i=j)))):=rfl
@[simp] theorem L7 (i j:Bool):gNe (.bl i) (.bl j)=some (.sh (.bl (!decide (i=j)))):=rfl
@[simp] theorem G1 (xs:List PV):qQ (.lst xs)=some (.sh (.int xs.length)):=rfl
@[simp] theorem K6 (xs:List PV):qQ (.tup xs)=some (.sh (.int xs.length)):=rfl
@[simp] theorem Lb (xs:List PV) (i:Int):jX (.lst xs) (.int i)=(atP xs i).map .sh:=rfl
@[simp] theorem Lz (xs:List PV) (i:Int):gv (.tup xs) (.int i)=(atP xs i).map .sh:=rfl
@[simp] theorem Hb (xs ys:List PV):gz (.lst xs) (.lst ys)=if xs.length+ys.length <= lim then some (.fr (xs++ys)) else none:=rfl
@[simp] theorem Le {p:Prop} [Decidable p] (x y:Option RV):oE (if p then x else y)=if p then oE x else oE y:=by split<;>rfl
@[simp] theorem LB (b:Bool):pO (.bl b)=some b:=rfl
@[simp] theorem K8 (i:Int):pO (.int i)=some (i != 0):=rfl
@[simp] theorem Lc (xs:List PV):pO (.lst xs)=some (!xs.isEmpty):=rfl
@[simp] theorem Lv (xs:List PV):pO (.tup xs)=some (!xs.isEmpty):=rfl
@[simp] theorem Li:pO .non=some false:=rfl
@[simp] theorem Ji (i:Int):isP "int" (.int i)=some true:=rfl
@[simp] theorem Ib (i:Int):isP "bool" (.int i)=some false:=rfl
@[simp] theorem IJ (i:Bool):isP "bool" (.bl i)=some true:=rfl
@[simp] theorem II (xs:List PV):isP "list" (.lst xs)=some true:=rfl
@[simp] theorem La (xs:List PV) (lo hi:Option Int):Bu (.lst xs) lo hi=some (.fr (xn xs lo hi)):=rfl
@[simp] theorem KI:pS .non=none:=rfl
@[simp] theorem KA (i:Int):pS (.int i)=some i:=rfl
@[simp] theorem LL (i:Int):gj (.int i)=some (.sh (.int (-i))):=rfl
@[simp] theorem KN (i:Int):yx (.int i)=some (.sh (.int i)):=rfl
@[simp] theorem Kq (i:Bool):yx (.bl i)=some (.sh (.int (if i then 1 else 0))):=rfl
@[simp] theorem Ky (x:PV):mf (.sh x)=some x:=rfl
@[simp] theorem KY (x:List PV):mf (.fr x)=some (.lst x):=rfl
@[simp] theorem Kr (x:PV):C1 (.sh x)=some (.sh x):=rfl
@[simp] theorem EJ (x:List PV):C1 (.fr x)=some (.ow x):=rfl
@[simp] theorem Ae (np n:Nat) (m:ah -> OS) (xs:List PV):fnP np n m xs=if xs.length=np then fin (m (kF n xs)) else .bad:=rfl
@[simp] theorem rl (n:Nat) (xs:List PV):kF n xs=xs.map (fun x=>some (.sh x))++List.replicate (n - xs.length) none:=rfl
@[simp] theorem Hz (xs:List PV):zd (.sh (.lst xs))=some xs:=rfl
@[simp] theorem Kw (xs:List PV):zd (.fr xs)=some xs:=rfl
@[simp] theorem Lr (x:PV):yC x .non=some (.sh (.bl (cM x))):=rfl
@[simp] theorem Ks (x:PV):yO x .non=some (.sh (.bl (!cM x))):=rfl
@[simp] theorem CG (xs:List PV):noX (.ok xs)=if xs.length <= lim then .ok (.fr xs) else .bad:=rfl
@[simp] theorem Hr (me:ah -> OE) (ρ:ah):dr me ρ []=.ok []:=rfl
@[simp] theorem HY (f:RV -> OE):OE.bind .bad f=.bad:=rfl
@[simp] theorem F6 (f:RV -> OT):OE.gK .bad f=.bad:=rfl
@[simp] theorem Gk (f:RV -> OA):OE.fA .bad f=.bad:=rfl
@[simp] theorem Io (f:Bool -> OE):OT.bind .bad f=.bad:=rfl
@[simp] theorem GA (f:Bool -> OT):OT.gK .bad f=.bad:=rfl
@[simp] theorem IL (f:List PV -> OE):OA.bind .bad f=.bad:=rfl
@[simp] theorem Gf (f:List PV -> OA):OA.fA .bad f=.bad:=rfl
@[simp] theorem Gy (ρ:ah) (f:RV -> OS):OE.cX ρ .bad f=.bad:=rfl
@[simp] theorem GG (ρ:ah) (f:Bool -> OS):OT.cX ρ .bad f=.bad:=rfl
@[simp] theorem F8 (ρ:ah) (f:List PV -> OS):OA.cX ρ .bad f=.bad:=rfl
@[simp] theorem Gw (k:ah -> OS):OS.bad.andThen k=.bad:=rfl
@[simp] theorem JK (k:ah -> OS):OS.bad.turn k=.bad:=rfl
@[simp] theorem KZ:fin .bad=.bad:=rfl
@[simp] theorem Ku:oE none=.bad:=rfl
@[simp] theorem Kx:oT none=.bad:=rfl
@[simp] theorem Kz (x:List PV):mf (.al x)=none:=rfl
@[simp] theorem KU (x:List PV):C1 (.al x)=none:=rfl
@[simp] theorem LP:(0 <= lim)=True:=by simp [lim]
@[simp] theorem LR:(1 <= lim)=True:=by simp [lim]
@[simp] theorem L0:(2 <= lim)=True:=by simp [lim]
@[simp] theorem L8:(3 <= lim)=True:=by simp [lim]
@[simp] theorem LV:(4 <= lim)=True:=by simp [lim]
@[simp] theorem LN:(5 <= lim)=True:=by simp [lim]
@[simp] theorem LW:(6 <= lim)=True:=by simp [lim]
@[simp] theorem LZ:(7 <= lim)=True:=by simp [lim]
@[simp] theorem L5:(8 <= lim)=True:=by simp [lim]
@[simp] theorem Mb:(9 <= lim)=True:=by simp [lim]
@[simp] theorem LF:(10 <= lim)=True:=by simp [lim]
@[simp] theorem K3:(11 <= lim)=True:=by simp [lim]
@[simp] theorem Ld:(12 <= lim)=True:=by simp [lim]
@[simp] theorem Lm:(13 <= lim)=True:=by simp [lim]
@[simp] theorem Lq:(14 <= lim)=True:=by simp [lim]
@[simp] theorem LI:(15 <= lim)=True:=by simp [lim]
@[simp] theorem Ln:(16 <= lim)=True:=by simp [lim]
theorem dS {n:Nat} (h:n <= 1000000):n <= lim:=by unfold lim; omega
theorem sE {n:Nat} (h:n <= 1000000):n<lim:=by unfold lim; omega
theorem tS {α:Type} (xs:List α) (k:Nat):atP xs (k:Int)=xs[k]?:=by
 unfold atP ixP
 by_cases h:k<xs.length
 . simp [h]
 . simp [h]
@[simp] theorem LQ {α:Type} (xs:List α):atP xs 0=xs[0]?:=tS xs 0
@[simp] theorem LS {α:Type} (xs:List α):atP xs 1=xs[1]?:=tS xs 1
@[simp] theorem KJ {α:Type} (xs:List α) (n:Nat):atP xs (no_index (OfNat.ofNat n:Int))=xs[n]?:=tS xs n
theorem DT {α:Type} (xs:List α) (i:Int) (h:0 <= i):atP xs i=xs[i.toNat]?:=by
 have:=tS xs i.toNat
 rwa [Int.toNat_of_nonneg h] at this
@[simp] theorem LX (T:String) (ma:ah -> OE) (ρ:ah):mIs T ma ρ=(ma ρ).bind fun a=>oE ((isP T a.pv).map fun b=>.sh (.bl b)):=rfl
@[simp] theorem yP (ns:List Bool):rN (ns.map .bl)=some ns:=by
  induction ns with
  |nil=>rfl
  |cons n ns ih=>show (rN (ns.map .bl)).map (n ::·)=_; rw [ih]; rfl
@[simp] theorem GR (n:Nat):(dF n).length=n:=by simp [dF]
theorem kD {me:ah -> OE} {ρ:ah} {α:Type} {g:α -> PV} {f:α -> PV} (l:List α) (h:∀ a∈l,me (ρ++[some (.sh (g a))])=.ok (.sh (f a))):dr me ρ (l.map g)=.ok (l.map f):=by
 induction l with
 |nil=>rfl
 | cons a l ih=>
   have h1:=h a (List.mem_cons_self)
   have h2:=ih fun b hb=>h b (List.mem_cons_of_mem _ hb)
   simp [dr,h1,h2]
end L2.P
namespace L2.P
open PySem PySem.Spec PyProof.Rows L2 L2.E
mutual
noncomputable def Rep (K:PySem.W.Frag) (S:Hp):PV -> V -> Prop
 |.non,v=>v=.non
 |.bl b,v=>v=.bl b
 |.int i,v=>v=.int i
 |.str s,v=>v=.str s
 |.lst xs,v=>∃ p vs,v=.ref p /\ SqL K S p vs /\ bZ K S xs vs
 |.tup xs,v=>∃ p vs,v=.ref p /\ SqT K S p vs /\ bZ K S xs vs
noncomputable def bZ (K:PySem.W.Frag) (S:Hp):List PV -> List V -> Prop
 |[],vs=>vs=[]
 |x ::xs,vs=>∃ v r,vs=v ::r /\ Rep K S x v /\ bZ K S xs r
end
theorem _root_.L2.aJ.tup {K:PySem.W.Frag} {H H':Hp} {a:Addr} {xs:List V} (e:aJ H H') (h:SqT K H a xs):SqT K H' a xs:=by
 rcases h with (h|⟨o,h⟩)|h
 . exact .inl (.inl (e _ _ h))
 . exact .inl (.inr ⟨o,e _ _ h⟩)
 . exact .inr h
section
variable {K:PySem.W.Frag} {S S':Hp}
mutual
theorem Rep.mono (s:aJ S S'):∀ {x:PV} {v:V},Rep K S x v -> Rep K S' x v
 |.non,_,h=>by unfold Rep at h ⊢; exact h
 |.bl _,_,h=>by unfold Rep at h ⊢; exact h
 |.int _,_,h=>by unfold Rep at h ⊢; exact h
 |.str _,_,h=>by unfold Rep at h ⊢; exact h
 | .lst _,_,h=>by
   unfold Rep at h ⊢
   obtain ⟨p,vs,e,q,r⟩:=h
   exact ⟨p,vs,e,aJ.seq s q,bZ.mono s r⟩
 | .tup _,_,h=>by
   unfold Rep at h ⊢
   obtain ⟨p,vs,e,q,r⟩:=h
   exact ⟨p,vs,e,aJ.tup s q,bZ.mono s r⟩
theorem bZ.mono (s:aJ S S'):∀ {xs:List PV} {vs:List V},bZ K S xs vs -> bZ K S' xs vs
 |[],_,h=>by unfold bZ at h ⊢; exact h
 | _ ::_,_,h=>by
   unfold bZ at h ⊢
   obtain ⟨v,r,e,q,t⟩:=h
   exact ⟨v,r,e,Rep.mono s q,bZ.mono s t⟩
end
theorem bZ.nil:bZ K S [] []:=by unfold bZ; rfl
theorem bZ.cons {x:PV} {xs:List PV} {v:V} {vs:List V} (h:Rep K S x v) (t:bZ K S xs vs):bZ K S (x ::xs) (v ::vs):=by unfold bZ; exact ⟨v,vs,rfl,h,t⟩
theorem bZ.nil_inv {vs:List V} (h:bZ K S [] vs):vs=[]:=by unfold bZ at h; exact h
theorem bZ.cons_inv {x:PV} {xs:List PV} {vs:List V} (h:bZ K S (x ::xs) vs):∃ v r,vs=v ::r /\ Rep K S x v /\ bZ K S xs r:=by unfold bZ at h; exact h
theorem bZ.append {xs ys:List PV} {vs us:List V} (h:bZ K S xs vs) (t:bZ K S ys us):bZ K S (xs++ys) (vs++us):=by
 induction xs generalizing vs with
 |nil=>rw [h.nil_inv]; exact t
 | cons x xs ih=>
   obtain ⟨v,r,rfl,q,h'⟩:=h.cons_inv
   exact .cons q (ih h')
theorem bZ.length {xs:List PV} {vs:List V} (h:bZ K S xs vs):vs.length=xs.length:=by
 induction xs generalizing vs with
 |nil=>rw [h.nil_inv]; rfl
 | cons x xs ih=>
   obtain ⟨v,r,rfl,q,h'⟩:=h.cons_inv
   simp [ih h']
theorem bZ.get {xs:List PV} {vs:List V} (h:bZ K S xs vs):∀ {i:Nat} {x:PV},xs[i]?=some x -> ∃ v,vs[i]?=some v /\ Rep K S x v:=by
 induction xs generalizing vs with
 |nil=>intro i x e; simp at e
 | cons y xs ih=>
   obtain ⟨v,r,rfl,q,h'⟩:=h.cons_inv
   intro i x e
   cases i with
   |zero=>simp at e; subst e; exact ⟨v,rfl,q⟩
   |succ i=>simp at e; obtain ⟨u,e1,e2⟩:=ih h' e; exact ⟨u,by simpa using e1,e2⟩
theorem bZ.Kg {xs:List PV} {vs:List V} (h:bZ K S xs vs) {i:Nat} {v:V} (e:vs[i]?=some v):∃ x,xs[i]?=some x /\ Rep K S x v:=by
 have hi:i<xs.length:=by rw [<- h.length]; exact (List.getElem?_eq_some_iff.mp e).1
 obtain ⟨u,e1,e2⟩:=h.get (i:=i) (x:=xs[i]) (by simp [hi])
 rw [e] at e1; cases e1
 exact ⟨_,by simp [hi],e2⟩
theorem bZ.take {xs:List PV} {vs:List V} (h:bZ K S xs vs):∀ n,bZ K S (xs.take n) (vs.take n):=by
 induction xs generalizing vs with
 |nil=>intro n; rw [h.nil_inv]; simpa using bZ.nil
 | cons y xs ih=>
   obtain ⟨v,r,rfl,q,h'⟩:=h.cons_inv
   intro n
   cases n with
   |zero=>exact .nil
   |succ n=>exact .cons q (ih h' n)
theorem bZ.drop {xs:List PV} {vs:List V} (h:bZ K S xs vs):∀ n,bZ K S (xs.drop n) (vs.drop n):=by
 induction xs generalizing vs with
 |nil=>intro n; rw [h.nil_inv]; simpa using bZ.nil
 | cons y xs ih=>
   obtain ⟨v,r,rfl,q,h'⟩:=h.cons_inv
   intro n
   cases n with
   |zero=>exact .cons q h'
   |succ n=>exact ih h' n
theorem bZ.ints {ns:List Int}:bZ K S (ns.map .int) (ns.map V.int):=by
 induction ns with
 |nil=>exact .nil
 |cons n ns ih=>exact .cons (by unfold Rep; rfl) ih
end
noncomputable def ox (K:PySem.W.Frag) (cls:String -> Option Addr) (S H:Hp) (c:String) (fs:XF) (a C:Addr):Prop:=
 cls c=some C /\ ∃ dx,H a=some (xO a C dx) /\ (fs=[] \/ ∃ d us,dx=some d /\ H d=some (.xd us) /\ fs.map (·.1)=us.map (·.1) /\ bZ K S (fs.map (·.2)) (us.map (·.2)))
noncomputable def isX:HO -> Bool
 |.ext _=>true
 |.xd _=>true
 |_=>false
noncomputable def xr (K:PySem.W.Frag) (S:Hp) (kvs:List (Int×PV)) (us:List (Key×V)):Prop:=Paired (fun (p:Int×PV) (q:Key×V)=>q.1=Sum.inl p.1 /\ Rep K S p.2 q.2) kvs us
noncomputable def y0 (K:PySem.W.Frag) (S:Hp) (kvs:List (List Int×PV)) (us:List (List Key×V)):Prop:=Paired (fun (p:List Int×PV) (q:List Key×V)=>q.1=p.1.map Sum.inl /\ Rep K S p.2 q.2) kvs us
theorem xr.mono {K:PySem.W.Frag} {S S':Hp} (s:aJ S S'):∀ {kvs:List (Int×PV)} {us:List (Key×V)},xr K S kvs us -> xr K S' kvs us
 |_,_,.nil=>.nil
 |_,_,.cons h t=>.cons ⟨h.1,Rep.mono s h.2⟩ (xr.mono s t)
theorem y0.mono {K:PySem.W.Frag} {S S':Hp} (s:aJ S S'):∀ {kvs:List (List Int×PV)} {us:List (List Key×V)},y0 K S kvs us -> y0 K S' kvs us
 |_,_,.nil=>.nil
 |_,_,.cons h t=>.cons ⟨h.1,Rep.mono s h.2⟩ (y0.mono s t)
mutual
noncomputable def bz (K:PySem.W.Frag) (cls:String -> Option Addr) (S H:Hp):OV -> V -> List Addr -> Prop
 |.sh x,v,fp=>fp=[] /\ Rep K S x v
 |.ol ts,v,fp=>∃ p vs f,v=.ref p /\ H p=some (.lst vs) /\ fp=p ::f /\ bC K cls S H ts vs f
 |.ob c ks ts,v,fp=>∃ p C dx us f,v=.ref p /\ cls c=some C /\ H p=some (.ins C dx us) /\ H dx=some (.own p) /\ us.map (·.1)=ks /\ fp=p ::dx ::f /\ bC K cls S H ts (us.map (·.2)) f
 |.di kvs,v,fp=>∃ p us,v=.ref p /\ H p=some (.dK us) /\ fp=[p] /\ xr K S kvs us
 |.dt kvs,v,fp=>∃ p us,v=.ref p /\ H p=some (.dT us) /\ fp=[p] /\ y0 K S kvs us
noncomputable def bC (K:PySem.W.Frag) (cls:String -> Option Addr) (S H:Hp):List OV -> List V -> List Addr -> Prop
 |[],vs,fp=>vs=[] /\ fp=[]
 |t ::ts,vs,fp=>∃ v r f1 f2,vs=v ::r /\ fp=f1++f2 /\ bz K cls S H t v f1 /\ bC K cls S H ts r f2
end
noncomputable def tE (K:PySem.W.Frag) (cls:String -> Option Addr) (Av G S H:Hp) (i:Nat):Sl -> V -> List Addr -> Prop
 |.sh x,v,fp=>fp=[] /\ Rep K S x v
 |.ow xs,v,fp=>∃ p vs,v=.ref p /\ fp=[p] /\ G p=none /\ S p=none /\ H p=some (.lst vs) /\ bZ K S xs vs
 |.ex c fs,v,fp=>fp=[] /\ ∃ a C,v=.ref a /\ ox K cls S H c fs a C
 |.tr io t,v,fp=>bz K cls S H t v fp /\ fp.Nodup /\ (∀ a∈fp,G a=none /\ S a=none) /\ (io=true -> Av i=some (.lst [v]))
 |.bo t,v,fp=>fp=[] /\ ∃ f,bz K cls S G t v f
noncomputable def F0 (K:PySem.W.Frag) (cls:String -> Option Addr) (G S H:Hp):Sl -> V -> Prop
 |.sh x,v=>Rep K S x v
 |.ow xs,v=>∃ p vs,v=.ref p /\ G p=none /\ S p=none /\ H p=some (.lst vs) /\ bZ K S xs vs
 |.ex c fs,v=>∃ a C,v=.ref a /\ ox K cls S H c fs a C
 |_,_=>True
noncomputable def mE (K:PySem.W.Frag) (B S H:Hp):RV -> V -> Prop
 |.sh x,v=>Rep K S x v
 |.fr xs,v=>∃ p vs,v=.ref p /\ B p=none /\ S p=none /\ H p=some (.lst vs) /\ bZ K S xs vs
 |.al xs,v=>∃ p vs,v=.ref p /\ SqL K H p vs /\ bZ K S xs vs
noncomputable def RdV (K:PySem.W.Frag) (S H:Hp):PV -> V -> Prop
 |.lst xs,v=>∃ p vs,v=.ref p /\ SqL K H p vs /\ bZ K S xs vs
 |x,v=>Rep K S x v
structure SRF (K:PySem.W.Frag) (cls:String -> Option Addr) (Av G S₀:Hp) (ρ:ah) (σ:St) (S H:Hp) (F:Nat -> List Addr):Prop where
 gh:aJ G H
 s0:aJ S₀ S
 sh:aJ S H
 new:∀ b,S b≠none -> S₀ b≠none \/ G b=none
 own:∀ (i:Nat) (s:Sl),ρ[i]?=some (some s) -> ∃ v,σ[i]?=some (some v) /\ tE K cls Av G S H i s v (F i)
 apart:∀ i j a,a∈F i -> a∈F j -> i=j
 live:∀ i a,a∈F i -> (∃ o,H a=some o /\ isX o=false) /\ G a=none /\ S a=none
 len:ρ.length=σ.length
noncomputable def SR (K:PySem.W.Frag) (cls:String -> Option Addr) (Av G S₀:Hp) (ρ:ah) (σ:St) (S H:Hp):Prop:=∃ F,SRF K cls Av G S₀ ρ σ S H F
section
variable {K:PySem.W.Frag} {cls:String -> Option Addr} {Av G S₀ S S' H H' B:Hp} {ρ:ah} {σ:St} {F:Nat -> List Addr}
theorem SR.gh (I:SR K cls Av G S₀ ρ σ S H):aJ G H:=let ⟨_,J⟩:=I; J.gh
theorem SR.s0 (I:SR K cls Av G S₀ ρ σ S H):aJ S₀ S:=let ⟨_,J⟩:=I; J.s0
theorem SR.sh (I:SR K cls Av G S₀ ρ σ S H):aJ S H:=let ⟨_,J⟩:=I; J.sh
theorem SR.new (I:SR K cls Av G S₀ ρ σ S H):∀ b,S b≠none -> S₀ b≠none \/ G b=none:=let ⟨_,J⟩:=I; J.new
theorem SR.len (I:SR K cls Av G S₀ ρ σ S H):ρ.length=σ.length:=let ⟨_,J⟩:=I; J.len
theorem tE.one {i:Nat} {s:Sl} {v:V} {fp:List Addr} (h:tE K cls Av G S H i s v fp):F0 K cls G S H s v:=by
 cases s with
 |sh x=>exact h.2
 |ow xs=>obtain ⟨p,vs,e,_,r⟩:=h; exact ⟨p,vs,e,r⟩
 |ex c fs=>exact h.2
 |tr io t=>trivial
 |bo t=>trivial
theorem SR.good (I:SR K cls Av G S₀ ρ σ S H) (i:Nat) (s:Sl) (e:ρ[i]?=some (some s)):∃ v,σ[i]?=some (some v) /\ F0 K cls G S H s v:=by
 obtain ⟨F,J⟩:=I
 obtain ⟨v,e1,r⟩:=J.own i s e
 exact ⟨v,e1,r.one⟩
theorem ox.mono {c:String} {fs:XF} {a C:Addr} (h:ox K cls S H c fs a C) (s:aJ S S') (g:aJ H H'):ox K cls S' H' c fs a C:=by
 obtain ⟨h1,dx,h2,h3⟩:=h
 refine ⟨h1,dx,g _ _ h2,?_⟩
 rcases h3 with h3|⟨d,us,e1,e2,e3,e4⟩
 . exact .inl h3
 . exact .inr ⟨d,us,e1,g _ _ e2,e3,e4.mono s⟩
theorem ox.JV {c:String} {fs:XF} {a C:Addr} (h:ox K cls S H c fs a C) (s:aJ S S') (g:∀ b o,isX o=true -> H b=some o -> H' b=some o):ox K cls S' H' c fs a C:=by
 obtain ⟨h1,dx,h2,h3⟩:=h
 refine ⟨h1,dx,g _ _ rfl h2,?_⟩
 rcases h3 with h3|⟨d,us,e1,e2,e3,e4⟩
 . exact .inl h3
 . exact .inr ⟨d,us,e1,g _ _ rfl e2,e3,e4.mono s⟩
mutual
theorem bz.mono (s:aJ S S'):∀ {t:OV} {v:V} {fp:List Addr},bz K cls S H t v fp -> (∀ a∈fp,∀ o,H a=some o -> H' a=some o) -> bz K cls S' H' t v fp
 |.sh _,_,_,h,_=>by unfold bz at h ⊢; exact ⟨h.1,Rep.mono s h.2⟩
 | .ol _,_,_,h,g=>by
   unfold bz at h ⊢
   obtain ⟨p,vs,f,e,q,e2,r⟩:=h
   subst e2
   exact ⟨p,vs,f,e,g p (by simp) _ q,rfl,bC.mono s r fun a ha=>g a (by simp [ha])⟩
 | .ob _ _ _,_,_,h,g=>by
   unfold bz at h ⊢
   obtain ⟨p,C,dx,us,f,e,c,q,q2,k,e2,r⟩:=h
   subst e2
   exact ⟨p,C,dx,us,f,e,c,g p (by simp) _ q,g dx (by simp) _ q2,k,rfl,bC.mono s r fun a ha=>g a (by simp [ha])⟩
 | .di _,_,_,h,g=>by
   unfold bz at h ⊢
   obtain ⟨p,us,e,q,e2,r⟩:=h
   subst e2
   exact ⟨p,us,e,g p (by simp) _ q,rfl,r.mono s⟩
 | .dt _,_,_,h,g=>by
   unfold bz at h ⊢
   obtain ⟨p,us,e,q,e2,r⟩:=h
   subst e2
   exact ⟨p,us,e,g p (by simp) _ q,rfl,r.mono s⟩
theorem bC.mono (s:aJ S S'):∀ {ts:List OV} {vs:List V} {fp:List Addr},bC K cls S H ts vs fp -> (∀ a∈fp,∀ o,H a=some o -> H' a=some o) -> bC K cls S' H' ts vs fp
 |[],_,_,h,_=>by unfold bC at h ⊢; exact h
 | _ ::_,_,_,h,g=>by
   unfold bC at h ⊢
   obtain ⟨v,r,f1,f2,e,e2,q,t⟩:=h
   subst e2
   exact ⟨v,r,f1,f2,e,rfl,bz.mono s q fun a ha=>g a (List.mem_append_left _ ha),bC.mono s t fun a ha=>g a (List.mem_append_right _ ha)⟩
end
mutual
theorem bz.live:∀ {t:OV} {v:V} {fp:List Addr},bz K cls S H t v fp -> ∀ a∈fp,∃ o,H a=some o /\ isX o=false
 |.sh _,_,_,h,a,ha=>by unfold bz at h; rw [h.1] at ha; cases ha
 | .ol _,_,_,h,a,ha=>by
   unfold bz at h
   obtain ⟨p,vs,f,e,q,e2,r⟩:=h
   subst e2
   rcases List.mem_cons.mp ha with z|z
   . subst z; exact ⟨_,q,rfl⟩
   . exact bC.live r a z
 | .ob _ _ _,_,_,h,a,ha=>by
   unfold bz at h
   obtain ⟨p,C,dx,us,f,e,c,q,q2,k,e2,r⟩:=h
   subst e2
   rcases List.mem_cons.mp ha with z|z
   . subst z; exact ⟨_,q,rfl⟩
   . rcases List.mem_cons.mp z with z|z
     . subst z; exact ⟨_,q2,rfl⟩
     . exact bC.live r a z
 | .di _,_,_,h,a,ha=>by
   unfold bz at h
   obtain ⟨p,us,e,q,e2,r⟩:=h
   subst e2
   have z:a=p:=by simpa using ha
   subst z
   exact ⟨_,q,rfl⟩
 | .dt _,_,_,h,a,ha=>by
   unfold bz at h
   obtain ⟨p,us,e,q,e2,r⟩:=h
   subst e2
   have z:a=p:=by simpa using ha
   subst z
   exact ⟨_,q,rfl⟩
theorem bC.live:∀ {ts:List OV} {vs:List V} {fp:List Addr},bC K cls S H ts vs fp -> ∀ a∈fp,∃ o,H a=some o /\ isX o=false
 |[],_,_,h,a,ha=>by unfold bC at h; rw [h.2] at ha; cases ha
 | _ ::_,_,_,h,a,ha=>by
   unfold bC at h
   obtain ⟨v,r,f1,f2,e,e2,q,t⟩:=h
   subst e2
   rcases List.mem_append.mp ha with z|z
   . exact bz.live q a z
   . exact bC.live t a z
end
theorem tE.mono {i:Nat} {sl:Sl} {v:V} {fp:List Addr} (h:tE K cls Av G S H i sl v fp) (s:aJ S S') (g:∀ a∈fp,∀ o,H a=some o -> H' a=some o) (x:∀ b o,isX o=true -> H b=some o -> H' b=some o) (n:∀ a∈fp,S' a=none):tE K cls Av G S' H' i sl v fp:=by
 cases sl with
 |sh y=>exact ⟨h.1,Rep.mono s h.2⟩
 | ow xs=>
   obtain ⟨p,vs,e,e2,h1,h2,h3,h4⟩:=h
   subst e2
   exact ⟨p,vs,e,rfl,h1,n p (by simp),g p (by simp) _ h3,h4.mono s⟩
 |ex c fs=>obtain ⟨e,a,C,e2,q⟩:=h; exact ⟨e,a,C,e2,q.JV s x⟩
 |tr io t=>exact ⟨h.1.mono s g,h.2.1,fun a ha=>⟨(h.2.2.1 a ha).1,n a ha⟩,h.2.2.2⟩
 |bo t=>obtain ⟨e,f,r⟩:=h; exact ⟨e,f,r.mono s fun _ _ _ z=>z⟩
theorem RdV.mono {x:PV} {v:V} (h:RdV K S H x v) (s:aJ S S') (g:aJ H H'):RdV K S' H' x v:=by
 cases x with
 |lst xs=>obtain ⟨p,vs,e,q,r⟩:=h; exact ⟨p,vs,e,aJ.seq g q,r.mono s⟩
 |non=>exact Rep.mono s h
 |bl b=>exact Rep.mono s h
 |int i=>exact Rep.mono s h
 |str x=>exact Rep.mono s h
 |tup xs=>exact Rep.mono s h
theorem Rep.rd {x:PV} {v:V} (h:Rep K S x v) (g:aJ S H):RdV K S H x v:=by
 cases x with
 |lst xs=>unfold Rep at h; obtain ⟨p,vs,e,q,r⟩:=h; exact ⟨p,vs,e,aJ.seq g q,r⟩
 |non=>exact h
 |bl b=>exact h
 |int i=>exact h
 |str x=>exact h
 |tup xs=>exact h
theorem mE.rd {r:RV} {v:V} (h:mE K B S H r v) (g:aJ S H):RdV K S H r.pv v:=by
 cases r with
 |sh x=>exact Rep.rd h g
 |fr xs=>obtain ⟨p,vs,e,_,_,q,r⟩:=h; exact ⟨p,vs,e,SqL.new q,r⟩
 |al xs=>exact h
theorem SRF.change (I:SRF K cls Av G S₀ ρ σ S H F) (gh:aJ G H') (s:aJ S S') (sh:aJ S' H') (new:∀ b,S' b≠none -> S₀ b≠none \/ G b=none)
  (g:∀ i a,a∈F i -> ∀ o,H a=some o -> H' a=some o) (x:∀ b o,isX o=true -> H b=some o -> H' b=some o) (n:∀ i a,a∈F i -> S' a=none):SRF K cls Av G S₀ ρ σ S' H' F where
 gh:=gh
 s0:=I.s0.trans s
 sh:=sh
 new:=new
 own:=fun i t e=>by
  obtain ⟨v,e1,r⟩:=I.own i t e
  exact ⟨v,e1,r.mono s (fun a ha=>g i a ha) x fun a ha=>n i a ha⟩
 apart:=I.apart
 live:=fun i a ha=>by
  obtain ⟨⟨o,h1,h2⟩,h3,_⟩:=I.live i a ha
  exact ⟨⟨o,g i a ha o h1,h2⟩,h3,n i a ha⟩
 len:=I.len
theorem SRF.same (I:SRF K cls Av G S₀ ρ σ S H F) (g:aJ H H'):SRF K cls Av G S₀ ρ σ S H' F:=
 I.change (I.gh.trans g) (aJ.refl _) (I.sh.trans g) I.new (fun _ _ _ o e=>g _ _ e) (fun _ _ _ e=>g _ _ e) fun i a ha=>(I.live i a ha).2.2
theorem SR.same (I:SR K cls Av G S₀ ρ σ S H) (g:aJ H H'):SR K cls Av G S₀ ρ σ S H':=let ⟨F,J⟩:=I; ⟨F,J.same g⟩
theorem set_inv {α:Type} {l:List (Option α)} {i j:Nat} {x:Option α} {s:α} (h:(l.set i x)[j]?=some (some s)):(j=i /\ x=some s /\ i<l.length) \/ (j≠i /\ l[j]?=some (some s)):=by
 by_cases e:j=i
 . subst e
   rw [List.getElem?_set] at h
   simp only [if_true] at h
   split at h
   . rename_i hl
     exact .inl ⟨rfl,Option.some.inj h,hl⟩
   . cases h
 . rw [List.getElem?_set_ne (Ne.symm e)] at h
   exact .inr ⟨e,h⟩
theorem HC {α:Type} {l:List (Option α)} {i:Nat} {x:Option α} (h:i<l.length):(l.set i x)[i]?=some x:=by
 rw [List.getElem?_set]; simp [h]
noncomputable def nX (F:Nat -> List Addr) (i:Nat) (fp:List Addr):Nat -> List Addr:=fun j=>if j=i then fp else F j
theorem i9 {i:Nat} {fp:List Addr}:nX F i fp i=fp:=by unfold nX; rw [if_pos rfl]
theorem fk {i j:Nat} {fp:List Addr} (h:j≠i):nX F i fp j=F j:=by unfold nX; rw [if_neg h]
theorem SRF.put {i:Nat} {s:Option Sl} {u:Option V} {fp:List Addr} (I:SRF K cls Av G S₀ ρ σ S H F) (h:∀ t,s=some t -> ∃ v,u=some v /\ tE K cls Av G S H i t v fp)
  (hl:∀ a∈fp,(∃ o,H a=some o /\ isX o=false) /\ G a=none /\ S a=none) (ap:∀ j a,j≠i -> a∈fp -> a∉F j):SRF K cls Av G S₀ (ρ.set i s) (σ.set i u) S H (nX F i fp) where
 gh:=I.gh
 s0:=I.s0
 sh:=I.sh
 new:=I.new
 own:=fun j t e=>by
  rcases set_inv e with ⟨rfl,e1,hl⟩|⟨ne,e1⟩
  . obtain ⟨v,e2,r⟩:=h t e1
    exact ⟨v,by rw [HC (by rw [<- I.len]; exact hl),e2],by rw [i9]; exact r⟩
  . rw [List.getElem?_set_ne (Ne.symm ne),fk ne]
    exact I.own j t e1
 apart:=fun j k a h1 h2=>by
  by_cases ej:j=i
  . by_cases ek:k=i
    . rw [ej,ek]
    . subst ej; rw [i9] at h1; rw [fk ek] at h2; exact absurd h2 (ap k a ek h1)
  . by_cases ek:k=i
    . subst ek; rw [i9] at h2; rw [fk ej] at h1; exact absurd h1 (ap j a ej h2)
    . rw [fk ej] at h1; rw [fk ek] at h2; exact I.apart j k a h1 h2
 live:=fun j a ha=>by
  by_cases ej:j=i
  . subst ej; rw [i9] at ha; exact hl a ha
  . rw [fk ej] at ha; exact I.live j a ha
 len:=by simp [I.len]
theorem SR.An {i:Nat} {x:PV} {v:V} (I:SR K cls Av G S₀ ρ σ S H) (h:Rep K S x v):SR K cls Av G S₀ (ρ.set i (some (.sh x))) (σ.set i (some v)) S H:=by
 obtain ⟨F,J⟩:=I
 exact ⟨_,J.put (fp:=[]) (fun t e=>by cases e; exact ⟨v,rfl,rfl,h⟩) (fun a ha=>nomatch ha) fun j a _ ha=>nomatch ha⟩
theorem SR.Jv {i:Nat} {v:Option V} (I:SR K cls Av G S₀ ρ σ S H):SR K cls Av G S₀ (ρ.set i none) (σ.set i v) S H:=by
 obtain ⟨F,J⟩:=I
 exact ⟨_,J.put (fp:=[]) (fun t e=>nomatch e) (fun a ha=>nomatch ha) fun j a _ ha=>nomatch ha⟩
theorem lh {α:Type} {l:List α} {i:Nat} {x:α} (h:l[i]?=some x):l.set i x=l:=by
 apply List.ext_getElem?
 intro j
 by_cases e:i=j
 . subst e; rw [List.getElem?_set,if_pos rfl,if_pos (List.getElem?_eq_some_iff.mp h).1,h]
 . rw [List.getElem?_set_ne e]
theorem SR.drop {i:Nat} (I:SR K cls Av G S₀ ρ σ S H):SR K cls Av G S₀ (ρ.set i none) σ S H:=by
 cases e:σ[i]? with
 |some v=>have:=I.Jv (i:=i) (v:=v); rwa [lh e] at this
 | none=>
   have h1:σ.length <= i:=List.getElem?_eq_none_iff.mp e
   rw [List.set_eq_of_length_le (by rw [I.len]; exact h1)]
   exact I
theorem SR.mut {i:Nat} {xs ys:List PV} {p:Addr} {us:List V} (I:SR K cls Av G S₀ ρ σ S H) (hi:ρ[i]?=some (some (.ow xs))) (hv:σ[i]?=some (some (.ref p))) (hr:bZ K S ys us):SR K cls Av G S₀ (ρ.set i (some (.ow ys))) σ S (upd H p (.lst us)):=by
 obtain ⟨F,J⟩:=I
 obtain ⟨v,e1,q,vs,e2,e3,hG,hS,hH,_⟩:=J.own i _ hi
 rw [hv] at e1
 cases e1
 cases e2
 have J1:SRF K cls Av G S₀ (ρ.set i none) (σ.set i none) S H (nX F i []):=J.put (fun t e=>nomatch e) (fun a ha=>nomatch ha) fun j a _ ha=>nomatch ha
 have off:∀ j a,a∈nX F i [] j -> a≠p:=fun j a ha z=>by
  by_cases ej:j=i
  . subst ej; rw [i9] at ha; cases ha
  . rw [fk ej] at ha
    exact ej (J.apart j i a ha (by rw [e3,z]; simp))
 have J2:=J1.change (H':=upd H p (.lst us)) (J.gh.upd hG) (aJ.refl _) (J.sh.upd hS) J.new (fun j a ha o h=>by rw [bJ (off j a ha)]; exact h)
  (fun b o hx h=>by
    rw [bJ]
    . exact h
    . intro z; rw [z,hH] at h; cases h; cases hx)
  fun j a ha=>(J1.live j a ha).2.2
 have J3:=J2.put (i:=i) (s:=some (.ow ys)) (u:=some (.ref p)) (fp:=[p]) (fun t e=>by cases e; exact ⟨_,rfl,p,us,rfl,rfl,hG,hS,bQ,hr⟩) (fun a ha=>by
  have z:a=p:=by simpa using ha
  subst z
  exact ⟨⟨_,bQ,rfl⟩,hG,hS⟩) fun j a hj ha hz=>by
   have z:a=p:=by simpa using ha
   exact off j a hz z
 rw [List.set_set,List.set_set,lh hv] at J3
 exact ⟨_,J3⟩
theorem SR.Ko {i:Nat} {xs:List PV} (I:SR K cls Av G S₀ ρ σ S H) (hi:ρ[i]?=some (some (.ow xs))):∃ S',aJ S S' /\ SR K cls Av G S₀ (ρ.set i (some (.sh (.lst xs)))) σ S' H:=by
 obtain ⟨F,J⟩:=I
 obtain ⟨v,hv,p,vs,e2,e3,hG,hS,hH,hr⟩:=J.own i _ hi
 subst e2
 have J1:SRF K cls Av G S₀ (ρ.set i none) (σ.set i none) S H (nX F i []):=J.put (fun t e=>nomatch e) (fun a ha=>nomatch ha) fun j a _ ha=>nomatch ha
 have off:∀ j a,a∈nX F i [] j -> a≠p:=fun j a ha z=>by
  by_cases ej:j=i
  . subst ej; rw [i9] at ha; cases ha
  . rw [fk ej] at ha
    exact ej (J.apart j i a ha (by rw [e3,z]; simp))
 have J2:=J1.change (S':=upd S p (.lst vs)) (H':=H) J.gh (aJ.new hS) (fun b u h=>by
   by_cases e:b=p
   . subst e; rw [bQ] at h; cases h; exact hH
   . rw [bJ e] at h; exact J.sh b u h) (fun b h=>by
   by_cases e:b=p
   . subst e; exact .inr hG
   . rw [bJ e] at h; exact J.new b h) (fun _ _ _ _ h=>h) (fun _ _ _ h=>h) fun j a ha=>by
     rw [bJ (off j a ha)]; exact (J1.live j a ha).2.2
 have J3:=J2.put (i:=i) (s:=some (.sh (.lst xs))) (u:=some (.ref p)) (fp:=[]) (fun t e=>by
  cases e
  refine ⟨_,rfl,rfl,?_⟩
  unfold Rep
  exact ⟨p,vs,rfl,SqL.new bQ,hr.mono (aJ.new hS)⟩) (fun a ha=>nomatch ha) fun j a _ ha=>nomatch ha
 rw [List.set_set,List.set_set,lh hv] at J3
 exact ⟨_,aJ.new hS,_,J3⟩
end
structure bu (S H S' H':Hp):Prop where
 s:aJ S S'
 g:aJ H H'
 sh:aJ S' H'
 new:∀ b,S' b≠none -> S b≠none \/ H b=none
theorem bu.refl {S H:Hp} (h:aJ S H):bu S H S H:=⟨aJ.refl _,aJ.refl _,h,fun _ z=>.inl z⟩
theorem bu.trans {S H S1 H1 S2 H2:Hp} (a:bu S H S1 H1) (b:bu S1 H1 S2 H2):bu S H S2 H2:=
 ⟨a.s.trans b.s,a.g.trans b.g,b.sh,fun x h=>by
   rcases b.new x h with z|z
   . exact a.new x z
   . exact .inr (a.g.free z)⟩
theorem SRF.grow {K:PySem.W.Frag} {cls:String -> Option Addr} {Av G S₀ S S' H H':Hp} {ρ:ah} {σ:St} {F:Nat -> List Addr} (I:SRF K cls Av G S₀ ρ σ S H F) (w:bu S H S' H'):SRF K cls Av G S₀ ρ σ S' H' F:=
 I.change (I.gh.trans w.g) w.s w.sh (fun b h=>by
  rcases w.new b h with z|z
  . exact I.new b z
  . exact .inr (I.gh.free z)) (fun i a _ o h=>w.g _ _ h) (fun b o _ h=>w.g _ _ h) fun i a ha=>by
    obtain ⟨⟨o,h1,_⟩,_,h3⟩:=I.live i a ha
    cases q:S' a with
    |none=>rfl
    | some o=>
      rcases w.new a (by rw [q]; simp) with z|z
      . exact absurd h3 z
      . rw [h1] at z; cases z
theorem SR.grow {K:PySem.W.Frag} {cls:String -> Option Addr} {Av G S₀ S S' H H':Hp} {ρ:ah} {σ:St} (I:SR K cls Av G S₀ ρ σ S H) (w:bu S H S' H'):SR K cls Av G S₀ ρ σ S' H':=let ⟨F,J⟩:=I; ⟨F,J.grow w⟩
theorem SR.Ki {K:PySem.W.Frag} {cls:String -> Option Addr} {Av G S₀ S S' H H':Hp} {ρ:ah} {σ:St} {i:Nat} {xs:List PV} {v:V} (I:SR K cls Av G S₀ ρ σ S H) (w:bu S H S' H') (h:mE K H S' H' (.fr xs) v):SR K cls Av G S₀ (ρ.set i (some (.ow xs))) (σ.set i (some v)) S' H':=by
 obtain ⟨F,J⟩:=I
 obtain ⟨p,vs,rfl,hB,hS,hH,hr⟩:=h
 have hG:=J.gh.free hB
 refine ⟨_,(J.grow w).put (fp:=[p]) (fun t e=>by cases e; exact ⟨_,rfl,p,vs,rfl,rfl,hG,hS,hH,hr⟩) (fun a ha=>?_) fun j a _ ha hz=>?_⟩
 . have z:a=p:=by simpa using ha
   subst z
   exact ⟨⟨_,hH,rfl⟩,hG,hS⟩
 . have z:a=p:=by simpa using ha
   subst z
   obtain ⟨⟨o,h1,_⟩,_⟩:=J.live j a hz
   rw [hB] at h1; cases h1
theorem bu.heap {S H:Hp} {p:Addr} {o:HO} (h:aJ S H) (hp:H p=none):bu S H S (upd H p o):=⟨aJ.refl _,aJ.new hp,h.trans (aJ.new hp),fun _ z=>.inl z⟩
theorem bu.both {S H:Hp} {p:Addr} {o:HO} (h:aJ S H) (hp:H p=none):bu S H (upd S p o) (upd H p o):=by
 have hS:=h.free hp
 refine ⟨aJ.new hS,aJ.new hp,fun b u z=>?_,fun b z=>?_⟩
 . by_cases e:b=p
   . subst e; rw [bQ] at z ⊢; exact z
   . rw [bJ e] at z ⊢; exact h b u z
 . by_cases e:b=p
   . subst e; exact .inr hp
   . rw [bJ e] at z; exact .inl z
section
variable (K:PySem.W.Frag) (cls:String -> Option Addr) (W:XW)
noncomputable def lx (σ:St) (S H:Hp) (Q:VK):OE -> Prop
 |.ok r=>∀ v S' H',bu S H S' H' -> mE K H S' H' r v -> Q v H'
 |.exc c fs=>∀ a C S' H',bu S H S' H' -> ox K cls S' H' c fs a C -> W (.ref C) (some a) σ H'
 |.bad=>False
noncomputable def sZ (σ:St) (S H:Hp) (Q:Bool -> Hp -> Prop):OT -> Prop
 |.ok b=>∀ S' H',bu S H S' H' -> Q b H'
 |.exc c fs=>∀ a C S' H',bu S H S' H' -> ox K cls S' H' c fs a C -> W (.ref C) (some a) σ H'
 |.bad=>False
noncomputable def vV (σ:St) (S H:Hp) (Q:List V -> Hp -> Prop):OA -> Prop
 |.ok xs=>∀ vs S' H',bu S H S' H' -> bZ K S' xs vs -> Q vs H'
 |.exc c fs=>∀ a C S' H',bu S H S' H' -> ox K cls S' H' c fs a C -> W (.ref C) (some a) σ H'
 |.bad=>False
noncomputable def je (Av G S₀:Hp) (S:Hp) (D:Ends):OS -> Prop
 |.nx ρ=>∀ σ' S' H',SR K cls Av G S₀ ρ σ' S' H' -> aJ S S' -> D.nx σ' H'
 |.bk ρ=>∀ σ' S' H',SR K cls Av G S₀ ρ σ' S' H' -> aJ S S' -> D.bk σ' H'
 |.ct ρ=>∀ σ' S' H',SR K cls Av G S₀ ρ σ' S' H' -> aJ S S' -> D.ct σ' H'
 |.rt ρ r=>∀ v σ' S' H',SR K cls Av G S₀ ρ σ' S' H' -> aJ S S' -> mE K G S' H' r v -> D.rt v H'
 |.exc ρ c fs=>∀ a C σ' S' H',SR K cls Av G S₀ ρ σ' S' H' -> aJ S S' -> ox K cls S' H' c fs a C -> W (.ref C) (some a) σ' H'
 |.bad=>False
noncomputable def JE (te:TE) (m:ah -> OE):Prop:=∀ Av G S₀ ρ σ S H Q,SR K cls Av G S₀ ρ σ S H -> lx K cls W σ S H Q (m ρ) -> te σ H Q
noncomputable def JT (te:TT) (m:ah -> OT):Prop:=∀ Av G S₀ ρ σ S H Q,SR K cls Av G S₀ ρ σ S H -> sZ K cls W σ S H Q (m ρ) -> te σ H Q
noncomputable def JA (te:TA) (m:ah -> OA):Prop:=∀ Av G S₀ ρ σ S H Q,SR K cls Av G S₀ ρ σ S H -> vV K cls W σ S H Q (m ρ) -> te σ H Q
noncomputable def JS (ts:TS) (m:ah -> OS):Prop:=∀ Av G S₀ ρ σ S H D,SR K cls Av G S₀ ρ σ S H -> je K cls W Av G S₀ S D (m ρ) -> ts D σ H
end
section
variable {K:PySem.W.Frag} {cls:String -> Option Addr} {W:XW} {Av G S₀ S S' H H' B B':Hp} {ρ:ah} {σ:St} {Q:VK}
theorem mE.back {r:RV} {v:V} (h:mE K B' S H r v) (g:aJ B B'):mE K B S H r v:=by
 cases r with
 |sh x=>exact h
 |fr xs=>obtain ⟨p,vs,e,h1,h2⟩:=h; exact ⟨p,vs,e,g.free h1,h2⟩
 |al xs=>exact h
theorem lx.back {o:OE} {S1 H1:Hp} (w:bu S H S1 H1) (h:lx K cls W σ S H Q o):lx K cls W σ S1 H1 Q o:=by
 cases o with
 |ok r=>exact fun v S' H' w' r=>h v S' H' (w.trans w') (r.back w.g)
 |exc c fs=>exact fun a C S' H' w' r=>h a C S' H' (w.trans w') r
 |bad=>exact h
theorem sZ.back {o:OT} {Q:Bool -> Hp -> Prop} {S1 H1:Hp} (w:bu S H S1 H1) (h:sZ K cls W σ S H Q o):sZ K cls W σ S1 H1 Q o:=by
 cases o with
 |ok r=>exact fun S' H' w'=>h S' H' (w.trans w')
 |exc c fs=>exact fun a C S' H' w' r=>h a C S' H' (w.trans w') r
 |bad=>exact h
theorem vV.back {o:OA} {Q:List V -> Hp -> Prop} {S1 H1:Hp} (w:bu S H S1 H1) (h:vV K cls W σ S H Q o):vV K cls W σ S1 H1 Q o:=by
 cases o with
 |ok r=>exact fun v S' H' w' r=>h v S' H' (w.trans w') r
 |exc c fs=>exact fun a C S' H' w' r=>h a C S' H' (w.trans w') r
 |bad=>exact h
theorem je.back {o:OS} {D:Ends} {S1:Hp} (s:aJ S S1) (h:je K cls W Av G S₀ S D o):je K cls W Av G S₀ S1 D o:=by
 cases o with
 |nx ρ=>exact fun σ' S' H' I s'=>h σ' S' H' I (s.trans s')
 |bk ρ=>exact fun σ' S' H' I s'=>h σ' S' H' I (s.trans s')
 |ct ρ=>exact fun σ' S' H' I s'=>h σ' S' H' I (s.trans s')
 |rt ρ r=>exact fun v σ' S' H' I s'=>h v σ' S' H' I (s.trans s')
 |exc ρ c fs=>exact fun a C σ' S' H' I s'=>h a C σ' S' H' I (s.trans s')
 |bad=>exact h
theorem JE.go {te:TE} {m:ah -> OE} {f:RV -> OE} {Q':VK} (h:JE K cls W te m) (I:SR K cls Av G S₀ ρ σ S H) (p:lx K cls W σ S H Q ((m ρ).bind f))
  (k:∀ r v S1 H1,SR K cls Av G S₀ ρ σ S1 H1 -> bu S H S1 H1 -> mE K H S1 H1 r v -> lx K cls W σ S1 H1 Q (f r) -> Q' v H1):te σ H Q':=by
 refine h Av G S₀ ρ σ S H Q' I ?_
 cases e:m ρ with
 |ok r=>rw [e] at p; exact fun v S1 H1 w r1=>k r v S1 H1 (I.grow w) w r1 (p.back w)
 |exc c fs=>rw [e] at p; exact p
 |bad=>rw [e] at p; exact p
theorem JE.goT {te:TE} {m:ah -> OE} {f:RV -> OT} {Q':VK} {Q:Bool -> Hp -> Prop} (h:JE K cls W te m) (I:SR K cls Av G S₀ ρ σ S H) (p:sZ K cls W σ S H Q ((m ρ).gK f))
  (k:∀ r v S1 H1,SR K cls Av G S₀ ρ σ S1 H1 -> bu S H S1 H1 -> mE K H S1 H1 r v -> sZ K cls W σ S1 H1 Q (f r) -> Q' v H1):te σ H Q':=by
 refine h Av G S₀ ρ σ S H Q' I ?_
 cases e:m ρ with
 |ok r=>rw [e] at p; exact fun v S1 H1 w r1=>k r v S1 H1 (I.grow w) w r1 (p.back w)
 |exc c fs=>rw [e] at p; exact p
 |bad=>rw [e] at p; exact p
theorem JE.goS {te:TE} {m:ah -> OE} {f:RV -> OS} {Q':VK} {D:Ends} (h:JE K cls W te m) (I:SR K cls Av G S₀ ρ σ S H) (p:je K cls W Av G S₀ S D ((m ρ).cX ρ f))
  (k:∀ r v S1 H1,SR K cls Av G S₀ ρ σ S1 H1 -> bu S H S1 H1 -> mE K H S1 H1 r v -> je K cls W Av G S₀ S1 D (f r) -> Q' v H1):te σ H Q':=by
 refine h Av G S₀ ρ σ S H Q' I ?_
 cases e:m ρ with
 |ok r=>rw [e] at p; exact fun v S1 H1 w r1=>k r v S1 H1 (I.grow w) w r1 (p.back w.s)
 |exc c fs=>rw [e] at p; exact fun a C S' H' w x=>p a C σ S' H' (I.grow w) w.s x
 |bad=>rw [e] at p; exact p
theorem JT.go {te:TT} {m:ah -> OT} {f:Bool -> OE} {Q':Bool -> Hp -> Prop} (h:JT K cls W te m) (I:SR K cls Av G S₀ ρ σ S H) (p:lx K cls W σ S H Q ((m ρ).bind f))
  (k:∀ b S1 H1,SR K cls Av G S₀ ρ σ S1 H1 -> bu S H S1 H1 -> lx K cls W σ S1 H1 Q (f b) -> Q' b H1):te σ H Q':=by
 refine h Av G S₀ ρ σ S H Q' I ?_
 cases e:m ρ with
 |ok r=>rw [e] at p; exact fun S1 H1 w=>k r S1 H1 (I.grow w) w (p.back w)
 |exc c fs=>rw [e] at p; exact p
 |bad=>rw [e] at p; exact p
theorem JT.goT {te:TT} {m:ah -> OT} {f:Bool -> OT} {Q Q':Bool -> Hp -> Prop} (h:JT K cls W te m) (I:SR K cls Av G S₀ ρ σ S H) (p:sZ K cls W σ S H Q ((m ρ).gK f))
  (k:∀ b S1 H1,SR K cls Av G S₀ ρ σ S1 H1 -> bu S H S1 H1 -> sZ K cls W σ S1 H1 Q (f b) -> Q' b H1):te σ H Q':=by
 refine h Av G S₀ ρ σ S H Q' I ?_
 cases e:m ρ with
 |ok r=>rw [e] at p; exact fun S1 H1 w=>k r S1 H1 (I.grow w) w (p.back w)
 |exc c fs=>rw [e] at p; exact p
 |bad=>rw [e] at p; exact p
theorem JT.goS {te:TT} {m:ah -> OT} {f:Bool -> OS} {Q':Bool -> Hp -> Prop} {D:Ends} (h:JT K cls W te m) (I:SR K cls Av G S₀ ρ σ S H) (p:je K cls W Av G S₀ S D ((m ρ).cX ρ f))
  (k:∀ b S1 H1,SR K cls Av G S₀ ρ σ S1 H1 -> bu S H S1 H1 -> je K cls W Av G S₀ S1 D (f b) -> Q' b H1):te σ H Q':=by
 refine h Av G S₀ ρ σ S H Q' I ?_
 cases e:m ρ with
 |ok r=>rw [e] at p; exact fun S1 H1 w=>k r S1 H1 (I.grow w) w (p.back w.s)
 |exc c fs=>rw [e] at p; exact fun a C S' H' w x=>p a C σ S' H' (I.grow w) w.s x
 |bad=>rw [e] at p; exact p
theorem JA.go {te:TA} {m:ah -> OA} {f:List PV -> OE} {Q':List V -> Hp -> Prop} (h:JA K cls W te m) (I:SR K cls Av G S₀ ρ σ S H) (p:lx K cls W σ S H Q ((m ρ).bind f))
  (k:∀ xs vs S1 H1,SR K cls Av G S₀ ρ σ S1 H1 -> bu S H S1 H1 -> bZ K S1 xs vs -> lx K cls W σ S1 H1 Q (f xs) -> Q' vs H1):te σ H Q':=by
 refine h Av G S₀ ρ σ S H Q' I ?_
 cases e:m ρ with
 |ok r=>rw [e] at p; exact fun v S1 H1 w r1=>k r v S1 H1 (I.grow w) w r1 (p.back w)
 |exc c fs=>rw [e] at p; exact p
 |bad=>rw [e] at p; exact p
theorem JA.goA {te:TA} {m:ah -> OA} {f:List PV -> OA} {Q Q':List V -> Hp -> Prop} (h:JA K cls W te m) (I:SR K cls Av G S₀ ρ σ S H) (p:vV K cls W σ S H Q ((m ρ).fA f))
  (k:∀ xs vs S1 H1,SR K cls Av G S₀ ρ σ S1 H1 -> bu S H S1 H1 -> bZ K S1 xs vs -> vV K cls W σ S1 H1 Q (f xs) -> Q' vs H1):te σ H Q':=by
 refine h Av G S₀ ρ σ S H Q' I ?_
 cases e:m ρ with
 |ok r=>rw [e] at p; exact fun v S1 H1 w r1=>k r v S1 H1 (I.grow w) w r1 (p.back w)
 |exc c fs=>rw [e] at p; exact p
 |bad=>rw [e] at p; exact p
theorem ai {i:Nat}:JE K cls W (zp i) (ao i):=by
 intro Av G S₀ ρ σ S H Q I p
 unfold ao at p
 split at p
 . rename_i x e
   obtain ⟨v,e1,r⟩:=I.good i _ e
   exact ⟨v,e1,p v S H (bu.refl I.sh) r⟩
 . rename_i xs e
   obtain ⟨v,e1,a,vs,e2,_,_,h3,h4⟩:=I.good i _ e
   exact ⟨v,e1,p v S H (bu.refl I.sh) ⟨a,vs,e2,SqL.new h3,h4⟩⟩
 . exact p.elim
theorem wQ {x:PV} {v:V} (h:∀ S,Rep K S x v):JE K cls W (tC v) (mC x):=fun Av G S₀ ρ σ S H Q I p=>p v S H (bu.refl I.sh) (h S)
theorem af {n:Int}:JE K cls W (tC (.int n)) (mC (.int n)):=wQ fun _=>by unfold Rep; rfl
theorem A2 {n:Bool}:JE K cls W (tC (.bl n)) (mC (.bl n)):=wQ fun _=>by unfold Rep; rfl
theorem da:JE K cls W (tC .non) (mC .non):=wQ fun _=>by unfold Rep; rfl
theorem aM {n:Str}:JE K cls W (tC (.str n)) (mC (.str n)):=wQ fun _=>by unfold Rep; rfl
theorem nz {p:Addr} {ns:List Int} (h:∀ S,SqT K S p (ns.map V.int)):JE K cls W (tC (.ref p)) (mC (.tup (ns.map .int))):=wQ fun S=>by unfold Rep; exact ⟨p,_,rfl,h S,bZ.ints⟩
noncomputable def JR (K:PySem.W.Frag) (r:R2) (g:PV -> PV -> Option RV):Prop:=∀ S H x y v u rr Q,aJ S H -> RdV K S H x v -> RdV K S H y u -> g x y=some rr ->
 (∀ z S' H',bu S H S' H' -> mE K H S' H' rr z -> Q z H') -> r v u H Q
theorem aq {r:R2} {g:PV -> PV -> Option RV} {ta tb:TE} {ma mb:ah -> OE} (hr:JR K r g) (ha:JE K cls W ta ma) (hb:JE K cls W tb mb):JE K cls W (tOp r ta tb) (mOp g ma mb):=by
 intro Av G S₀ ρ σ S H Q I p
 refine ha.go I p fun a v S1 H1 I1 w1 r1 p1=>hb.go I1 p1 fun b u S2 H2 I2 w2 r2 p2=>?_
 cases e:g a.pv b.pv with
 |none=>rw [e] at p2; exact p2.elim
 | some rr=>
   rw [e] at p2
   exact hr S2 H2 a.pv b.pv v u rr Q I2.sh ((r1.rd I1.sh).mono w2.s w2.g) (r2.rd I2.sh) e p2
noncomputable def sv:PV -> V
 |.non=>.non
 |.bl b=>.bl b
 |.int i=>.int i
 |.str s=>.str s
 |_=>.non
theorem dG {i:Int} {v:V} (h:RdV K S H (.int i) v):v=.int i:=by unfold RdV Rep at h; exact h
theorem nN {i:Bool} {v:V} (h:RdV K S H (.bl i) v):v=.bl i:=by unfold RdV Rep at h; exact h
theorem jy {i:Str} {v:V} (h:RdV K S H (.str i) v):v=.str i:=by unfold RdV Rep at h; exact h
theorem jh {v:V} (h:RdV K S H .non v):v=.non:=by unfold RdV Rep at h; exact h
theorem iF {xs:List PV} {v:V} (h:RdV K S H (.lst xs) v):∃ p vs,v=.ref p /\ SqL K H p vs /\ bZ K S xs vs:=h
theorem mM {xs:List PV} {v:V} (h:RdV K S H (.tup xs) v):∃ p vs,v=.ref p /\ SqT K S p vs /\ bZ K S xs vs:=by unfold RdV Rep at h; exact h
theorem DA {C:Int -> Int -> Prop} {c:Int -> Int -> Bool} {f:Int -> Int -> PV} {fv:Int -> Int -> V} (hc:∀ i j,c i j=true -> C i j) (hf:∀ S i j,Rep K S (f i j) (fv i j)):JR K (rI C fv) (gI c f):=by
 intro S H x y v u rr Q I hx hy e k
 unfold gI at e
 split at e
 . rename_i i j
   split at e
   . rename_i hcc
     cases e
     exact ⟨i,j,dG hx,dG hy,hc i j hcc,k _ S H (bu.refl I) (hf S i j)⟩
   . cases e
 . cases e
theorem rY {f:Int -> Int -> PV} {fv:Int -> Int -> V} (hf:∀ S i j,Rep K S (f i j) (fv i j)):JR K (rI0 fv) (gI (fun _ _=>true) f):=by
 intro S H x y v u rr Q I hx hy e k
 unfold gI at e
 split at e
 . rename_i i j
   simp only [if_true] at e
   cases e
   exact ⟨i,j,dG hx,dG hy,k _ S H (bu.refl I) (hf S i j)⟩
 . cases e
theorem cB:JR K (rI0 fun i j=>.int (i+j)) fm:=rY fun _ _ _=>by unfold Rep; rfl
theorem qF:JR K (rI0 fun i j=>.int (i - j)) ve:=rY fun _ _ _=>by unfold Rep; rfl
theorem sf:JR K (rI Ds fun i j=>.int (i*j)) yd:=DA (fun i j h=>by simpa [Ds,Bool.or_eq_true,Bool.and_eq_true,decide_eq_true_eq] using h) fun _ _ _=>by unfold Rep; rfl
theorem bS:JR K (rI H0 fun i j=>.int (i/j)) dC:=DA (fun i j h=>by simpa [H0,Bool.and_eq_true,decide_eq_true_eq] using h) fun _ _ _=>by unfold Rep; rfl
theorem bw:JR K (rI (fun _ j=>0<j) fun i j=>.int (i%j)) b5:=DA (fun i j h=>by simpa using h) fun _ _ _=>by unfold Rep; rfl
theorem nT:JR K (rI0 fun i j=>.bl (decide (i<j))) gLt:=rY fun _ _ _=>by unfold Rep; rfl
theorem mv:JR K (rI0 fun i j=>.bl (decide (i <= j))) gLe:=rY fun _ _ _=>by unfold Rep; rfl
theorem AW:JR K (rI0 fun i j=>.bl (decide (j<i))) gGt:=rY fun _ _ _=>by unfold Rep; rfl
theorem AS:JR K (rI0 fun i j=>.bl (decide (j <= i))) gGe:=rY fun _ _ _=>by unfold Rep; rfl
theorem DF {x y:PV} {v u:V} {b:Bool} (hx:RdV K S H x v) (hy:RdV K S H y u) (e:eqS x y=some b):IA v u=true /\ decide (v=u)=b:=by
 unfold eqS at e
 split at e
 all_goals first
  |(have h1:=jh hx; subst h1; have h2:=jh hy; subst h2; cases e; exact ⟨rfl,by simp⟩)
  |(have h1:=jh hx; subst h1; have h2:=dG hy; subst h2; cases e; exact ⟨rfl,by simp⟩)
  |(have h1:=dG hx; subst h1; have h2:=jh hy; subst h2; cases e; exact ⟨rfl,by simp⟩)
  |(have h1:=jh hx; subst h1; have h2:=nN hy; subst h2; cases e; exact ⟨rfl,by simp⟩)
  |(have h1:=nN hx; subst h1; have h2:=jh hy; subst h2; cases e; exact ⟨rfl,by simp⟩)
  |(have h1:=jh hx; subst h1; have h2:=jy hy; subst h2; cases e; exact ⟨rfl,by simp⟩)
  |(have h1:=jy hx; subst h1; have h2:=jh hy; subst h2; cases e; exact ⟨rfl,by simp⟩)
  |(have h1:=dG hx; subst h1; have h2:=dG hy; subst h2; cases e; exact ⟨rfl,by simp⟩)
  |(have h1:=nN hx; subst h1; have h2:=nN hy; subst h2; cases e; exact ⟨rfl,by simp⟩)
  |(have h1:=jy hx; subst h1; have h2:=jy hy; subst h2; cases e; exact ⟨rfl,by simp⟩)
  |(have h1:=dG hx; subst h1; have h2:=jy hy; subst h2; cases e; exact ⟨rfl,by simp⟩)
  |(have h1:=jy hx; subst h1; have h2:=dG hy; subst h2; cases e; exact ⟨rfl,by simp⟩)
  |(have h1:=nN hx; subst h1; have h2:=jy hy; subst h2; cases e; exact ⟨rfl,by simp⟩)
  |(have h1:=jy hx; subst h1; have h2:=nN hy; subst h2; cases e; exact ⟨rfl,by simp⟩)
  |cases e
theorem br:JR K rEq gEq:=by
 intro S H x y v u rr Q I hx hy e k
 obtain ⟨b,e1,e2⟩:=Option.map_eq_some_iff.mp e
 obtain ⟨h1,h2⟩:=DF hx hy e1
 refine ⟨h1,k _ S H (bu.refl I) ?_⟩
 subst e2
 show Rep K S _ _
 unfold Rep; rw [h2]
theorem Ee:JR K rNe gNe:=by
 intro S H x y v u rr Q I hx hy e k
 obtain ⟨b,e1,e2⟩:=Option.map_eq_some_iff.mp e
 obtain ⟨h1,h2⟩:=DF hx hy e1
 refine ⟨h1,k _ S H (bu.refl I) ?_⟩
 subst e2
 show Rep K S _ _
 unfold Rep; rw [h2]
end
section
variable {K:PySem.W.Frag} {cls:String -> Option Addr} {W:XW} {Av G S₀ S S' H H' B B':Hp} {ρ:ah} {σ:St} {Q:VK}
theorem mE.share {S1 H1:Hp} {r:RV} {v:V} {x:PV} (h:mE K H S1 H1 r v) (w:bu S H S1 H1) (e:mf r=some x):∃ S2,bu S H S2 H1 /\ aJ S1 S2 /\ Rep K S2 x v:=by
 cases r with
 |sh y=>cases e; exact ⟨S1,w,aJ.refl _,h⟩
 |al xs=>cases e
 | fr xs=>
   cases e
   obtain ⟨p,vs,rfl,hB,hS,hH,hr⟩:=h
   refine ⟨upd S1 p (.lst vs),⟨w.s.trans (aJ.new hS),w.g,fun b u z=>?_,fun b z=>?_⟩,aJ.new hS,?_⟩
   . by_cases e:b=p
     . subst e; rw [bQ] at z; cases z; exact hH
     . rw [bJ e] at z; exact w.sh b u z
   . by_cases e:b=p
     . subst e; exact .inr hB
     . rw [bJ e] at z; exact w.new b z
   . unfold Rep
     exact ⟨p,vs,rfl,SqL.new bQ,hr.mono (aJ.new hS)⟩
theorem ax:JA K cls W kU aG:=fun Av G S₀ ρ σ S H Q I p=>p [] S H (bu.refl I.sh) .nil
theorem ae {te:TE} {t:TA} {me:ah -> OE} {mr:ah -> OA} (he:JE K cls W te me) (ht:JA K cls W t mr):JA K cls W (ja te t) (aj me mr):=by
 intro Av G S₀ ρ σ S H Q I p
 refine he Av G S₀ ρ σ S H _ I ?_
 unfold aj at p
 cases e:me ρ with
 |exc c fs=>rw [e] at p; exact p
 |bad=>rw [e] at p; exact p
 | ok r=>
   rw [e] at p
   intro v S1 H1 w1 r1
   simp only [OE.fA] at p
   cases es:mf r with
   |none=>rw [es] at p; exact p.elim
   | some x=>
     rw [es] at p
     obtain ⟨S2,w2,s2,rx⟩:=r1.share w1 es
     refine ht.goA (I.grow w2) (p.back w2) fun xs vs S3 H3 I3 w3 r3 p3=>?_
     exact p3 (v ::vs) S3 H3 (bu.refl I3.sh) (.cons (Rep.mono w3.s rx) r3)
theorem Dz:lim=sizeLine:=by decide
theorem aS {t:TA} {ma:ah -> OA} (h:JA K cls W t ma):JE K cls W (E8 t) (bP ma):=by
 intro Av G S₀ ρ σ S H Q I p
 refine h.go I p fun xs vs S1 H1 I1 w1 r1 p1=>?_
 split at p1
 . rename_i hl
   refine ⟨by rw [r1.length]; exact hl,fun q hq=>p1 (.ref q) S1 _ (bu.heap I1.sh hq) ⟨q,vs,rfl,hq,I1.sh.free hq,bQ,r1⟩⟩
 . exact p1.elim
theorem dk {t:TA} {ma:ah -> OA} (h:JA K cls W t ma):JE K cls W (HF t) (fU ma):=by
 intro Av G S₀ ρ σ S H Q I p
 refine h.go I p fun xs vs S1 H1 I1 w1 r1 p1=>?_
 split at p1
 . rename_i hl
   refine ⟨by rw [r1.length]; exact hl,fun q hq=>p1 (.ref q) _ _ (bu.both I1.sh hq) ?_⟩
   show Rep K _ _ _
   unfold Rep
   exact ⟨q,vs,rfl,SqT.new bQ,r1.mono (bu.both (o:=.tup vs) I1.sh hq).s⟩
 . exact p1.elim
noncomputable def Ke (K:PySem.W.Frag) (cls:String -> Option Addr) (S H:Hp) (Q:VK) (E:XK):OE -> Prop
 |.ok r=>∀ v S' H',bu S H S' H' -> mE K H S' H' r v -> Q v H'
 |.exc c fs=>∀ a C S' H',bu S H S' H' -> ox K cls S' H' c fs a C -> E (.ref C) (some a) H'
 |.bad=>False
noncomputable def spP (K:PySem.W.Frag) (cls:String -> Option Addr) (f:List PV -> OE):Sp:=fun vs H Q E=>∃ S xs,aJ S H /\ bZ K S xs vs /\ Ke K cls S H Q E (f xs)
theorem aO {t:TA} {ma:ah -> OA} {f:List PV -> OE} (h:JA K cls W t ma):JE K cls W (qy (spP K cls f) [] W t) (bp f ma):=by
 intro Av G S₀ ρ σ S H Q I p
 refine h.go I p fun xs vs S1 H1 I1 w1 r1 p1=>?_
 show spP K cls f (vs++[]) H1 Q _
 rw [List.append_nil]
 refine ⟨S1,xs,I1.sh,r1,?_⟩
 cases e:f xs with
 |ok r=>rw [e] at p1; exact p1
 |exc c fs=>rw [e] at p1; exact p1
 |bad=>rw [e] at p1; exact p1
noncomputable def JU (K:PySem.W.Frag) (r:List V -> Hp -> VK -> Prop) (g:PV -> Option RV):Prop:=∀ S H x v rr Q,aJ S H -> RdV K S H x v -> g x=some rr ->
 (∀ z S' H',bu S H S' H' -> mE K H S' H' rr z -> Q z H') -> r [v] H Q
theorem gw {r:List V -> Hp -> VK -> Prop} {g:PV -> Option RV} {ta:TE} {ma:ah -> OE} (hr:JU K r g) (ha:JE K cls W ta ma):JE K cls W (tCB r (ja ta kU)) (mUn g ma):=by
 intro Av G S₀ ρ σ S H Q I p
 refine ha.go I p fun a v S1 H1 I1 w1 r1 p1=>?_
 show r [v] H1 Q
 cases e:g a.pv with
 |none=>rw [e] at p1; exact p1.elim
 |some rr=>rw [e] at p1; exact hr S1 H1 a.pv v rr Q I1.sh (r1.rd I1.sh) e p1
theorem mx {r:V -> Hp -> VK -> Prop} {g:PV -> Option RV} {ta:TE} {ma:ah -> OE} (hr:JU K (fun vs H Q=>∃ v,vs=[v] /\ r v H Q) g) (ha:JE K cls W ta ma):JE K cls W (tUn r ta) (mUn g ma):=by
 intro Av G S₀ ρ σ S H Q I p
 refine ha.go I p fun a v S1 H1 I1 w1 r1 p1=>?_
 cases e:g a.pv with
 |none=>rw [e] at p1; exact p1.elim
 | some rr=>
   rw [e] at p1
   obtain ⟨u,e1,h⟩:=hr S1 H1 a.pv v rr Q I1.sh (r1.rd I1.sh) e p1
   cases e1
   exact h
theorem jr:JU K (fun vs H Q=>∃ v,vs=[v] /\ rU (fun i=>.int (-i)) v H Q) gj:=by
 intro S H x v rr Q I hx e k
 cases x with
 |int i=>cases e; exact ⟨v,rfl,i,dG hx,k _ S H (bu.refl I) (by show Rep K S _ _; unfold Rep; rfl)⟩
 |_=>cases e
theorem se:JU K (fun xs H Q=>∃ p ys,xs=[.ref p] /\ (SqL K H p ys \/ SqT K H p ys) /\ Q (.int ys.length) H) qQ:=by
 intro S H x v rr Q I hx e k
 cases x with
 | lst xs=>
   cases e
   obtain ⟨p,vs,rfl,hq,r⟩:=iF hx
   exact ⟨p,vs,rfl,.inl hq,k _ S H (bu.refl I) (by show Rep K S _ _; unfold Rep; rw [r.length])⟩
 | tup xs=>
   cases e
   obtain ⟨p,vs,rfl,hq,r⟩:=mM hx
   exact ⟨p,vs,rfl,.inr (aJ.tup I hq),k _ S H (bu.refl I) (by show Rep K S _ _; unfold Rep; rw [r.length])⟩
 |_=>cases e
theorem AL:JU K (fun xs H Q=>(∃ i,xs=[.int i] /\ Q (.int i) H) \/ ∃ k,xs=[.bl k] /\ Q (.int (if k then 1 else 0)) H) yx:=by
 intro S H x v rr Q I hx e k
 cases x with
 |int i=>cases e; exact .inl ⟨i,by rw [dG hx],k _ S H (bu.refl I) (by show Rep K S _ _; unfold Rep; rfl)⟩
 |bl b=>cases e; exact .inr ⟨b,by rw [nN hx],k _ S H (bu.refl I) (by show Rep K S _ _; unfold Rep; rfl)⟩
 |_=>cases e
theorem IB {α:Type} (xs:List α) (i:Int):atP xs i=L2.atI xs i:=rfl
theorem bZ.atI {xs:List PV} {vs:List V} {i:Int} {x:PV} (h:bZ K S xs vs) (e:atP xs i=some x):∃ v,L2.atI vs i=some v /\ Rep K S x v:=by
 rw [IB] at e
 unfold L2.atI at e ⊢
 rw [h.length]
 cases q:ixN xs.length i with
 |none=>rw [q] at e; cases e
 |some j=>rw [q] at e; exact h.get e
theorem kM:JR K (Ei K) jX:=by
 intro S H x y v u rr Q I hx hy e k
 unfold jX at e
 split at e
 . rename_i xs i
   obtain ⟨z,e1,e2⟩:=Option.map_eq_some_iff.mp e
   obtain ⟨p,vs,rfl,hq,r⟩:=iF hx
   obtain ⟨w,e3,rw'⟩:=r.atI e1
   subst e2
   exact ⟨p,vs,i,w,rfl,dG hy,hq,e3,k _ S H (bu.refl I) rw'⟩
 . cases e
theorem gN:JR K (JB K) gv:=by
 intro S H x y v u rr Q I hx hy e k
 unfold gv at e
 split at e
 . rename_i xs i
   obtain ⟨z,e1,e2⟩:=Option.map_eq_some_iff.mp e
   obtain ⟨p,vs,rfl,hq,r⟩:=mM hx
   obtain ⟨w,e3,rw'⟩:=r.atI e1
   subst e2
   exact ⟨p,vs,i,w,rfl,dG hy,aJ.tup I hq,e3,k _ S H (bu.refl I) rw'⟩
 . cases e
end
section
variable {K:PySem.W.Frag} {cls:String -> Option Addr} {W:XW} {Av G S₀ S S' H H' B B':Hp} {ρ:ah} {σ:St} {Q:VK}
theorem fY:JR K (Gv K) gz:=by
 intro S H x y v u rr Q I hx hy e k
 unfold gz at e
 split at e
 . rename_i xs ys
   split at e
   . rename_i hl
     cases e
     obtain ⟨p,vs,rfl,hq,r⟩:=iF hx
     obtain ⟨p2,vs2,rfl,hq2,r2⟩:=iF hy
     exact ⟨p,p2,vs,vs2,rfl,rfl,hq,hq2,by rw [r.length,r2.length]; exact hl,fun l hn=>k _ S _ (bu.heap I hn) ⟨l,_,rfl,hn,I.free hn,bQ,r.append r2⟩⟩
   . cases e
 . cases e
theorem zD {xs:List PV} {vs:List V} {bs:List Bool} (h:rN xs=some bs) (r:bZ K S xs vs):vs=bs.map V.bl:=by
 induction xs generalizing bs vs with
 |nil=>cases h; exact r.nil_inv
 | cons x xs ih=>
   cases x with
   | bl i=>
     obtain ⟨ms,e1,e2⟩:=Option.map_eq_some_iff.mp h
     subst e2
     obtain ⟨v,t,rfl,h1,h2⟩:=r.cons_inv
     unfold Rep at h1
     rw [ih e1 h2,h1]; rfl
   |_=>cases h
theorem Ii {A:Around} (hh:A.handled=none):JU K (fun xs H Q=>∃ (p:Addr) (bs:List Bool),xs=[.ref p] /\ SqL K H p (bs.map V.bl) /\ A.handled=none /\ Q (.bl (bs.all id)) H) Ff:=by
 intro S H x v rr Q I hx e k
 cases x with
 | lst xs=>
   obtain ⟨bs,e1,e2⟩:=Option.map_eq_some_iff.mp e
   obtain ⟨p,vs,rfl,hq,r⟩:=iF hx
   rw [zD e1 r] at hq
   subst e2
   exact ⟨p,bs,rfl,hq,hh,k _ S H (bu.refl I) (by show Rep K S _ _; unfold Rep; rfl)⟩
 |_=>cases e
theorem IG {T:String} {x:PV} {v:V} {b:Bool} (s:aJ S H) (hx:RdV K S H x v) (e:isP T x=some b):IsV K T v H b:=by
 cases x with
 | int i=>
   have:=dG hx; subst this
   simp only [isP] at e
   split at e
   . cases e; exact .inl ⟨by assumption,rfl⟩
   . split at e
     . rename_i h; cases e; rcases h with h|h|h|h
       . exact .inr (.inl ⟨h,rfl⟩)
       . exact .inr (.inr (.inl ⟨h,rfl⟩))
       . exact .inr (.inr (.inr (.inl ⟨h,rfl⟩)))
       . exact .inr (.inr (.inr (.inr ⟨h,rfl⟩)))
     . cases e
 | bl i=>
   have:=nN hx; subst this
   simp only [isP] at e
   split at e
   . rename_i h; cases e; rcases h with h|h
     . exact .inl ⟨h,rfl⟩
     . exact .inr (.inl ⟨h,rfl⟩)
   . split at e
     . rename_i h; cases e; rcases h with h|h|h
       . exact .inr (.inr (.inl ⟨h,rfl⟩))
       . exact .inr (.inr (.inr (.inl ⟨h,rfl⟩)))
       . exact .inr (.inr (.inr (.inr ⟨h,rfl⟩)))
     . cases e
 | non=>
   have:=jh hx; subst this
   simp only [isP] at e
   split at e
   . rename_i h; cases e; rcases h with h|h|h|h|h
     . exact .inl ⟨h,rfl⟩
     . exact .inr (.inl ⟨h,rfl⟩)
     . exact .inr (.inr (.inl ⟨h,rfl⟩))
     . exact .inr (.inr (.inr (.inl ⟨h,rfl⟩)))
     . exact .inr (.inr (.inr (.inr ⟨h,rfl⟩)))
   . cases e
 | str i=>
   have:=jy hx; subst this
   simp only [isP] at e
   split at e
   . cases e; exact .inr (.inr (.inr (.inr ⟨by assumption,rfl⟩)))
   . split at e
     . rename_i h; cases e; rcases h with h|h|h|h
       . exact .inl ⟨h,rfl⟩
       . exact .inr (.inl ⟨h,rfl⟩)
       . exact .inr (.inr (.inl ⟨h,rfl⟩))
       . exact .inr (.inr (.inr (.inl ⟨h,rfl⟩)))
     . cases e
 | lst xs=>
   obtain ⟨p,vs,rfl,hq,r⟩:=iF hx
   refine .inl ⟨⟨vs,hq⟩,?_⟩
   simp only [isP] at e
   split at e
   . cases e; exact .inr (.inr (.inl ⟨by assumption,rfl⟩))
   . split at e
     . rename_i h; cases e; rcases h with h|h|h|h
       . exact .inl ⟨h,rfl⟩
       . exact .inr (.inl ⟨h,rfl⟩)
       . exact .inr (.inr (.inr (.inl ⟨h,rfl⟩)))
       . exact .inr (.inr (.inr (.inr ⟨h,rfl⟩)))
     . cases e
 | tup xs=>
   obtain ⟨p,vs,rfl,hq,r⟩:=mM hx
   refine .inr ⟨⟨vs,aJ.tup s hq⟩,?_⟩
   simp only [isP] at e
   split at e
   . cases e; exact .inr (.inr (.inr (.inl ⟨by assumption,rfl⟩)))
   . split at e
     . rename_i h; cases e; rcases h with h|h|h|h
       . exact .inl ⟨h,rfl⟩
       . exact .inr (.inl ⟨h,rfl⟩)
       . exact .inr (.inr (.inl ⟨h,rfl⟩))
       . exact .inr (.inr (.inr (.inr ⟨h,rfl⟩)))
     . cases e
theorem zj {T:String} {ta:TE} {ma:ah -> OE} (ha:JE K cls W ta ma):
  JE K cls W (tCB (fun xs H Q=>∃ x T b,xs=[x,.ty T] /\ IsV K T x H b /\ Q (.bl b) H) (ja ta (ja (tC (.ty T)) kU))) (mIs T ma):=by
 intro Av G S₀ ρ σ S H Q I p
 refine ha.go I p fun a v S1 H1 I1 w1 r1 p1=>?_
 show ∃ x T' b,[v,V.ty T]=[x,V.ty T'] /\ _
 dsimp only at p1
 cases e:isP T a.pv with
 |none=>rw [e] at p1; exact p1.elim
 | some b=>
   rw [e] at p1
   exact ⟨v,T,b,rfl,IG I1.sh (r1.rd I1.sh) e,p1 _ S1 H1 (bu.refl I1.sh) (by show Rep K S1 _ _; unfold Rep; rfl)⟩
end
section
variable {K:PySem.W.Frag} {cls:String -> Option Addr} {W:XW} {Av G S₀ S S' H H' B B':Hp} {ρ:ah} {σ:St} {Q:VK}
theorem rO {xs:List PV} {vs:List V} (h:bZ K S xs vs):vs.isEmpty=xs.isEmpty:=by
 cases xs with
 |nil=>rw [h.nil_inv]; rfl
 |cons x xs=>obtain ⟨v,r,rfl,_⟩:=h.cons_inv; rfl
theorem AB {x:PV} {v:V} {b:Bool} (s:aJ S H) (hx:RdV K S H x v) (e:pO x=some b):y6 K v H b:=by
 cases x with
 |non=>have:=jh hx; subst this; cases e; rfl
 |bl c=>have:=nN hx; subst this; cases e; rfl
 |int i=>have:=dG hx; subst this; cases e; rfl
 |str z=>cases e
 | lst xs=>
   obtain ⟨p,vs,rfl,hq,r⟩:=iF hx
   cases e
   exact .inl ⟨vs,hq,by rw [rO r]⟩
 | tup xs=>
   obtain ⟨p,vs,rfl,hq,r⟩:=mM hx
   cases e
   exact .inr (.inl ⟨vs,aJ.tup s hq,by rw [rO r]⟩)
theorem eB {ta:TE} {ma:ah -> OE} (ha:JE K cls W ta ma):JT K cls W (fun σ H Q=>ta σ H fun x H'=>∃ k,y6 K x H' k /\ Q k H') (de ma):=by
 intro Av G S₀ ρ σ S H Q I p
 refine ha.goT I p fun r v S1 H1 I1 w1 r1 p1=>?_
 cases e:pO r.pv with
 |none=>rw [e] at p1; exact p1.elim
 |some b=>rw [e] at p1; exact ⟨b,AB I1.sh (r1.rd I1.sh) e,p1 S1 H1 (bu.refl I1.sh)⟩
theorem wR {r:RV} {b:Bool} {v:V} {S1 H1:Hp} (h:r.pv=.bl b) (r1:mE K H S1 H1 r v) (s:aJ S1 H1):v=.bl b:=by
 have:=r1.rd s
 rw [h] at this
 exact nN this
theorem ay {ta:TE} {ma:ah -> OE} (ha:JE K cls W ta ma):JT K cls W (vW ta) (az ma):=by
 intro Av G S₀ ρ σ S H Q I p
 refine ha.goT I p fun r v S1 H1 I1 w1 r1 p1=>?_
 cases e:r.pv with
 |bl b=>rw [e] at p1; exact ⟨b,wR e r1 I1.sh,p1 S1 H1 (bu.refl I1.sh)⟩
 |_=>rw [e] at p1; exact p1.elim
theorem jm {ta tb:TT} {ma mb:ah -> OT} (ha:JT K cls W ta ma) (hb:JT K cls W tb mb):JT K cls W (HD ta tb) (dI ma mb):=by
 intro Av G S₀ ρ σ S H Q I p
 refine ha.goT I p fun b S1 H1 I1 w1 p1=>?_
 cases b with
 |true=>exact yD (hb Av G S₀ ρ σ S1 H1 Q I1 p1)
 |false=>exact yr (p1 S1 H1 (bu.refl I1.sh))
theorem DX {ta tb:TT} {ma mb:ah -> OT} (ha:JT K cls W ta ma) (hb:JT K cls W tb mb):JT K cls W (tOr ta tb) (u4 ma mb):=by
 intro Av G S₀ ρ σ S H Q I p
 refine ha.goT I p fun b S1 H1 I1 w1 p1=>?_
 cases b with
 |false=>exact yr (hb Av G S₀ ρ σ S1 H1 Q I1 p1)
 |true=>exact yD (p1 S1 H1 (bu.refl I1.sh))
theorem om {b:Bool}:mE K B S H (.sh (.bl b)) (.bl b):=by show Rep K S _ _; unfold Rep; rfl
theorem D3 {ta tb:TE} {ma mb:ah -> OE} (ha:JE K cls W ta ma) (hb:JE K cls W tb mb):JE K cls W (Dm ta tb) (yM ma mb):=by
 intro Av G S₀ ρ σ S H Q I p
 refine ha.go I p fun r v S1 H1 I1 w1 r1 p1=>?_
 cases e:r.pv with
 | bl b=>
   rw [e] at p1
   refine ⟨b,wR e r1 I1.sh,?_⟩
   cases b with
   |true=>exact yD (hb Av G S₀ ρ σ S1 H1 Q I1 p1)
   |false=>exact yr (p1 _ S1 H1 (bu.refl I1.sh) om)
 |_=>rw [e] at p1; exact p1.elim
theorem IX {ta:TE} {ma:ah -> OE} (ha:JE K cls W ta ma):JE K cls W (Cr ta) (CY ma):=by
 intro Av G S₀ ρ σ S H Q I p
 refine ha.go I p fun r v S1 H1 I1 w1 r1 p1=>?_
 cases e:r.pv with
 |bl b=>rw [e] at p1; exact ⟨b,wR e r1 I1.sh,p1 _ S1 H1 (bu.refl I1.sh) om⟩
 |_=>rw [e] at p1; exact p1.elim
theorem iq {tc:TT} {ta tb:TE} {mc:ah -> OT} {ma mb:ah -> OE} (hc:JT K cls W tc mc) (ha:JE K cls W ta ma) (hb:JE K cls W tb mb):JE K cls W (tIf tc ta tb) (gi mc ma mb):=by
 intro Av G S₀ ρ σ S H Q I p
 refine hc.go I p fun b S1 H1 I1 w1 p1=>?_
 cases b with
 |true=>exact yD (ha Av G S₀ ρ σ S1 H1 Q I1 p1)
 |false=>exact yr (hb Av G S₀ ρ σ S1 H1 Q I1 p1)
theorem jY {r r':R2} {g g':PV -> PV -> Option RV} {ta tb tc:TE} {ma mb mc:ah -> OE} (hr:JR K r g) (hr':JR K r' g') (ha:JE K cls W ta ma) (hb:JE K cls W tb mb) (hc:JE K cls W tc mc):
  JE K cls W (uI r r' ta tb tc) (lV g g' ma mb mc):=by
 intro Av G S₀ ρ σ S H Q I p
 refine ha.go I p fun a v S1 H1 I1 w1 r1 p1=>hb.go I1 p1 fun b u S2 H2 I2 w2 r2 p2=>?_
 cases e:g a.pv b.pv with
 |none=>rw [e] at p2; exact p2.elim
 | some rr=>
   rw [e] at p2
   refine hr S2 H2 a.pv b.pv v u rr _ I2.sh ((r1.rd I1.sh).mono w2.s w2.g) (r2.rd I2.sh) e fun z S3 H3 w3 r3=>?_
   have I3:=I2.grow w3
   simp only [oE,OE.bind] at p2
   cases e3:rr.pv with
   | bl k=>
     rw [e3] at p2
     have hz:=wR e3 r3 I3.sh
     refine ⟨k,hz,?_⟩
     cases k with
     |false=>exact yr (p2 _ S3 H3 w3 om)
     | true=>
       refine yD (hc.go I3 (p2.back w3) fun c y S4 H4 I4 w4 r4 p4=>?_)
       cases e4:g' b.pv c.pv with
       |none=>rw [e4] at p4; exact p4.elim
       |some r'=>rw [e4] at p4; exact hr' S4 H4 b.pv c.pv u y r' Q I4.sh (((r2.rd I2.sh).mono w3.s w3.g).mono w4.s w4.g) (r4.rd I4.sh) e4 p4
   |_=>rw [e3] at p2; exact p2.elim
theorem aw {ta tb:TS} {ma mb:ah -> OS} (ha:JS K cls W ta ma) (hb:JS K cls W tb mb):JS K cls W (Jd ta tb) (aH ma mb):=by
 intro Av G S₀ ρ σ S H D I p
 refine ha Av G S₀ ρ σ S H _ I ?_
 unfold aH at p
 cases e:ma ρ with
 |nx ρ'=>rw [e] at p; exact fun σ' S' H' I' s'=>hb Av G S₀ ρ' σ' S' H' D I' (p.back s')
 |bk ρ'=>rw [e] at p; exact p
 |ct ρ'=>rw [e] at p; exact p
 |rt ρ' r=>rw [e] at p; exact p
 |exc ρ' c fs=>rw [e] at p; exact p
 |bad=>rw [e] at p; exact p
theorem aF:JS K cls W Du aT:=fun Av G S₀ ρ σ S H D I p=>p σ S H I (aJ.refl _)
theorem aU {i:Nat} {te:TE} {me:ah -> OE} (he:JE K cls W te me):JS K cls W (rQ te (j0 i)) (bb i me):=by
 intro Av G S₀ ρ σ S H D I p
 refine he.goS I p fun r v S1 H1 I1 w1 r1 p1=>?_
 show D.nx (σ.set i (some v)) H1
 cases r with
 |sh x=>exact p1 _ S1 H1 (I1.An r1) (aJ.refl _)
 |fr xs=>exact p1 _ S1 H1 (I.Ki w1 r1) (aJ.refl _)
 |al xs=>exact p1.elim
theorem aX {tc:TT} {ta tb:TS} {mc:ah -> OT} {ma mb:ah -> OS} (hc:JT K cls W tc mc) (ha:JS K cls W ta ma) (hb:JS K cls W tb mb):JS K cls W (E0 tc ta tb) (bj mc ma mb):=by
 intro Av G S₀ ρ σ S H D I p
 refine hc.goS I p fun b S1 H1 I1 w1 p1=>?_
 cases b with
 |true=>exact yD (ha Av G S₀ ρ σ S1 H1 D I1 p1)
 |false=>exact yr (hb Av G S₀ ρ σ S1 H1 D I1 p1)
theorem aD {te:TE} {me:ah -> OE} (he:JE K cls W te me):JS K cls W (FO te) (bg me):=by
 intro Av G S₀ ρ σ S H D I p
 refine he.goS I p fun r v S1 H1 I1 w1 r1 p1=>?_
 cases r with
 |sh x=>exact p1 v σ S1 H1 I1 (aJ.refl _) r1
 |fr xs=>exact p1 v σ S1 H1 I1 (aJ.refl _) (r1.back I.gh)
 |al xs=>exact p1.elim
theorem pz {i:Nat}:JS K cls W (FO (zp i)) (ir i):=by
 intro Av G S₀ ρ σ S H D I p
 unfold ir at p
 split at p
 . rename_i x e
   obtain ⟨v,e1,r⟩:=I.good i _ e
   exact ⟨v,e1,p v σ S H I (aJ.refl _) r⟩
 . rename_i xs e
   obtain ⟨v,e1,a,vs,e2,h1,h2,h3,h4⟩:=I.good i _ e
   exact ⟨v,e1,p v σ S H I.drop (aJ.refl _) ⟨a,vs,e2,h1,h2,h3,h4⟩⟩
 . exact p.elim
theorem pe {i:Nat} {ts:TS} {m:ah -> OS} (h:JS K cls W ts m):JS K cls W ts (jQ i m):=by
 intro Av G S₀ ρ σ S H D I p
 unfold jQ nr at p
 split at p
 . rename_i xs e
   obtain ⟨S',s,J⟩:=I.Ko e
   exact h Av G S₀ _ σ S' H D J (p.back s)
 . exact h Av G S₀ ρ σ S H D I p
theorem kC {i:Nat} {te:TE} {me:ah -> OE} (he:JE K cls W te me):JS K cls W (uJ (tBM K "list" v9 (zp i) (ja te kU))) (eM i me):=by
 intro Av G S₀ ρ σ S H D I p
 unfold eM at p
 split at p
 . rename_i xs e
   obtain ⟨v,e1,a,vs,rfl,h1,h2,h3,h4⟩:=I.good i _ e
   refine ⟨_,e1,.inl ⟨rfl,_,SqL.new h3⟩,?_⟩
   refine he Av G S₀ ρ σ S H _ I ?_
   cases em:me ρ with
   |exc c fs=>rw [em] at p; exact fun a C S' H' w x=>p a C σ S' H' (I.grow w) w.s x
   |bad=>rw [em] at p; exact p
   | ok r=>
     rw [em] at p
     intro u S1 H1 w1 r1
     simp only [OE.cX] at p
     cases es:mf r with
     |none=>rw [es] at p; exact p.elim
     | some y=>
       rw [es] at p
       dsimp only at p
       split at p
       . rename_i hl
         obtain ⟨S2,w2,s2,rx⟩:=r1.share w1 es
         have I2:=I.grow w2
         refine ⟨a,vs,u,rfl,rfl,w2.g _ _ h3,by rw [h4.length]; exact hl,?_⟩
         exact p σ S2 _ (I2.mut e e1 ((h4.mono w2.s).append (.cons rx .nil))) w2.s
       . exact p.elim
 . exact p.elim
theorem vm {i:Nat} {tb:TS} {mb:ah -> OS} {D:Ends} {x:PV} {xs:List PV} {v:V} {N:St -> Hp -> Prop} (hb:JS K cls W tb mb) (I:SR K cls Av G S₀ ρ σ S H) (hx:Rep K S x v)
  (p:je K cls W Av G S₀ S D (jj i mb (x ::xs) ρ)) (hN:∀ ρ' σ' S' H',SR K cls Av G S₀ ρ' σ' S' H' -> aJ S S' -> je K cls W Av G S₀ S' D (jj i mb xs ρ') -> N σ' H'):
  j0 i v σ H fun σ2 H2=>tb { D with nx:=N,ct:=N,bk:=D.nx } σ2 H2:=by
 refine hb Av G S₀ _ _ S H _ (I.An hx) ?_
 rw [la] at p
 cases e:mb (ρ.set i (some (.sh x))) with
 |nx ρ'=>rw [e] at p; exact fun σ' S' H' I' s'=>hN ρ' σ' S' H' I' s' (p.back s')
 |ct ρ'=>rw [e] at p; exact fun σ' S' H' I' s'=>hN ρ' σ' S' H' I' s' (p.back s')
 |bk ρ'=>rw [e] at p; exact p
 |rt ρ' r=>rw [e] at p; exact p
 |exc ρ' c fs=>rw [e] at p; exact p
 |bad=>rw [e] at p; exact p
theorem xc {i:Nat} {tl:TE} {tb:TS} {ml:ah -> OE} {mb:ah -> OS} (hl:JE K cls W tl ml) (hb:JS K cls W tb mb):JS K cls W (D5 (xS K tl) (j0 i) tb) (sU i ml mb):=by
 intro Av G S₀ ρ σ S H D I p
 refine hl Av G S₀ ρ σ S H _ I ?_
 unfold sU at p
 cases em:ml ρ with
 |exc c fs=>rw [em] at p; exact fun a C S' H' w x=>p a C σ S' H' (I.grow w) w.s x
 |bad=>rw [em] at p; exact p
 | ok r=>
   rw [em] at p
   intro v S1 H1 w1 r1
   simp only [OE.cX] at p
   cases ei:zd r with
   |none=>rw [ei] at p; exact p.elim
   | some xs=>
     rw [ei] at p
     have es:mf r=some (.lst xs):=by
      cases r with
      |sh y=>cases y<;>cases ei<;>rfl
      |fr ys=>cases ei; rfl
      |al ys=>cases ei
     obtain ⟨S2,w2,s2,rx⟩:=r1.share w1 es
     have I2:=I.grow w2
     unfold Rep at rx
     obtain ⟨a,vs,rfl,hq,hr⟩:=rx
     refine ⟨a,rfl,⟨vs,aJ.seq I2.sh hq⟩,?_⟩
     refine Dd (xs:=vs) (fun k σ' H'=>∃ ρ' S',SR K cls Av G S₀ ρ' σ' S' H' /\ aJ S2 S' /\ je K cls W Av G S₀ S' D (jj i mb (xs.drop k) ρ'))
      ⟨ρ,S2,I2,aJ.refl _,p.back w2.s⟩ ?_ ?_ ?_
     . rintro k σ' H' _ ⟨ρ',S',I',s',_⟩
       exact aJ.seq (s'.trans I'.sh) hq
     . rintro k x σ' H' hx ⟨ρ',S',I',s',p'⟩
       obtain ⟨y,hy,ry⟩:=hr.Kg hx
       have hd:xs.drop k=y ::xs.drop (k+1):=by
        have hk:k<xs.length:=(List.getElem?_eq_some_iff.mp hy).1
        rw [List.drop_eq_getElem_cons hk]
        congr 1
        have:=List.getElem?_eq_getElem hk
        rw [hy] at this
        exact (Option.some.inj this).symm
       rw [hd] at p'
       exact vm hb I' (Rep.mono s' ry) p' fun ρ2 σ2 S3 H3 I3 s3 p3=>⟨ρ2,S3,I3,s'.trans s3,p3⟩
     . rintro σ' H' ⟨ρ',S',I',s',p'⟩
       rw [List.drop_of_length_le (by rw [hr.length]; exact Nat.le_refl _)] at p'
       exact p' σ' S' H' I' (aJ.refl _)
theorem yj {n k:Nat} (h:k<n):(dF n).drop k=.int (k:Int) ::(dF n).drop (k+1):=by
 have hk:k<(dF n).length:=by unfold dF; simpa using h
 rw [List.drop_eq_getElem_cons hk]
 congr 1
 simp [dF]
theorem we {i:Nat} {te:TE} {tb:TS} {me:ah -> OE} {mb:ah -> OS} (he:JE K cls W te me) (hb:JS K cls W tb mb):JS K cls W (D5 (zV (ja te kU)) (j0 i) tb) (tm i me mb):=by
 intro Av G S₀ ρ σ S H D I p
 refine he.goS I p fun r v S1 H1 I1 w1 r1 p1=>?_
 cases e:r.pv with
 | int j=>
   rw [e] at p1
   have hv:v=.int j:=by have:=r1.rd I1.sh; rw [e] at this; exact dG this
   subst hv
   dsimp only at p1
   split at p1
   . rename_i hj
     refine ⟨j,rfl,hj.1,hj.2,?_⟩
     refine Bq (n:=j.toNat) (fun k σ' H'=>∃ ρ' S',SR K cls Av G S₀ ρ' σ' S' H' /\ aJ S1 S' /\ je K cls W Av G S₀ S' D (jj i mb ((dF j.toNat).drop k) ρ'))
      ⟨ρ,S1,I1,aJ.refl _,p1⟩ ?_ ?_
     . rintro k σ' H' hk ⟨ρ',S',I',s',p'⟩
       rw [yj hk] at p'
       refine vm hb I' ?_ p' fun ρ2 σ2 S3 H3 I3 s3 p3=>⟨ρ2,S3,I3,s'.trans s3,p3⟩
       unfold Rep
       rw [Int.zero_add]
     . rintro σ' H' ⟨ρ',S',I',s',p'⟩
       rw [List.drop_of_length_le (by unfold dF; simp)] at p'
       exact p' σ' S' H' I' (aJ.refl _)
   . exact p1.elim
 |_=>rw [e] at p1; exact p1.elim
theorem u1 {tc:TT} {tb:TS} {mc:ah -> OT} {mb:ah -> OS} {n:Nat} (hc:JT K cls W tc mc) (hb:JS K cls W tb mb):JS K cls W (zv tc tb) (fQ mc mb n):=by
 intro Av G S₀ ρ σ S H D I p
 refine ⟨fun m σ' H'=>∃ ρ' S',SR K cls Av G S₀ ρ' σ' S' H' /\ aJ S S' /\ je K cls W Av G S₀ S' D (fQ mc mb m ρ'),⟨n,ρ,S,I,aJ.refl _,p⟩,?_⟩
 rintro m σ1 H1 ⟨ρ1,S1,I1,s1,p1⟩
 cases m with
 |zero=>exact p1.elim
 | succ m=>
   unfold fQ at p1
   refine hc.goS I1 p1 fun b S2 H2 I2 w2 p2=>?_
   cases b with
   |false=>exact yr (p2 σ1 S2 H2 I2 (aJ.refl _))
   | true=>
     refine yD ⟨fun σ' H'=>∃ ρ' S',SR K cls Av G S₀ ρ' σ' S' H' /\ aJ S S' /\ je K cls W Av G S₀ S' D (fQ mc mb m ρ'),fun σ' H' h=>⟨m,Nat.lt_succ_self m,h⟩,?_⟩
     refine hb Av G S₀ ρ1 σ1 S2 H2 _ I2 ?_
     simp only [if_true] at p2
     cases e:mb ρ1 with
     |nx ρ'=>rw [e] at p2; exact fun σ' S' H' I' s'=>⟨ρ',S',I',(s1.trans w2.s).trans s',p2.back s'⟩
     |ct ρ'=>rw [e] at p2; exact fun σ' S' H' I' s'=>⟨ρ',S',I',(s1.trans w2.s).trans s',p2.back s'⟩
     |bk ρ'=>rw [e] at p2; exact p2
     |rt r=>rw [e] at p2; exact p2
     |exc ρ' c fs=>rw [e] at p2; exact p2
     |bad=>rw [e] at p2; exact p2
end
section
variable {K:PySem.W.Frag} {cls:String -> Option Addr} {W:XW} {Av G S₀ S S' H H' B B':Hp} {ρ:ah} {σ:St} {Q:VK}
noncomputable def CC:V -> Option Int
 |.int i=>some i
 |_=>none
noncomputable def JO (K:PySem.W.Frag) (cls:String -> Option Addr) (W:XW) (to:TO) (m:ah -> OE):Prop:=∀ Av G S₀ ρ σ S H (Q:Option Int -> Hp -> Prop),SR K cls Av G S₀ ρ σ S H ->
 lx K cls W σ S H (fun v H'=>Q (CC v) H') (m ρ) -> to σ H Q
theorem rA:JO K cls W wL (mC .non):=fun Av G S₀ ρ σ S H Q I p=>p .non S H (bu.refl I.sh) (by show Rep K S _ _; unfold Rep; rfl)
theorem qZ {te:TE} {m:ah -> OE} (h:JE K cls W te m):JO K cls W (DR te) (gp m):=by
 intro Av G S₀ ρ σ S H Q I p
 refine h.go I p fun r v S1 H1 I1 w1 r1 p1=>?_
 cases e:r.pv with
 | int i=>
   rw [e] at p1
   have hv:v=.int i:=by have:=r1.rd I1.sh; rw [e] at this; exact dG this
   exact ⟨i,hv,p1 (.int i) S1 H1 (bu.refl I1.sh) (by show Rep K S1 _ _; unfold Rep; rfl)⟩
 |_=>rw [e] at p1; exact p1.elim
theorem JO.go {to:TO} {m:ah -> OE} {f:RV -> OE} {Q':Option Int -> Hp -> Prop} (h:JO K cls W to m) (I:SR K cls Av G S₀ ρ σ S H) (p:lx K cls W σ S H Q ((m ρ).bind f))
  (k:∀ r v S1 H1,SR K cls Av G S₀ ρ σ S1 H1 -> bu S H S1 H1 -> mE K H S1 H1 r v -> lx K cls W σ S1 H1 Q (f r) -> Q' (CC v) H1):to σ H Q':=by
 refine h Av G S₀ ρ σ S H Q' I ?_
 cases e:m ρ with
 |ok r=>rw [e] at p; exact fun v S1 H1 w r1=>k r v S1 H1 (I.grow w) w r1 (p.back w)
 |exc c fs=>rw [e] at p; exact p
 |bad=>rw [e] at p; exact p
theorem part_of {x:PV} {v:V} (h:RdV K S H x v):CC v=pS x:=by
 cases x with
 |int i=>rw [dG h]; rfl
 |non=>rw [jh h]; rfl
 |bl b=>rw [nN h]; rfl
 |str b=>rw [jy h]; rfl
 |lst xs=>obtain ⟨p,vs,rfl,_⟩:=iF h; rfl
 |tup xs=>obtain ⟨p,vs,rfl,_⟩:=mM h; rfl
theorem bZ.cut {xs:List PV} {vs:List V} (h:bZ K S xs vs) (lo hi:Option Int):bZ K S (xn xs lo hi) (Bh vs lo hi):=by
 have es:∀ n d o,rK n d o=HT.sIx n d o:=fun n d o=>by cases o<;>rfl
 unfold xn Bh
 simp only [es]
 rw [h.length]
 exact (h.drop _).take _
theorem uZ {te:TE} {tl th:TO} {ma ml mh:ah -> OE} (ha:JE K cls W te ma) (hl:JO K cls W tl ml) (hh:JO K cls W th mh):JE K cls W (tSl (JZ K) te tl th) (kY ma ml mh):=by
 intro Av G S₀ ρ σ S H Q I p
 refine ha.go I p fun a v S1 H1 I1 w1 r1 p1=>hl.go I1 p1 fun l u S2 H2 I2 w2 r2 p2=>hh.go I2 p2 fun h z S3 H3 I3 w3 r3 p3=>?_
 rw [part_of (r2.rd I2.sh),part_of (r3.rd I3.sh)]
 have ra:=((r1.rd I1.sh).mono w2.s w2.g).mono w3.s w3.g
 cases e:a.pv with
 | lst xs=>
   rw [e] at p3 ra
   obtain ⟨q,vs,rfl,hq,hr⟩:=iF ra
   exact ⟨q,vs,rfl,hq,fun b hb=>p3 _ S3 _ (bu.heap I3.sh hb) ⟨b,_,rfl,hb,I3.sh.free hb,bQ,hr.cut _ _⟩⟩
 |_=>rw [e] at p3; exact p3.elim
theorem join_some {α:Type} {o:Option (Option α)} {s:α} (h:o.join=some s):o=some (some s):=by
 cases o with
 |none=>cases h
 | some x=>cases x with
   |none=>cases h
   |some y=>rw [show y=s from Option.some.inj h]
theorem FD {α:Type} {l:List (Option α)} {ι:List Nat} {j:Nat} {s:α} (h:(ι.map fun i=>(l[i]?).join)[j]?=some (some s)):∃ i,ι[j]?=some i /\ l[i]?=some (some s):=by
 rw [List.getElem?_map] at h
 cases e:ι[j]? with
 |none=>rw [e] at h; cases h
 |some i=>rw [e] at h; exact ⟨i,rfl,join_some (Option.some.inj h)⟩
noncomputable def Gi (ι:List Nat) (Av:Hp):Hp:=fun j=>match ι[j]? with
 |some i=>Av i
 |none=>none
noncomputable def yN (ι:List Nat) (F:Nat -> List Addr):Nat -> List Addr:=fun j=>match ι[j]? with
 |some i=>F i
 |none=>[]
theorem tE.at {i j:Nat} {Av':Hp} {s:Sl} {v:V} {fp:List Addr} (h:tE K cls Av G S H i s v fp) (e:Av' j=Av i):tE K cls Av' G S H j s v fp:=by
 cases s with
 |sh x=>exact h
 |ow xs=>exact h
 |ex c fs=>exact h
 |tr io t=>exact ⟨h.1,h.2.1,h.2.2.1,fun z=>by rw [e]; exact h.2.2.2 z⟩
 |bo t=>exact h
theorem SR.pick {ι:List Nat} {x:PV} {v:V} (I:SR K cls Av G S₀ ρ σ S H) (hι:ι.Nodup) (hx:Rep K S x v):SR K cls (Gi ι Av) G S₀ (cY ι ρ++[some (.sh x)]) (L2.E.pick ι σ++[some v]) S H:=by
 obtain ⟨F,J⟩:=I
 have hl:(cY ι ρ).length=(L2.E.pick ι σ).length:=by unfold cY L2.E.pick; simp
 have hp:(cY ι ρ).length=ι.length:=by unfold cY; simp
 refine ⟨yN ι F,J.gh,J.s0,J.sh,J.new,fun j s e=>?_,fun j k a h1 h2=>?_,fun j a h=>?_,by unfold cY L2.E.pick; simp⟩
 . by_cases hj:j<(cY ι ρ).length
   . rw [List.getElem?_append_left hj] at e
     obtain ⟨i,e1,e2⟩:=FD e
     obtain ⟨u,e3,r⟩:=J.own i s e2
     refine ⟨u,?_,?_⟩
     . rw [List.getElem?_append_left (by rw [<- hl]; exact hj)]
       unfold L2.E.pick
       rw [List.getElem?_map,e1]
       show some (σ[i]?).join=_
       rw [e3]; rfl
     . unfold yN
       rw [e1]
       exact r.at (by unfold Gi; rw [e1])
   . have hj':(cY ι ρ).length <= j:=Nat.le_of_not_lt hj
     rw [List.getElem?_append_right hj'] at e
     have h0:j - (cY ι ρ).length=0:=by
      by_cases h:j - (cY ι ρ).length=0
      . exact h
      . rw [List.getElem?_eq_none (by simp; omega)] at e; cases e
     rw [h0] at e
     cases e
     refine ⟨v,?_,?_,hx⟩
     . rw [List.getElem?_append_right (by rw [<- hl]; exact hj'),<- hl,h0]; rfl
     . unfold yN
       rw [List.getElem?_eq_none (by rw [<- hp]; exact hj')]
 . unfold yN at h1 h2
   cases e1:ι[j]? with
   |none=>rw [e1] at h1; cases h1
   | some i=>
     cases e2:ι[k]? with
     |none=>rw [e2] at h2; cases h2
     | some i'=>
       rw [e1] at h1
       rw [e2] at h2
       have z:=J.apart i i' a h1 h2
       subst z
       obtain ⟨ha,ea⟩:=List.getElem?_eq_some_iff.mp e1
       obtain ⟨hb,eb⟩:=List.getElem?_eq_some_iff.mp e2
       exact (List.getElem_inj hι).mp (ea.trans eb.symm)
 . unfold yN at h
   cases e1:ι[j]? with
   |none=>rw [e1] at h; cases h
   |some i=>rw [e1] at h; exact J.live i a h
theorem C9 {me:ah -> OE} {x:PV} {xs ys:List PV} (h:dr me ρ (x ::xs)=.ok ys):∃ r y zs,me (ρ++[some (.sh x)])=.ok r /\ mf r=some y /\ dr me ρ xs=.ok zs /\ ys=y ::zs:=by
 unfold dr at h
 cases e:me (ρ++[some (.sh x)]) with
 | ok r=>
   rw [e] at h
   simp only [OE.fA] at h
   cases e2:mf r with
   |none=>rw [e2] at h; cases h
   | some y=>
     rw [e2] at h
     dsimp only at h
     cases e3:dr me ρ xs with
     |ok zs=>rw [e3] at h; cases h; exact ⟨r,y,zs,rfl,e2,rfl,rfl⟩
     |exc c fs=>rw [e3] at h; cases h
     |bad=>rw [e3] at h; cases h
 |exc c fs=>rw [e] at h; cases h
 |bad=>rw [e] at h; cases h
theorem pA {J:It} {ι:List Nat} {te:TE} {me:ah -> OE} {xs ys:List PV} (hι:ι.Nodup) (he:JE K cls (fun _ _ _ _=>False) te me) (I:SR K cls Av G S₀ ρ σ S H) (hy:dr me (cY ι ρ) xs=.ok ys) (hl:ys.length <= lim)
  (go:∀ k H' x,aJ H H' -> xs[k]?=some x -> J.go k H' /\ ∀ v H2,J.yld k H' v H2 -> H2=H' /\ Rep K S x v) (stop:∀ H',aJ H H' -> J.stop xs.length H')
  (hQ:∀ D S' H',bu S H S' H' -> H D=none -> S' D=none -> (∃ us,H' D=some (.lst us) /\ bZ K S' ys us) -> Q (.ref D) H'):
  ∀ D,H D=none -> ∃ W:Nat -> Nat -> List V -> Hp -> Prop,(∃ m,W 0 m [] (upd H D (.lst []))) /\ ∀ i m us H',W i m us H' ->
    H' D=some (.lst us) /\ ((J.stop i H' /\ Q (.ref D) H') \/ (J.go i H' /\ ∀ x H2,J.yld i H' x H2 -> te (L2.E.pick ι σ++[some x]) H2 fun y H3=>H3 D=some (.lst us) /\ us.length<sizeLine /\ ∃ m',m'<m /\ W (i+1) m' (us++[y]) (upd H3 D (.lst (us++[y]))))):=by
 intro D nD
 refine ⟨fun k m us H'=>m+k=xs.length /\ H' D=some (.lst us) /\ ∃ S' zs ws,aJ S S' /\ aJ H H' /\ aJ S' H' /\ (∀ b,S' b≠none -> S b≠none \/ (H b=none /\ b≠D)) /\ bZ K S' zs us /\ dr me (cY ι ρ) (xs.drop k)=.ok ws /\ ys=zs++ws,
  ⟨xs.length,rfl,bQ,S,[],ys,aJ.refl _,aJ.new nD,I.sh.trans (aJ.new nD),fun b z=>.inl z,.nil,hy,rfl⟩,?_⟩
 rintro k m us H' ⟨hm,hD,S',zs,ws,s1,g1,sh1,n1,r1,e1,rfl⟩
 refine ⟨hD,?_⟩
 have hSD:S' D=none:=by
  cases q:S' D with
  |none=>rfl
  | some o=>
    rcases n1 D (by rw [q]; simp) with z|⟨_,z⟩
    . exact absurd (I.sh.free nD) z
    . exact absurd rfl z
 by_cases hk:k<xs.length
 . refine .inr ?_
   have hx:xs[k]?=some xs[k]:=by simp [hk]
   obtain ⟨hgo,hyld⟩:=go k H' xs[k] g1 hx
   refine ⟨hgo,fun v H2 hv=>?_⟩
   obtain ⟨rfl,rv⟩:=hyld v H2 hv
   rw [List.drop_eq_getElem_cons hk] at e1
   obtain ⟨r,y,zs',em,es,e2,rfl⟩:=C9 e1
   have I1:SR K cls Av G S₀ ρ σ S' H2:=I.grow ⟨s1,g1,sh1,fun b z=>by
    rcases n1 b z with z|⟨z,_⟩
    . exact .inl z
    . exact .inr z⟩
   refine he _ G S₀ _ _ S' H2 _ (I1.pick hι (Rep.mono s1 rv)) ?_
   rw [em]
   intro u S2 H3 w2 r2
   obtain ⟨S3,w3,s3,ru⟩:=r2.share w2 es
   have hl2:(zs++y ::zs').length <= lim:=hl
   have hSD3:S3 D=none:=by
    cases q:S3 D with
    |none=>rfl
    | some o=>
      rcases w3.new D (by rw [q]; simp) with z|z
      . exact absurd hSD z
      . rw [hD] at z; cases z
   refine ⟨w3.g _ _ hD,?_,m - 1,by omega,by omega,bQ,S3,zs++[y],zs',s1.trans w3.s,(g1.trans w3.g).upd nD,w3.sh.upd hSD3,fun b z=>?_,(r1.mono w3.s).append (.cons ru .nil),e2,by simp⟩
   . rw [r1.length,<- Dz]
     rw [List.length_append,List.length_cons] at hl2
     omega
   . rcases w3.new b z with z|z
     . exact n1 b z
     . refine .inr ⟨g1.free z,fun e=>?_⟩
       rw [e,hD] at z; cases z
 . have hk':k=xs.length:=by omega
   subst hk'
   refine .inl ⟨stop H' g1,?_⟩
   rw [List.drop_length] at e1
   cases e1
   exact hQ D S' H' ⟨s1,g1,sh1,fun b z=>by
    rcases n1 b z with z|⟨z,_⟩
    . exact .inl z
    . exact .inr z⟩ nD hSD ⟨us,hD,by rw [List.append_nil]; exact r1⟩
theorem vc {tl te:TE} {ml me:ah -> OE} {ι:List Nat} (hι:ι.Nodup) (hl:JE K cls W tl ml) (he:JE K cls (fun _ _ _ _=>False) te me):JE K cls W (sW (xS K tl) ι te) (sG ml ι me):=by
 intro Av G S₀ ρ σ S H Q I p
 refine hl.go I p fun r v S1 H1 I1 w1 r1 p1=>?_
 have ra:=r1.rd I1.sh
 cases e:r.pv with
 | lst xs=>
   rw [e] at p1 ra
   obtain ⟨a,vs,rfl,hq,hr⟩:=iF ra
   refine ⟨a,rfl,⟨vs,hq⟩,?_⟩
   dsimp only at p1
   cases em:dr me (cY ι ρ) xs with
   |exc c fs=>rw [em] at p1; exact p1.elim
   |bad=>rw [em] at p1; exact p1.elim
   | ok ys=>
     rw [em] at p1
     simp only [noX] at p1
     split at p1
     . rename_i hlen
       refine pA hι he I1 em hlen (fun k H' x g hx=>?_) (fun H' g=>⟨vs,aJ.seq g hq,by rw [hr.length]; exact Nat.le_refl _⟩) fun D S' H' w nD sD ⟨us,hD,rr⟩=>p1 (.ref D) S' H' w ⟨D,us,rfl,nD,sD,hD,rr⟩
       obtain ⟨u,hu,ru⟩:=hr.get hx
       refine ⟨⟨vs,u,aJ.seq g hq,hu⟩,?_⟩
       rintro v' H2 ⟨rfl,hv⟩
       have:=hv vs (aJ.seq g hq)
       rw [hu] at this
       cases this
       exact ⟨rfl,ru⟩
     . exact p1.elim
 |_=>rw [e] at p1; exact p1.elim
theorem xX {tn te:TE} {mn me:ah -> OE} {ι:List Nat} (hι:ι.Nodup) (hn:JE K cls W tn mn) (he:JE K cls (fun _ _ _ _=>False) te me):JE K cls W (sW (zV (ja tn kU)) ι te) (xw mn ι me):=by
 intro Av G S₀ ρ σ S H Q I p
 refine hn.go I p fun r v S1 H1 I1 w1 r1 p1=>?_
 have ra:=r1.rd I1.sh
 cases e:r.pv with
 | int j=>
   rw [e] at p1 ra
   have hv:=dG ra
   subst hv
   dsimp only at p1
   split at p1
   . rename_i hj
     refine ⟨j,rfl,hj.1,hj.2,?_⟩
     cases em:dr me (cY ι ρ) (dF j.toNat) with
     |exc c fs=>rw [em] at p1; exact p1.elim
     |bad=>rw [em] at p1; exact p1.elim
     | ok ys=>
       rw [em] at p1
       simp only [noX] at p1
       split at p1
       . rename_i hlen
         have hln:(dF j.toNat).length=j.toNat:=by unfold dF; simp
         refine pA hι he I1 em hlen (fun k H' x g hx=>?_) (fun H' g=>by rw [hln]; exact Nat.le_refl _) fun D S' H' w nD sD ⟨us,hD,rr⟩=>p1 (.ref D) S' H' w ⟨D,us,rfl,nD,sD,hD,rr⟩
         have hk:k<j.toNat:=by rw [<- hln]; exact (List.getElem?_eq_some_iff.mp hx).1
         refine ⟨hk,?_⟩
         rintro v' H2 ⟨rfl,rfl⟩
         refine ⟨rfl,?_⟩
         have:x=.int (k:Int):=by
          unfold dF at hx
          rw [List.getElem?_map,List.getElem?_range hk] at hx
          exact (Option.some.inj hx).symm
         subst this
         unfold Rep
         rw [Int.zero_add]
       . exact p1.elim
   . exact p1.elim
 |_=>rw [e] at p1; exact p1.elim
theorem bZ.begin {xs:List PV} {vs:List V} (h:bZ K S xs vs) (N:List Str) (i:Nat) (s:Sl) (e:(kF N.length xs)[i]?=some (some s)):∃ x v,s=.sh x /\ (L2.start N vs)[i]?=some (some v) /\ Rep K S x v:=by
 unfold kF at e
 by_cases hi:i<xs.length
 . rw [List.getElem?_append_left (by simpa using hi),List.getElem?_map] at e
   have hx:xs[i]?=some xs[i]:=by simp [hi]
   rw [hx] at e
   cases e
   obtain ⟨v,hv,r⟩:=h.get hx
   refine ⟨_,v,rfl,?_,r⟩
   unfold L2.start
   rw [List.getElem?_append_left (by rw [List.length_map,h.length]; exact hi),List.getElem?_map,hv]; rfl
 . rw [List.getElem?_append_right (by simpa using hi)] at e
   rw [List.getElem?_replicate] at e
   split at e<;>cases e
theorem K2 {P:Program} {w:World} {mg:Str -> Option Value} {base:Heap} {x qual:Str} {st:Stmt} {f:Addr} {fd:FuncData} {N ps:List Str} {k:Nat} {m:ah -> OS} (F:Fun K x qual st f fd) (Sc:aY N ps (aC st))
  (hbody:∀ (cdv:Value) (A:Around) (outer:List Env) (s:Shared) (H:Hp) (E:XK),gY k (A.deeper (envOfC qual (aC st) s.heap.objs.size f cdv)) ->
    ∃ t,PSs (rR (CXE P w) P w K mg base N qual (aC st) f cdv A outer s H E) (dH st) t /\ JS K cls (fun C a _ H=>∀ H',aJ H H' -> E C a H') t m):cA P w K mg base (CXE P w) (k+1) f fd ps (spP K cls (fnP ps.length N.length m)):=by
 refine okX F Sc (fun vs H Q E h=>?_) fun cdv A outer s H vs Q E hr h=>?_
 . obtain ⟨S,xs,_,r,q⟩:=h
   unfold fnP at q
   split at q
   . rw [r.length]; assumption
   . exact q.elim
 . obtain ⟨S,xs,sS,r,q⟩:=h
   unfold fnP at q
   split at q
   . rename_i hl
     obtain ⟨t,ht,J⟩:=hbody cdv A outer s H E hr
     refine ⟨t,ht,?_⟩
     refine J (fun _=>none) H S (kF N.length xs) (start N vs) S H _ ⟨fun _=>[],aJ.refl _,aJ.refl _,sS,fun _ z=>.inl z,fun i s e=>?_,fun i j a h=>(nomatch h),fun i a h=>(nomatch h),?_⟩ ?_
     . obtain ⟨x,v,rfl,e1,rx⟩:=r.begin N i s e
       exact ⟨v,e1,rfl,rx⟩
     . unfold kF L2.start
       simp [r.length]
     . cases e:m (kF N.length xs) with
       |nx ρ'=>rw [e] at q; exact fun σ' S' H' I' s'=>q .non S' H' ⟨I'.s0,I'.gh,I'.sh,I'.new⟩ (by show Rep K S' _ _; unfold Rep; rfl)
       |bk ρ'=>rw [e] at q; exact q.elim
       |ct ρ'=>rw [e] at q; exact q.elim
       |bad=>rw [e] at q; exact q.elim
       | rt ρ' r=>
         rw [e] at q
         cases r with
         |al ys=>exact q.elim
         |sh y=>exact fun v σ' S' H' b' s' rr=>q v S' H' ⟨b'.s0,b'.gh,b'.sh,b'.new⟩ rr
         |fr ys=>exact fun v σ' S' H' b' s' rr=>q v S' H' ⟨b'.s0,b'.gh,b'.sh,b'.new⟩ rr
       | exc ρ' c fs=>
         rw [e] at q
         exact fun a C σ' S' H' I' s' x H2 g2=>q a C S' H2 ⟨I'.s0,I'.gh.trans g2,I'.sh.trans g2,I'.new⟩ (x.mono (aJ.refl _) g2)
   . exact q.elim
noncomputable def xk (K:PySem.W.Frag):Sp:=fun vs H Q _=>∃ (a:Addr) (ns:List Int),vs=[.ref a] /\ SqL K H a (ns.map V.int) /\ ns.length <= 63 /\ ∀ H',Q (.bl true) H'
theorem E7 {f:List PV -> OE} (h:∀ ns:List Int,ns.length <= 63 -> f [.lst (ns.map .int)]=.ok (.sh (.bl true))) (vs:List V) (H:Hp) (Q:VK) (E:XK) (q:xk K vs H Q E):spP K cls f vs H Q E:=by
 obtain ⟨a,ns,rfl,hS,hl,q⟩:=q
 refine ⟨H,[.lst (ns.map .int)],aJ.refl _,.cons (by unfold Rep; exact ⟨a,_,rfl,hS,bZ.ints⟩) .nil,?_⟩
 rw [h ns hl]
 intro v S' H' w r
 have:v=.bl true:=by have r':Rep K S' (.bl true) v:=r; unfold Rep at r'; exact r'
 subst this
 exact q H'
end
section
variable {K:PySem.W.Frag} {cls:String -> Option Addr} {W:XW} {Av G S₀ S S' H H' B B':Hp} {ρ:ah} {σ:St} {Q:VK}
theorem vp {x:PV} {v:V} (h:RdV K S H x v):decide (v=.non)=cM x:=by
 cases x with
 |non=>rw [jh h]; rfl
 |bl b=>rw [nN h]; rfl
 |int b=>rw [dG h]; rfl
 |str b=>rw [jy h]; rfl
 |lst xs=>obtain ⟨p,vs,rfl,_⟩:=iF h; rfl
 |tup xs=>obtain ⟨p,vs,rfl,_⟩:=mM h; rfl
theorem ug:JR K (fun x y H Q=>y=.non /\ Q (.bl (decide (x=.non))) H) yC:=by
 intro S H x y v u rr Q I hx hy e k
 unfold yC at e
 split at e
 . cases e
   exact ⟨jh hy,k _ S H (bu.refl I) (by rw [vp hx]; exact om)⟩
 . cases e
theorem A1:JR K (fun x y H Q=>y=.non /\ Q (.bl (!decide (x=.non))) H) yO:=by
 intro S H x y v u rr Q I hx hy e k
 unfold yO at e
 split at e
 . cases e
   exact ⟨jh hy,k _ S H (bu.refl I) (by rw [vp hx]; exact om)⟩
 . cases e
end
end L2.P
namespace L2
open PySem PySem.Spec PyProof.Rows
structure QE (X:Cx) (e:Expr) (t:TE):Prop where
 out:PE X e t
structure QA (X:Cx) (es:List Expr) (t:TA):Prop where
 out:PA X es t
structure QS (X:Cx) (st:Stmt) (t:TS):Prop where
 out:PS X st t
structure QSs (X:Cx) (st:List Stmt) (t:TS):Prop where
 out:PSs X st t
structure QT (X:Cx) (e:Expr) (t:TT):Prop where
 out:PT X e t
structure QW (X:Cx) (e:Expr) (t:TT):Prop where
 out:PW X e t
structure QI (X:Cx) (tg e:Expr) (t:TI):Prop where
 out:PI X tg e t
structure QG (X:Cx) (e:Expr) (t:TG):Prop where
 out:PG X e t
structure QO (X:Cx) (e:Option Expr) (t:TO):Prop where
 out:PO X e t
end L2
namespace L2
theorem qau (h:True:=by first|rfl|decide|exact .inl rfl|exact .inr rfl|exact .inr (.inl rfl)|exact .inr (.inr rfl)|assumption|(intro _; rfl)|with_unfolding_all rfl):True:=h
end L2
namespace L2.E
open PySem PySem.Spec PyProof.Rows L2
theorem AE {X:L2.Cx} {b:Bool} {j:Nat} {pos:PySem.Pos}:L2.QE X (PySem.Expr.Constant (PySem.Const.bool b) j pos) (L2.tC (L2.V.bl b)):=⟨L2.JM ⟩
theorem ag {X:L2.Cx} {i:Int} {j:Nat} {pos:PySem.Pos}:L2.QE X (PySem.Expr.Constant (PySem.Const.int i) j pos) (L2.tC (L2.V.int i)):=⟨L2.GZ ⟩
theorem aL {X:L2.Cx} {x:PySem.Str} {j:Nat} {pos:PySem.Pos}:L2.QE X (PySem.Expr.Constant (PySem.Const.str x) j pos) (L2.tC (L2.V.str x)):=⟨L2.GO ⟩
theorem cZ {X:L2.Cx} {j:Nat} {pos:PySem.Pos}:L2.QE X (PySem.Expr.Constant PySem.Const.none j pos) (L2.tC L2.V.non):=⟨L2.Hw ⟩
theorem qv {X:L2.Cx} (h1:Nat) {x:PySem.Str} {pos:PySem.Pos} (h4:autoParam (X.N[h1]?=Option.some x) L2.qau._auto_1) (h5:autoParam (L2.Vis X.env.scope x) L2.qau._auto_1) (h6:autoParam ((x==PySem.Str.ofString "__debug__")=Bool.false) L2.qau._auto_1) (h7:autoParam ((x==PySem.Str.ofString "__classdict__")=Bool.false) L2.qau._auto_1):L2.QE X (PySem.Expr.Name x pos) (L2.zp h1):=⟨L2.pv h1 h4 h5 h6 h7⟩
theorem bc {X:L2.Cx} {x:PySem.Str} {v:L2.V} {u:PySem.Value} {pos:PySem.Pos} (h5:L2.Gl X x) (h6:X.mg x=Option.some u) (h7:L2.RelV v u) (h8:autoParam ((x==PySem.Str.ofString "__debug__")=Bool.false) L2.qau._auto_1):L2.QE X (PySem.Expr.Name x pos) (L2.tC v):=⟨L2.Ep h5 h6 h7 h8⟩
theorem v3 {X:L2.Cx} {x:PySem.Str} {v:L2.V} {u:PySem.Value} {pos:PySem.Pos} (h5:L2.Gl X x) (h6:X.mg x=Option.none) (h7:PySem.bootBuiltins x=Option.some u) (h8:L2.RelV v u) (h9:autoParam (x≠PySem.Str.ofString "__name__") L2.qau._auto_1) (h10:autoParam ((x==PySem.Str.ofString "__debug__")=Bool.false) L2.qau._auto_1):L2.QE X (PySem.Expr.Name x pos) (L2.tC v):=⟨L2.E6 h5 h6 h7 h8 h9 h10⟩
theorem G7 {X:L2.Cx} {a:PySem.Expr} {ta:L2.TE} {pos:PySem.Pos} (h4:L2.QE X a ta):L2.QE X (PySem.Expr.UnaryOp PySem.UnaryOp.Not a pos) (L2.Cr ta):=⟨L2.Iy h4.out⟩
theorem mB {X:L2.Cx} {a:PySem.Expr} {ta:L2.TE} {pos:PySem.Pos} {op:PySem.UnaryOp} {r:L2.V -> L2.Hp -> L2.VK -> Prop} (h6:L2.UnR X (PySem.unaryOp op) r) (h7:L2.QE X a ta):L2.QE X (PySem.Expr.UnaryOp op a pos) (L2.tUn r ta):=⟨L2.Km h6 h7.out⟩
theorem aB {X:L2.Cx} {a:PySem.Expr} {b:PySem.Expr} {ta:L2.TE} {tb:L2.TE} {pos:PySem.Pos} {op:PySem.Operator} {r:L2.R2} (h8:L2.OpR X (PySem.binaryOp op) r) (h9:L2.QE X a ta) (h10:L2.QE X b tb):L2.QE X (PySem.Expr.BinOp a op b pos) (L2.tOp r ta tb):=⟨L2.Jz h8 h9.out h10.out⟩
theorem iu {X:L2.Cx} {a:PySem.Expr} {b:PySem.Expr} {ta:L2.TE} {tb:L2.TE} {pos:PySem.Pos} {op:PySem.CmpOp} {r:L2.R2} (h8:L2.OpR X (PySem.compareOp op) r) (h9:L2.QE X a ta) (h10:L2.QE X b tb) (h11:PySem.behindInMarks op b=Bool.false):L2.QE X (PySem.Expr.Compare a [op] [b] pos) (L2.tOp r ta tb):=⟨L2.E5 h8 h9.out h10.out h11⟩
theorem D2 {X:L2.Cx} {a:PySem.Expr} {b:PySem.Expr} {c:PySem.Expr} {ta:L2.TE} {tb:L2.TE} {tc:L2.TE} {pos:PySem.Pos} {op:PySem.CmpOp} {op':PySem.CmpOp} {r:L2.R2} {r':L2.R2} (h12:L2.OpR X (PySem.compareOp op) r) (h13:L2.OpR X (PySem.compareOp op') r') (h14:L2.QE X a ta) (h15:L2.QE X b tb) (h16:L2.QE X c tc) (h17:autoParam (PySem.lastMarks [op,op'] [b,c]=Bool.false) L2.qau._auto_1):L2.QE X (PySem.Expr.Compare a [op,op'] [b,c] pos) (L2.uI r r' ta tb tc):=⟨L2.Cq h12 h13 h14.out h15.out h16.out h17⟩
theorem Ca {X:L2.Cx} {a:PySem.Expr} {pos:PySem.Pos} {op:PySem.BoolOp} {t:L2.TE} (h5:L2.QE X a t):L2.QE X (PySem.Expr.BoolOp op [a] pos) t:=⟨L2.Ie h5.out⟩
theorem Dq {X:L2.Cx} {a:PySem.Expr} {b:PySem.Expr} {ta:L2.TE} {tb:L2.TE} {pos:PySem.Pos} {rest:List PySem.Expr} (h7:L2.QE X a ta) (h8:L2.QE X (PySem.Expr.BoolOp PySem.BoolOp.And (b ::rest) pos) tb):L2.QE X (PySem.Expr.BoolOp PySem.BoolOp.And (a ::b ::rest) pos) (L2.Dm ta tb):=⟨L2.Iu h7.out h8.out⟩
theorem cS {X:L2.Cx} {a:PySem.Expr} {b:PySem.Expr} {ta:L2.TE} {tb:L2.TE} {pos:PySem.Pos} {tA:L2.TT} {c:PySem.Expr} (h8:L2.QT X c tA) (h9:L2.QE X a ta) (h10:L2.QE X b tb):L2.QE X (PySem.Expr.IfExp c a b pos) (L2.tIf tA ta tb):=⟨L2.DO h8.out h9.out h10.out⟩
theorem aP {X:L2.Cx} {es:List PySem.Expr} {t:L2.TA} {pos:PySem.Pos} (h4:L2.QA X es t):L2.QE X (PySem.Expr.List es pos) (L2.E8 t):=⟨L2.Jb h4.out⟩
theorem dm {X:L2.Cx} {es:List PySem.Expr} {t:L2.TA} {pos:PySem.Pos} {x1:Nat} (h5:L2.QA X es t):L2.QE X (PySem.Expr.Tuple es x1 pos) (L2.HF t):=⟨L2.IP h5.out⟩
theorem oy {X:L2.Cx} {e:PySem.Expr} {te:L2.TE} {lo:Option PySem.Expr} {hi:Option PySem.Expr} {tl:L2.TO} {th:L2.TO} {pos:PySem.Pos} {p2:PySem.Pos} {r:L2.V -> Option Int -> Option Int -> L2.Hp -> L2.VK -> Prop} (h10:L2.SlR X r) (h11:L2.QE X e te) (h12:L2.QO X lo tl) (h13:L2.QO X hi th):L2.QE X (PySem.Expr.Subscript e (PySem.Expr.Slice lo hi Option.none p2) pos) (L2.tSl r te tl th):=⟨L2.Cd h10 h11.out h12.out h13.out⟩
theorem Kb {X:L2.Cx} {a:PySem.Expr} {b:PySem.Expr} {ta:L2.TE} {tb:L2.TE} {pos:PySem.Pos} {r:L2.R2} (h7:L2.IxR X r) (h8:L2.QE X a ta) (h9:L2.QE X b tb) (h10:L2.wo b):L2.QE X (PySem.Expr.Subscript a b pos) (L2.tOp r ta tb):=⟨L2.Kh h7 h8.out h9.out h10⟩
theorem ng {X:L2.Cx} {scope:PySem.Scope} {cl:List (PySem.Str×PySem.Addr)} {M:List PySem.Str} {ι:List Nat} {x:PySem.Str} {elt:PySem.Expr} {iter:PySem.Expr} {px:PySem.Pos} {pos:PySem.Pos} {wi:L2.TI} {te:L2.TE} (h12:L2.E.kR X scope cl M ι x) (h13:X.calm=Bool.true) (h14:L2.QI X (PySem.Expr.Name x px) iter wi) (h15:∀ (C:PySem.Addr) (s₀:PySem.Shared) (H₀:L2.Hp) (ex:List PySem.Addr),L2.QE (L2.E.blk X scope cl (M++[x]) C s₀ H₀ ex) elt te) (h16:autoParam (∀ (v:PySem.Value),PySem.foldedSetIterable iter X.env v=Pure.pure v) L2.qau._auto_1):L2.QE X (PySem.Expr.ListComp elt [PySem.Comprehension.mk (PySem.Expr.Name x px) iter [] 0] scope pos) (L2.E.sW wi ι te):=⟨L2.E.FE h12 h13 h14.out (fun z0 z1 z2 z3=>(h15 z0 z1 z2 z3).out) h16⟩
theorem DC {X:L2.Cx} {k:Nat} {f:PySem.Addr} {fd:PySem.FuncData} {ps:List PySem.Str} {sp:L2.Sp} {dvs:List L2.V} {ds:List PySem.Value} {W:L2.E.XW} {x:PySem.Str} {p:PySem.Pos} {pos:PySem.Pos} {e:PySem.Expr} {es:List PySem.Expr} {t:L2.TA} (h15:L2.cA X.prog X.w X.K X.mg X.base (L2.E.CXE X.prog X.w) k f fd ps sp) (h16:L2.gY k X.A) (h17:L2.Gl X x) (h18:X.mg x=Option.some (PySem.Value.ref f)) (h19:PySem.W.keepIn X.K (PySem.Value.ref f)=Bool.true) (h20:L2.Binds X.K fd ps ds) (h21:L2.Vals dvs ds) (h22:L2.E.Thr X W) (h23:L2.QA X (e ::es) t) (h24:autoParam ((x==PySem.Str.ofString "__debug__")=Bool.false) L2.qau._auto_1) (h25:autoParam (PySem.starEach (e ::es) X.env=(Bool.false,PySem.eval e X.env) ::PySem.starEach es X.env) L2.qau._auto_1) (h26:autoParam ((List.any (PySem.backTo pos (PySem.starEach es X.env)) fun x=>x.fst)=Bool.false) L2.qau._auto_1):L2.QE X (PySem.Expr.Call (PySem.Expr.Name x p) (e ::es) [] pos) (L2.E.qy sp dvs W t):=⟨L2.E.Dv h15 h16 h17 h18 h19 h20 h21 h22 h23.out h24 h25 h26⟩
theorem mK {X:L2.Cx} {x:PySem.Str} {p:PySem.Pos} {pos:PySem.Pos} {e:PySem.Expr} {es:List PySem.Expr} {t:L2.TA} {id:String} {r:List L2.V -> L2.Hp -> L2.VK -> Prop} (h9:L2.nU X (PySem.Value.builtin id) r) (h10:L2.Gl X x) (h11:X.mg x=Option.none) (h12:PySem.bootBuiltins x=Option.some (PySem.Value.builtin id)) (h13:L2.QA X (e ::es) t) (h14:autoParam (x≠PySem.Str.ofString "__name__") L2.qau._auto_1) (h15:autoParam ((x==PySem.Str.ofString "__debug__")=Bool.false) L2.qau._auto_1) (h16:autoParam (PySem.starEach (e ::es) X.env=(Bool.false,PySem.eval e X.env) ::PySem.starEach es X.env) L2.qau._auto_1) (h17:autoParam ((List.any (PySem.backTo pos (PySem.starEach es X.env)) fun x=>x.fst)=Bool.false) L2.qau._auto_1):L2.QE X (PySem.Expr.Call (PySem.Expr.Name x p) (e ::es) [] pos) (L2.tCB r t):=⟨L2.Ed h9 h10 h11 h12 h13.out h14 h15 h16 h17⟩
theorem gR {X:L2.Cx} {x:PySem.Str} {p:PySem.Pos} {pos:PySem.Pos} {e:PySem.Expr} {es:List PySem.Expr} {t:L2.TA} {T:String} {r:List L2.V -> L2.Hp -> L2.VK -> Prop} (h9:L2.nU X (PySem.Value.type T) r) (h10:L2.Gl X x) (h11:X.mg x=Option.none) (h12:PySem.bootBuiltins x=Option.some (PySem.Value.type T)) (h13:L2.QA X (e ::es) t) (h14:autoParam (x≠PySem.Str.ofString "__name__") L2.qau._auto_1) (h15:autoParam ((x==PySem.Str.ofString "__debug__")=Bool.false) L2.qau._auto_1) (h16:autoParam (PySem.starEach (e ::es) X.env=(Bool.false,PySem.eval e X.env) ::PySem.starEach es X.env) L2.qau._auto_1) (h17:autoParam ((List.any (PySem.backTo pos (PySem.starEach es X.env)) fun x=>x.fst)=Bool.false) L2.qau._auto_1):L2.QE X (PySem.Expr.Call (PySem.Expr.Name x p) (e ::es) [] pos) (L2.tCB r t):=⟨L2.BF h9 h10 h11 h12 h13.out h14 h15 h16 h17⟩
theorem F4 {X:L2.Cx} {o:PySem.Expr} {e:PySem.Expr} {es:List PySem.Expr} {to:L2.TE} {t:L2.TA} {name:PySem.Str} {apos:PySem.Pos} {cpos:PySem.Pos} {T:String} {id:String} {r:L2.V -> List L2.V -> L2.Hp -> L2.VK -> Prop} (h12:PySem.PlainAttrs T) (h13:PySem.Slot T name id) (h14:PySem.typeOf (PySem.Value.builtin id)=Pure.pure (PySem.Value.type "method_descriptor")) (h15:L2.MtR X id r) (h16:L2.QE X o to) (h17:L2.QA X (e ::es) t) (h18:autoParam (PySem.attributeBase o name X.env (PySem.eval o X.env)=PySem.eval o X.env) L2.qau._auto_1) (h19:autoParam ((((List.all (PySem.backTo cpos (PySem.starEach (e ::es) X.env)) fun x=>!x.fst)&&List.all (PySem.backToKw cpos (PySem.keywordEach [] X.env)) fun x=>Option.isSome x.fst)&&Decidable.decide ((List.length (e ::es)+List.length ([]:List Keyword)+if List.isEmpty ([]:List Keyword)=Bool.true then 0 else 1)<30))=Bool.true) L2.qau._auto_1) (h20:autoParam ((apos.endLine==cpos.line)=Bool.true) L2.qau._auto_1) (h21:autoParam (PySem.starEach (e ::es) X.env=(Bool.false,PySem.eval e X.env) ::PySem.starEach es X.env) L2.qau._auto_1) (h22:autoParam ((List.any (PySem.backTo cpos (PySem.starEach es X.env)) fun x=>x.fst)=Bool.false) L2.qau._auto_1):L2.QE X (PySem.Expr.Call (PySem.Expr.Attribute o name apos) (e ::es) [] cpos) (L2.tBM X.K T r to t):=⟨L2.Jw h12 h13 h14 h15 h16.out h17.out h18 h19 h20 h21 h22⟩
theorem CS {X:L2.Cx} {o:PySem.Expr} {to:L2.TE} {name:PySem.Str} {apos:PySem.Pos} {cpos:PySem.Pos} {T:String} {id:String} {r:L2.V -> List L2.V -> L2.Hp -> L2.VK -> Prop} (h9:PySem.PlainAttrs T) (h10:PySem.Slot T name id) (h11:PySem.typeOf (PySem.Value.builtin id)=Pure.pure (PySem.Value.type "method_descriptor")) (h12:L2.MtR X id r) (h13:L2.QE X o to) (h14:autoParam (PySem.attributeBase o name X.env (PySem.eval o X.env)=PySem.eval o X.env) L2.qau._auto_1) (h15:autoParam ((apos.endLine==cpos.line)=Bool.true) L2.qau._auto_1):L2.QE X (PySem.Expr.Call (PySem.Expr.Attribute o name apos) [] [] cpos) (L2.HK X.K T r to):=⟨L2.HZ h9 h10 h11 h12 h13.out h14 h15⟩
theorem rE {X:L2.Cx}:L2.QO X Option.none L2.wL:=⟨L2.ER ⟩
theorem rD {X:L2.Cx} {e:PySem.Expr} {te:L2.TE} (h3:L2.QE X e te):L2.QO X (Option.some e) (L2.DR te):=⟨L2.E9 h3.out⟩
theorem au {X:L2.Cx}:L2.QA X [] L2.kU:=⟨L2.HS ⟩
theorem aa {X:L2.Cx} {e:PySem.Expr} {es:List PySem.Expr} {te:L2.TE} {t:L2.TA} (h5:L2.QE X e te) (h6:L2.QA X es t) (h7:autoParam (L2.E.isStar e=Bool.false) L2.qau._auto_1):L2.QA X (e ::es) (L2.ja te t):=⟨L2.E.C8 h5.out h6.out h7⟩
theorem jL {X:L2.Cx} {a:PySem.Expr} {b:PySem.Expr} {ta:L2.TE} {tb:L2.TE} {pos:PySem.Pos} {op:PySem.CmpOp} {r:L2.R2} (h8:L2.OpR X (PySem.compareOp op) r) (h9:L2.QE X a ta) (h10:L2.QE X b tb) (h11:PySem.behindInMarks op b=Bool.false):L2.QT X (PySem.Expr.Compare a [op] [b] pos) (L2.vW (L2.tOp r ta tb)):=⟨L2.Er h8 h9.out h10.out h11⟩
theorem kH {X:L2.Cx} {a:PySem.Expr} {b:PySem.Expr} {c:PySem.Expr} {ta:L2.TE} {tb:L2.TE} {tc:L2.TE} {pos:PySem.Pos} {op:PySem.CmpOp} {op':PySem.CmpOp} {r:L2.R2} {r':L2.R2} (h12:L2.OpR X (PySem.compareOp op) r) (h13:L2.OpR X (PySem.compareOp op') r') (h14:L2.QE X a ta) (h15:L2.QE X b tb) (h16:L2.QE X c tc) (h17:autoParam (PySem.lastMarks [op,op'] [b,c]=Bool.false) L2.qau._auto_1):L2.QT X (PySem.Expr.Compare a [op,op'] [b,c] pos) (L2.vW (L2.uI r r' ta tb tc)):=⟨L2.D6 h12 h13 h14.out h15.out h16.out h17⟩
theorem Hs {X:L2.Cx} {a:PySem.Expr} {pos:PySem.Pos} {tA:L2.TT} (h4:L2.QT X a tA):L2.QT X (PySem.Expr.UnaryOp PySem.UnaryOp.Not a pos) (L2.HV tA):=⟨L2.Hg h4.out⟩
theorem cj {X:L2.Cx} {a:PySem.Expr} {ta:L2.TE} (h3:L2.QE X a ta) (h4:∀ (whole:PySem.Sem PySem.Value),
 PySem.isTrue a X.env whole=do
  let v <- whole
  PySem.standAt (PySem.Expr.pos a)
  PySem.holding [v] (PySem.truthy v)):L2.QT X a fun σ H Q=>ta σ H fun x H'=>∃ k,L2.y6 X.K x H' k /\ Q k H':=⟨L2.Eb h3.out h4⟩
theorem mw {X:L2.Cx} {e:PySem.Expr} {t:L2.TT} (h3:L2.QW X e t):L2.QT X e t:=⟨L2.PW.pt h3.out⟩
theorem jI {X:L2.Cx} {a:PySem.Expr} {pos:PySem.Pos} {tA:L2.TT} (h4:L2.QT X a tA):L2.QW X (PySem.Expr.BoolOp PySem.BoolOp.And [a] pos) tA:=⟨L2.Ew h4.out⟩
theorem zh {X:L2.Cx} {a:PySem.Expr} {pos:PySem.Pos} {tA:L2.TT} (h4:L2.QT X a tA):L2.QW X (PySem.Expr.BoolOp PySem.BoolOp.Or [a] pos) tA:=⟨L2.Hd h4.out⟩
theorem jv {X:L2.Cx} {a:PySem.Expr} {b:PySem.Expr} {pos:PySem.Pos} {tA:L2.TT} {tB':L2.TT} {rest:List PySem.Expr} (h7:L2.QT X a tA) (h8:L2.QW X (PySem.Expr.BoolOp PySem.BoolOp.And (b ::rest) pos) tB'):L2.QW X (PySem.Expr.BoolOp PySem.BoolOp.And (a ::b ::rest) pos) (L2.HD tA tB'):=⟨L2.I9 h7.out h8.out⟩
theorem Cn {X:L2.Cx} {a:PySem.Expr} {b:PySem.Expr} {pos:PySem.Pos} {tA:L2.TT} {tB':L2.TT} {rest:List PySem.Expr} (h7:L2.QT X a tA) (h8:L2.QW X (PySem.Expr.BoolOp PySem.BoolOp.Or (b ::rest) pos) tB'):L2.QW X (PySem.Expr.BoolOp PySem.BoolOp.Or (a ::b ::rest) pos) (L2.tOr tA tB'):=⟨L2.Jt h7.out h8.out⟩
theorem mz {X:L2.Cx} {tg:PySem.Expr} {a:PySem.Expr} {ta:L2.TA} {p:PySem.Pos} {pos:PySem.Pos} (h6:L2.Gl X (PySem.Str.ofString "range")) (h7:X.mg (PySem.Str.ofString "range")=Option.none) (h8:L2.QA X [a] ta) (h9:autoParam (PySem.starEach [a] X.env=[(Bool.false,PySem.eval a X.env)]) L2.qau._auto_1):L2.QI X tg (PySem.Expr.Call (PySem.Expr.Name (PySem.Str.ofString "range") p) [a] [] pos) (L2.zV ta):=⟨L2.Bm h6 h7 h8.out h9⟩
theorem ku {X:L2.Cx} {tg:PySem.Expr} {l:PySem.Expr} {tl:L2.TE} (h4:L2.QE X l tl):L2.QI X tg l (L2.xS X.K tl):=⟨L2.FL h4.out⟩
theorem Ha {X:L2.Cx} {tg:PySem.Expr} {l:PySem.Expr} {tl:L2.TE} (h4:L2.QE X l tl):L2.QI X tg l (L2.HE X.K tl):=⟨L2.G9 h4.out⟩
theorem HM {X:L2.Cx} {pos:PySem.Pos} {i:Nat} {x:PySem.Str} {e:PySem.Expr} {te:L2.TE} {pos':PySem.Pos} (h7:List.Nodup X.N) (h8:X.N[i]?=Option.some x) (h9:L2.Loc X.env.scope x) (h10:L2.QE X e te) (h11:autoParam (PySem.swapsWith e (Option.some (PySem.Expr.Name x pos')) pos.line X.env=Pure.pure Bool.false) L2.qau._auto_1) (h12:autoParam (X.fn x=Bool.true \/ List.lookup x X.env.scope.names=Option.some PySem.NameKind.local) L2.qau._auto_1):L2.QS X (PySem.Stmt.Assign [PySem.Expr.Name x pos'] e pos) (L2.rQ te (L2.j0 i)):=⟨L2.Hq h7 h8 h9 h10.out h11 h12⟩
theorem xi {X:L2.Cx} {pos:PySem.Pos} {tg:PySem.Expr} {e:PySem.Expr} {te:L2.TE} {g:L2.TG} (h6:L2.QE X e te) (h7:L2.QG X tg g) (h8:autoParam (PySem.swapsWithSole [tg] e pos.line X.env=Pure.pure Bool.false) L2.qau._auto_1) (h9:autoParam (PySem.swappedStores [tg] e X.env=Pure.pure Option.none) L2.qau._auto_1) (h10:autoParam (List.map (fun x=>x.snd) (PySem.assignEach [tg] X.env)=[PySem.assign tg X.env]) L2.qau._auto_1):L2.QS X (PySem.Stmt.Assign [tg] e pos) (L2.rQ te g):=⟨L2.Jc h6.out h7.out h8 h9 h10⟩
theorem aV {X:L2.Cx} {t:L2.TS} {u:L2.TS} {pos:PySem.Pos} {c:PySem.Expr} {a:List PySem.Stmt} {b:List PySem.Stmt} {tc:L2.TT} (h8:L2.QT X c tc) (h9:L2.QSs X a t) (h10:L2.QSs X b u):L2.QS X (PySem.Stmt.If c a b pos) (L2.E0 tc t u):=⟨L2.JY h8.out h9.out h10.out⟩
theorem aA {X:L2.Cx} {e:PySem.Expr} {te:L2.TE} {pos:PySem.Pos} (h4:L2.QE X e te):L2.QS X (PySem.Stmt.Return (Option.some e) pos) (L2.FO te):=⟨L2.Ho h4.out⟩
theorem AA {X:L2.Cx} {e:PySem.Expr} {te:L2.TE} {pos:PySem.Pos} (h4:L2.QE X e te) (h5:autoParam (PySem.swapsWith e Option.none pos.line X.env=Pure.pure Bool.false) L2.qau._auto_1):L2.QS X (PySem.Stmt.Expr e pos) (L2.uJ te):=⟨L2.FH h4.out h5⟩
theorem uO {X:L2.Cx} {pos:PySem.Pos} {c:PySem.Expr} {body:List PySem.Stmt} {tc:L2.TT} {tb:L2.TS} (h6:PySem.PassesOwn (PySem.model X.prog X.w) X.A X.env X.xe) (h7:L2.QT X c tc) (h8:L2.QSs X body tb):L2.QS X (PySem.Stmt.While c body [] pos) (L2.zv tc tb):=⟨L2.CF h6 h7.out h8.out⟩
theorem qw {X:L2.Cx} {tg:PySem.Expr} {iter:PySem.Expr} {body:List PySem.Stmt} {wi:L2.TI} {g:L2.TG} {tb:L2.TS} {pos:PySem.Pos} (h8:PySem.PassesOwn (PySem.model X.prog X.w) X.A X.env X.xe) (h9:X.calm=Bool.true) (h10:L2.QI X tg iter wi) (h11:L2.QG X tg g) (h12:L2.QSs X body tb) (h13:autoParam (∀ (x:PySem.Value),PySem.foldedSetIterable iter X.env x=Pure.pure x) L2.qau._auto_1):L2.QS X (PySem.Stmt.For tg iter body [] pos) (L2.D5 wi g tb):=⟨L2.Hk h8 h9 h10.out h11.out h12.out h13⟩
theorem lB {X:L2.Cx} {pos:PySem.Pos} {i:Nat} {x:PySem.Str} (h4:List.Nodup X.N) (h5:X.N[i]?=Option.some x) (h6:L2.Loc X.env.scope x) (h7:autoParam (X.fn x=Bool.true \/ List.lookup x X.env.scope.names=Option.some PySem.NameKind.local) L2.qau._auto_1):L2.QG X (PySem.Expr.Name x pos) (L2.j0 i):=⟨L2.Fi h4 h5 h6 h7⟩
theorem aE {X:L2.Cx}:L2.QSs X [] L2.Du:=⟨L2.Fw ⟩
theorem av {X:L2.Cx} {st:PySem.Stmt} {t:L2.TS} (h3:L2.QS X st t):L2.QSs X [st] t:=⟨L2.Eu h3.out⟩
theorem ak {X:L2.Cx} {st:PySem.Stmt} {rest:List PySem.Stmt} {t:L2.TS} {u:L2.TS} (h5:L2.QS X st t) (h6:L2.QSs X rest u):L2.QSs X (st ::rest) (L2.Jd t u):=⟨L2.DD h5.out h6.out⟩
end L2.E
namespace L2.P
open PySem PySem.Spec PyProof.Rows L2 L2.E
theorem fS {K:PySem.W.Frag} {cls:String -> Option Addr} {P:Program} {w:World} {mg:Str -> Option Value} {base:Heap} {x qual:Str} {st:Stmt} {f:Addr} {fd:FuncData} {N ps:List Str} {k:Nat} {m:ah -> OS} (F:Fun K x qual st f fd) (Sc:aY N ps (aC st))
  (hbody:∀ (cdv:Value) (A:Around) (outer:List Env) (s:Shared) (H:Hp) (E:XK),gY k (A.deeper (envOfC qual (aC st) s.heap.objs.size f cdv)) ->
    ∃ t,QSs (rR (CXE P w) P w K mg base N qual (aC st) f cdv A outer s H E) (dH st) t /\ JS K cls (fun C a _ H=>∀ H',aJ H H' -> E C a H') t m):cA P w K mg base (CXE P w) (k+1) f fd ps (spP K cls (fnP ps.length N.length m)):=
 K2 F Sc fun cdv A outer s H E hr=>let ⟨t,h1,h2⟩:=hbody cdv A outer s H E hr; ⟨t,h1.out,h2⟩
end L2.P
namespace L2.E
open PySem PySem.Spec PyProof.Rows L2
end L2.E
namespace L2.P
open PySem PySem.Spec PyProof.Rows L2 L2.E
end L2.P
namespace L2.E
open PySem PySem.Spec PyProof.Rows L2
section
variable {prog:Program} {w:World} {A:Around} {E:Value -> Shared -> Prop} {s:Shared} {K:PySem.W.Frag} {x C:Addr} {name:Str} {v:Value}
open PySem.W in
open PySem.W in
end
noncomputable def Kn (a C:Addr) (dx:Option Addr) (h:Heap):Prop:=∃ o t,h.get? a=some o /\ o.cls=.ref C /\ o.dict=dx /\ o.data=.fields #[.ref t,.none,.none,.none,.bool false,.none]
theorem Kn.exc {a C:Addr} {dx:Option Addr} {h:Heap} (x:Kn a C dx h):Hc a C dx h:=let ⟨o,t,e,c,d,f⟩:=x; ⟨o,_,e,c,d,f,rfl⟩
section
variable {prog:Program} {w:World} {A:Around} {E:Value -> Shared -> Prop} {s:Shared} {K:PySem.W.Frag} {x C:Addr} {name:Str} {v:Value} {tk:Tok}
open PySem.W in
end
section
variable {prog:Program} {w:World} {A:Around} {E:Value -> Shared -> Prop} {hh:Heap} {g:Array GenState} {d:Drawn} {t:Nat} {os:OsState} {K:PySem.W.Frag} {x C:Addr} {name:Str} {v:Value} {tk:Tok}
open PySem.W in
end
section
variable {prog:Program} {w:World} {A:Around} {E:Value -> Shared -> Prop} {s:Shared} {K:PySem.W.Frag} {x C:Addr} {name:Str} {v:Value}
open PySem.W in
end
section
variable {prog:Program} {w:World} {A:Around} {E:Value -> Shared -> Prop} {h:Heap} {g:Array GenState} {d:Drawn} {t:Nat} {os:OsState} {K:PySem.W.Frag}
variable {nm q:Str} {C N:Addr} {bs bm bmB:List Value} {hdct:Bool} {sn:List Str} {sub:List Value} {ab:Bool} {col:Option Bool} {dd:Option Addr} {k0 k1 k2 k3 k5:Option Value} {B newId initId:String}
open PySem.W in
open PySem.W in
end
theorem wK {X:Cx} {o i:Expr} {to ti:TE} {t:E2} {pos:Pos} (ho:QE X o to) (hi:QE X i ti) (hs:IE X t)
  (ha:∀ v,assign (.Subscript o i pos) X.env v=(do
    let ov <- holding [v] (eval o X.env)
    let iv <- holding [v,ov] (eval i X.env)
    standAt pos
    holding [v,ov,iv] (setItem ov iv v)
    release [v,ov,iv] []):=by intro _; rfl):QG X (.Subscript o i pos) (HW to ti t):=⟨Hi ho.out hi.out hs ha⟩
end L2.E
namespace L2.P
open PySem PySem.Spec PyProof.Rows L2 L2.E
end L2.P
namespace L2.P
open PySem
inductive Stp where
 |ix (k:Nat)|fd (f:Str)
noncomputable def n6:List Str -> List OV -> Str -> Option OV
 |k ::ks,t ::ts,f=>if k=f then some t else n6 ks ts f
 |_,_,_=>none
noncomputable def vj:List Str -> List OV -> Str -> OV -> List OV
 |k ::ks,t ::ts,f,u=>if k=f then u ::ts else t ::vj ks ts f u
 |_,ts,_,_=>ts
noncomputable def OV.at1:OV -> Stp -> Option OV
 |.ol ts,.ix k=>ts[k]?
 |.ob _ ks ts,.fd f=>n6 ks ts f
 |_,_=>none
noncomputable def OV.iR:OV -> Stp -> OV -> OV
 |.ol ts,.ix k,u=>.ol (ts.set k u)
 |.ob c ks ts,.fd f,u=>.ob c ks (vj ks ts f u)
 |t,_,_=>t
noncomputable def OV.get:OV -> List Stp -> Option OV
 |t,[]=>some t
 |t,s ::π=>(t.at1 s).bind fun u=>u.get π
noncomputable def OV.put:OV -> List Stp -> OV -> OV
 |_,[],u=>u
 | t,s ::π,u=>match t.at1 s with
   |some t'=>t.iR s (t'.put π u)
   |none=>t
noncomputable def slT:Sl -> Option OV
 |.tr _ t=>some t
 |.bo t=>some t
 |_=>none
noncomputable def fF (i:Nat) (ρ:ah):Option OV:=match ρ[i]? with
 |some (some s)=>slT s
 |_=>none
abbrev MP:=ah -> Option (List Stp)
noncomputable def aI:MP:=fun _=>some []
noncomputable def pIx (i:Nat) (mp:MP) (mk:ah -> OE):MP:=fun ρ=>match fF i ρ with
 | some t=>(match mp ρ with
   | some π=>(match t.get π with
     | some (.ol ts)=>(match mk ρ with
       | .ok r=>(match r.pv with
         |.int k=>(ixP ts.length k).map fun j=>π++[.ix j]
         |_=>none)
       |_=>none)
     |_=>none)
   |none=>none)
 |none=>none
noncomputable def subAt (i:Nat) (mp:MP) (ρ:ah):Option OV:=match fF i ρ with
 | some t=>(match mp ρ with
   |some π=>t.get π
   |none=>none)
 |none=>none
noncomputable def pFd (i:Nat) (mp:MP) (f:Str) (ok:String -> Bool):MP:=fun ρ=>match subAt i mp ρ with
 |some (.ob c ks ts)=>if (ok c&&(n6 ks ts f).isSome)=true then (mp ρ).map fun π=>π++[.fd f] else none
 |_=>none
noncomputable def uM:List OV -> Option (List PV)
 |[]=>some []
 |.sh x ::r=>(uM r).map (x ::·)
 |_ ::_=>none
@[simp] theorem vD (xs:List PV):uM (xs.map .sh)=some xs:=by
  induction xs with
  |nil=>rfl
  |cons x xs ih=>show (uM (xs.map .sh)).map (x ::·)=_; rw [ih]; rfl
noncomputable def cU (i:Nat) (mp:MP):ah -> OE:=fun ρ=>match subAt i mp ρ with
 |some (.sh x)=>.ok (.sh x)
 | some (.ol ts)=>(match uM ts with
   |some xs=>.ok (.al xs)
   |none=>.bad)
 |_=>.bad
noncomputable def dA (i:Nat) (mp:MP):ah -> OT:=fun ρ=>match subAt i mp ρ with
 |some (.ol ts)=>.ok (!ts.isEmpty)
 |_=>.bad
noncomputable def fT (i:Nat) (mp:MP):ah -> OE:=fun ρ=>match subAt i mp ρ with
 |some (.ol ts)=>.ok (.sh (.int ts.length))
 |_=>.bad
inductive OD where
 |ok (t:OV)|exc (c:String) (fs:XF)|bad
inductive ODs where
 |ok (ts:List OV)|exc (c:String) (fs:XF)|bad
noncomputable def mD (me:ah -> OE):ah -> OD:=fun ρ=>match me ρ with
 |.ok (.sh x)=>.ok (.sh x)
 |.ok (.fr xs)=>.ok (.ol (xs.map .sh))
 |.ok (.al _)=>.bad
 |.exc c fs=>.exc c fs
 |.bad=>.bad
noncomputable def mDn:ah -> ODs:=fun _=>.ok []
noncomputable def mDc (md:ah -> OD) (mr:ah -> ODs):ah -> ODs:=fun ρ=>match md ρ with
 | .ok t=>(match mr ρ with
   |.ok ts=>.ok (t ::ts)
   |.exc c fs=>.exc c fs
   |.bad=>.bad)
 |.exc c fs=>.exc c fs
 |.bad=>.bad
noncomputable def mDl (mr:ah -> ODs):ah -> OD:=fun ρ=>match mr ρ with
 |.ok ts=>if ts.length <= lim then .ok (.ol ts) else .bad
 |.exc c fs=>.exc c fs
 |.bad=>.bad
noncomputable def mq (i:Nat) (md:ah -> OD):ah -> OS:=fun ρ=>match md ρ with
 |.ok t=>.nx (ρ.set i (some (.tr false t)))
 |.exc c fs=>.exc ρ c fs
 |.bad=>.bad
noncomputable def uk (i:Nat) (mp:MP) (ρ:ah) (k:OV -> (OV -> ah) -> OS):OS:=match ρ[i]? with
 | some (some (.tr io t))=>(match mp ρ with
   | some π=>(match t.get π with
     |some u=>k u fun u'=>ρ.set i (some (.tr io (t.put π u')))
     |none=>.bad)
   |none=>.bad)
 |_=>.bad
noncomputable def b0 (i:Nat) (mp:MP) (md:ah -> OD):ah -> OS:=fun ρ=>uk i mp ρ fun u put=>match u with
 | .ol ts=>(match md ρ with
   |.ok x=>if ts.length<lim then .nx (put (.ol (ts++[x]))) else .bad
   |.exc c fs=>.exc ρ c fs
   |.bad=>.bad)
 |_=>.bad
noncomputable def ou (i:Nat) (mp:MP) (mk:ah -> OE) (md:ah -> OD):ah -> OS:=fun ρ=>match md ρ with
 | .ok x=>uk i mp ρ fun u put=>(match u with
   | .ol ts=>(mk ρ).cX ρ fun r=>(match r.pv with
     | .int k=>(match ixP ts.length k with
       |some j=>.nx (put (.ol (ts.set j x)))
       |none=>.bad)
     |_=>.bad)
   |_=>.bad)
 |.exc c fs=>.exc ρ c fs
 |.bad=>.bad
noncomputable def Ea (i:Nat) (mp:MP) (f:Str) (okc:String -> Bool) (md:ah -> OD):ah -> OS:=fun ρ=>match md ρ with
 | .ok x=>uk i mp ρ fun u put=>(match u with
   |.ob c ks ts=>if (okc c&&decide (ks.length<1000))=true then (if ks.contains f=true then .nx (put (.ob c ks (vj ks ts f x))) else .nx (put (.ob c (ks++[f]) (ts++[x])))) else .bad
   |_=>.bad)
 |.exc c fs=>.exc ρ c fs
 |.bad=>.bad
inductive OX where
 |ok (ρ:ah) (s:Sl)|exc (ρ:ah) (c:String) (fs:XF)|bad
noncomputable def slO:OV -> Sl
 |.sh x=>.sh x
 |t=>.tr false t
noncomputable def qj (i:Nat) (mp:MP):ah -> OX:=fun ρ=>match ρ[i]? with
 | some (some (.tr io t))=>(match mp ρ with
   | some π=>(match t.get π with
     | some (.ol ts)=>(match ts.getLast? with
       |some x=>.ok (ρ.set i (some (.tr io (t.put π (.ol ts.dropLast))))) (slO x)
       |none=>.bad)
     |_=>.bad)
   |none=>.bad)
 |_=>.bad
noncomputable def nio:Sl -> Bool
 |.tr true _=>false
 |.bo _=>false
 |_=>true
noncomputable def i8 (i:Nat) (m:ah -> OX):ah -> OS:=fun ρ=>match m ρ with
 |.ok ρ' s=>if nio s then .nx (ρ'.set i (some s)) else .bad
 |.exc ρ' c fs=>.exc ρ' c fs
 |.bad=>.bad
noncomputable def Fp (neg:Bool) (m:ah -> OX) (a b:ah -> OS):ah -> OS:=fun ρ=>match m ρ with
 | .ok ρ' (.sh x)=>(match pO x with
   |some k=>if (k != neg)=true then a ρ' else b ρ'
   |none=>.bad)
 |.ok _ _=>.bad
 |.exc ρ' c fs=>.exc ρ' c fs
 |.bad=>.bad
mutual
noncomputable def pvO:OV -> Option PV
 |.sh x=>some x
 |.ol ts=>(ur ts).map .lst
 |.ob _ _ _=>none
 |.di _=>none
 |.dt _=>none
noncomputable def ur:List OV -> Option (List PV)
 |[]=>some []
 |t ::ts=>(pvO t).bind fun x=>(ur ts).map (x ::·)
end
noncomputable def pw (i:Nat) (ρ:ah):ah:=match ρ[i]? with
 | some (some (.tr false t))=>(match pvO t with
   |some x=>ρ.set i (some (.sh x))
   |none=>ρ)
 |_=>ρ
noncomputable def oN (i:Nat) (m:ah -> OS):ah -> OS:=fun ρ=>m (pw i ρ)
inductive OI where
 |ok (x:PV) (outs:List (Option OV))|exc (c:String) (fs:XF) (outs:List (Option OV))|bad
inductive Arg where
 |e (me:ah -> OE)|t (i:Nat) (mp:MP)|b (i:Nat) (mp:MP)
noncomputable def pb:Option Sl -> Option OV
 |some (.tr true t)=>some t
 |_=>none
noncomputable def sj (np:Nat):OS -> OI
 |.nx ρ=>.ok .non ((ρ.take np).map pb)
 |.rt ρ (.sh x)=>.ok x ((ρ.take np).map pb)
 |.exc ρ c fs=>.exc c fs ((ρ.take np).map pb)
 |_=>.bad
noncomputable def j8 (n:Nat) (as:List Sl):ah:=as.map some++List.replicate (n - as.length) none
noncomputable def fnI (np n:Nat) (m:ah -> OS) (as:List Sl):OI:=if as.length=np then sj np (m (j8 n as)) else .bad
noncomputable def lS (a:Arg) (ρ:ah):Option Sl:=match a with
 | .e me=>(match me ρ with
   |.ok r=>(mf r).map .sh
   |_=>none)
 | .t i mp=>(match ρ[i]? with
   |some (some (.tr _ t))=>((mp ρ).bind fun π=>t.get π).map (.tr true)
   |_=>none)
 |.b i mp=>(subAt i mp ρ).map .bo
noncomputable def jk:List Arg -> ah -> Option (List Sl)
 |[],_=>some []
 |a ::as,ρ=>(lS a ρ).bind fun s=>(jk as ρ).map (s ::·)
noncomputable def kg (ρ₀:ah):Arg -> Option OV -> ah -> ah
 | .t i mp,some u,ρ=>(match ρ[i]? with
   | some (some (.tr io t))=>(match mp ρ₀ with
     |some π=>ρ.set i (some (.tr io (t.put π u)))
     |none=>ρ.set i none)
   |_=>ρ.set i none)
 |.t i _,none,ρ=>ρ.set i none
 |_,_,ρ=>ρ
noncomputable def fj (ρ₀:ah):List Arg -> List (Option OV) -> ah -> ah
 |[],_,ρ=>ρ
 |a ::as,us,ρ=>fj ρ₀ as us.tail (kg ρ₀ a us.head?.join ρ)
noncomputable def jb (f:List Sl -> OI) (as:List Arg):ah -> OX:=fun ρ=>match jk as ρ with
 | some ss=>(match f ss with
   |.ok x outs=>.ok (fj ρ as outs ρ) (.sh x)
   |.exc c fs outs=>.exc (fj ρ as outs ρ) c fs
   |.bad=>.bad)
 |none=>.bad
noncomputable def xv (f:List Sl -> OI) (as:List Arg):ah -> OE:=fun ρ=>match jk as ρ with
 | some ss=>(match f ss with
   |.ok x _=>.ok (.sh x)
   |.exc c fs _=>.exc c fs
   |.bad=>.bad)
 |none=>.bad
noncomputable def recv (c:String) (m:Str):Option Sl -> Bool
 |some (.tr true (.ob c' ks _))=>c'==c && !ks.contains m
 |some (.bo (.ob c' ks _))=>c'==c && !ks.contains m
 |_=>false
noncomputable def oi (c:String) (m:Str) (f:List Sl -> OI) (as:List Arg):ah -> OX:=fun ρ=>match as with
 |a ::_=>if recv c m (lS a ρ)=true then jb f as ρ else .bad
 |[]=>.bad
noncomputable def mU (c:String) (m:Str) (f:List Sl -> OI) (as:List Arg):ah -> OE:=fun ρ=>match as with
 |a ::_=>if recv c m (lS a ρ)=true then xv f as ρ else .bad
 |[]=>.bad
noncomputable def vK (c:String) (f:List Sl -> OI):ah -> OD:=fun _=>match f [.tr true (.ob c [] [])] with
 |.ok .non (some t ::_)=>.ok t
 |_=>.bad
noncomputable def nE (i j:Nat) (mb:ah -> OS):List PV -> ah -> OS
 |[],ρ=>.nx ρ
 |.tup [x,y] ::xs,ρ=>(mb ((ρ.set i (some (.sh x))).set j (some (.sh y)))).turn (nE i j mb xs)
 |_ ::_,_=>.bad
noncomputable def tj (k:Nat):List PV -> List PV
 |[]=>[]
 |x ::xs=>.tup [.int k,x] ::tj (k+1) xs
noncomputable def zW (i j:Nat) (ml:ah -> OE) (mb:ah -> OS):ah -> OS:=fun ρ=>(ml ρ).cX ρ fun r=>match zd r with
 |some xs=>nE i j mb (tj 0 xs) ρ
 |none=>.bad
noncomputable def uQ (ml:ah -> OE) (ι:List Nat) (me:ah -> OE):ah -> OE:=fun ρ=>(ml ρ).bind fun r=>match r.pv with
 |.tup xs=>noX (dr me (cY ι ρ) xs)
 |_=>.bad
noncomputable def fV (mc:ah -> OT) (me:ah -> OE) (ρ:ah):List PV -> OA
 |[]=>.ok []
 | x ::xs=>(match mc (ρ++[some (.sh x)]) with
   | .ok true=>(me (ρ++[some (.sh x)])).fA fun r=>(match mf r with
     |some y=>(fV mc me ρ xs).fA fun ys=>.ok (y ::ys)
     |none=>.bad)
   |.ok false=>fV mc me ρ xs
   |_=>.bad)
noncomputable def jT (ml:ah -> OE) (ι:List Nat) (mc:ah -> OT) (me:ah -> OE):ah -> OE:=fun ρ=>(ml ρ).bind fun r=>match r.pv with
 |.lst xs=>noX (fV mc me (cY ι ρ) xs)
 |_=>.bad
noncomputable def FW (ma ms:ah -> OE):ah -> OE:=fun ρ=>(ma ρ).bind fun a=>(ms ρ).bind fun k=>match a.pv,k.pv with
 |.lst xs,.int k=>if k=-1 then .ok (.fr xs.reverse) else .bad
 |_,_=>.bad
noncomputable def lN:PV -> Option RV
 |.lst xs=>some (.sh (.tup xs))
 |.tup xs=>some (.sh (.tup xs))
 |_=>none
mutual
noncomputable def kX:PV -> PV -> Bool
 |.non,y=>(match y with|.non=>true|_=>false)
 |.bl a,y=>(match y with|.bl b=>a==b|.int j=>(if a then 1 else 0)==j|_=>false)
 |.int i,y=>(match y with|.bl b=>i==(if b then 1 else 0)|.int j=>i==j|_=>false)
 |.str x,y=>(match y with|.str z=>x==z|_=>false)
 |.lst xs,y=>(match y with|.lst ys=>Di xs ys|_=>false)
 |.tup xs,y=>(match y with|.tup ys=>Di xs ys|_=>false)
noncomputable def Di:List PV -> List PV -> Bool
 |[],ys=>(match ys with|[]=>true|_ ::_=>false)
 |x ::xs,ys=>(match ys with|y ::ys=>kX x y&&Di xs ys|[]=>false)
end
noncomputable def fh:PV -> Bool
 |.lst _=>false
 |.tup _=>false
 |_=>true
noncomputable def og:PV -> PV -> Option Bool
 |x,.tup ys=>if ys.all fh=true then some (ys.any fun y=>kX y x) else none
 |x,.lst ys=>if ys.all fh=true then some (ys.any fun y=>kX y x) else none
 |_,_=>none
noncomputable def gIn:PV -> PV -> Option RV:=fun x y=>(og x y).map fun b=>.sh (.bl b)
noncomputable def rV:PV -> PV -> Option RV:=fun x y=>(og x y).map fun b=>.sh (.bl (!b))
noncomputable def gJ (kvs:List (Int×PV)):PV -> Option RV
 |.int n=>some (.sh ((kvs.lookup n).getD .non))
 |_=>none
end L2.P
namespace L2
open PySem PySem.Spec PyProof.Rows
section
variable {X:Cx} {pins:List (Addr×Obj)} {σ:St} {H:Hp} {s:Shared} {h':Heap}
theorem Inv.BM {t':Nat} {its:List Addr} {a:Addr} {o:HO} (I:Inv X pins σ H s) (k:∀ b u,b∉its -> s.heap.get? b=some u -> h'.get? b=some u) (hf:∀ b∈its,mH X pins H b)
  (hp:s.heap.objs.size <= a) (new:gd X.prog X.w (upd H a o) h' a o):Inv X pins σ (upd H a o) { s with heap:=h',toks:=t' }:=by
 have hn:=I.hok.fresh hp
 have nit:∀ b u,H b=some u -> b∉its:=fun b u e z=>by rw [(hf b z).1] at e; cases e
 refine I.step (g':=s.gens) (d':=s.drawn) (ch:=its) (fun b hb=>?_) (fun b u _ _ hc e _=>k b u hc e) (fun b u _ _ hc e _=>⟨u.slots,k b u hc e⟩)
  (fun b u _ q n=>by rw [bJ (Nat.ne_of_lt (Nat.lt_of_lt_of_le (Heap.lt_size q) hp))]; exact n)
  (fun b u hc e=>⟨u,k b u hc e⟩) (fun b xs q=>by rw [bJ (eI q hn)]; exact q) (fun b u xs q=>by rw [bJ (eI q hn)]; exact q) (fun b ps q=>⟨#[],by rw [bJ (eI q hn),q]; simp⟩) (fun m hm=>?_) (fun b u e=>?_) I.bare
 . obtain ⟨_,f1,f2,f3,f4,f5⟩:=hf b hb
   exact ⟨f3,f1,f4,f5⟩
 . obtain ⟨ob,es,ep,ho,r⟩:=hm
   exact ⟨ob,es,ep,k _ ob (fun z=>(hf _ z).2.1 rfl) ho,r⟩
 . by_cases hb:b=a
   . subst hb; rw [bQ] at e; cases e; exact new
   . rw [bJ hb] at e
     refine (I.hok b u e).tI (fun c v hc q=>k c v ?_ q) (fun c q=>by rw [bJ (eI q hn)]; exact q) fun c xs q=>by rw [bJ (eI q hn)]; exact q
     rcases hc with z|z
     . rw [z]; exact nit b u e
     . exact nit c _ z
end
noncomputable def Ite (K:PySem.W.Frag) (a:Addr):It:=
 ⟨fun i H=>∃ xs x,SqL K H a xs /\ xs[i]?=some x,fun i H v H'=>∃ t x,(∀ xs,SqL K H a xs -> xs[i]?=some x) /\ H t=none /\ v=.ref t /\ H'=upd H t (.tup [.int i,x]),fun i H=>∃ xs,SqL K H a xs /\ xs.length <= i⟩
theorem BL {P:Program} {w:World} {K:PySem.W.Frag} {elts:List Expr} {k:Nat} {pos:Pos} (a e it:Addr) (hei:e≠it):
  Turn P w K (.Tuple elts k pos) (Ite K a) [e,it] e (fun i h=>(∃ old,IsEnum h e it i old) /\ h.IsListIter it a i) where
 mem:=by simp
 obj:=fun i h st b hb=>by
  obtain ⟨⟨old,h1⟩,o,h2,c,d⟩:=st
  rcases List.mem_cons.mp hb with z|z
  . subst z; exact ⟨_,h1,fun v z=>by cases z⟩
  . have z':b=it:=by simpa using z
    subst z'; exact ⟨o,h2,fun v z=>by rw [d] at z; cases z⟩
 keep:=fun i h h' st k=>by
  obtain ⟨⟨old,h1⟩,h2⟩:=st
  exact ⟨⟨old,k e (by simp) _ h1⟩,h2.at fun o x=>k it (by simp) o x⟩
 item:=by
  intro X hP hw hK hc i pins s σ H E I hf st hg
  subst hP hw hK
  obtain ⟨xs,x,hq,hx⟩:=hg
  obtain ⟨its,rv,p,hz⟩:=I.list hq
  obtain ⟨u,hu,ru⟩:=rv.get hx
  obtain ⟨⟨old,he⟩,hit⟩:=st
  refine wpAny_pyNext_enum_item he hit p.isList (x:=u) (by simpa using hu) hei fun h1 ho hit1 hT hsz hk=>⟨_,rfl,?_⟩
  refine wpAny_letOwnedTupleGo_enum ho fun h2 he2 hs2=>?_
  have hT2:h2.get? s.heap.objs.size=some { cls:=.type "tuple",data:=.seq #[.int i s.toks,u] }:=(hs2.2 _ (Nat.ne_of_gt (Heap.lt_size he))).trans hT
  have nH:H s.heap.objs.size=none:=I.hok.fresh (Nat.le_refl _)
  refine ⟨.ref s.heap.objs.size,upd H s.heap.objs.size (.tup [.int i,x]),I.BM (its:=[e,it]) (t':=s.toks+1) (fun b o hb q=>?_) hf (Nat.le_refl _) ?_,rfl,⟨_,x,fun ys hy=>by rw [I.yQ hy hq]; exact hx,nH,rfl,rfl⟩,⟨⟨u,by simpa using he2⟩,?_⟩,fun b hb=>?_⟩
  . have nb:b≠e /\ b≠it:=by simpa using hb
    exact (hs2.2 b nb.1).trans (hk b o nb.1 nb.2 q)
  . exact ⟨by show 2 <= sizeLine; decide,[.int i s.toks,u],.cons ⟨_,rfl⟩ (.cons ru .nil),⟨_,hT2,rfl,_,rfl⟩⟩
  . exact hit1.at fun o y=>(hs2.2 it hei.symm).trans y
  . have:b < s.heap.objs.size:=by
     rcases List.mem_cons.mp hb with z|z
     . subst z; exact Heap.lt_size he
     . have z':b=it:=by simpa using z
       subst z'; obtain ⟨_,y,_⟩:=hit; exact Heap.lt_size y
    rw [bJ (Nat.ne_of_lt this)]
    exact (hf b hb).1
 done:=by
  intro X hP hw hK hc i pins s σ H E I hf st hg
  subst hP hw hK
  obtain ⟨xs,hq,hx⟩:=hg
  obtain ⟨its,rv,p,hz⟩:=I.list hq
  obtain ⟨⟨old,he⟩,hit⟩:=st
  obtain ⟨f0,f1,f2,f3,f4,f5⟩:=hf it (by simp)
  have hl:=rv.length
  exact wpAny_pyNext_enum_end (I.ok.hd hc) he hit p.isList (by simp; omega) fun h' eb=>⟨rfl,I.turned (t':=s.toks) (fun b o hb e=>eb b o hb e) f0 f1 f3 f4 f5⟩
 self:=fun _ _ _ _ _ st h=>by
  obtain ⟨⟨old,he⟩,_⟩:=st
  exact wpAny_pyIter_enum he h
section
variable {X:Cx}
noncomputable def Cj (K:PySem.W.Frag) (ta:TA):TI:=fun σ H R=>ta σ H fun vs H1=>∃ a,vs=[.ref a] /\ (∃ xs,SqL K H1 a xs) /\ R (Ite K a) H1
theorem Fj {elts:List Expr} {k:Nat} {tp:Pos} {a:Expr} {ta:TA} {p pos:Pos} (hg:Gl X "enumerate") (hm:X.mg "enumerate" = none) (ha:PA X [a] ta) (hs:starEach [a] X.env=[(false,eval a X.env)]:=by rfl):
  PI X (.Tuple elts k tp) (.Call (.Name "enumerate" p) [a] [] pos) (Cj X.K ta):=by
 intro pins s σ H R I h
 refine Call_ (uX I hg hm (show bootBuiltins "enumerate" = some (.type "enumerate") by rfl) (PyProof.Rows.callWith_type1 (thn (ha pos pins s σ H _ I h) fun us s1 ⟨vs,H1,I1,r1,q1⟩=>?_) hs rfl))
 obtain ⟨l,e,⟨xs,hq⟩,q⟩:=q1
 subst e
 cases r1 with
 | cons r rr=>
   cases rr
   cases r
   obtain ⟨its,rv,p,hz⟩:=I1.list hq
   refine call_enumerate_list p.isList fun h' he hit hsz hk=>?_
   refine wpAny_pyIter_enum he ?_
   have I2:Inv X pins σ H1 { s1 with heap:=h' }:=I1.kept (t':=s1.toks) hk
   refine ⟨s1.heap.objs.size+1,[s1.heap.objs.size+1,s1.heap.objs.size],_,_,H1,rfl,I2,BL l _ _ (Nat.succ_ne_self _),⟨⟨.none,he⟩,hit⟩,fun b hb=>?_,q⟩
   have:s1.heap.objs.size <= b:=by
    rcases List.mem_cons.mp hb with z|z
    . subst z; exact Nat.le_succ _
    . have z':b=s1.heap.objs.size:=by simpa using z
      subst z'; exact Nat.le_refl _
   exact I1.zy this (I1.hok.fresh this)
end
theorem Dg {K:PySem.W.Frag} {a:Addr} {xs:List V} {g:TG} {tb:TS} {D:Ends} {σ:St} {H:Hp} (Pv:Nat -> St -> Hp -> Prop) (h0:Pv 0 σ H) (hl:∀ i σ H,i <= xs.length -> Pv i σ H -> SqL K H a xs)
  (hs:∀ i x σ H t,xs[i]?=some x -> Pv i σ H -> H t=none -> g (.ref t) σ (upd H t (.tup [.int i,x])) fun σ2 H2=>tb { D with nx:=Pv (i+1),ct:=Pv (i+1),bk:=D.nx } σ2 H2) (hd:∀ σ H,Pv xs.length σ H -> D.nx σ H):
  ∃ W:Nat -> Nat -> St -> Hp -> Prop,(∃ m,W 0 m σ H) /\ ∀ i m σ H,W i m σ H ->
    ((Ite K a).stop i H /\ D.nx σ H) \/ ((Ite K a).go i H /\ ∃ N:St -> Hp -> Prop,(∀ σ' H',N σ' H' -> ∃ m',m'<m /\ W (i+1) m' σ' H') /\ ∀ x H',(Ite K a).yld i H x H' -> g x σ H' fun σ2 H2=>tb { D with nx:=N,ct:=N,bk:=D.nx } σ2 H2):=by
 refine ⟨fun i m σ H=>m=xs.length - i /\ i <= xs.length /\ Pv i σ H,⟨xs.length,by simp,Nat.zero_le _,h0⟩,?_⟩
 rintro i m σ H ⟨rfl,hi,p⟩
 have q:=hl i σ H hi p
 by_cases hlt:i<xs.length
 . refine .inr ⟨⟨xs,xs[i],q,by simp [hlt]⟩,Pv (i+1),fun σ' H' p'=>⟨xs.length - (i+1),by omega,rfl,hlt,p'⟩,fun x H' y=>?_⟩
   obtain ⟨t,z,y1,y3,e1,e2⟩:=y
   subst e1 e2
   exact hs i z σ _ t (y1 xs q) p y3
 . have e:i=xs.length:=by omega
   subst e
   exact .inl ⟨⟨xs,q,Nat.le_refl _⟩,hd σ H p⟩
end L2
namespace L2.P
open PySem PySem.Spec PyProof.Rows L2 L2.E PySem.SeqAt
section
variable {K:PySem.W.Frag} {S H:Hp}
theorem RdV.rep {x:PV} {v:V} (h:RdV K S H x v) (s:aJ S H):Rep K H x v:=by
 cases x with
 |lst xs=>obtain ⟨p,vs,e,q,r⟩:=h; unfold Rep; exact ⟨p,vs,e,q,r.mono s⟩
 |non=>exact Rep.mono s h
 |bl b=>exact Rep.mono s h
 |int i=>exact Rep.mono s h
 |str x=>exact Rep.mono s h
 |tup xs=>exact Rep.mono s h
end
section
variable {X:Cx} {K:PySem.W.Frag} {S H:Hp}
theorem u9 {x:PV} {v:V} (h:Rep K H x v) (f:fh x=true):pY v=true:=by
 cases x with
 |lst xs=>cases f
 |tup xs=>cases f
 |non=>unfold Rep at h; subst h; rfl
 |bl b=>unfold Rep at h; subst h; rfl
 |int b=>unfold Rep at h; subst h; rfl
 |str b=>unfold Rep at h; subst h; rfl
theorem E3 {x y:PV} {v u:V} (h:Rep K H x v) (k:Rep K H y u) (f:fh x=true) (g:fh y=true):eqV u v=kX y x:=by
 cases x<;>first|(cases f; done)|skip
 all_goals (unfold Rep at h; subst h; cases y<;>first|(cases g; done)|(unfold Rep at k; subst k; simp [eqV,kX]))
theorem vF {xs:List PV} {vs:List V} (h:bZ K H xs vs) (f:xs.all fh=true):vs.all pY=true:=by
 induction xs generalizing vs with
 |nil=>rw [h.nil_inv]; rfl
 | cons x xs ih=>
   obtain ⟨v,r,rfl,h1,h2⟩:=h.cons_inv
   rw [List.all_cons,Bool.and_eq_true] at f ⊢
   exact ⟨u9 h1 f.1,ih h2 f.2⟩
theorem yu {x:PV} {v:V} {xs:List PV} {vs:List V} (hx:Rep K H x v) (g:fh x=true) (h:bZ K H xs vs) (f:xs.all fh=true):inV v vs=xs.any fun y=>kX y x:=by
 induction xs generalizing vs with
 |nil=>rw [h.nil_inv]; rfl
 | cons y xs ih=>
   obtain ⟨u,r,rfl,h1,h2⟩:=h.cons_inv
   rw [List.all_cons,Bool.and_eq_true] at f
   have:=ih h2 f.2
   unfold inV at this ⊢
   rw [List.any_cons,List.any_cons,this,E3 hx h1 g f.1]
theorem xR {x:PV} {xs:List PV} (g:fh x=false) (f:xs.all fh=true):(xs.any fun y=>kX y x)=false:=by
 induction xs with
 |nil=>rfl
 | cons y xs ih=>
   rw [List.all_cons,Bool.and_eq_true] at f
   rw [List.any_cons,ih f.2,Bool.or_false]
   have f1:=f.1
   cases y<;>first|(cases f1; done)|(cases x<;>first|(cases g; done)|simp [kX])
theorem wW {α:Type} (l:List α):(l.any fun _=>false)=false:=by induction l<;>simp_all
theorem q8 {A:Around} {s:Shared} {pins:List (Addr×Obj)} {σ:St} (I:Inv X pins σ H s) (hu:A.units<cLine) {x:PV} {v:V} {a:Value} (hx:Rep X.K H x v) (ra:RelV v a) (g:fh x=false):
  ∀ {xs:List PV} {vs:List V} {us:List Value},bZ X.K H xs vs -> Vals vs us -> xs.all fh=true -> ∀ u∈us,EqAt A s u a false:=by
 intro xs
 induction xs with
 |nil=>intro vs us h r _ u hu; rw [h.nil_inv] at r; cases r; cases hu
 | cons y xs ih=>
   intro vs us h r f u hm
   obtain ⟨w,t,rfl,h1,h2⟩:=h.cons_inv
   rw [List.all_cons,Bool.and_eq_true] at f
   cases r with
   | cons r1 r2=>
     rcases List.mem_cons.mp hm with rfl|hm
     . cases x with
       |non=>cases g
       |bl b=>cases g
       |int b=>cases g
       |str b=>cases g
       | lst zs=>
         unfold Rep at hx
         obtain ⟨p,us',rfl,hq,_⟩:=hx
         cases ra
         obtain ⟨its,_,pl,_⟩:=I.list hq
         cases y with
         |non=>unfold Rep at h1; subst h1; cases r1; exact EqAt.none_list pl.isList hu
         |bl b=>unfold Rep at h1; subst h1; cases r1; exact EqAt.bool_list b pl.isList hu
         |int b=>unfold Rep at h1; subst h1; obtain ⟨t',rfl⟩:=r1; exact EqAt.int_list b t' pl.isList hu
         |str b=>unfold Rep at h1; subst h1; obtain ⟨t',rfl⟩:=r1; exact EqAt.str_list b t' pl.isList hu
         |lst _=>cases f.1
         |tup _=>cases f.1
       | tup zs=>
         unfold Rep at hx
         obtain ⟨p,us',rfl,hq,_⟩:=hx
         cases ra
         obtain ⟨its,_,pl,_⟩:=I.tuple hq
         cases y with
         |non=>unfold Rep at h1; subst h1; cases r1; exact EqAt.none_tuple pl hu
         |bl b=>unfold Rep at h1; subst h1; cases r1; exact EqAt.bool_tuple b pl hu
         |int b=>unfold Rep at h1; subst h1; obtain ⟨t',rfl⟩:=r1; exact EqAt.int_tuple b t' pl hu
         |str b=>unfold Rep at h1; subst h1; obtain ⟨t',rfl⟩:=r1; exact EqAt.str_tuple b t' pl hu
         |lst _=>cases f.1
         |tup _=>cases f.1
     . exact ih h2 r2 f.2 u hm
noncomputable def D8 (K:PySem.W.Frag) (A:Around) (neg:Bool):R2:=fun v u H Q=>∃ x ys p vs,Rep K H x v /\ u=.ref p /\ (SqL K H p vs \/ SqT K H p vs) /\ bZ K H ys vs /\ ys.all fh=true /\ A.units+64<cLine /\ Q (.bl (if neg then !(ys.any fun y=>kX y x) else ys.any fun y=>kX y x)) H
theorem nF:OpR X (compareOp .In) (D8 X.K X.A false):=by
 intro pins s σ H v u a b Q I rx ry h
 obtain ⟨x,ys,p,vs,hx,rfl,hq,hr,hf,hu,q⟩:=h
 cases g:fh x with
 |true=>exact BZ pins s σ H v _ a b Q I rx ry ⟨p,vs,rfl,hq,u9 hx g,vF hr hf,by rw [yu hx g hr hf]; exact q⟩
 | false=>
   rw [xR g hf] at q
   cases ry
   rcases hq with hq|hq
   . obtain ⟨its,r,pl,hz⟩:=I.list hq
     refine SeqAt.in_listAt (fun _=>false) pl.isList (fun w hw=>q8 I (by show X.A.units+1<cLine; omega) hx rx g hr r hf w (by simpa using hw)) ⟨.bl _,H,I,rfl,?_⟩
     rw [show (its.toArray.any fun _=>false)=false by simp [wW]]
     exact q
   . obtain ⟨its,r,pl,hz⟩:=I.tuple hq
     refine SeqAt.in_tupleAt (fun _=>false) pl (fun w hw=>q8 I (by show X.A.units+1<cLine; omega) hx rx g hr r hf w (by simpa using hw)) ⟨.bl _,H,I,rfl,?_⟩
     rw [show (its.toArray.any fun _=>false)=false by simp [wW]]
     exact q
theorem vx:OpR X (compareOp .NotIn) (D8 X.K X.A true):=by
 intro pins s σ H v u a b Q I rx ry h
 obtain ⟨x,ys,p,vs,hx,rfl,hq,hr,hf,hu,q⟩:=h
 cases g:fh x with
 |true=>exact wx pins s σ H v _ a b Q I rx ry ⟨p,vs,rfl,hq,u9 hx g,vF hr hf,by rw [yu hx g hr hf]; exact q⟩
 | false=>
   rw [xR g hf] at q
   cases ry
   rcases hq with hq|hq
   . obtain ⟨its,r,pl,hz⟩:=I.list hq
     refine SeqAt.notIn_listAt (fun _=>false) pl.isList (fun w hw=>q8 I (by show X.A.units+1<cLine; omega) hx rx g hr r hf w (by simpa using hw)) ⟨.bl _,H,I,rfl,?_⟩
     rw [show (its.toArray.any fun _=>false)=false by simp [wW]]
     exact q
   . obtain ⟨its,r,pl,hz⟩:=I.tuple hq
     refine SeqAt.notIn_tupleAt (fun _=>false) pl (fun w hw=>q8 I (by show X.A.units+1<cLine; omega) hx rx g hr r hf w (by simpa using hw)) ⟨.bl _,H,I,rfl,?_⟩
     rw [show (its.toArray.any fun _=>false)=false by simp [wW]]
     exact q
theorem Ac {A:Around} {neg:Bool} {x y:PV} {v u:V} {b:Bool} {Q:VK} (hu:A.units+64<cLine) (I:aJ S H) (hx:RdV K S H x v) (hy:RdV K S H y u) (e:og x y=some b) (k:∀ z S' H',bu S H S' H' -> mE K H S' H' (.sh (.bl (if neg then !b else b))) z -> Q z H'):D8 K A neg v u H Q:=by
 cases y with
 | tup ys=>
   simp only [og] at e
   by_cases hf:ys.all fh=true
   . rw [if_pos hf] at e
     cases e
     obtain ⟨p,vs,rfl,hq,hr⟩:=mM hy
     exact ⟨x,ys,p,vs,hx.rep I,rfl,.inr (aJ.tup I hq),hr.mono I,hf,hu,k _ S H (bu.refl I) om⟩
   . rw [if_neg hf] at e; cases e
 | lst ys=>
   simp only [og] at e
   by_cases hf:ys.all fh=true
   . rw [if_pos hf] at e
     cases e
     obtain ⟨p,vs,rfl,hq,hr⟩:=iF hy
     exact ⟨x,ys,p,vs,hx.rep I,rfl,.inl hq,hr.mono I,hf,hu,k _ S H (bu.refl I) om⟩
   . rw [if_neg hf] at e; cases e
 |_=>simp only [og] at e; cases e
theorem rB {A:Around} (hu:A.units+64<cLine):JR K (D8 K A false) gIn:=by
 intro S H x y v u rr Q I hx hy e k
 obtain ⟨b,e1,e2⟩:=Option.map_eq_some_iff.mp e
 subst e2
 exact Ac hu I hx hy e1 k
theorem yX {A:Around} (hu:A.units+64<cLine):JR K (D8 K A true) rV:=by
 intro S H x y v u rr Q I hx hy e k
 obtain ⟨b,e1,e2⟩:=Option.map_eq_some_iff.mp e
 subst e2
 exact Ac hu I hx hy e1 k
end
end L2.P
namespace L2.P
open PySem PySem.Spec PyProof.Rows L2 L2.E
section
variable {K:PySem.W.Frag} {cls:String -> Option Addr} {W:XW} {Av G S₀ S S' H H' B B':Hp} {ρ:ah} {σ:St} {Q:VK}
noncomputable abbrev g2 (K:PySem.W.Frag) (i j:Nat):TG:=HN K 2 (A4 (j0 i) (A4 (j0 j) HR))
theorem zG {i j:Nat} {tb:TS} {mb:ah -> OS} {D:Ends} {x y:PV} {xs:List PV} {v u:V} {t:Addr} {N:St -> Hp -> Prop} (hb:JS K cls W tb mb) (I:SR K cls Av G S₀ ρ σ S H) (hx:Rep K S x v) (hy:Rep K S y u) (ht:SqT K H t [v,u])
  (p:je K cls W Av G S₀ S D (nE i j mb (.tup [x,y] ::xs) ρ)) (hN:∀ ρ' σ' S' H',SR K cls Av G S₀ ρ' σ' S' H' -> aJ S S' -> je K cls W Av G S₀ S' D (nE i j mb xs ρ') -> N σ' H'):
  g2 K i j (.ref t) σ H fun σ2 H2=>tb { D with nx:=N,ct:=N,bk:=D.nx } σ2 H2:=by
 refine ⟨t,_,rfl,ht,rfl,_,_,rfl,_,_,rfl,rfl,?_⟩
 refine hb Av G S₀ _ _ S H _ ((I.An hx).An hy) ?_
 unfold nE at p
 cases e:mb ((ρ.set i (some (.sh x))).set j (some (.sh y))) with
 |nx ρ'=>rw [e] at p; exact fun σ' S' H' I' s'=>hN ρ' σ' S' H' I' s' (p.back s')
 |ct ρ'=>rw [e] at p; exact fun σ' S' H' I' s'=>hN ρ' σ' S' H' I' s' (p.back s')
 |bk ρ'=>rw [e] at p; exact p
 |rt ρ' r=>rw [e] at p; exact p
 |exc ρ' c fs=>rw [e] at p; exact p
 |bad=>rw [e] at p; exact p
theorem zb (xs:List PV):∀ (k n:Nat) (y:PV),xs[k]?=some y -> tj (n+k) (xs.drop k)=.tup [.int ((n+k:Nat):Int),y] ::tj (n+(k+1)) (xs.drop (k+1)):=by
 intro k n y hy
 have hk:k<xs.length:=(List.getElem?_eq_some_iff.mp hy).1
 rw [List.drop_eq_getElem_cons hk]
 have:xs[k]=y:=(List.getElem?_eq_some_iff.mp hy).2
 rw [this]
 rfl
theorem E4 {i j:Nat} {tl:TE} {tb:TS} {ml:ah -> OE} {mb:ah -> OS} (hl:JE K cls W tl ml) (hb:JS K cls W tb mb):JS K cls W (D5 (Cj K (ja tl kU)) (g2 K i j) tb) (zW i j ml mb):=by
 intro Av G S₀ ρ σ S H D I p
 refine hl Av G S₀ ρ σ S H _ I ?_
 unfold zW at p
 cases em:ml ρ with
 |exc c fs=>rw [em] at p; exact fun a C S' H' w x=>p a C σ S' H' (I.grow w) w.s x
 |bad=>rw [em] at p; exact p
 | ok r=>
   rw [em] at p
   intro v S1 H1 w1 r1
   simp only [OE.cX] at p
   cases ei:zd r with
   |none=>rw [ei] at p; exact p.elim
   | some xs=>
     rw [ei] at p
     have es:mf r=some (.lst xs):=by
      cases r with
      |sh y=>cases y<;>cases ei<;>rfl
      |fr ys=>cases ei; rfl
      |al ys=>cases ei
     obtain ⟨S2,w2,s2,rx⟩:=r1.share w1 es
     have I2:=I.grow w2
     unfold Rep at rx
     obtain ⟨a,vs,rfl,hq,hr⟩:=rx
     show ∃ a',[V.ref a]=[V.ref a'] /\ _
     refine ⟨a,rfl,⟨vs,aJ.seq I2.sh hq⟩,?_⟩
     refine Dg (xs:=vs) (fun k σ' H'=>∃ ρ' S',SR K cls Av G S₀ ρ' σ' S' H' /\ aJ S2 S' /\ je K cls W Av G S₀ S' D (nE i j mb (tj (0+k) (xs.drop k)) ρ'))
      ⟨ρ,S2,I2,aJ.refl _,p.back w2.s⟩ ?_ ?_ ?_
     . rintro k σ' H' _ ⟨ρ',S',I',s',_⟩
       exact aJ.seq (s'.trans I'.sh) hq
     . rintro k x σ' H' t hx ⟨ρ',S',I',s',p'⟩ ht
       obtain ⟨y,hy,ry⟩:=hr.Kg hx
       rw [zb xs k 0 y hy] at p'
       have w3:bu S' H' S' (upd H' t (.tup [.int k,x])):=bu.heap I'.sh ht
       refine zG hb (I'.grow w3) (x:=.int ((0+k:Nat):Int)) (v:=.int k) (by unfold Rep; rw [Nat.zero_add]) (Rep.mono s' ry) (SqT.new bQ) p' fun ρ2 σ2 S3 H3 I3 s3 p3=>⟨ρ2,S3,I3,s'.trans s3,p3⟩
     . rintro σ' H' ⟨ρ',S',I',s',p'⟩
       rw [List.drop_of_length_le (by rw [hr.length]; exact Nat.le_refl _)] at p'
       exact p' σ' S' H' I' (aJ.refl _)
end
end L2.P
namespace L2.E
open PySem PySem.Spec PyProof.Rows L2
theorem Fo {X:Cx} {elts:List Expr} {k:Nat} {tp:Pos} {a:Expr} {ta:TA} {p pos:Pos} (hg:Gl X "enumerate") (hm:X.mg "enumerate" = none) (ha:QA X [a] ta) (hs:starEach [a] X.env=[(false,eval a X.env)]:=by rfl):
  QI X (.Tuple elts k tp) (.Call (.Name "enumerate" p) [a] [] pos) (Cj X.K ta):=⟨Fj hg hm ha.out hs⟩
structure QGs (X:Cx) (es:List Expr) (t:TGs):Prop where
 out:PGs X es t
theorem EO {X:Cx}:QGs X [] HR:=⟨EX⟩
theorem yt {X:Cx} {e:Expr} {es:List Expr} {t:TG} {u:TGs} (h1:QG X e t) (h2:QGs X es u)
  (hs:(assignEach (e ::es) X.env).map (·.2)=assign e X.env ::(assignEach es X.env).map (·.2):=by rfl):QGs X (e ::es) (A4 t u):=⟨B9 h1.out h2.out hs⟩
theorem Im {X:Cx} {es:List Expr} {k:Nat} {t:TGs} {n:Nat} {pos:Pos} (hc:X.calm=true) (h:QGs X es t)
  (hn:(assignEach es X.env).length=n:=by rfl) (hst:(assignEach es X.env).findIdx? (·.1)=none:=by rfl):QG X (.Tuple es k pos) (HN X.K n t):=⟨IV hc h.out hn hst⟩
end L2.E
namespace L2.P
open PySem PySem.Spec PyProof.Rows L2 L2.E
section
variable {K:PySem.W.Frag} {cls:String -> Option Addr} {W:XW} {Av G S₀ S S' H H' B B':Hp} {ρ:ah} {σ:St} {Q:VK} {F:Nat -> List Addr}
theorem bC.length {ts:List OV} {vs:List V} {f:List Addr} (h:bC K cls S H ts vs f):vs.length=ts.length:=by
 induction ts generalizing vs f with
 |nil=>unfold bC at h; rw [h.1]; rfl
 | cons t ts ih=>
   unfold bC at h
   obtain ⟨v,r,f1,f2,rfl,_,_,h2⟩:=h
   simp [ih h2]
theorem bC.cons_inv {t:OV} {ts:List OV} {vs:List V} {fp:List Addr} (h:bC K cls S H (t ::ts) vs fp):∃ v r f1 f2,vs=v ::r /\ fp=f1++f2 /\ bz K cls S H t v f1 /\ bC K cls S H ts r f2:=by unfold bC at h; exact h
theorem bC.cons {t:OV} {ts:List OV} {v:V} {vs:List V} {f1 f2:List Addr} (h:bz K cls S H t v f1) (r:bC K cls S H ts vs f2):bC K cls S H (t ::ts) (v ::vs) (f1++f2):=by unfold bC; exact ⟨v,vs,f1,f2,rfl,rfl,h,r⟩
theorem bC.nil:bC K cls S H [] [] []:=by unfold bC; exact ⟨rfl,rfl⟩
theorem bC.append {ts us:List OV} {vs ws:List V} {f g:List Addr} (h:bC K cls S H ts vs f) (k:bC K cls S H us ws g):bC K cls S H (ts++us) (vs++ws) (f++g):=by
 induction ts generalizing vs f with
 |nil=>unfold bC at h; rw [h.1,h.2]; exact k
 | cons t ts ih=>
   obtain ⟨v,r,f1,f2,rfl,rfl,h1,h2⟩:=h.cons_inv
   have:=bC.cons h1 (ih h2)
   rw [List.append_assoc]
   exact this
theorem bC.shs {xs:List PV} {vs:List V} (h:bZ K S xs vs):bC K cls S H (xs.map .sh) vs []:=by
 induction xs generalizing vs with
 |nil=>rw [h.nil_inv]; exact .nil
 | cons x xs ih=>
   obtain ⟨v,r,rfl,h1,h2⟩:=h.cons_inv
   exact bC.cons (f1:=[]) (by unfold bz; exact ⟨rfl,h1⟩) (ih h2)
theorem bC.flat {ts:List OV} {xs:List PV} {vs:List V} {f:List Addr} (e:uM ts=some xs) (h:bC K cls S H ts vs f):bZ K S xs vs /\ f=[]:=by
 induction ts generalizing xs vs f with
 |nil=>cases e; unfold bC at h; rw [h.1,h.2]; exact ⟨.nil,rfl⟩
 | cons t ts ih=>
   cases t with
   | sh x=>
     obtain ⟨ys,e1,e2⟩:=Option.map_eq_some_iff.mp e
     subst e2
     obtain ⟨v,r,f1,f2,rfl,rfl,h1,h2⟩:=h.cons_inv
     unfold bz at h1
     obtain ⟨h3,h4⟩:=ih e1 h2
     exact ⟨.cons h1.2 h3,by rw [h1.1,h4]; rfl⟩
   |ol _=>cases e
   |ob _ _ _=>cases e
   |di _=>cases e
   |dt _=>cases e
theorem bC.at {ts:List OV} {vs:List V} {f:List Addr} {k:Nat} {u:OV} (h:bC K cls S H ts vs f) (e:ts[k]?=some u):
  ∃ w f1 rest,vs[k]?=some w /\ bz K cls S H u w f1 /\ f.Perm (f1++rest) /\
    ∀ S' H' u' w' f',aJ S S' -> bz K cls S' H' u' w' f' -> (∀ a∈rest,∀ o,H a=some o -> H' a=some o) -> ∃ g,bC K cls S' H' (ts.set k u') (vs.set k w') g /\ g.Perm (f'++rest):=by
 induction ts generalizing vs f k with
 |nil=>simp at e
 | cons t ts ih=>
   obtain ⟨v,r,f1,f2,rfl,rfl,h1,h2⟩:=h.cons_inv
   cases k with
   | zero=>
     simp at e
     subst e
     refine ⟨v,f1,f2,rfl,h1,List.Perm.refl _,fun S' H' u' w' f' s r' g=>?_⟩
     exact ⟨f'++f2,bC.cons r' (h2.mono s g),List.Perm.refl _⟩
   | succ k=>
     simp at e
     obtain ⟨w,g1,rest,e1,r1,p1,c1⟩:=ih h2 e
     refine ⟨w,g1,f1++rest,by simpa using e1,r1,?_,fun S' H' u' w' f' s r' g=>?_⟩
     . have:(f1++f2).Perm (f1++(g1++rest)):=List.Perm.append_left f1 p1
       refine this.trans ?_
       rw [<- List.append_assoc,<- List.append_assoc]
       exact List.Perm.append_right rest List.perm_append_comm
     . obtain ⟨g2,r2,p2⟩:=c1 S' H' u' w' f' s r' fun a ha=>g a (List.mem_append_right _ ha)
       refine ⟨f1++g2,bC.cons (h1.mono s fun a ha=>g a (List.mem_append_left _ ha)) r2,?_⟩
       refine (List.Perm.append_left f1 p2).trans ?_
       rw [<- List.append_assoc,<- List.append_assoc]
       exact List.Perm.append_right rest List.perm_append_comm
theorem AM {ks:List Str} {ts:List OV} {f:Str} {u:OV} (h:n6 ks ts f=some u):∃ k,ts[k]?=some u /\ ks[k]?=some f /\ (∀ u',vj ks ts f u'=ts.set k u') /\ ∀ {α:Type} (us:List (Str×α)),us.map (·.1)=ks -> us.lookup f=(us.map (·.2))[k]?:=by
 induction ks generalizing ts with
 |nil=>simp [n6] at h
 | cons g ks ih=>
   cases ts with
   |nil=>simp [n6] at h
   | cons t ts=>
     unfold n6 at h
     split at h
     . rename_i e
       subst e
       cases h
       refine ⟨0,rfl,rfl,fun u'=>by simp [vj],fun us eu=>?_⟩
       cases us with
       |nil=>cases eu
       | cons q us=>
         simp at eu
         obtain ⟨a,b⟩:=q
         simp at eu
         rw [<- eu.1]
         simp [List.lookup]
     . rename_i ne
       obtain ⟨k,e1,e2,e3,e4⟩:=ih h
       refine ⟨k+1,by simpa using e1,by simpa using e2,fun u'=>by simp [vj,ne,e3],fun us eu=>?_⟩
       cases us with
       |nil=>cases eu
       | cons q us=>
         obtain ⟨a,b⟩:=q
         simp at eu
         have:(f==a)=false:=by rw [eu.1]; simpa using Ne.symm ne
         simp [List.lookup,this,e4 us eu.2]
noncomputable def vy (H:Hp):Stp -> V -> V -> Prop
 |.ix k,v,w=>∃ p vs,v=.ref p /\ H p=some (.lst vs) /\ vs[k]?=some w
 |.fd f,v,w=>∃ p C dx us,v=.ref p /\ H p=some (.ins C dx us) /\ us.lookup f=some w
noncomputable def jS (H:Hp):V -> List Stp -> V -> Prop
 |v,[],w=>w=v
 |v,s ::π,w=>∃ u,vy H s v u /\ jS H u π w
theorem vy.inj {s:Stp} {v w w':V} (h:vy H s v w) (k:vy H s v w'):w=w':=by
 cases s with
 | ix n=>
   obtain ⟨p,vs,rfl,e1,e2⟩:=h
   obtain ⟨p',vs',e3,e4,e5⟩:=k
   cases e3
   rw [e1] at e4; cases e4
   rw [e2] at e5; cases e5; rfl
 | fd f=>
   obtain ⟨p,C,dx,us,rfl,e1,e2⟩:=h
   obtain ⟨p',C',dx',us',e3,e4,e5⟩:=k
   cases e3
   rw [e1] at e4; cases e4
   rw [e2] at e5; cases e5; rfl
theorem jS.inj {π:List Stp}:∀ {v w w':V},jS H v π w -> jS H v π w' -> w=w':=by
 induction π with
 |nil=>intro v w w' h k; rw [h,k]
 | cons s π ih=>
   rintro v w w' ⟨u,h1,h2⟩ ⟨u',k1,k2⟩
   have:=h1.inj k1
   subst this
   exact ih h2 k2
theorem jS.snoc {π:List Stp} {s:Stp}:∀ {v w u:V},jS H v π w -> vy H s w u -> jS H v (π++[s]) u:=by
 induction π with
 |nil=>intro v w u h k; rw [h] at k; exact ⟨u,k,rfl⟩
 | cons t π ih=>
   rintro v w u ⟨x,h1,h2⟩ k
   exact ⟨x,h1,ih h2 k⟩
theorem jS.mono {π:List Stp} (g:aJ H H'):∀ {v w:V},jS H v π w -> jS H' v π w:=by
 induction π with
 |nil=>intro v w h; exact h
 | cons t π ih=>
   rintro v w ⟨x,h1,h2⟩
   refine ⟨x,?_,ih h2⟩
   cases t with
   |ix k=>obtain ⟨p,vs,e,e1,e2⟩:=h1; exact ⟨p,vs,e,g _ _ e1,e2⟩
   |fd f=>obtain ⟨p,C,dx,us,e,e1,e2⟩:=h1; exact ⟨p,C,dx,us,e,g _ _ e1,e2⟩
theorem bz.step {t u:OV} {v:V} {fp:List Addr} {s:Stp} (h:bz K cls S H t v fp) (e:t.at1 s=some u):
  ∃ w f1 rest,vy H s v w /\ bz K cls S H u w f1 /\ fp.Perm (f1++rest) /\
    ∀ S' H' u' f',aJ S S' -> bz K cls S' H' u' w f' -> (∀ a∈rest,∀ o,H a=some o -> H' a=some o) -> ∃ g,bz K cls S' H' (t.iR s u') v g /\ g.Perm (f'++rest):=by
 cases t with
 |sh x=>cases s<;>cases e
 |di x=>cases s<;>cases e
 |dt x=>cases s<;>cases e
 | ol ts=>
   cases s with
   |fd f=>cases e
   | ix k=>
     unfold bz at h
     obtain ⟨p,vs,f,rfl,hp,rfl,r⟩:=h
     obtain ⟨w,f1,rest,e1,r1,p1,c1⟩:=r.at e
     refine ⟨w,f1,p ::rest,⟨p,vs,rfl,hp,e1⟩,r1,?_,fun S' H' u' f' s r' g=>?_⟩
     . exact (List.Perm.cons p p1).trans (List.perm_middle.symm)
     . obtain ⟨g2,r2,p2⟩:=c1 S' H' u' w f' s r' fun a ha=>g a (by simp [ha])
       refine ⟨p ::g2,?_,(List.Perm.cons p p2).trans List.perm_middle.symm⟩
       rw [lh e1] at r2
       unfold OV.iR bz
       exact ⟨p,vs,g2,rfl,g p (by simp) _ hp,rfl,r2⟩
 | ob c ks ts=>
   cases s with
   |ix k=>cases e
   | fd f=>
     unfold bz at h
     obtain ⟨p,C,dx,us,ff,rfl,hc,hp,hd,hk,rfl,r⟩:=h
     obtain ⟨k,e1,e2,e3,e4⟩:=AM e
     obtain ⟨w,f1,rest,q1,r1,p1,c1⟩:=r.at e1
     refine ⟨w,f1,p ::dx ::rest,⟨p,C,dx,us,rfl,hp,by rw [e4 us hk]; exact q1⟩,r1,?_,fun S' H' u' f' s r' g=>?_⟩
     . exact ((List.Perm.cons p ((List.Perm.cons dx p1).trans List.perm_middle.symm))).trans List.perm_middle.symm
     . obtain ⟨g2,r2,p2⟩:=c1 S' H' u' w f' s r' fun a ha=>g a (by simp [ha])
       refine ⟨p ::dx ::g2,?_,(List.Perm.cons p ((List.Perm.cons dx p2).trans List.perm_middle.symm)).trans List.perm_middle.symm⟩
       rw [lh q1] at r2
       unfold OV.iR bz
       exact ⟨p,C,dx,us,g2,rfl,hc,g p (by simp) _ hp,g dx (by simp) _ hd,hk,rfl,by rw [e3]; exact r2⟩
theorem bz.focus {π:List Stp}:∀ {t u:OV} {v:V} {fp:List Addr},bz K cls S H t v fp -> t.get π=some u ->
  ∃ w f1 rest,jS H v π w /\ bz K cls S H u w f1 /\ fp.Perm (f1++rest) /\
    ∀ S' H' u' f',aJ S S' -> bz K cls S' H' u' w f' -> (∀ a∈rest,∀ o,H a=some o -> H' a=some o) -> ∃ g,bz K cls S' H' (t.put π u') v g /\ g.Perm (f'++rest):=by
 induction π with
 | nil=>
   intro t u v fp h e
   cases e
   exact ⟨v,fp,[],rfl,h,by simp,fun S' H' u' f' _ r' _=>⟨f',by unfold OV.put; exact r',by simp⟩⟩
 | cons s π ih=>
   intro t u v fp h e
   unfold OV.get at e
   obtain ⟨t1,e1,e2⟩:=Option.bind_eq_some_iff.mp e
   obtain ⟨w1,f1,rest1,st,r1,p1,c1⟩:=h.step e1
   obtain ⟨w,f2,rest2,wk,r2,p2,c2⟩:=ih r1 e2
   refine ⟨w,f2,rest2++rest1,⟨w1,st,wk⟩,r2,?_,fun S' H' u' f' s' r' g=>?_⟩
   . rw [<- List.append_assoc]
     exact p1.trans (List.Perm.append_right rest1 p2)
   . obtain ⟨g1,q1,k1⟩:=c2 S' H' u' f' s' r' fun a ha=>g a (List.mem_append_left _ ha)
     obtain ⟨g2,q2,k2⟩:=c1 S' H' _ g1 s' q1 fun a ha=>g a (List.mem_append_right _ ha)
     refine ⟨g2,?_,?_⟩
     . unfold OV.put
       rw [e1]
       exact q2
     . rw [<- List.append_assoc]
       exact k2.trans (List.Perm.append_right rest1 k1)
theorem SR.tree {i:Nat} {t:OV} (I:SR K cls Av G S₀ ρ σ S H) (e:fF i ρ=some t):∃ v fp,σ[i]?=some (some v) /\ bz K cls S H t v fp:=by
 obtain ⟨F,J⟩:=I
 unfold fF at e
 cases q:ρ[i]? with
 |none=>rw [q] at e; cases e
 | some o=>
   cases o with
   |none=>rw [q] at e; cases e
   | some s=>
     rw [q] at e
     obtain ⟨v,e1,r⟩:=J.own i s q
     cases s with
     |tr io t'=>cases e; exact ⟨v,_,e1,r.1⟩
     | bo t'=>
       cases e
       obtain ⟨_,f,r⟩:=r
       exact ⟨v,f,e1,r.mono (aJ.refl _) fun _ _ _ h=>J.gh _ _ h⟩
     |sh x=>cases e
     |ow xs=>cases e
     |ex c fs=>cases e
noncomputable def JP (K:PySem.W.Frag) (cls:String -> Option Addr) (te:TE) (i:Nat) (mp:MP):Prop:=∀ Av G S₀ ρ σ S H Q v0 t π,SR K cls Av G S₀ ρ σ S H -> fF i ρ=some t -> σ[i]?=some (some v0) -> mp ρ=some π -> (t.get π).isSome=true ->
 (∀ w S' H',bu S H S' H' -> jS H' v0 π w -> Q w H') -> te σ H Q
theorem aR {i:Nat}:JP K cls (zp i) i aI:=by
 intro Av G S₀ ρ σ S H Q v0 t π I e ev ep _ k
 cases ep
 exact ⟨v0,ev,k v0 S H (bu.refl I.sh) rfl⟩
theorem JJ {i:Nat} {te tk:TE} {mp:MP} {mk:ah -> OE} (hp:JP K cls te i mp) (hk:JE K cls W tk mk):JP K cls (tOp (Ei K) te tk) i (pIx i mp mk):=by
 intro Av G S₀ ρ σ S H Q v0 t π I e ev ep hs k
 unfold pIx at ep
 rw [e] at ep
 dsimp only at ep
 split at ep
 . rename_i π0 e0
   split at ep
   . rename_i ts e1
     split at ep
     . rename_i r er
       split at ep
       . rename_i n en
         obtain ⟨j,ej,e2⟩:=Option.map_eq_some_iff.mp ep
         subst e2
         refine hp Av G S₀ ρ σ S H _ v0 t π0 I e ev e0 (by rw [e1]; rfl) fun w S1 H1 w1 wk=>?_
         refine hk Av G S₀ ρ σ S1 H1 _ (I.grow w1) ?_
         rw [er]
         intro u S2 H2 w2 ru
         have I2:=(I.grow w1).grow w2
         have hu:u=.int n:=by have:=ru.rd I2.sh; rw [en] at this; exact dG this
         subst hu
         obtain ⟨v,fp,ev',ro⟩:=I2.tree e
         rw [ev] at ev'; cases ev'
         obtain ⟨w',f1,rest,wk',r',_,_⟩:=ro.focus e1
         have:=(wk.mono w2.g).inj wk'
         subst this
         unfold bz at r'
         obtain ⟨p,vs,f,rfl,hl,rfl,rs⟩:=r'
         have hj:j<ts.length:=by
          have h1:L2.atI ts n=ts[j]?:=by unfold L2.atI; show (ixP ts.length n).bind _=_; rw [ej]; rfl
          unfold ixP at ej
          split at ej
          . split at ej
            . cases ej; omega
            . cases ej
          . split at ej
            . cases ej; omega
            . cases ej
         have hjv:j<vs.length:=by rw [rs.length]; exact hj
         have hx:vs[j]?=some vs[j]:=by simp [hjv]
         refine ⟨p,vs,n,vs[j],rfl,rfl,SqL.new hl,?_,k _ S2 H2 (w1.trans w2) (wk'.snoc ⟨p,vs,rfl,hl,hx⟩)⟩
         unfold L2.atI
         show (ixP vs.length n).bind _=_
         rw [rs.length,ej]
         exact hx
       . cases ep
     . cases ep
   . cases ep
 . cases ep
theorem JP.sub {i:Nat} {te:TE} {mp:MP} {u:OV} {Q:VK} (hp:JP K cls te i mp) (I:SR K cls Av G S₀ ρ σ S H) (e:subAt i mp ρ=some u)
  (k:∀ w S' H' f,bu S H S' H' -> SR K cls Av G S₀ ρ σ S' H' -> bz K cls S' H' u w f -> Q w H'):te σ H Q:=by
 unfold subAt at e
 split at e
 . rename_i t et
   split at e
   . rename_i π eπ
     obtain ⟨v0,fp0,ev,_⟩:=I.tree et
     refine hp Av G S₀ ρ σ S H _ v0 t π I et ev eπ (by rw [e]; rfl) fun w S1 H1 w1 wk=>?_
     obtain ⟨v,fp,ev',ro⟩:=(I.grow w1).tree et
     rw [ev] at ev'; cases ev'
     obtain ⟨w',f1,rest,wk',r',_,_⟩:=ro.focus e
     have:=wk.inj wk'
     subst this
     exact k w S1 H1 f1 w1 (I.grow w1) r'
   . cases e
 . cases e
theorem xN {i:Nat} {te:TE} {mp:MP} {f:Str} {ok:String -> Bool} (hp:JP K cls te i mp) (ha:∀ c C,cls c=some C -> ok c=true -> Cls K C /\ mm K C f):JP K cls (G0 K te f) i (pFd i mp f ok):=by
 intro Av G S₀ ρ σ S H Q v0 t π I e ev ep hs k
 unfold pFd at ep
 split at ep
 . rename_i c ks ts es
   split at ep
   . rename_i hok
     rw [Bool.and_eq_true] at hok
     obtain ⟨π0,e0,rfl⟩:=Option.map_eq_some_iff.mp ep
     have e1:t.get π0=some (.ob c ks ts):=by
      unfold subAt at es
      rw [e] at es
      dsimp only at es
      rw [e0] at es
      exact es
     refine hp Av G S₀ ρ σ S H _ v0 t π0 I e ev e0 (by rw [e1]; rfl) fun w S1 H1 w1 wk=>?_
     have I1:=I.grow w1
     obtain ⟨v,fp,ev',ro⟩:=I1.tree e
     rw [ev] at ev'; cases ev'
     obtain ⟨w',f1,rest,wk',r',_,_⟩:=ro.focus e1
     have:=wk.inj wk'
     subst this
     unfold bz at r'
     obtain ⟨p,C,dx,us,ff,rfl,hcl,hp',hd,hk,rfl,r⟩:=r'
     obtain ⟨a1,a2⟩:=ha c C hcl hok.1
     cases q:n6 ks ts f with
     |none=>rw [q] at hok; cases hok.2
     | some u=>
       obtain ⟨n,h1,h2,h3,h4⟩:=AM q
       have hn:n<(us.map (·.2)).length:=by rw [r.length]; exact (List.getElem?_eq_some_iff.mp h1).1
       have hx:us.lookup f=some (us.map (·.2))[n]:=by rw [h4 us hk]; exact List.getElem?_eq_getElem hn
       exact ⟨p,C,dx,us,_,rfl,hp',a1,a2,hx,k _ S1 H1 w1 (wk'.snoc ⟨p,C,dx,us,rfl,hp',hx⟩)⟩
   . cases ep
 . cases ep
theorem gg {i:Nat} {te:TE} {mp:MP} (hp:JP K cls te i mp):JE K cls W te (cU i mp):=by
 intro Av G S₀ ρ σ S H Q I p
 unfold cU at p
 split at p
 . rename_i x e
   refine hp.sub I e fun w S1 H1 f w1 _ r=>?_
   unfold bz at r
   exact p w S1 H1 w1 r.2
 . rename_i ts e
   split at p
   . rename_i xs ex
     refine hp.sub I e fun w S1 H1 f w1 _ r=>?_
     unfold bz at r
     obtain ⟨q,vs,ff,rfl,hq,_,rs⟩:=r
     exact p _ S1 H1 w1 ⟨q,vs,rfl,SqL.new hq,(rs.flat ex).1⟩
   . exact p.elim
 . exact p.elim
theorem gW {i:Nat} {te:TE} {mp:MP} (hp:JP K cls te i mp):JT K cls W (fun σ H Q=>te σ H fun x H'=>∃ k,y6 K x H' k /\ Q k H') (dA i mp):=by
 intro Av G S₀ ρ σ S H Q I p
 unfold dA at p
 split at p
 . rename_i ts e
   refine hp.sub I e fun w S1 H1 f w1 _ r=>?_
   unfold bz at r
   obtain ⟨q,vs,ff,rfl,hq,_,rs⟩:=r
   refine ⟨_,.inl ⟨vs,SqL.new hq,rfl⟩,?_⟩
   have:vs.isEmpty=ts.isEmpty:=by
    have:=rs.length
    cases vs<;>cases ts<;>simp_all
   rw [this]
   exact p S1 H1 w1
 . exact p.elim
theorem jK {i:Nat} {te:TE} {mp:MP} (hp:JP K cls te i mp):JE K cls W (tCB (fun xs H Q=>∃ p ys,xs=[.ref p] /\ (SqL K H p ys \/ SqT K H p ys) /\ Q (.int ys.length) H) (ja te kU)) (fT i mp):=by
 intro Av G S₀ ρ σ S H Q I p
 unfold fT at p
 split at p
 . rename_i ts e
   refine hp.sub I e fun w S1 H1 f w1 _ r=>?_
   unfold bz at r
   obtain ⟨q,vs,ff,rfl,hq,_,rs⟩:=r
   exact ⟨q,vs,rfl,.inl (SqL.new hq),p _ S1 H1 w1 (by show Rep K S1 _ _; unfold Rep; rw [rs.length])⟩
 . exact p.elim
end
section
variable {K:PySem.W.Frag} {cls:String -> Option Addr} {W:XW} {Av G S₀ S S' H H' B B':Hp} {ρ:ah} {σ:St} {Q:VK} {F:Nat -> List Addr}
theorem SRF.part {i:Nat} {io:Bool} {t u:OV} {v0:V} {π:List Stp} (J:SRF K cls Av G S₀ ρ σ S H F) (hi:ρ[i]?=some (some (.tr io t))) (hv:σ[i]?=some (some v0)) (e:t.get π=some u):
  ∃ w f1 rest,jS H v0 π w /\ bz K cls S H u w f1 /\ (F i).Perm (f1++rest) /\ (f1++rest).Nodup /\ (∀ a∈f1,G a=none /\ S a=none) /\
    ∀ S' H' u' f',aJ S S' -> aJ S' H' -> aJ G H' -> (∀ b,S' b≠none -> S₀ b≠none \/ G b=none) -> bz K cls S' H' u' w f' -> f'.Nodup -> (∀ a∈f',a∈f1 \/ H a=none) -> (∀ a∈f',S' a=none) ->
      (∀ a o,a∉f1 -> H a=some o -> H' a=some o) -> (∀ a,S' a≠none -> S a≠none \/ H a=none \/ a∈f1) ->
      ∃ g,SRF K cls Av G S₀ (ρ.set i (some (.tr io (t.put π u')))) σ S' H' (nX F i g) /\ g.Perm (f'++rest):=by
 obtain ⟨v,ev,ro,nd,gs,hio⟩:=J.own i _ hi
 rw [hv] at ev; cases ev
 obtain ⟨w,f1,rest,wk,r1,p1,c1⟩:=ro.focus e
 have nd1:(f1++rest).Nodup:=p1.nodup_iff.mp nd
 have in1:∀ a,a∈f1 -> a∈F i:=fun a ha=>p1.mem_iff.mpr (List.mem_append_left _ ha)
 have inr:∀ a,a∈rest -> a∈F i:=fun a ha=>p1.mem_iff.mpr (List.mem_append_right _ ha)
 have off1:∀ a,a∈rest -> a∉f1:=fun a ha hb=>(List.nodup_append.mp nd1).2.2 a hb a ha rfl
 refine ⟨w,f1,rest,wk,r1,p1,nd1,fun a ha=>gs a (in1 a ha),fun S' H' u' f' s sh gh new r' nd' fr nS keep nw=>?_⟩
 obtain ⟨g,rg,pg⟩:=c1 S' H' u' f' s r' fun a ha o h=>keep a o (off1 a ha) h
 have noS:∀ j a,a∈F j -> a∉f1 -> S' a=none:=fun j a ha hb=>by
  cases q:S' a with
  |none=>rfl
  | some o=>
    obtain ⟨⟨o',h1,_⟩,_,h3⟩:=J.live j a ha
    rcases nw a (by rw [q]; simp) with z|z|z
    . exact absurd h3 z
    . rw [h1] at z; cases z
    . exact absurd z hb
 have J1:SRF K cls Av G S₀ (ρ.set i none) (σ.set i none) S H (nX F i []):=J.put (fun t e=>nomatch e) (fun a ha=>nomatch ha) fun j a _ ha=>nomatch ha
 have off:∀ j a,a∈nX F i [] j -> a∉f1 /\ j≠i:=fun j a ha=>by
  by_cases ej:j=i
  . subst ej; rw [i9] at ha; cases ha
  . rw [fk ej] at ha
    exact ⟨fun hb=>ej (J.apart j i a ha (in1 a hb)),ej⟩
 have J2:=J1.change (S':=S') (H':=H') gh s sh new (fun j a ha o h=>keep a o (off j a ha).1 h)
  (fun b o hx h=>keep b o (fun hb=>by
    obtain ⟨⟨o',h1,h2⟩,_⟩:=J.live i b (in1 b hb)
    rw [h] at h1; cases h1; rw [hx] at h2; cases h2) h)
  fun j a ha=>by
   have hj:=off j a ha
   rw [fk hj.2] at ha
   exact noS j a ha hj.1
 have mem:∀ a,a∈g -> a∈f' \/ a∈rest:=fun a ha=>List.mem_append.mp (pg.mem_iff.mp ha)
 have hlive:∀ a∈g,(∃ o,H' a=some o /\ isX o=false) /\ G a=none /\ S' a=none:=fun a ha=>by
  refine ⟨rg.live a ha,?_,?_⟩
  . rcases mem a ha with z|z
    . rcases fr a z with y|y
      . exact (gs a (in1 a y)).1
      . exact J.gh.free y
    . exact (gs a (inr a z)).1
  . rcases mem a ha with z|z
    . exact nS a z
    . exact noS i a (inr a z) (off1 a z)
 have ndg:g.Nodup:=pg.nodup_iff.mpr (List.nodup_append.mpr ⟨nd',(List.nodup_append.mp nd1).2.1,fun a ha b hb z=>by
  subst z
  rcases fr a ha with y|y
  . exact off1 a hb y
  . obtain ⟨⟨o',h1,_⟩,_⟩:=J.live i a (inr a hb)
    rw [y] at h1; cases h1⟩)
 have J3:=J2.put (i:=i) (s:=some (.tr io (t.put π u'))) (u:=some v0) (fp:=g) (fun t' e=>by
  cases e
  exact ⟨v0,rfl,rg,ndg,fun a ha=>⟨(hlive a ha).2.1,(hlive a ha).2.2⟩,hio⟩) hlive fun j a hj ha hz=>by
   rw [fk hj] at hz
   rcases mem a ha with z|z
   . rcases fr a z with y|y
     . exact hj (J.apart j i a hz (in1 a y))
     . obtain ⟨⟨o',h1,_⟩,_⟩:=J.live j a hz
       rw [y] at h1; cases h1
   . exact hj (J.apart j i a hz (inr a z))
 rw [List.set_set,List.set_set,lh hv] at J3
 have eF:nX (nX F i []) i g=nX F i g:=by
  funext j
  by_cases ej:j=i
  . subst ej; rw [i9,i9]
  . rw [fk ej,fk ej,fk ej]
 rw [eF] at J3
 exact ⟨g,J3,pg⟩
theorem SRF.more {s:Option Sl} {u:Option V} {fp:List Addr} (I:SRF K cls Av G S₀ ρ σ S H F) (h:∀ t,s=some t -> ∃ v,u=some v /\ tE K cls Av G S H ρ.length t v fp)
  (hl:∀ a∈fp,(∃ o,H a=some o /\ isX o=false) /\ G a=none /\ S a=none) (ap:∀ j a,j<ρ.length -> a∈fp -> a∉F j):∃ F',SRF K cls Av G S₀ (ρ++[s]) (σ++[u]) S H F':=by
 refine ⟨fun j=>if j<ρ.length then F j else if j=ρ.length then fp else [],I.gh,I.s0,I.sh,I.new,fun j t e=>?_,fun j k a h1 h2=>?_,fun j a ha=>?_,by simp [I.len]⟩
 . by_cases hj:j<ρ.length
   . rw [List.getElem?_append_left hj] at e
     rw [List.getElem?_append_left (by rw [<- I.len]; exact hj)]
     simp only [hj,if_true]
     exact I.own j t e
   . rw [List.getElem?_append_right (Nat.le_of_not_lt hj)] at e
     have h0:j - ρ.length=0:=by
      by_cases h:j - ρ.length=0
      . exact h
      . rw [List.getElem?_eq_none (by simp; omega)] at e; cases e
     rw [h0] at e
     have ej:j=ρ.length:=by omega
     obtain ⟨v,e2,r⟩:=h t (Option.some.inj e)
     refine ⟨v,?_,?_⟩
     . rw [List.getElem?_append_right (by rw [<- I.len]; omega),<- I.len,h0,e2]; rfl
     . subst ej
       simp only [Nat.lt_irrefl,if_false,if_true]
       exact r
 . by_cases hj:j<ρ.length
   . simp only [hj,if_true] at h1
     by_cases hk:k<ρ.length
     . simp only [hk,if_true] at h2; exact I.apart j k a h1 h2
     . simp only [hk,if_false] at h2
       split at h2
       . exact absurd h1 (ap j a hj h2)
       . cases h2
   . simp only [hj,if_false] at h1
     split at h1
     . rename_i ej
       by_cases hk:k<ρ.length
       . simp only [hk,if_true] at h2; exact absurd h2 (ap k a hk h1)
       . simp only [hk,if_false] at h2
         split at h2
         . rename_i ek; rw [ej,ek]
         . cases h2
     . cases h1
 . by_cases hj:j<ρ.length
   . simp only [hj,if_true] at ha; exact I.live j a ha
   . simp only [hj,if_false] at ha
     split at ha
     . exact hl a ha
     . cases ha
theorem SR.fold {i:Nat} {s:Sl} {v:V} (I:SR K cls Av G S₀ (ρ++[some s]) (σ++[some v]) S H) (hs:nio s=true):SR K cls Av G S₀ (ρ.set i (some s)) (σ.set i (some v)) S H:=by
 obtain ⟨F,J⟩:=I
 have hlen:ρ.length=σ.length:=by have:=J.len; simpa using this
 obtain ⟨v',ev,r⟩:=J.own ρ.length s (by simp)
 have ev':v'=v:=by
  rw [List.getElem?_append_right (by rw [hlen]; exact Nat.le_refl _),hlen,Nat.sub_self] at ev
  cases ev; rfl
 subst ev'
 have J1:SRF K cls Av G S₀ ρ σ S H (fun j=>if j<ρ.length then F j else []):=by
  refine ⟨J.gh,J.s0,J.sh,J.new,fun j t e=>?_,fun j k a h1 h2=>?_,fun j a ha=>?_,hlen⟩
  . have hj:j<ρ.length:=(List.getElem?_eq_some_iff.mp e).1
    obtain ⟨v2,e2,r2⟩:=J.own j t (by rw [List.getElem?_append_left hj]; exact e)
    rw [List.getElem?_append_left (by rw [<- hlen]; exact hj)] at e2
    simp only [hj,if_true]
    exact ⟨v2,e2,r2⟩
  . split at h1
    . split at h2
      . exact J.apart j k a h1 h2
      . cases h2
    . cases h1
  . split at ha
    . exact J.live j a ha
    . cases ha
 refine ⟨_,J1.put (i:=i) (s:=some s) (u:=some v') (fp:=F ρ.length) (fun t e=>?_) (fun a ha=>J.live _ a ha) fun j a hj ha hz=>?_⟩
 . cases e
   refine ⟨v',rfl,?_⟩
   cases s with
   |sh x=>exact r
   |ow xs=>exact r
   |ex c fs=>exact r
   | tr io t=>
     cases io with
     |true=>cases hs
     |false=>exact ⟨r.1,r.2.1,r.2.2.1,fun z=>nomatch z⟩
   |bo t=>cases hs
 . split at hz
   . rename_i hj'
     have:=J.apart j ρ.length a hz ha
     omega
   . cases hz
theorem SR.Ah {s:Option Sl} {u:Option V} (I:SR K cls Av G S₀ (ρ++[s]) (σ++[u]) S H):SR K cls Av G S₀ ρ σ S H:=by
 obtain ⟨F,J⟩:=I
 have hlen:ρ.length=σ.length:=by have:=J.len; simpa using this
 refine ⟨F,J.gh,J.s0,J.sh,J.new,fun j t e=>?_,J.apart,J.live,hlen⟩
 have hj:j<ρ.length:=(List.getElem?_eq_some_iff.mp e).1
 obtain ⟨v2,e2,r2⟩:=J.own j t (by rw [List.getElem?_append_left hj]; exact e)
 rw [List.getElem?_append_left (by rw [<- hlen]; exact hj)] at e2
 exact ⟨v2,e2,r2⟩
noncomputable def Dc (K:PySem.W.Frag) (cls:String -> Option Addr) (B S H:Hp) (t:OV) (v:V):Prop:=∃ fp,bz K cls S H t v fp /\ fp.Nodup /\ ∀ a∈fp,B a=none /\ S a=none
noncomputable def JN (K:PySem.W.Frag) (cls:String -> Option Addr) (B S H:Hp) (ts:List OV) (vs:List V):Prop:=∃ fp,bC K cls S H ts vs fp /\ fp.Nodup /\ ∀ a∈fp,B a=none /\ S a=none
noncomputable def Kc (K:PySem.W.Frag) (cls:String -> Option Addr) (W:XW) (σ:St) (S H:Hp) (Q:VK):OD -> Prop
 |.ok t=>∀ v S' H',bu S H S' H' -> Dc K cls H S' H' t v -> Q v H'
 |.exc c fs=>∀ a C S' H',bu S H S' H' -> ox K cls S' H' c fs a C -> W (.ref C) (some a) σ H'
 |.bad=>False
noncomputable def Hy (K:PySem.W.Frag) (cls:String -> Option Addr) (W:XW) (σ:St) (S H:Hp) (Q:List V -> Hp -> Prop):ODs -> Prop
 |.ok ts=>∀ vs S' H',bu S H S' H' -> JN K cls H S' H' ts vs -> Q vs H'
 |.exc c fs=>∀ a C S' H',bu S H S' H' -> ox K cls S' H' c fs a C -> W (.ref C) (some a) σ H'
 |.bad=>False
noncomputable def JD (K:PySem.W.Frag) (cls:String -> Option Addr) (W:XW) (te:TE) (m:ah -> OD):Prop:=∀ Av G S₀ ρ σ S H Q,SR K cls Av G S₀ ρ σ S H -> Kc K cls W σ S H Q (m ρ) -> te σ H Q
noncomputable def JDs (K:PySem.W.Frag) (cls:String -> Option Addr) (W:XW) (te:TA) (m:ah -> ODs):Prop:=∀ Av G S₀ ρ σ S H Q,SR K cls Av G S₀ ρ σ S H -> Hy K cls W σ S H Q (m ρ) -> te σ H Q
theorem Dc.grow {S1 H1:Hp} {t:OV} {v:V} (h:Dc K cls B S H t v) (w:bu S H S1 H1):Dc K cls B S1 H1 t v:=by
 obtain ⟨fp,r,nd,g⟩:=h
 refine ⟨fp,r.mono w.s fun a _ o z=>w.g _ _ z,nd,fun a ha=>⟨(g a ha).1,?_⟩⟩
 obtain ⟨o,h1,_⟩:=r.live a ha
 cases q:S1 a with
 |none=>rfl
 | some o'=>
   rcases w.new a (by rw [q]; simp) with z|z
   . exact absurd (g a ha).2 z
   . rw [h1] at z; cases z
theorem ll {te:TE} {me:ah -> OE} (h:JE K cls W te me):JD K cls W te (mD me):=by
 intro Av G S₀ ρ σ S H Q I p
 refine h Av G S₀ ρ σ S H Q I ?_
 unfold mD at p
 cases e:me ρ with
 |exc c fs=>rw [e] at p; exact p
 |bad=>rw [e] at p; exact p
 | ok r=>
   rw [e] at p
   cases r with
   |sh x=>exact fun v S' H' w r=>p v S' H' w ⟨[],by unfold bz; exact ⟨rfl,r⟩,List.nodup_nil,fun a ha=>nomatch ha⟩
   |al xs=>exact p.elim
   | fr xs=>
     intro v S' H' w r
     obtain ⟨q,vs,rfl,hB,hS,hH,hr⟩:=r
     refine p _ S' H' w ⟨[q],by unfold bz; exact ⟨q,vs,[],rfl,hH,rfl,.shs hr⟩,by simp,fun a ha=>?_⟩
     have z:a=q:=by simpa using ha
     subst z; exact ⟨hB,hS⟩
theorem EM:JDs K cls W kU mDn:=fun Av G S₀ ρ σ S H Q I p=>p [] S H (bu.refl I.sh) ⟨[],.nil,List.nodup_nil,fun a ha=>nomatch ha⟩
theorem rf {te:TE} {t:TA} {md:ah -> OD} {mr:ah -> ODs} (hd:JD K cls W te md) (ht:JDs K cls W t mr):JDs K cls W (ja te t) (mDc md mr):=by
 intro Av G S₀ ρ σ S H Q I p
 refine hd Av G S₀ ρ σ S H _ I ?_
 unfold mDc at p
 cases e:md ρ with
 |exc c fs=>rw [e] at p; exact p
 |bad=>rw [e] at p; exact p
 | ok x=>
   rw [e] at p
   intro v S1 H1 w1 r1
   refine ht Av G S₀ ρ σ S1 H1 _ (I.grow w1) ?_
   dsimp only at p
   cases e2:mr ρ with
   |exc c fs=>rw [e2] at p; exact fun a C S' H' w x=>p a C S' H' (w1.trans w) x
   |bad=>rw [e2] at p; exact p
   | ok ts=>
     rw [e2] at p
     intro vs S2 H2 w2 r2
     obtain ⟨f2,q2,n2,g2⟩:=r2
     have r3:=r1.grow w2
     obtain ⟨f0,q0,n0,g0⟩:=r1
     refine p (v ::vs) S2 H2 (w1.trans w2) ⟨f0++f2,.cons (q0.mono w2.s fun a _ o z=>w2.g _ _ z) q2,List.nodup_append.mpr ⟨n0,n2,fun a ha b hb z=>?_⟩,fun a ha=>?_⟩
     . subst z
       obtain ⟨o,h1,_⟩:=q0.live a ha
       rw [(g2 a hb).1] at h1; cases h1
     . rcases List.mem_append.mp ha with z|z
       . refine ⟨(g0 a z).1,?_⟩
         obtain ⟨o,h1,_⟩:=q0.live a z
         cases q:S2 a with
         |none=>rfl
         | some o'=>
           rcases w2.new a (by rw [q]; simp) with y|y
           . exact absurd (g0 a z).2 y
           . rw [h1] at y; cases y
       . exact ⟨w1.g.free (g2 a z).1,(g2 a z).2⟩
theorem GU {t:TA} {mr:ah -> ODs} (h:JDs K cls W t mr):JD K cls W (E8 t) (mDl mr):=by
 intro Av G S₀ ρ σ S H Q I p
 refine h Av G S₀ ρ σ S H _ I ?_
 unfold mDl at p
 cases e:mr ρ with
 |exc c fs=>rw [e] at p; exact p
 |bad=>rw [e] at p; exact p
 | ok ts=>
   rw [e] at p
   dsimp only at p
   split at p
   . rename_i hl
     intro vs S1 H1 w1 r1
     obtain ⟨fp,r,nd,g⟩:=r1
     refine ⟨by rw [r.length]; exact hl,fun q hq=>?_⟩
     have w2:bu S1 H1 S1 (upd H1 q (.lst vs)):=bu.heap w1.sh hq
     refine p (.ref q) S1 _ (w1.trans w2) ⟨q ::fp,by unfold bz; exact ⟨q,vs,fp,rfl,bQ,rfl,r.mono (aJ.refl _) fun a _ o z=>w2.g _ _ z⟩,List.nodup_cons.mpr ⟨fun z=>?_,nd⟩,fun a ha=>?_⟩
     . obtain ⟨o,h1,_⟩:=r.live q z
       rw [hq] at h1; cases h1
     . rcases List.mem_cons.mp ha with z|z
       . subst z; exact ⟨w1.g.free hq,w1.sh.free hq⟩
       . exact g a z
   . exact p.elim
theorem SR.JH {i:Nat} {t:OV} {v:V} (I:SR K cls Av G S₀ ρ σ S H) (w:bu S H S' H') (h:Dc K cls H S' H' t v):SR K cls Av G S₀ (ρ.set i (some (.tr false t))) (σ.set i (some v)) S' H':=by
 obtain ⟨F,J⟩:=I
 obtain ⟨fp,r,nd,g⟩:=h
 refine ⟨_,(J.grow w).put (fp:=fp) (fun t' e=>by cases e; exact ⟨v,rfl,r,nd,fun a ha=>⟨J.gh.free (g a ha).1,(g a ha).2⟩,fun z=>nomatch z⟩) (fun a ha=>⟨r.live a ha,J.gh.free (g a ha).1,(g a ha).2⟩) fun j a _ ha hz=>?_⟩
 obtain ⟨⟨o,h1,_⟩,_⟩:=J.live j a hz
 rw [(g a ha).1] at h1; cases h1
theorem qO {i:Nat} {te:TE} {md:ah -> OD} (h:JD K cls W te md):JS K cls W (rQ te (j0 i)) (mq i md):=by
 intro Av G S₀ ρ σ S H D I p
 refine h Av G S₀ ρ σ S H _ I ?_
 unfold mq at p
 cases e:md ρ with
 |exc c fs=>rw [e] at p; exact fun a C S' H' w x=>p a C σ S' H' (I.grow w) w.s x
 |bad=>rw [e] at p; exact p
 |ok t=>rw [e] at p; exact fun v S1 H1 w1 r1=>p _ S1 H1 (I.JH w1 r1) w1.s
end
section
variable {K:PySem.W.Frag} {cls:String -> Option Addr} {W:XW} {Av G S₀ S S' H H' B B':Hp} {ρ:ah} {σ:St} {Q:VK} {F:Nat -> List Addr}
theorem bz.C2 {ts:List OV} {v:V} {fp:List Addr} (h:bz K cls S H (.ol ts) v fp):∃ p vs f,v=.ref p /\ H p=some (.lst vs) /\ fp=p ::f /\ bC K cls S H ts vs f:=by unfold bz at h; exact h
theorem SRF.tM {i:Nat} {io:Bool} {t:OV} {ts:List OV} {v0:V} {π:List Stp} (J:SRF K cls Av G S₀ ρ σ S H F) (hi:ρ[i]?=some (some (.tr io t))) (hv:σ[i]?=some (some v0)) (e:t.get π=some (.ol ts)):
  ∃ q vs ff rest,jS H v0 π (.ref q) /\ H q=some (.lst vs) /\ vs.length=ts.length /\ bC K cls S H ts vs ff /\ (F i).Perm ((q ::ff)++rest) /\ ((q ::ff)++rest).Nodup /\
    ∀ S' H' ts' vs' f',bu S H S' H' -> bC K cls S' H' ts' vs' f' -> f'.Nodup -> (∀ a∈f',a∈ff \/ (H a=none /\ S' a=none)) ->
      ∃ g,SRF K cls Av G S₀ (ρ.set i (some (.tr io (t.put π (.ol ts'))))) σ S' (upd H' q (.lst vs')) (nX F i g) /\ g.Perm ((q ::f')++rest):=by
 obtain ⟨w,f1,rest,wk,r1,p1,nd1,gs,c⟩:=J.part hi hv e
 obtain ⟨q,vs,ff,rfl,hq,rfl,rs⟩:=r1.C2
 refine ⟨q,vs,ff,rest,wk,hq,rs.length,rs,p1,nd1,fun S' H' ts' vs' f' wg r' nd' fr=>?_⟩
 have hGq:=(gs q (by simp)).1
 have hSq:=(gs q (by simp)).2
 have hS'q:S' q=none:=by
  cases z:S' q with
  |none=>rfl
  | some o=>
    rcases wg.new q (by rw [z]; simp) with y|y
    . exact absurd hSq y
    . rw [hq] at y; cases y
 have nq:q∉f':=fun z=>by
  rcases fr q z with y|y
  . exact (List.nodup_cons.mp (List.nodup_append.mp nd1).1).1 y
  . rw [y.1] at hq; cases hq
 have nS:∀ a∈f',S' a=none:=fun a ha=>by
  rcases fr a ha with y|y
  . cases z:S' a with
    |none=>rfl
    | some o=>
      obtain ⟨o',h1,_⟩:=rs.live a y
      rcases wg.new a (by rw [z]; simp) with k|k
      . exact absurd (gs a (by simp [y])).2 k
      . rw [h1] at k; cases k
  . exact y.2
 refine c S' (upd H' q (.lst vs')) (.ol ts') (q ::f') wg.s (wg.sh.upd hS'q) ((J.gh.trans wg.g).upd hGq) (fun b h=>?_) ?_ (List.nodup_cons.mpr ⟨nq,nd'⟩) (fun a ha=>?_) (fun a ha=>?_) (fun a o hn h=>?_) fun a h=>?_
 . rcases wg.new b h with z|z
   . exact J.new b z
   . exact .inr (J.gh.free z)
 . unfold bz
   exact ⟨q,vs',f',rfl,bQ,rfl,r'.mono (aJ.refl _) fun a ha o h=>by rw [bJ (fun z=>nq (by rw [<- z]; exact ha))]; exact h⟩
 . rcases List.mem_cons.mp ha with z|z
   . subst z; exact .inl (by simp)
   . rcases fr a z with y|y
     . exact .inl (by simp [y])
     . exact .inr y.1
 . rcases List.mem_cons.mp ha with z|z
   . subst z; exact hS'q
   . exact nS a z
 . rw [bJ (fun z=>hn (by rw [z]; simp))]; exact wg.g _ _ h
 . rcases wg.new a h with z|z
   . exact .inl z
   . exact .inr (.inl z)
theorem JP.at {i:Nat} {te:TE} {mp:MP} {io:Bool} {t u:OV} {v0:V} {π:List Stp} {Q:VK} (hp:JP K cls te i mp) (I:SR K cls Av G S₀ ρ σ S H) (hi:ρ[i]?=some (some (.tr io t))) (hv:σ[i]?=some (some v0)) (e0:mp ρ=some π) (e1:t.get π=some u)
  (k:∀ w S' H',bu S H S' H' -> SR K cls Av G S₀ ρ σ S' H' -> jS H' v0 π w -> Q w H'):te σ H Q:=
 hp Av G S₀ ρ σ S H Q v0 t π I (by unfold fF; rw [hi]; rfl) hv e0 (by rw [e1]; rfl) fun w S1 H1 w1 wk=>k w S1 H1 w1 (I.grow w1) wk
theorem rF {i:Nat} {mp:MP} {k:OV -> (OV -> ah) -> OS} {D:Ends} (p:je K cls W Av G S₀ S D (uk i mp ρ k)):∃ io t π u,ρ[i]?=some (some (.tr io t)) /\ mp ρ=some π /\ t.get π=some u /\ je K cls W Av G S₀ S D (k u fun u'=>ρ.set i (some (.tr io (t.put π u')))):=by
 unfold uk at p
 split at p
 . rename_i io t hi
   split at p
   . rename_i π e0
     split at p
     . rename_i u e1
       exact ⟨io,t,π,u,hi,e0,e1,p⟩
     . exact p.elim
   . exact p.elim
 . exact p.elim
theorem SR.val {i:Nat} {s:Sl} (I:SR K cls Av G S₀ ρ σ S H) (e:ρ[i]?=some (some s)):∃ v,σ[i]?=some (some v):=let ⟨v,h,_⟩:=I.good i s e; ⟨v,h⟩
theorem eC {i:Nat} {te tx:TE} {mp:MP} {md:ah -> OD} (hp:JP K cls te i mp) (hx:JD K cls W tx md):JS K cls W (uJ (tBM K "list" v9 te (ja tx kU))) (b0 i mp md):=by
 intro Av G S₀ ρ σ S H D I p
 obtain ⟨io,t,π,u,hi,e0,e1,p⟩:=rF p
 obtain ⟨v0,hv⟩:=I.val hi
 cases u with
 |sh x=>exact p.elim
 |ob c ks us=>exact p.elim
 |di x=>exact p.elim
 |dt x=>exact p.elim
 | ol ts=>
   dsimp only at p
   refine hp.at I hi hv e0 e1 fun w S1 H1 w1 I1 wk=>?_
   obtain ⟨F,J1⟩:=I1
   obtain ⟨q,vs,ff,rest,wk',hq,hl,rs,_,nd,c⟩:=J1.tM hi hv e1
   have:=wk.inj wk'
   subst this
   refine ⟨.inl ⟨rfl,_,SqL.new hq⟩,?_⟩
   refine hx Av G S₀ ρ σ S1 H1 _ ⟨F,J1⟩ ?_
   cases ed:md ρ with
   |exc c fs=>rw [ed] at p; exact fun a C S' H' w x=>p a C σ S' H' (SR.grow ⟨F,J1⟩ w) (w1.s.trans w.s) x
   |bad=>rw [ed] at p; exact p
   | ok x=>
     rw [ed] at p
     dsimp only at p
     split at p
     . rename_i hlt
       intro v S2 H2 w2 r2
       obtain ⟨fx,rx,ndx,gx⟩:=r2
       refine ⟨q,vs,v,rfl,rfl,w2.g _ _ hq,by rw [hl]; exact hlt,?_⟩
       have ndf:ff.Nodup:=(List.nodup_cons.mp (List.nodup_append.mp nd).1).2
       have apx:∀ a∈ff,a∉fx:=fun a ha hb=>by
        obtain ⟨o,h1,_⟩:=rs.live a ha
        rw [(gx a hb).1] at h1; cases h1
       obtain ⟨g,J3,_⟩:=c S2 H2 (ts++[x]) (vs++[v]) (ff++(fx++[])) w2 ((rs.mono w2.s fun a _ o h=>w2.g _ _ h).append (.cons rx .nil)) (by
         rw [List.append_nil]
         exact List.nodup_append.mpr ⟨ndf,ndx,fun a ha b hb z=>by subst z; exact apx a ha hb⟩) (fun a ha=>by
         rw [List.append_nil] at ha
         rcases List.mem_append.mp ha with z|z
         . exact .inl z
         . exact .inr (gx a z))
       exact p σ S2 _ ⟨_,J3⟩ (w1.s.trans w2.s)
     . exact p.elim
end
section
variable {K:PySem.W.Frag} {cls:String -> Option Addr} {W:XW} {Av G S₀ S S' H H' B B':Hp} {ρ:ah} {σ:St} {Q:VK} {F:Nat -> List Addr}
theorem tZ {i:Nat} {te tk tx:TE} {mp:MP} {mk:ah -> OE} {md:ah -> OD} (hp:JP K cls te i mp) (hk:JE K cls W tk mk) (hx:JD K cls W tx md):JS K cls W (rQ tx (HW te tk Gz)) (ou i mp mk md):=by
 intro Av G S₀ ρ σ S H D I p
 refine hx Av G S₀ ρ σ S H _ I ?_
 unfold ou at p
 cases ed:md ρ with
 |exc c fs=>rw [ed] at p; exact fun a C S' H' w x=>p a C σ S' H' (I.grow w) w.s x
 |bad=>rw [ed] at p; exact p
 | ok x=>
   rw [ed] at p
   dsimp only at p
   obtain ⟨io,t,π,u,hi,e0,e1,p⟩:=rF p
   obtain ⟨v0,hv⟩:=I.val hi
   cases u with
   |sh x=>exact p.elim
   |ob c ks us=>exact p.elim
   |di x=>exact p.elim
   |dt x=>exact p.elim
   | ol ts=>
     dsimp only at p
     intro v S1 H1 w1 r1
     refine hp.at (I.grow w1) hi hv e0 e1 fun w S2 H2 w2 I2 wk=>?_
     have p2:=p.back (w1.s.trans w2.s)
     refine hk.goS I2 p2 fun r z S3 H3 I3 w3 r3 p3=>?_
     cases en:r.pv with
     | int n=>
       rw [en] at p3
       dsimp only at p3
       cases ej:ixP ts.length n with
       |none=>rw [ej] at p3; exact p3.elim
       | some j=>
         rw [ej] at p3
         obtain ⟨F,J⟩:=id I
         obtain ⟨q,vs,ff,rest,wk',hq,hl,rs,_,nd,c⟩:=J.tM hi hv e1
         have:=wk.inj (wk'.mono (w1.g.trans w2.g))
         subst this
         have hz:z=.int n:=by have:=r3.rd I3.sh; rw [en] at this; exact dG this
         subst hz
         have wg:bu S H S3 H3:=(w1.trans w2).trans w3
         have hj:j<ts.length:=by
          unfold ixP at ej
          split at ej
          . split at ej
            . cases ej; omega
            . cases ej
          . split at ej
            . cases ej; omega
            . cases ej
         have ndf:ff.Nodup:=(List.nodup_cons.mp (List.nodup_append.mp nd).1).2
         obtain ⟨fx,rx,ndx,gx⟩:=(r1.grow w2).grow w3
         obtain ⟨w0,f1,rs',e1',r1',p1',c1⟩:=rs.at (k:=j) (u:=ts[j]) (by simp [hj])
         obtain ⟨g,rg,pg⟩:=c1 S3 H3 x v fx wg.s rx fun a _ o h=>wg.g _ _ h
         have inff:∀ a∈rs',a∈ff:=fun a ha=>p1'.mem_iff.mpr (List.mem_append_right _ ha)
         have ndr:rs'.Nodup:=(List.nodup_append.mp (p1'.nodup_iff.mp ndf)).2.1
         have ndg:g.Nodup:=pg.nodup_iff.mpr (List.nodup_append.mpr ⟨ndx,ndr,fun a ha b hb z=>by
          subst z
          obtain ⟨o,h1,_⟩:=rs.live a (inff a hb)
          rw [(gx a ha).1] at h1; cases h1⟩)
         obtain ⟨g2,J3,_⟩:=c S3 H3 (ts.set j x) (vs.set j v) g wg rg ndg fun a ha=>by
          rcases List.mem_append.mp (pg.mem_iff.mp ha) with z|z
          . exact .inr (gx a z)
          . exact .inl (inff a z)
         exact ⟨q,vs,n,j,rfl,rfl,wg.g _ _ hq,by rw [hl]; exact ej,p3 σ S3 _ ⟨_,J3⟩ (aJ.refl _)⟩
     |_=>rw [en] at p3; exact p3.elim
noncomputable def Ge (K:PySem.W.Frag) (cls:String -> Option Addr) (W:XW) (Av G S₀:Hp) (σ:St) (S:Hp) (Q:VK):OX -> Prop
 |.ok ρ' s=>∀ v S' H',SR K cls Av G S₀ (ρ'++[some s]) (σ++[some v]) S' H' -> aJ S S' -> Q v H'
 |.exc ρ' c fs=>∀ a C S' H',SR K cls Av G S₀ ρ' σ S' H' -> aJ S S' -> ox K cls S' H' c fs a C -> W (.ref C) (some a) σ H'
 |.bad=>False
noncomputable def JX (K:PySem.W.Frag) (cls:String -> Option Addr) (W:XW) (te:TE) (m:ah -> OX):Prop:=∀ Av G S₀ ρ σ S H Q,SR K cls Av G S₀ ρ σ S H -> Ge K cls W Av G S₀ σ S Q (m ρ) -> te σ H Q
theorem pj {i:Nat} {te:TE} {m:ah -> OX} (h:JX K cls W te m):JS K cls W (rQ te (j0 i)) (i8 i m):=by
 intro Av G S₀ ρ σ S H D I p
 refine h Av G S₀ ρ σ S H _ I ?_
 unfold i8 at p
 cases e:m ρ with
 |exc ρ' c fs=>rw [e] at p; exact fun a C S' H' I' s' x=>p a C σ S' H' I' s' x
 |bad=>rw [e] at p; exact p
 | ok ρ' s=>
   rw [e] at p
   dsimp only at p
   split at p
   . rename_i hs
     exact fun v S' H' I' s'=>p _ S' H' (I'.fold hs) s'
   . exact p.elim
theorem SR.IK {x:PV} {v:V} (I:SR K cls Av G S₀ (ρ++[some (.sh x)]) (σ++[some v]) S H):Rep K S x v:=by
 obtain ⟨F,J⟩:=I
 have hlen:ρ.length=σ.length:=by have:=J.len; simpa using this
 obtain ⟨v',ev,r⟩:=J.own ρ.length (.sh x) (by simp)
 rw [List.getElem?_append_right (by rw [hlen]; exact Nat.le_refl _),hlen,Nat.sub_self] at ev
 cases ev
 exact r.2
theorem EG {te:TE} {m:ah -> OX} {ta tb:TS} {ma mb:ah -> OS} (h:JX K cls W te m) (ha:JS K cls W ta ma) (hb:JS K cls W tb mb):
  JS K cls W (E0 (HV (fun σ H Q=>te σ H fun x H'=>∃ k,y6 K x H' k /\ Q k H')) ta tb) (Fp true m ma mb):=by
 intro Av G S₀ ρ σ S H D I p
 refine h Av G S₀ ρ σ S H _ I ?_
 unfold Fp at p
 cases e:m ρ with
 |exc ρ' c fs=>rw [e] at p; exact fun a C S' H' I' s' x=>p a C σ S' H' I' s' x
 |bad=>rw [e] at p; exact p
 | ok ρ' s=>
   rw [e] at p
   cases s with
   | sh x=>
     dsimp only at p
     intro v S' H' I' s'
     cases et:pO x with
     |none=>rw [et] at p; exact p.elim
     | some k=>
       rw [et] at p
       refine ⟨k,AB I'.sh (I'.IK.rd I'.sh) et,?_⟩
       cases k with
       |false=>exact yD (ha Av G S₀ ρ' σ S' H' D I'.Ah (p.back s'))
       |true=>exact yr (hb Av G S₀ ρ' σ S' H' D I'.Ah (p.back s'))
   |ow xs=>exact p.elim
   |ex c fs=>exact p.elim
   |tr io t=>exact p.elim
   |bo t=>exact p.elim
theorem bC.last {ts:List OV} {vs:List V} {f:List Addr} {x:OV} (h:bC K cls S H ts vs f) (e:ts.getLast?=some x):∃ y f1 f2,vs[vs.length - 1]?=some y /\ bC K cls S H ts.dropLast vs.dropLast f1 /\ bz K cls S H x y f2 /\ f=f1++f2:=by
 induction ts generalizing vs f with
 |nil=>cases e
 | cons t ts ih=>
   obtain ⟨v,r,f1,f2,rfl,rfl,h1,h2⟩:=h.cons_inv
   cases ts with
   | nil=>
     unfold bC at h2
     obtain ⟨rfl,rfl⟩:=h2
     simp at e
     subst e
     exact ⟨v,[],f1,rfl,.nil,h1,by simp⟩
   | cons t2 ts2=>
     rw [List.getLast?_cons_cons] at e
     obtain ⟨y,g1,g2,e1,r1,r2,rfl⟩:=ih h2 e
     have hr:r≠[]:=by intro z; subst z; have:=h2.length; simp at this
     refine ⟨y,f1++g1,g2,?_,?_,r2,by simp⟩
     . cases r with
       |nil=>exact absurd rfl hr
       |cons a r'=>simpa using e1
     . cases r with
       |nil=>exact absurd rfl hr
       |cons a r'=>exact bC.cons h1 r1
theorem Fh {x:OV} {v:V} {fp:List Addr} {i:Nat} (h:bz K cls S H x v fp) (nd:fp.Nodup) (g:∀ a∈fp,G a=none /\ S a=none):tE K cls Av G S H i (slO x) v fp:=by
 cases x with
 |sh y=>unfold bz at h; exact h
 |ol ts=>exact ⟨h,nd,g,fun z=>nomatch z⟩
 |ob c ks ts=>exact ⟨h,nd,g,fun z=>nomatch z⟩
 |di x=>exact ⟨h,nd,g,fun z=>nomatch z⟩
 |dt x=>exact ⟨h,nd,g,fun z=>nomatch z⟩
theorem A6 {i:Nat} {te:TE} {mp:MP} (hp:JP K cls te i mp):JX K cls W (HK K "list" Ka te) (qj i mp):=by
 intro Av G S₀ ρ σ S H Q I p
 unfold qj at p
 split at p
 . rename_i io t hi
   split at p
   . rename_i π e0
     split at p
     . rename_i ts e1
       split at p
       . rename_i x ex
         obtain ⟨v0,hv⟩:=I.val hi
         refine hp.at I hi hv e0 e1 fun w S1 H1 w1 I1 wk=>?_
         obtain ⟨F,J1⟩:=id I1
         obtain ⟨q,vs,ff,rest,wk',hq,hl,rs,pF,nd,c⟩:=J1.tM hi hv e1
         have:=wk.inj wk'
         subst this
         obtain ⟨y,f1,f2,ey,ri,rx,rfl⟩:=rs.last ex
         have ndf:(f1++f2).Nodup:=(List.nodup_cons.mp (List.nodup_append.mp nd).1).2
         have nq:q∉f1++f2:=(List.nodup_cons.mp (List.nodup_append.mp nd).1).1
         refine ⟨.inl ⟨rfl,_,SqL.new hq⟩,q,vs,y,rfl,rfl,hq,ey,?_⟩
         obtain ⟨g,J3,pg⟩:=c S1 H1 ts.dropLast vs.dropLast f1 (bu.refl J1.sh) ri (List.nodup_append.mp ndf).1 fun a ha=>.inl (List.mem_append_left _ ha)
         have in2:∀ a∈f2,a∈F i:=fun a ha=>pF.mem_iff.mpr (by simp [ha])
         have rx':bz K cls S1 (upd H1 q (.lst vs.dropLast)) x y f2:=rx.mono (aJ.refl _) fun a ha o h=>by rw [bJ (fun z=>nq (by rw [<- z]; simp [ha]))]; exact h
         have gs2:∀ a∈f2,G a=none /\ S1 a=none:=fun a ha=>(J1.live i a (in2 a ha)).2
         obtain ⟨F',J4⟩:=J3.more (s:=some (slO x)) (u:=some y) (fp:=f2) (fun t' e=>by cases e; exact ⟨y,rfl,Fh rx' (List.nodup_append.mp ndf).2.1 gs2⟩) (fun a ha=>⟨rx'.live a ha,gs2 a ha⟩) fun j a hj ha hz=>by
          by_cases ej:j=i
          . subst ej
            rw [i9] at hz
            have hm:=pg.mem_iff.mp hz
            have hd:=List.nodup_append.mp nd
            rcases List.mem_append.mp hm with z|z
            . rcases List.mem_cons.mp z with z|z
              . subst z; exact nq (by simp [ha])
              . exact (List.nodup_append.mp ndf).2.2 a z a ha rfl
            . exact hd.2.2 a (by simp [ha]) a z rfl
          . rw [fk ej] at hz
            exact ej (J1.apart j i a hz (in2 a ha))
         exact p y S1 _ ⟨F',J4⟩ w1.s
       . exact p.elim
     . exact p.elim
   . exact p.elim
 . exact p.elim
end
section
variable {K:PySem.W.Frag} {cls:String -> Option Addr} {W:XW} {Av G S₀ S S' H H' B B':Hp} {ρ:ah} {σ:St} {Q:VK} {F:Nat -> List Addr}
mutual
theorem bz.frozen (s:aJ S S'):∀ {t:OV} {v:V} {fp:List Addr} {x:PV},bz K cls S H t v fp -> pvO t=some x -> (∀ a∈fp,S' a=H a) -> Rep K S' x v
 | .sh y,v,fp,x,h,e,g=>by
   unfold pvO at e; cases e
   unfold bz at h
   exact Rep.mono s h.2
 | .ol ts,v,fp,x,h,e,g=>by
   unfold pvO at e
   obtain ⟨xs,e1,rfl⟩:=Option.map_eq_some_iff.mp e
   obtain ⟨p,vs,f,rfl,hp,rfl,rs⟩:=h.C2
   unfold Rep
   exact ⟨p,vs,rfl,SqL.new (by rw [g p (by simp)]; exact hp),bC.frozen s rs e1 fun a ha=>g a (by simp [ha])⟩
 |.ob c ks ts,v,fp,x,h,e,g=>by unfold pvO at e; cases e
 |.di c,v,fp,x,h,e,g=>by unfold pvO at e; cases e
 |.dt c,v,fp,x,h,e,g=>by unfold pvO at e; cases e
theorem bC.frozen (s:aJ S S'):∀ {ts:List OV} {vs:List V} {fp:List Addr} {xs:List PV},bC K cls S H ts vs fp -> ur ts=some xs -> (∀ a∈fp,S' a=H a) -> bZ K S' xs vs
 | [],vs,fp,xs,h,e,g=>by
   unfold ur at e; cases e
   unfold bC at h
   rw [h.1]; exact .nil
 | t ::ts,vs,fp,xs,h,e,g=>by
   unfold ur at e
   obtain ⟨x,e1,e2⟩:=Option.bind_eq_some_iff.mp e
   obtain ⟨ys,e3,rfl⟩:=Option.map_eq_some_iff.mp e2
   obtain ⟨v,r,f1,f2,rfl,rfl,h1,h2⟩:=h.cons_inv
   exact .cons (bz.frozen s h1 e1 fun a ha=>g a (by simp [ha])) (bC.frozen s h2 e3 fun a ha=>g a (by simp [ha]))
end
theorem SR.Hv {i:Nat} {t:OV} {x:PV} (I:SR K cls Av G S₀ ρ σ S H) (hi:ρ[i]?=some (some (.tr false t))) (ex:pvO t=some x):∃ S',aJ S S' /\ SR K cls Av G S₀ (ρ.set i (some (.sh x))) σ S' H:=by
 obtain ⟨F,J⟩:=I
 obtain ⟨v,hv,ro,nd,gs,_⟩:=J.own i _ hi
 have J1:SRF K cls Av G S₀ (ρ.set i none) (σ.set i none) S H (nX F i []):=J.put (fun t e=>nomatch e) (fun a ha=>nomatch ha) fun j a _ ha=>nomatch ha
 let S':Hp:=fun a=>if a∈F i then H a else S a
 have sS:aJ S S':=fun b u h=>by
  show (if b∈F i then H b else S b)=some u
  rw [if_neg (fun z=>by rw [(gs b z).2] at h; cases h)]; exact h
 have sH:aJ S' H:=fun b u h=>by
  have h':(if b∈F i then H b else S b)=some u:=h
  split at h'
  . exact h'
  . exact J.sh b u h'
 have off:∀ j a,a∈nX F i [] j -> a∉F i:=fun j a ha z=>by
  by_cases ej:j=i
  . subst ej; rw [i9] at ha; cases ha
  . rw [fk ej] at ha
    exact ej (J.apart j i a ha z)
 have J2:=J1.change (S':=S') (H':=H) J.gh sS sH (fun b h=>by
   have h':(if b∈F i then H b else S b)≠none:=h
   split at h'
   . rename_i hb; exact .inr (gs b hb).1
   . exact J.new b h') (fun _ _ _ _ h=>h) (fun _ _ _ h=>h) fun j a ha=>by
     show (if a∈F i then H a else S a)=none
     rw [if_neg (off j a ha)]; exact (J1.live j a ha).2.2
 have J3:=J2.put (i:=i) (s:=some (.sh x)) (u:=some v) (fp:=[]) (fun t' e=>by
  cases e
  exact ⟨_,rfl,rfl,ro.frozen sS ex fun a ha=>by show (if a∈F i then H a else S a)=H a; rw [if_pos ha]⟩) (fun a ha=>nomatch ha) fun j a _ ha=>nomatch ha
 rw [List.set_set,List.set_set,lh hv] at J3
 exact ⟨S',sS,_,J3⟩
theorem uc {i:Nat} {ts:TS} {m:ah -> OS} (h:JS K cls W ts m):JS K cls W ts (oN i m):=by
 intro Av G S₀ ρ σ S H D I p
 unfold oN pw at p
 split at p
 . rename_i t e
   split at p
   . rename_i x ex
     obtain ⟨S',s,J⟩:=I.Hv e ex
     exact h Av G S₀ _ σ S' H D J (p.back s)
   . exact h Av G S₀ ρ σ S H D I p
 . exact h Av G S₀ ρ σ S H D I p
theorem EW {ks:List Str} {us:List (Str×V)} {f:Str} {y:V} (hk:us.map (·.1)=ks) {k:Nat} (hf:∀ j,ks[j]?=some f -> k <= j) (he:ks[k]?=some f):(j4 f y us).map (·.1)=ks /\ (j4 f y us).map (·.2)=(us.map (·.2)).set k y:=by
 induction us generalizing ks k with
 |nil=>subst hk; cases he
 | cons q us ih=>
   obtain ⟨g,x⟩:=q
   subst hk
   unfold j4
   by_cases e:g=f
   . rw [if_pos e]
     have k0:k=0:=by have:=hf 0 (by simp [e]); omega
     subst k0
     exact ⟨rfl,rfl⟩
   . rw [if_neg e]
     cases k with
     |zero=>simp at he; exact absurd he e
     | succ k=>
       obtain ⟨h1,h2⟩:=ih (ks:=us.map (·.1)) (k:=k) rfl (fun j hj=>by have:=hf (j+1) (by simpa using hj); omega) (by simpa using he)
       simp [h1,h2]
theorem CA {us:List (Str×V)} {f:Str} {y:V} (h:f∉us.map (·.1)):j4 f y us=us++[(f,y)]:=by
 induction us with
 |nil=>rfl
 | cons q us ih=>
   obtain ⟨g,x⟩:=q
   simp at h
   unfold j4
   rw [if_neg (fun z=>h.1 z.symm),ih (by simpa using h.2)]
   rfl
theorem zi {ks:List Str} {ts:List OV} {f:Str} (hl:ts.length=ks.length) (h:f∈ks):∃ k,ks[k]?=some f /\ (∀ j,ks[j]?=some f -> k <= j) /\ k<ts.length /\ ∀ u,vj ks ts f u=ts.set k u:=by
 induction ks generalizing ts with
 |nil=>cases h
 | cons g ks ih=>
   cases ts with
   |nil=>cases hl
   | cons t ts=>
     by_cases e:g=f
     . subst e
       exact ⟨0,rfl,fun j _=>Nat.zero_le _,by simp,fun u=>by simp [vj]⟩
     . obtain ⟨k,h1,h2,h3,h4⟩:=ih (ts:=ts) (by simpa using hl) (by
        rcases List.mem_cons.mp h with z|z
        . exact absurd z.symm e
        . exact z)
       refine ⟨k+1,by simpa using h1,fun j hj=>?_,by simpa using h3,fun u=>by simp [vj,e,h4]⟩
       cases j with
       |zero=>simp at hj; exact absurd hj e
       |succ j=>have:=h2 j (by simpa using hj); omega
theorem EC {i:Nat} {te tx:TE} {mp:MP} {f:Str} {okc:String -> Bool} {md:ah -> OD} (hp:JP K cls te i mp) (hx:JD K cls W tx md) (ha:∀ c C,cls c=some C -> okc c=true -> Cls K C /\ mm K C f):JS K cls W (HU K te tx f) (Ea i mp f okc md):=by
 intro Av G S₀ ρ σ S H D I p
 refine hx Av G S₀ ρ σ S H _ I ?_
 unfold Ea at p
 cases ed:md ρ with
 |exc c fs=>rw [ed] at p; exact fun a C S' H' w x=>p a C σ S' H' (I.grow w) w.s x
 |bad=>rw [ed] at p; exact p
 | ok x=>
   rw [ed] at p
   dsimp only at p
   obtain ⟨io,t,π,u,hi,e0,e1,p⟩:=rF p
   obtain ⟨v0,hv⟩:=I.val hi
   cases u with
   |sh x=>exact p.elim
   |ol ts=>exact p.elim
   |di x=>exact p.elim
   |dt x=>exact p.elim
   | ob c ks ts=>
     dsimp only at p
     split at p
     . rename_i hok
       rw [Bool.and_eq_true,decide_eq_true_eq] at hok
       intro v S1 H1 w1 r1
       refine hp.at (I.grow w1) hi hv e0 e1 fun w S2 H2 w2 I2 wk=>?_
       obtain ⟨F,J⟩:=id I
       obtain ⟨w0,f1,rest,wk',ro,pF,nd,gs,cc⟩:=J.part hi hv e1
       have wg:bu S H S2 H2:=w1.trans w2
       have:=wk.inj (wk'.mono wg.g)
       subst this
       unfold bz at ro
       obtain ⟨q,C,dx,us,ff,rfl,hcl,hq,hd,hk,rfl,rs⟩:=ro
       obtain ⟨a1,a2⟩:=ha c C hcl hok.1
       have nd1:=(List.nodup_append.mp nd).1
       have nq:q∉dx ::ff:=(List.nodup_cons.mp nd1).1
       have ndx':dx∉ff:=(List.nodup_cons.mp (List.nodup_cons.mp nd1).2).1
       have ndf:ff.Nodup:=(List.nodup_cons.mp (List.nodup_cons.mp nd1).2).2
       have hlen:us.length<1000:=by have:=congrArg List.length hk; simp at this; omega
       obtain ⟨fx,rx,nx,gx⟩:=r1.grow w2
       refine ⟨q,C,dx,us,rfl,wg.g _ _ hq,a1,a2,hlen,?_⟩
       have noS:∀ a∈q ::dx ::ff,S2 a=none:=fun a ha=>by
        cases z:S2 a with
        |none=>rfl
        | some o=>
          obtain ⟨⟨o',h1,_⟩,_,h3⟩:=J.live i a (pF.mem_iff.mpr (List.mem_append_left _ ha))
          rcases wg.new a (by rw [z]; simp) with y|y
          . exact absurd h3 y
          . rw [h1] at y; cases y
       have fin:∀ ks' ts' f',(j4 f v us).map (·.1)=ks' -> bC K cls S2 H2 ts' ((j4 f v us).map (·.2)) f' -> f'.Nodup -> (∀ a∈f',a∈ff \/ (H a=none /\ S2 a=none)) ->
         SR K cls Av G S₀ (ρ.set i (some (.tr io (t.put π (.ob c ks' ts'))))) σ S2 (upd H2 q (.ins C dx (j4 f v us))):=by
        intro ks' ts' f' hk' rs' nd' fr
        have nqf:q∉f':=fun z=>by
         rcases fr q z with y|y
         . exact nq (by simp [y])
         . rw [y.1] at hq; cases hq
        have ndf':dx∉f':=fun z=>by
         rcases fr dx z with y|y
         . exact ndx' y
         . rw [y.1] at hd; cases hd
        have ndq:dx≠q:=fun z=>nq (by simp [z])
        obtain ⟨g,J3,_⟩:=cc S2 (upd H2 q (.ins C dx (j4 f v us))) (.ob c ks' ts') (q ::dx ::f') wg.s (wg.sh.upd (noS q (by simp))) ((J.gh.trans wg.g).upd (gs q (by simp)).1) (fun b h=>by
          rcases wg.new b h with z|z
          . exact J.new b z
          . exact .inr (J.gh.free z)) (by
          unfold bz
          exact ⟨q,C,dx,_,f',rfl,hcl,bQ,by rw [bJ ndq]; exact wg.g _ _ hd,hk',rfl,rs'.mono (aJ.refl _) fun a ha o h=>by rw [bJ (fun z=>nqf (by rw [<- z]; exact ha))]; exact h⟩)
         (List.nodup_cons.mpr ⟨fun z=>by
           rcases List.mem_cons.mp z with z|z
           . exact ndq z.symm
           . exact nqf z,List.nodup_cons.mpr ⟨ndf',nd'⟩⟩) (fun a ha=>by
           rcases List.mem_cons.mp ha with z|z
           . subst z; exact .inl (by simp)
           . rcases List.mem_cons.mp z with z|z
             . subst z; exact .inl (by simp)
             . rcases fr a z with y|y
               . exact .inl (by simp [y])
               . exact .inr y.1) (fun a ha=>by
           rcases List.mem_cons.mp ha with z|z
           . subst z; exact noS _ (by simp)
           . rcases List.mem_cons.mp z with z|z
             . subst z; exact noS _ (by simp)
             . rcases fr a z with y|y
               . exact noS a (by simp [y])
               . exact y.2) (fun a o hn h=>by rw [bJ (fun z=>hn (by rw [z]; simp))]; exact wg.g _ _ h) fun a h=>by
           rcases wg.new a h with z|z
           . exact .inl z
           . exact .inr (.inl z)
        exact ⟨_,J3⟩
       have hlts:ts.length=ks.length:=by rw [<- rs.length,<- hk]; simp
       split at p
       . rename_i hc
         obtain ⟨k,h1,h2,h3,h4⟩:=zi hlts (by simpa using hc)
         obtain ⟨k1,k2⟩:=EW (y:=v) hk h2 h1
         obtain ⟨w3,g1,rest3,e3,r3,p3,c3⟩:=rs.at (k:=k) (u:=ts[k]) (by simp [h3])
         obtain ⟨g,rg,pg⟩:=c3 S2 H2 x v fx wg.s rx fun a _ o h=>wg.g _ _ h
         have inff:∀ a∈rest3,a∈ff:=fun a ha=>p3.mem_iff.mpr (List.mem_append_right _ ha)
         have ndr:rest3.Nodup:=(List.nodup_append.mp (p3.nodup_iff.mp ndf)).2.1
         have ndg:g.Nodup:=pg.nodup_iff.mpr (List.nodup_append.mpr ⟨nx,ndr,fun a ha b hb z=>by
          subst z
          obtain ⟨o,h1,_⟩:=rs.live a (inff a hb)
          rw [(gx a ha).1] at h1; cases h1⟩)
         have q1:=fin ks (ts.set k x) g k1 (by rw [k2]; exact rg) ndg fun a ha=>by
          rcases List.mem_append.mp (pg.mem_iff.mp ha) with z|z
          . exact .inr (gx a z)
          . exact .inl (inff a z)
         rw [h4] at p
         exact p σ S2 _ q1 wg.s
       . rename_i hc
         have hn:f∉us.map (·.1):=by rw [hk]; simpa using hc
         have e2:=CA (y:=v) hn
         have ndg:(ff++(fx++[])).Nodup:=by
          rw [List.append_nil]
          exact List.nodup_append.mpr ⟨ndf,nx,fun a ha b hb z=>by
           subst z
           obtain ⟨o,h1,_⟩:=rs.live a ha
           rw [(gx a hb).1] at h1; cases h1⟩
         have q1:=fin (ks++[f]) (ts++[x]) (ff++(fx++[])) (by rw [e2]; simp [hk]) (by rw [e2,List.map_append]; exact (rs.mono wg.s fun a _ o h=>wg.g _ _ h).append (.cons rx .nil)) ndg fun a ha=>by
          rw [List.append_nil] at ha
          rcases List.mem_append.mp ha with z|z
          . exact .inl z
          . exact .inr (gx a z)
         exact p σ S2 _ q1 wg.s
     . exact p.elim
end
open Classical in
noncomputable def minus (H:Hp) (Fc:Nat -> List Addr):Hp:=fun a=>if ∃ k,a∈Fc k then none else H a
section
variable {K:PySem.W.Frag} {cls:String -> Option Addr} {W:XW} {Av G S₀ S S' H H' B B':Hp} {ρ:ah} {σ:St} {Q:VK} {F Fc Fc':Nat -> List Addr}
theorem yp {a:Addr} {k:Nat} (h:a∈Fc k):minus H Fc a=none:=by unfold minus; rw [if_pos ⟨k,h⟩]
theorem jt {a:Addr} (h:∀ k,a∉Fc k):minus H Fc a=H a:=by unfold minus; rw [if_neg (fun ⟨k,z⟩=>h k z)]
theorem uD:aJ (minus H Fc) H:=fun b u h=>by
 unfold minus at h
 split at h
 . cases h
 . exact h
theorem mT {a:Addr} (h:minus H Fc a=none):H a=none \/ ∃ k,a∈Fc k:=by
 unfold minus at h
 split at h
 . rename_i z; exact .inr z
 . exact .inl h
noncomputable def Lw (K:PySem.W.Frag) (cls:String -> Option Addr) (S H Hm:Hp):Sl -> V -> List Addr -> Prop
 |.sh x,v,fp=>fp=[] /\ Rep K S x v
 |.tr true t,v,fp=>bz K cls S H t v fp /\ fp.Nodup
 |.bo t,v,fp=>fp=[] /\ ∃ f,bz K cls S Hm t v f
 |_,_,_=>False
structure Cz (K:PySem.W.Frag) (cls:String -> Option Addr) (vs:List V) (S H:Hp) (Fc:Nat -> List Addr) (outs:List (Option OV)) (S' H':Hp) (Fc':Nat -> List Addr):Prop where
 s:aJ S S'
 sh:aJ S' H'
 keep:aJ (minus H Fc) H'
 new:∀ b,S' b≠none -> S b≠none \/ H b=none \/ ∃ k,b∈Fc k
 out:∀ k t',outs[k]?=some (some t') -> ∃ u,vs[k]?=some u /\ bz K cls S' H' t' u (Fc' k) /\ (Fc' k).Nodup
 apart:∀ j k a,a∈Fc' j -> a∈Fc' k -> j=k
 live:∀ k a,a∈Fc' k -> minus H Fc a=none /\ S' a=none
noncomputable def Jr (K:PySem.W.Frag) (cls:String -> Option Addr) (vs:List V) (S H:Hp) (Fc:Nat -> List Addr) (Q:VK) (E:XK):OI -> Prop
 |.ok x outs=>∀ v S' H' Fc',Cz K cls vs S H Fc outs S' H' Fc' -> Rep K S' x v -> Q v H'
 |.exc c fs outs=>∀ a C S' H' Fc',Cz K cls vs S H Fc outs S' H' Fc' -> ox K cls S' H' c fs a C -> E (.ref C) (some a) H'
 |.bad=>False
structure Co (K:PySem.W.Frag) (cls:String -> Option Addr) (as:List Sl) (vs:List V) (S H:Hp) (Fc:Nat -> List Addr):Prop where
 sh:aJ S H
 len:as.length=vs.length
 rel:∀ (k:Nat) (s:Sl),as[k]?=some s -> ∃ v,vs[k]?=some v /\ Lw K cls S H (minus H Fc) s v (Fc k)
 apart:∀ j k a,a∈Fc j -> a∈Fc k -> j=k
 live:∀ k a,a∈Fc k -> (∃ o,H a=some o /\ isX o=false) /\ S a=none
noncomputable def spI (K:PySem.W.Frag) (cls:String -> Option Addr) (f:List Sl -> OI):Sp:=fun vs H Q E=>∃ S as Fc,Co K cls as vs S H Fc /\ Jr K cls vs S H Fc Q E (f as)
theorem El {as:List Sl} {vs:List V} {N:List Str} {i:Nat} {s:Sl} (hl:as.length=vs.length) (e:(j8 N.length as)[i]?=some (some s)):as[i]?=some s /\ (L2.start N vs)[i]?=some ((vs[i]?)):=by
 unfold j8 at e
 by_cases hi:i<as.length
 . rw [List.getElem?_append_left (by simpa using hi),List.getElem?_map] at e
   have hx:as[i]?=some as[i]:=by simp [hi]
   rw [hx] at e
   cases e
   refine ⟨hx,?_⟩
   unfold L2.start
   rw [List.getElem?_append_left (by rw [List.length_map,<- hl]; exact hi),List.getElem?_map]
   have hv:vs[i]?=some (vs[i]'(by rw [<- hl]; exact hi)):=by simp [<- hl,hi]
   rw [hv]; rfl
 . rw [List.getElem?_append_right (by simpa using hi)] at e
   rw [List.getElem?_replicate] at e
   split at e<;>cases e
noncomputable def CJ (vs:List V):Hp:=fun i=>(vs[i]?).map fun v=>.lst [v]
theorem SR.GW {vs:List V} {np:Nat} {ρ':ah} {σ':St} (A:aJ S H) (I:SR K cls (CJ vs) (minus H Fc) S ρ' σ' S' H'):∃ Fc',Cz K cls vs S H Fc ((ρ'.take np).map pb) S' H' Fc':=by
 obtain ⟨F,J⟩:=I
 refine ⟨F,J.s0,J.sh,J.gh,fun b h=>?_,fun k t' e=>?_,J.apart,fun k a ha=>(J.live k a ha).2⟩
 . rcases J.new b h with z|z
   . exact .inl z
   . rcases mT z with y|y
     . exact .inr (.inl y)
     . exact .inr (.inr y)
 . rw [List.getElem?_map] at e
   obtain ⟨s,e1,e2⟩:=Option.map_eq_some_iff.mp e
   have e3:ρ'[k]?=some s:=by
    rw [List.getElem?_take] at e1
    split at e1
    . exact e1
    . cases e1
   cases s with
   |none=>cases e2
   | some s=>
     cases s with
     | tr io t=>
       cases io with
       |false=>cases e2
       | true=>
         cases e2
         obtain ⟨v,ev,ro,nd,_,hio⟩:=J.own k _ e3
         have:=hio rfl
         unfold CJ at this
         obtain ⟨u,eu,e4⟩:=Option.map_eq_some_iff.mp this
         cases e4
         exact ⟨v,eu,ro,nd⟩
     |sh x=>cases e2
     |ow x=>cases e2
     |ex c fs=>cases e2
     |bo t=>cases e2
theorem uA {P:Program} {w:World} {mg:Str -> Option Value} {base:Heap} {x qual:Str} {st:Stmt} {f:Addr} {fd:FuncData} {N ps:List Str} {k:Nat} {m:ah -> OS} (Fn:Fun K x qual st f fd) (Sc:aY N ps (aC st))
  (hbody:∀ (cdv:Value) (A:Around) (outer:List Env) (s:Shared) (H:Hp) (E:XK),gY k (A.deeper (envOfC qual (aC st) s.heap.objs.size f cdv)) ->
    ∃ t,QSs (rR (CXE P w) P w K mg base N qual (aC st) f cdv A outer s H E) (dH st) t /\ JS K cls (fun C a _ H=>∀ H',aJ H H' -> E C a H') t m):cA P w K mg base (CXE P w) (k+1) f fd ps (spI K cls (fnI ps.length N.length m)):=by
 refine okX Fn Sc (fun vs H Q E h=>?_) fun cdv A outer s H vs Q E hr h=>?_
 . obtain ⟨S,as,Fc,a,q⟩:=h
   unfold fnI at q
   split at q
   . rw [<- a.len]; assumption
   . exact q.elim
 . obtain ⟨S,as,Fc,a,q⟩:=h
   unfold fnI at q
   split at q
   . rename_i hl
     obtain ⟨t,ht,J⟩:=hbody cdv A outer s H E hr
     refine ⟨t,ht.out,?_⟩
     have start:SR K cls (CJ vs) (minus H Fc) S (j8 N.length as) (L2.start N vs) S H:=by
      refine ⟨Fc,uD,aJ.refl _,a.sh,fun _ z=>.inl z,fun i s e=>?_,a.apart,fun i b hb=>⟨(a.live i b hb).1,yp hb,(a.live i b hb).2⟩,?_⟩
      . obtain ⟨e1,e2⟩:=El a.len e
        obtain ⟨v,ev,r⟩:=a.rel i s e1
        rw [ev] at e2
        refine ⟨v,e2,?_⟩
        cases s with
        |sh x=>exact r
        |ow x=>exact r.elim
        |ex c fs=>exact r.elim
        | tr io t=>
          cases io with
          |false=>exact r.elim
          |true=>exact ⟨r.1,r.2,fun b hb=>⟨yp hb,(a.live i b hb).2⟩,fun _=>by unfold CJ; rw [ev]; rfl⟩
        |bo t=>exact r
      . unfold j8 L2.start
        simp [a.len]
     refine J (CJ vs) (minus H Fc) S (j8 N.length as) (L2.start N vs) S H _ start ?_
     cases e:m (j8 N.length as) with
     |nx ρ'=>rw [e] at q; exact fun σ' S' H' I' s'=>let ⟨Fc',E'⟩:=I'.GW (np:=ps.length) a.sh; q .non S' H' Fc' E' (by unfold Rep; rfl)
     |bk ρ'=>rw [e] at q; exact q.elim
     |ct ρ'=>rw [e] at q; exact q.elim
     |bad=>rw [e] at q; exact q.elim
     | rt ρ' r=>
       rw [e] at q
       cases r with
       |al ys=>exact q.elim
       |fr ys=>exact q.elim
       |sh y=>exact fun v σ' S' H' I' s' rr=>let ⟨Fc',E'⟩:=I'.GW (np:=ps.length) a.sh; q v S' H' Fc' E' rr
     | exc ρ' c fs=>
       rw [e] at q
       exact fun b C σ' S' H' I' s' x H2 g2=>let ⟨Fc',E'⟩:=(I'.same g2).GW (np:=ps.length) a.sh; q b C S' H2 Fc' E' (x.mono (aJ.refl _) g2)
   . exact q.elim
noncomputable def AR1 (K:PySem.W.Frag) (S H:Hp) (ρ:ah) (σ:St):Arg -> Sl -> V -> Prop
 |.e _,.sh x,v=>Rep K S x v
 |.t i mp,.tr true u,v=>∃ io t π v0,ρ[i]?=some (some (.tr io t)) /\ mp ρ=some π /\ t.get π=some u /\ σ[i]?=some (some v0) /\ jS H v0 π v
 |.b i mp,.bo u,v=>∃ t π v0,fF i ρ=some t /\ mp ρ=some π /\ t.get π=some u /\ σ[i]?=some (some v0) /\ jS H v0 π v
 |_,_,_=>False
noncomputable def ARs (K:PySem.W.Frag) (S H:Hp) (ρ:ah) (σ:St):List Arg -> List Sl -> List V -> Prop
 |[],ss,vs=>ss=[] /\ vs=[]
 |a ::as,ss,vs=>∃ s sr v vr,ss=s ::sr /\ vs=v ::vr /\ AR1 K S H ρ σ a s v /\ ARs K S H ρ σ as sr vr
theorem AR1.mono {a:Arg} {s:Sl} {v:V} (h:AR1 K S H ρ σ a s v) (s1:aJ S S') (g:aJ H H'):AR1 K S' H' ρ σ a s v:=by
 cases a with
 |e me=>cases s<;>first|exact h.elim|exact Rep.mono s1 h
 | t i mp=>
   cases s with
   | tr io u=>
     cases io with
     |false=>exact h.elim
     |true=>obtain ⟨io,t,π,v0,h1,h2,h3,h4,h5⟩:=h; exact ⟨io,t,π,v0,h1,h2,h3,h4,h5.mono g⟩
   |_=>exact h.elim
 | b i mp=>
   cases s with
   |bo u=>obtain ⟨t,π,v0,h1,h2,h3,h4,h5⟩:=h; exact ⟨t,π,v0,h1,h2,h3,h4,h5.mono g⟩
   |_=>exact h.elim
theorem ARs.at {as:List Arg}:∀ {ss:List Sl} {vs:List V} {k:Nat} {a:Arg},ARs K S H ρ σ as ss vs -> as[k]?=some a -> ∃ s v,ss[k]?=some s /\ vs[k]?=some v /\ AR1 K S H ρ σ a s v:=by
 induction as with
 |nil=>intro ss vs k a _ e; simp at e
 | cons b as ih=>
   rintro ss vs k a ⟨s,sr,v,vr,rfl,rfl,h1,h2⟩ e
   cases k with
   |zero=>simp at e; subst e; exact ⟨s,v,rfl,rfl,h1⟩
   |succ k=>simp at e; obtain ⟨s',v',e1,e2,r⟩:=ih h2 e; exact ⟨s',v',by simpa using e1,by simpa using e2,r⟩
theorem ARs.len {as:List Arg}:∀ {ss:List Sl} {vs:List V},ARs K S H ρ σ as ss vs -> ss.length=as.length /\ vs.length=as.length:=by
 induction as with
 |nil=>intro ss vs h; rw [h.1,h.2]; exact ⟨rfl,rfl⟩
 | cons b as ih=>
   rintro ss vs ⟨s,sr,v,vr,rfl,rfl,h1,h2⟩
   have:=ih h2
   simp [this]
noncomputable def JAI (K:PySem.W.Frag) (cls:String -> Option Addr) (t:TA) (as:List Arg):Prop:=∀ Av G S₀ ρ σ S H Q ss,SR K cls Av G S₀ ρ σ S H -> jk as ρ=some ss -> (∀ vs S' H',bu S H S' H' -> ARs K S' H' ρ σ as ss vs -> Q vs H') -> t σ H Q
noncomputable def JA1 (K:PySem.W.Frag) (cls:String -> Option Addr) (te:TE) (a:Arg):Prop:=∀ Av G S₀ ρ σ S H Q s,SR K cls Av G S₀ ρ σ S H -> lS a ρ=some s -> (∀ v S' H',bu S H S' H' -> AR1 K S' H' ρ σ a s v -> Q v H') -> te σ H Q
theorem zU {te:TE} {me:ah -> OE} (h:JE K cls W te me):JA1 K cls te (.e me):=by
 intro Av G S₀ ρ σ S H Q s I e k
 unfold lS at e
 dsimp only at e
 refine h Av G S₀ ρ σ S H Q I ?_
 cases em:me ρ with
 |exc c fs=>rw [em] at e; cases e
 |bad=>rw [em] at e; cases e
 | ok r=>
   rw [em] at e
   obtain ⟨x,e1,rfl⟩:=Option.map_eq_some_iff.mp e
   intro v S1 H1 w1 r1
   obtain ⟨S2,w2,s2,rx⟩:=r1.share w1 e1
   exact k v S2 H1 w2 rx
theorem oA {te:TE} {i:Nat} {mp:MP} (h:JP K cls te i mp):JA1 K cls te (.t i mp):=by
 intro Av G S₀ ρ σ S H Q s I e k
 unfold lS at e
 dsimp only at e
 split at e
 . rename_i io t hi
   obtain ⟨u,e1,rfl⟩:=Option.map_eq_some_iff.mp e
   obtain ⟨π,e2,e3⟩:=Option.bind_eq_some_iff.mp e1
   obtain ⟨v0,hv⟩:=I.val hi
   exact h.at I hi hv e2 e3 fun w S1 H1 w1 I1 wk=>k w S1 H1 w1 ⟨io,t,π,v0,hi,e2,e3,hv,wk⟩
 . cases e
theorem Ga {te:TE} {i:Nat} {mp:MP} (h:JP K cls te i mp):JA1 K cls te (.b i mp):=by
 intro Av G S₀ ρ σ S H Q s I e k
 unfold lS at e
 dsimp only at e
 obtain ⟨u,e1,rfl⟩:=Option.map_eq_some_iff.mp e
 unfold subAt at e1
 split at e1
 . rename_i t et
   split at e1
   . rename_i π eπ
     obtain ⟨v0,fp,hv,_⟩:=I.tree et
     exact h Av G S₀ ρ σ S H Q v0 t π I et hv eπ (by rw [e1]; rfl) fun w S1 H1 w1 wk=>k w S1 H1 w1 ⟨t,π,v0,et,eπ,e1,hv,wk⟩
   . cases e1
 . cases e1
theorem mO:JAI K cls kU []:=by
 intro Av G S₀ ρ σ S H Q ss I e k
 cases e
 exact k [] S H (bu.refl I.sh) ⟨rfl,rfl⟩
theorem ft {te:TE} {t:TA} {a:Arg} {as:List Arg} (h:JA1 K cls te a) (r:JAI K cls t as):JAI K cls (ja te t) (a ::as):=by
 intro Av G S₀ ρ σ S H Q ss I e k
 unfold jk at e
 obtain ⟨s,e1,e2⟩:=Option.bind_eq_some_iff.mp e
 obtain ⟨sr,e3,rfl⟩:=Option.map_eq_some_iff.mp e2
 refine h Av G S₀ ρ σ S H _ s I e1 fun v S1 H1 w1 h1=>?_
 refine r Av G S₀ ρ σ S1 H1 _ sr (I.grow w1) e3 fun vs S2 H2 w2 h2=>?_
 exact k (v ::vs) S2 H2 (w1.trans w2) ⟨s,sr,v,vs,rfl,rfl,h1.mono w2.s w2.g,h2⟩
end
section
variable {K:PySem.W.Frag} {cls:String -> Option Addr} {W:XW} {Av G S₀ S S' H H' B B':Hp} {ρ:ah} {σ:St} {Q:VK} {F Fc Fc':Nat -> List Addr}
noncomputable def dq:List Arg -> List Nat
 |[]=>[]
 |.t i _ ::as=>i ::dq as
 |_ ::as=>dq as
noncomputable def sd:List Arg -> List Nat
 |[]=>[]
 |.b i _ ::as=>i ::sd as
 |_ ::as=>sd as
noncomputable def argsOk (as:List Arg):Bool:=decide (dq as).Nodup&&(sd as).all fun i=>!(dq as).contains i
theorem gM {as:List Arg} {k i:Nat} {mp:MP} (h:as[k]?=some (.t i mp)):i∈dq as:=by
 induction as generalizing k with
 |nil=>simp at h
 | cons a as ih=>
   cases k with
   |zero=>simp at h; subst h; simp [dq]
   | succ k=>
     simp at h
     have:=ih h
     cases a<;>simp [dq,this]
theorem zw {as:List Arg} {k i:Nat} {mp:MP} (h:as[k]?=some (.b i mp)):i∈sd as:=by
 induction as generalizing k with
 |nil=>simp at h
 | cons a as ih=>
   cases k with
   |zero=>simp at h; subst h; simp [sd]
   | succ k=>
     simp at h
     have:=ih h
     cases a<;>simp [sd,this]
theorem mZ {as:List Arg} (nd:(dq as).Nodup) {j k i:Nat} {mp mp':MP} (h:as[j]?=some (.t i mp)) (h':as[k]?=some (.t i mp')):j=k:=by
 induction as generalizing j k with
 |nil=>simp at h
 | cons a as ih=>
   cases j with
   | zero=>
     simp at h
     subst h
     cases k with
     |zero=>rfl
     | succ k=>
       simp at h'
       have:=gM h'
       simp [dq] at nd
       exact absurd this nd.1
   | succ j=>
     cases k with
     | zero=>
       simp at h'
       subst h'
       simp at h
       have:=gM h
       simp [dq] at nd
       exact absurd this nd.1
     | succ k=>
       simp at h h'
       have nd':(dq as).Nodup:=by
        cases a with
        |t i' mp=>simp [dq] at nd; exact nd.2
        |e me=>exact nd
        |b i' mp=>exact nd
       rw [ih nd' h h']
theorem si {as:List Arg} {i:Nat} (h:i∈dq as):∃ (k:Nat) (mp:MP),as[k]?=some (.t i mp):=by
 induction as with
 |nil=>simp [dq] at h
 | cons a as ih=>
   cases a with
   | t j mp=>
     simp [dq] at h
     rcases h with h|h
     . subst h; exact ⟨0,mp,rfl⟩
     . obtain ⟨k,mp',e⟩:=ih h; exact ⟨k+1,mp',by simpa using e⟩
   |e me=>obtain ⟨k,mp',e⟩:=ih h; exact ⟨k+1,mp',by simpa using e⟩
   |b j mp=>obtain ⟨k,mp',e⟩:=ih h; exact ⟨k+1,mp',by simpa using e⟩
theorem tu {as:List Arg} {ρ₀:ah}:∀ {us:List (Option OV)} {ρ:ah} {i:Nat},i∉dq as -> (fj ρ₀ as us ρ)[i]?=ρ[i]?:=by
 induction as with
 |nil=>intro us ρ i _; rfl
 | cons a as ih=>
   intro us ρ i h
   unfold fj
   cases a with
   |e me=>rw [ih h]; rfl
   |b j mp=>rw [ih h]; rfl
   | t j mp=>
     simp [dq] at h
     rw [ih h.2]
     have:∀ x:Option Sl,(ρ.set j x)[i]?=ρ[i]?:=fun x=>List.getElem?_set_ne (Ne.symm h.1)
     cases us.head?.join with
     |none=>exact this _
     | some u=>
       unfold kg
       dsimp only
       split
       . split
         . exact this _
         . exact this _
       . exact this _
theorem zg {as:List Arg} {ρ₀:ah}:∀ {us:List (Option OV)} {ρ:ah} {i k:Nat} {mp:MP} {s:Sl},(dq as).Nodup -> as[k]?=some (.t i mp) -> (fj ρ₀ as us ρ)[i]?=some (some s) ->
  ∃ io t π u,us[k]?=some (some u) /\ ρ[i]?=some (some (.tr io t)) /\ mp ρ₀=some π /\ s=.tr io (t.put π u):=by
 induction as with
 |nil=>intro us ρ i k mp s _ h; simp at h
 | cons a as ih=>
   intro us ρ i k mp s nd h e
   unfold fj at e
   cases k with
   | zero=>
     simp at h
     subst h
     simp [dq] at nd
     rw [tu nd.1] at e
     cases us with
     | nil=>
       unfold kg at e
       simp at e
       rw [List.getElem?_set] at e
       simp at e
     | cons u us=>
       cases u with
       | none=>
         unfold kg at e
         simp at e
         rw [List.getElem?_set] at e
         simp at e
       | some u=>
         unfold kg at e
         simp only [List.head?_cons,Option.join_some] at e
         split at e
         . rename_i io t hi
           split at e
           . rename_i π hπ
             rw [List.getElem?_set] at e
             simp at e
             exact ⟨io,t,π,u,rfl,hi,hπ,e.2.symm⟩
           . rw [List.getElem?_set] at e
             simp at e
         . rw [List.getElem?_set] at e
           simp at e
   | succ k=>
     simp at h
     have nd':(dq as).Nodup:=by
      cases a with
      |t i' mp=>simp [dq] at nd; exact nd.2
      |e me=>exact nd
      |b i' mp=>exact nd
     obtain ⟨io,t,π,u,e1,e2,e3,e4⟩:=ih nd' h e
     refine ⟨io,t,π,u,?_,?_,e3,e4⟩
     . cases us with
       |nil=>simp at e1
       |cons _ us=>simpa using e1
     . cases a with
       |e me=>exact e2
       |b j mp=>exact e2
       | t j mp'=>
         have hij:i≠j:=by
          intro z
          subst z
          simp [dq] at nd
          exact nd.1 (gM h)
         have:∀ x:Option Sl,(ρ.set j x)[i]?=ρ[i]?:=fun x=>List.getElem?_set_ne (Ne.symm hij)
         cases q:us.head?.join with
         |none=>rw [q] at e2; unfold kg at e2; simp only at e2; rw [this] at e2; exact e2
         | some u=>
           rw [q] at e2
           unfold kg at e2
           simp only at e2
           split at e2
           . split at e2
             . rw [this] at e2; exact e2
             . rw [this] at e2; exact e2
           . rw [this] at e2; exact e2
theorem xG {as:List Arg} {ρ₀:ah}:∀ {us:List (Option OV)} {ρ:ah},(fj ρ₀ as us ρ).length=ρ.length:=by
 induction as with
 |nil=>intro us ρ; rfl
 | cons a as ih=>
   intro us ρ
   unfold fj
   rw [ih]
   unfold kg
   split
   . split
     . split<;>simp
     . simp
   . simp
   . rfl
theorem SR.Jo {as:List Arg} {ss:List Sl} {vs:List V} (I:SR K cls Av G S₀ ρ σ S H) (ok:argsOk as=true) (h:ARs K S H ρ σ as ss vs):
  ∃ Fc,Co K cls ss vs S H Fc /\ ∀ outs S' H' Fc',Cz K cls vs S H Fc outs S' H' Fc' -> SR K cls Av G S₀ (fj ρ as outs ρ) σ S' H':=by
 obtain ⟨F,J⟩:=I
 unfold argsOk at ok
 rw [Bool.and_eq_true,decide_eq_true_eq] at ok
 obtain ⟨nd,hb⟩:=ok
 have cell:∀ k:Nat,∃ d:List Addr×List Addr,(∀ i mp,as[k]?=some (.t i mp) -> ∃ io t π u v0 w,ss[k]?=some (.tr true u) /\ vs[k]?=some w /\ ρ[i]?=some (some (.tr io t)) /\ mp ρ=some π /\ t.get π=some u /\ σ[i]?=some (some v0) /\ bz K cls S H u w d.1 /\ (F i).Perm (d.1++d.2) /\ (d.1++d.2).Nodup /\ (io=true -> Av i=some (.lst [v0])) /\
   ∀ S' H' u' f',aJ S S' -> bz K cls S' H' u' w f' -> (∀ a∈d.2,∀ o,H a=some o -> H' a=some o) -> ∃ g,bz K cls S' H' (t.put π u') v0 g /\ g.Perm (f'++d.2)) /\ ((∀ i mp,as[k]?≠some (.t i mp)) -> d=([],[])):=by
  intro k
  by_cases hk:∃ i mp,as[k]?=some (.t i mp)
  . obtain ⟨i,mp,e⟩:=hk
    obtain ⟨s,w,es,ev,r⟩:=h.at e
    cases s with
    | tr io' u=>
      cases io' with
      |false=>exact r.elim
      | true=>
        obtain ⟨io,t,π,v0,h1,h2,h3,h4,h5⟩:=r
        obtain ⟨v,ev',ro,ndf,gs,hio⟩:=J.own i _ h1
        rw [h4] at ev'; cases ev'
        obtain ⟨w',f1,rest,wk,r1,p1,c1⟩:=ro.focus h3
        have:=h5.inj wk
        subst this
        refine ⟨(f1,rest),fun i' mp' e'=>?_,fun z=>absurd e (z i mp)⟩
        rw [e] at e'
        cases e'
        exact ⟨io,t,π,u,v0,w,es,ev,h1,h2,h3,h4,r1,p1,p1.nodup_iff.mp ndf,hio,c1⟩
    |sh x=>exact r.elim
    |ow x=>exact r.elim
    |ex c fs=>exact r.elim
    |bo x=>exact r.elim
  . exact ⟨([],[]),fun i mp e=>absurd ⟨i,mp,e⟩ hk,fun _=>rfl⟩
 obtain ⟨d,hd⟩:=Classical.axiomOfChoice cell
 have tOf:∀ k a,a∈(d k).1 -> ∃ i mp,as[k]?=some (.t i mp) /\ a∈F i:=by
  intro k a ha
  by_cases hk:∃ i mp,as[k]?=some (.t i mp)
  . obtain ⟨i,mp,e⟩:=hk
    obtain ⟨io,t,π,u,v0,w,_,_,_,_,_,_,_,p1,_⟩:=(hd k).1 i mp e
    exact ⟨i,mp,e,p1.mem_iff.mpr (List.mem_append_left _ ha)⟩
  . rw [(hd k).2 fun i mp e=>hk ⟨i,mp,e⟩] at ha; cases ha
 have hlen:=h.len
 have tI:∀ i a,a∈F i -> (∀ k mp,as[k]?=some (.t i mp) -> a∉(d k).1) -> ∀ k,a∉(d k).1:=by
  intro i a ha hn k hk
  obtain ⟨i',mp,e,ha'⟩:=tOf k a hk
  have:=J.apart i i' a ha ha'
  subst this
  exact hn k mp e hk
 refine ⟨fun k=>(d k).1,⟨J.sh,by rw [hlen.1,hlen.2],fun k s es=>?_,fun j k a h1 h2=>?_,fun k a ha=>?_⟩,fun outs S' H' Fc' E=>?_⟩
 . have hk:k<as.length:=by rw [<- hlen.1]; exact (List.getElem?_eq_some_iff.mp es).1
   obtain ⟨s',w,es',ev,r⟩:=h.at (k:=k) (a:=as[k]) (by simp [hk])
   rw [es] at es'; cases es'
   refine ⟨w,ev,?_⟩
   cases q:as[k] with
   | e me=>
     rw [q] at r
     have hz:=(hd k).2 fun i mp e=>by rw [List.getElem?_eq_getElem hk,q] at e; cases e
     cases s<;>first|exact r.elim|exact ⟨by rw [hz],r⟩
   | t i mp=>
     have eq:as[k]?=some (.t i mp):=by rw [List.getElem?_eq_getElem hk,q]
     obtain ⟨io,t,π,u,v0,w',es',ev',_,_,_,_,r1,_,nd1,_⟩:=(hd k).1 i mp eq
     rw [es] at es'; cases es'
     rw [ev] at ev'; cases ev'
     exact ⟨r1,(List.nodup_append.mp nd1).1⟩
   | b i mp=>
     have eq:as[k]?=some (.b i mp):=by rw [List.getElem?_eq_getElem hk,q]
     rw [q] at r
     have hz:=(hd k).2 fun i mp e=>by rw [eq] at e; cases e
     cases s with
     | bo u=>
       obtain ⟨t,π,v0,h1,h2,h3,h4,h5⟩:=r
       refine ⟨by rw [hz],?_⟩
       have nt:i∉dq as:=by
        have:=List.all_eq_true.mp hb i (zw eq)
        simpa using this
       have ro:∃ f,bz K cls S (minus H fun k=>(d k).1) t v0 f:=by
        unfold fF at h1
        cases q1:ρ[i]? with
        |none=>rw [q1] at h1; cases h1
        | some o=>
          cases o with
          |none=>rw [q1] at h1; cases h1
          | some s1=>
            rw [q1] at h1
            obtain ⟨v,ev',r⟩:=J.own i s1 q1
            rw [h4] at ev'; cases ev'
            cases s1 with
            | tr io t'=>
              cases h1
              exact ⟨_,r.1.mono (aJ.refl _) fun a ha o ho=>by
               rw [jt (tI i a ha fun k' mp' e'=>absurd (gM e') nt)]; exact ho⟩
            | bo t'=>
              cases h1
              obtain ⟨_,f,r⟩:=r
              exact ⟨f,r.mono (aJ.refl _) fun a ha o ho=>by
               rw [jt fun k' hk'=>?_]
               . exact J.gh _ _ ho
               . obtain ⟨i',mp',_,ha'⟩:=tOf k' a hk'
                 rw [(J.live i' a ha').2.1] at ho; cases ho⟩
            |sh x=>cases h1
            |ow x=>cases h1
            |ex c fs=>cases h1
       obtain ⟨f,ro⟩:=ro
       obtain ⟨w',f1,rest,wk,r1,_,_⟩:=ro.focus h3
       have:=h5.inj (wk.mono uD)
       subst this
       exact ⟨f1,r1⟩
     |sh x=>exact r.elim
     |ow x=>exact r.elim
     |ex c fs=>exact r.elim
     |tr io x=>exact r.elim
 . obtain ⟨i,mp,e1,m1⟩:=tOf j a h1
   obtain ⟨i',mp',e2,m2⟩:=tOf k a h2
   have:=J.apart i i' a m1 m2
   subst this
   exact mZ nd e1 e2
 . obtain ⟨i,mp,e1,m1⟩:=tOf k a ha
   exact ⟨(J.live i a m1).1,(J.live i a m1).2.2⟩
 .
  have noS:∀ i a,a∈F i -> (∀ k,a∉(d k).1) -> S' a=none:=fun i a ha hn=>by
   cases z:S' a with
   |none=>rfl
   | some o=>
     obtain ⟨⟨o',h1,_⟩,_,h3⟩:=J.live i a ha
     rcases E.new a (by rw [z]; simp) with y|y|⟨k,y⟩
     . exact absurd h3 y
     . rw [h1] at y; cases y
     . exact absurd y (hn k)
  have keep:∀ a o,(∀ k,a∉(d k).1) -> H a=some o -> H' a=some o:=fun a o hn ho=>E.keep a o (by rw [jt hn]; exact ho)
  have restOff:∀ k i mp,as[k]?=some (.t i mp) -> ∀ a∈(d k).2,a∈F i /\ ∀ k',a∉(d k').1:=fun k i mp e a ha=>by
   obtain ⟨io,t,π,u,v0,w,_,_,_,_,_,_,_,p1,nd1,_⟩:=(hd k).1 i mp e
   have m:a∈F i:=p1.mem_iff.mpr (List.mem_append_right _ ha)
   refine ⟨m,tI i a m fun k' mp' e' hk'=>?_⟩
   have:=mZ nd e e'
   subst this
   exact (List.nodup_append.mp nd1).2.2 a hk' a ha rfl
  have gcell:∀ k:Nat,∃ g:List Addr,∀ i mp u',as[k]?=some (.t i mp) -> outs[k]?=some (some u') -> ∀ io t π,ρ[i]?=some (some (.tr io t)) -> mp ρ=some π -> ∃ v0,σ[i]?=some (some v0) /\ (io=true -> Av i=some (.lst [v0])) /\ bz K cls S' H' (t.put π u') v0 g /\ g.Perm (Fc' k++(d k).2):=by
   intro k
   by_cases hk:∃ i mp u',as[k]?=some (.t i mp) /\ outs[k]?=some (some u')
   . obtain ⟨i,mp,u',e,eo⟩:=hk
     obtain ⟨io,t,π,u,v0,w,es,ev,h1,h2,h3,h4,r1,p1,nd1,hio,c1⟩:=(hd k).1 i mp e
     obtain ⟨w',ew,r',ndf'⟩:=E.out k u' eo
     rw [ev] at ew; cases ew
     obtain ⟨g,rg,pg⟩:=c1 S' H' u' (Fc' k) E.s r' fun a ha o ho=>keep a o (restOff k i mp e a ha).2 ho
     refine ⟨g,fun i' mp' u'' e' eo' io' t' π' h1' h2'=>?_⟩
     rw [e] at e'; cases e'
     rw [eo] at eo'; cases eo'
     rw [h1] at h1'; cases h1'
     rw [h2] at h2'; cases h2'
     exact ⟨v0,h4,hio,rg,pg⟩
   . exact ⟨[],fun i mp u' e eo=>absurd ⟨i,mp,u',e,eo⟩ hk⟩
  obtain ⟨g,hg⟩:=Classical.axiomOfChoice gcell
  have fcell:∀ i:Nat,∃ f:List Addr,(i∉dq as -> f=F i) /\ ∀ k mp,as[k]?=some (.t i mp) -> ((∃ io t π u',ρ[i]?=some (some (.tr io t)) /\ mp ρ=some π /\ outs[k]?=some (some u')) -> f=g k) /\ ((¬ ∃ io t π u',ρ[i]?=some (some (.tr io t)) /\ mp ρ=some π /\ outs[k]?=some (some u')) -> f=[]):=by
   intro i
   by_cases hi:i∈dq as
   . obtain ⟨k,mp,e⟩:=si hi
     by_cases hx:∃ io t π u',ρ[i]?=some (some (.tr io t)) /\ mp ρ=some π /\ outs[k]?=some (some u')
     . refine ⟨g k,fun z=>absurd hi z,fun k' mp' e'=>?_⟩
       have:=mZ nd e e'
       subst this
       rw [e] at e'; cases e'
       exact ⟨fun _=>rfl,fun z=>absurd hx z⟩
     . refine ⟨[],fun z=>absurd hi z,fun k' mp' e'=>?_⟩
       have:=mZ nd e e'
       subst this
       rw [e] at e'; cases e'
       exact ⟨fun z=>absurd z hx,fun _=>rfl⟩
   . exact ⟨F i,fun _=>rfl,fun k mp e=>absurd (gM e) hi⟩
  obtain ⟨F',hF'⟩:=Classical.axiomOfChoice fcell
  have memF:∀ i a,a∈F' i -> (i∉dq as /\ a∈F i /\ ∀ k,a∉(d k).1) \/ (∃ k mp,as[k]?=some (.t i mp) /\ F' i=g k /\ ((a∈Fc' k) \/ (a∈F i /\ ∀ k,a∉(d k).1)) /\ ∃ io t π u',ρ[i]?=some (some (.tr io t)) /\ mp ρ=some π /\ outs[k]?=some (some u')):=by
   intro i a ha
   by_cases hi:i∈dq as
   . obtain ⟨k,mp,e⟩:=si hi
     by_cases hx:∃ io t π u',ρ[i]?=some (some (.tr io t)) /\ mp ρ=some π /\ outs[k]?=some (some u')
     . have e1:=((hF' i).2 k mp e).1 hx
       refine .inr ⟨k,mp,e,e1,?_,hx⟩
       obtain ⟨io,t,π,u',h1,h2,h3⟩:=hx
       obtain ⟨v0,_,_,rg,pg⟩:=hg k i mp u' e h3 io t π h1 h2
       rw [e1] at ha
       rcases List.mem_append.mp (pg.mem_iff.mp ha) with z|z
       . exact .inl z
       . exact .inr (restOff k i mp e a z)
     . rw [((hF' i).2 k mp e).2 hx] at ha; cases ha
   . have e1:=(hF' i).1 hi
     rw [e1] at ha
     exact .inl ⟨hi,ha,tI i a ha fun k mp e=>absurd (gM e) hi⟩
  refine ⟨F',?_,J.s0.trans E.s,E.sh,fun b hbn=>?_,fun i s e=>?_,fun i j a h1 h2=>?_,fun i a ha=>?_,?_⟩
  . intro b u hu
    refine keep b u (fun k hk=>?_) (J.gh b u hu)
    obtain ⟨i,mp,_,m⟩:=tOf k b hk
    rw [(J.live i b m).2.1] at hu; cases hu
  . rcases E.new b hbn with z|z|⟨k,z⟩
    . exact J.new b z
    . exact .inr (J.gh.free z)
    . obtain ⟨i,mp,_,m⟩:=tOf k b z
      exact .inr (J.live i b m).2.1
  . by_cases hi:i∈dq as
    . obtain ⟨k,mp,ek⟩:=si hi
      obtain ⟨io,t,π,u,e1,e2,e3,rfl⟩:=zg nd ek e
      obtain ⟨v0,h1,hio,rg,pg⟩:=hg k i mp u ek e1 io t π e2 e3
      have e4:=((hF' i).2 k mp ek).1 ⟨io,t,π,u,e2,e3,e1⟩
      rw [e4]
      obtain ⟨w',ew,r',ndf'⟩:=E.out k u e1
      refine ⟨v0,h1,rg,pg.nodup_iff.mpr (List.nodup_append.mpr ⟨ndf',?_,fun a ha b hb' z=>?_⟩),fun a ha=>?_,hio⟩
      . obtain ⟨_,_,_,_,_,_,_,_,_,_,_,_,_,_,nd1,_⟩:=(hd k).1 i mp ek
        exact (List.nodup_append.mp nd1).2.1
      . subst z
        obtain ⟨m,off⟩:=restOff k i mp ek a hb'
        have:=(E.live k a ha).1
        rw [jt off] at this
        obtain ⟨⟨o,ho,_⟩,_⟩:=J.live i a m
        rw [this] at ho; cases ho
      . rcases List.mem_append.mp (pg.mem_iff.mp ha) with z|z
        . refine ⟨?_,(E.live k a z).2⟩
          rcases mT (E.live k a z).1 with y|⟨k',y⟩
          . exact J.gh.free y
          . obtain ⟨i',mp',_,m⟩:=tOf k' a y
            exact (J.live i' a m).2.1
        . obtain ⟨m,off⟩:=restOff k i mp ek a z
          exact ⟨(J.live i a m).2.1,noS i a m off⟩
    . rw [tu hi] at e
      obtain ⟨v,ev,r⟩:=J.own i s e
      rw [(hF' i).1 hi]
      have off:∀ a∈F i,∀ k,a∉(d k).1:=fun a ha=>tI i a ha fun k mp e=>absurd (gM e) hi
      exact ⟨v,ev,r.mono E.s (fun a ha o ho=>keep a o (off a ha) ho) (fun b o hx ho=>keep b o (fun k hk=>by
       obtain ⟨i',mp',_,m⟩:=tOf k b hk
       obtain ⟨⟨o',h1,h2⟩,_⟩:=J.live i' b m
       rw [ho] at h1; cases h1; rw [hx] at h2; cases h2) ho) fun a ha=>noS i a ha (off a ha)⟩
  .
   have key:∀ i j a,a∈F' i -> a∈F' j -> (∃ k,a∈Fc' k) -> ∃ k mp,as[k]?=some (.t i mp) /\ a∈Fc' k:=by
    intro i j a ha _ ⟨k0,hk0⟩
    have no:∀ i',a∈F i' -> ¬ ∀ k,a∉(d k).1:=fun i' m off=>by
     have:=(E.live k0 a hk0).1
     rw [jt off] at this
     obtain ⟨⟨o,ho,_⟩,_⟩:=J.live i' a m
     rw [this] at ho; cases ho
    rcases memF i a ha with ⟨_,m,off⟩|⟨k,mp,e,_,z,_⟩
    . exact absurd off (no i m)
    . rcases z with z|⟨m,off⟩
      . exact ⟨k,mp,e,z⟩
      . exact absurd off (no i m)
   by_cases hk:∃ k,a∈Fc' k
   . obtain ⟨k1,mp1,e1,z1⟩:=key i j a h1 h2 hk
     obtain ⟨k2,mp2,e2,z2⟩:=key j i a h2 h1 hk
     have:=E.apart k1 k2 a z1 z2
     subst this
     rw [e1] at e2; cases e2; rfl
   . have fromF:∀ i,a ∈ F' i -> a ∈ F i:=fun i ha=>by
      rcases memF i a ha with ⟨_,m,_⟩|⟨k,mp,e,_,z,_⟩
      . exact m
      . rcases z with z|⟨m,_⟩
        . exact absurd ⟨k,z⟩ hk
        . exact m
     exact J.apart i j a (fromF i h1) (fromF j h2)
  . rcases memF i a ha with ⟨_,m,off⟩|⟨k,mp,e,eg,z,io,t,π,u',x1,x2,x3⟩
    . obtain ⟨⟨o,ho,hx⟩,hg',_⟩:=J.live i a m
      exact ⟨⟨o,keep a o off ho,hx⟩,hg',noS i a m off⟩
    . obtain ⟨v0,_,_,rg,pg⟩:=hg k i mp u' e x3 io t π x1 x2
      rw [eg] at ha
      refine ⟨rg.live a ha,?_⟩
      rcases z with z|⟨m,off⟩
      . refine ⟨?_,(E.live k a z).2⟩
        rcases mT (E.live k a z).1 with y|⟨k',y⟩
        . exact J.gh.free y
        . obtain ⟨i',mp',_,m⟩:=tOf k' a y
          exact (J.live i' a m).2.1
      . exact ⟨(J.live i a m).2.1,noS i a m off⟩
  . rw [xG]; exact J.len
end
end L2.P
namespace L2.E
open PySem PySem.Spec PyProof.Rows L2
section
variable {X:Cx} {k:Nat} {f C:Addr} {fd:FuncData} {ps:List Str} {sp:Sp} {ds:List Value} {W:XW} {x m:Str} {p pos apos:Pos} {e o:Expr} {es:List Expr} {ta:TE} {t:TA}
noncomputable def wm (C:Addr) (m:Str) (sp:Sp) (W:XW) (ta:TE) (t:TA):TE:=fun σ H Q=>ta σ H fun x H1=>∃ a dx fs,x=.ref a /\ H1 a=some (.ins C dx fs) /\ fs.lookup m=none /\
 t σ H1 fun vs H2=>sp (x ::vs) H2 Q fun C a H'=>W C a σ H'
theorem yB {pl:Sem Bool} (he:QE X o ta) (c:Cls X.K C) (hm:Meth X.K C m f) (F:cA X.prog X.w X.K X.mg X.base (CXE X.prog X.w) k f fd ps sp) (hr:gY k X.A) (hb:Binds X.K fd ps []) (hx:Thr X W) (ha:QA X (e ::es) t)
  (hst:starEach (e ::es) X.env=(false,eval e X.env) ::starEach es X.env:=by rfl) (hpl:(backTo pos (starEach es X.env)).any (·.1)=false:=by rfl)
  (ht:eval (.Call (.Attribute o m apos) (e ::es) [] pos) X.env=(do
    let ov <- eval o X.env
    standAt apos.atName
    let (f,first) <- holding [ov] (getMethod ov m pl)
    callWith pos f first (backTo pos (starEach (e ::es) X.env)) (backToKw pos (keywordEach [] X.env))):=by rfl):
  QE X (.Call (.Attribute o m apos) (e ::es) [] pos) (wm C m sp W ta t):=⟨by
 intro pins s σ H Q I h
 refine PySem.W.methodCall_KW (pl:=pl) (thn (he.out pins s σ H _ I h) fun u s1 ⟨x,H1,I1,rx,a,dx,fs,ex,ea,l,q⟩=>?_) ht
 subst ex
 obtain rfl:u=Value.ref a:=rx
 refine uG I1 ea c hm l ?_
 refine PySem.W.callWith_K (first:=[.ref a]) (h₀:=X.base) I.ok.mod.kin hm.kp (thn (ha.out pos pins s1 σ H1 _ I1 q) fun us s2 ⟨vs,H2,I2,r,q2⟩=>⟨I2.kIn,?_⟩) hst hpl
 exact tR (us:=.ref a ::us) (vs:=.ref a ::vs) (dvs:=[]) F hr hb .nil hx I2 (.cons rfl r) (by rw [List.append_nil]; exact q2)⟩
theorem vv {pl:Sem Bool} (he:QE X o ta) (c:Cls X.K C) (hm:Meth X.K C m f) (F:cA X.prog X.w X.K X.mg X.base (CXE X.prog X.w) k f fd ps sp) (hr:gY k X.A) (hb:Binds X.K fd ps []) (hx:Thr X W)
  (ht:eval (.Call (.Attribute o m apos) [] [] pos) X.env=(do
    let ov <- eval o X.env
    standAt apos.atName
    let (f,first) <- holding [ov] (getMethod ov m pl)
    callWith pos f first (backTo pos (starEach [] X.env)) (backToKw pos (keywordEach [] X.env))):=by rfl):
  QE X (.Call (.Attribute o m apos) [] [] pos) (wm C m sp W ta kU):=⟨by
 intro pins s σ H Q I h
 refine PySem.W.methodCall_KW (pl:=pl) (thn (he.out pins s σ H _ I h) fun u s1 ⟨x,H1,I1,rx,a,dx,fs,ex,ea,l,q⟩=>?_) ht
 subst ex
 obtain rfl:u=Value.ref a:=rx
 refine uG I1 ea c hm l ?_
 exact PySem.W.callWith_K0 (first:=[.ref a]) I1.kIn hm.kp (tR (us:=[.ref a]) (vs:=[.ref a]) (dvs:=[]) F hr hb .nil hx I1 (.cons rfl .nil) q)⟩
theorem vo {x:Str} (F:cA X.prog X.w X.K X.mg X.base (CXE X.prog X.w) k f fd ps sp) (hr:gY k X.A) (hg:Gl X x) (hm:X.mg x=some (.ref f)) (hk:PySem.W.keepIn X.K (.ref f)=true) (hb:Binds X.K fd ps []) (hx:Thr X W)
  (hdb:(x==("__debug__":Str))=false:=by decide):QE X (.Call (.Name x p) [] [] pos) (qy sp [] W kU):=⟨B5 F hr hg hm hk hb .nil hx hdb⟩
theorem DY (M:Mk X.K C f) (F:cA X.prog X.w X.K X.mg X.base (CXE X.prog X.w) k f fd ps sp) (hr:gY (k+1) X.A) (hg:Gl X x) (hm:X.mg x=some (.ref C)) (hb:Binds X.K fd ps []) (hdb:(x==("__debug__":Str))=false:=by decide):
  QE X (.Call (.Name x p) [] [] pos) (Cp C sp [] (fun _ _ _=>False) kU):=⟨Cm M F hr hg hm hb .nil (fun pins σ H s e s' I h=>by obtain ⟨a,C,dx,H',_,_,_,_,_,_,z⟩:=h; exact z.elim) hdb⟩
theorem uK {f:Str} (he:QE X e ta) (hb:attributeBase e f X.env (eval e X.env)=eval e X.env:=by rfl):QE X (.Attribute e f pos) (G0 X.K ta f):=⟨Il he.out hb⟩
theorem IZ {f:Str} {value:Expr} {tv:TE} {pos':Pos} (ha:QE X o ta) (hv:QE X value tv) (hs:swapsWith value (some (.Attribute o f pos')) pos.line X.env=pure false:=by rfl):QS X (.Assign [.Attribute o f pos'] value pos) (HU X.K ta tv f):=⟨GV ha.out hv.out hs⟩
end
end L2.E
namespace L2.P
open PySem PySem.Spec PyProof.Rows L2 L2.E
section
variable {K:PySem.W.Frag} {cls:String -> Option Addr} {W:XW} {Av G S₀ S S' H H' B B':Hp} {ρ:ah} {σ:St} {Q:VK} {F Fc Fc':Nat -> List Addr}
theorem SR.more {x:PV} {v:V} (I:SR K cls Av G S₀ ρ σ S H) (h:Rep K S x v):SR K cls Av G S₀ (ρ++[some (.sh x)]) (σ++[some v]) S H:=by
 obtain ⟨F,J⟩:=I
 exact J.more (fp:=[]) (fun t e=>by cases e; exact ⟨v,rfl,rfl,h⟩) (fun a ha=>nomatch ha) fun j a _ ha=>nomatch ha
theorem vb {f:List Sl -> OI} {as:List Arg} {ss:List Sl} {vs:List V} {S1 H1:Hp} (ok:argsOk as=true) (I:SR K cls Av G S₀ ρ σ S1 H1) (s1:aJ S S1) (ar:ARs K S1 H1 ρ σ as ss vs)
  (p:Ge K cls W Av G S₀ σ S Q (match f ss with
    |.ok x outs=>.ok (fj ρ as outs ρ) (.sh x)
    |.exc c fs outs=>.exc (fj ρ as outs ρ) c fs
    |.bad=>.bad)):spI K cls f vs H1 Q fun C a H'=>W C a σ H':=by
 obtain ⟨Fc,A,fin⟩:=I.Jo ok ar
 refine ⟨S1,ss,Fc,A,?_⟩
 cases e:f ss with
 |bad=>rw [e] at p; exact p
 |ok x outs=>rw [e] at p; exact fun v S' H' Fc' E r=>p v S' H' ((fin outs S' H' Fc' E).more r) (s1.trans E.s)
 |exc c fs outs=>rw [e] at p; exact fun a C S' H' Fc' E r=>p a C S' H' (fin outs S' H' Fc' E) (s1.trans E.s) r
theorem uS {f:List Sl -> OI} {as:List Arg} {t:TA} (ok:argsOk as=true) (h:JAI K cls t as):JX K cls W (qy (spI K cls f) [] W t) (jb f as):=by
 intro Av G S₀ ρ σ S H Q I p
 unfold jb at p
 cases e:jk as ρ with
 |none=>rw [e] at p; exact p.elim
 | some ss=>
   rw [e] at p
   refine h Av G S₀ ρ σ S H _ ss I e fun vs S1 H1 w1 ar=>?_
   show spI K cls f (vs++[]) H1 Q _
   rw [List.append_nil]
   exact vb ok (I.grow w1) w1.s ar p
theorem Af {c:String} {m:Str} {C:Addr} {a:Arg} {s:Sl} {v:V} (hc:cls c=some C) (I:SR K cls Av G S₀ ρ σ S H) (r:AR1 K S H ρ σ a s v) (h:recv c m (some s)=true):∃ q dx us,v=.ref q /\ H q=some (.ins C dx us) /\ us.lookup m=none:=by
 have main:∀ (ks:List Str) (ts:List OV) (f:List Addr),(c==c && !ks.contains m)=true -> bz K cls S H (.ob c ks ts) v f -> ∃ q dx us,v=.ref q /\ H q=some (.ins C dx us) /\ us.lookup m=none:=by
  intro ks ts f hk ro
  unfold bz at ro
  obtain ⟨q,C',dx,us,ff,rfl,hcl,hq,hd,hks,rfl,rs⟩:=ro
  rw [hc] at hcl; cases hcl
  refine ⟨q,dx,us,rfl,hq,?_⟩
  have hn:m∉us.map (·.1):=by rw [hks]; simpa using hk
  clear hks hk rs hq
  induction us with
  |nil=>rfl
  | cons p us ih=>
    obtain ⟨g,y⟩:=p
    simp at hn
    have:(m==g)=false:=by simpa using hn.1
    simp [List.lookup,this,ih (by simpa using hn.2)]
 cases a with
 |e me=>cases s<;>first|exact r.elim|cases h
 | t i mp=>
   cases s with
   | tr io u=>
     cases io with
     |false=>cases h
     | true=>
       cases u with
       |sh x=>cases h
       |ol ts=>cases h
       |di x=>cases h
       |dt x=>cases h
       | ob c' ks ts=>
         obtain ⟨io,t,π,v0,h1,h2,h3,h4,h5⟩:=r
         have h':(c'==c && !ks.contains m)=true:=h
         have hcc:c'=c:=by rw [Bool.and_eq_true] at h'; simpa using h'.1
         subst hcc
         obtain ⟨v',fp,ev,ro⟩:=I.tree (i:=i) (t:=t) (by unfold fF; rw [h1]; rfl)
         rw [h4] at ev; cases ev
         obtain ⟨w,f1,rest,wk,r1,_,_⟩:=ro.focus h3
         have:=h5.inj wk
         subst this
         exact main ks ts f1 h' r1
   |sh x=>exact r.elim
   |ow x=>exact r.elim
   |ex c fs=>exact r.elim
   |bo x=>exact r.elim
 | b i mp=>
   cases s with
   | bo u=>
     cases u with
     |sh x=>cases h
     |ol ts=>cases h
     |di x=>cases h
     |dt x=>cases h
     | ob c' ks ts=>
       obtain ⟨t,π,v0,h1,h2,h3,h4,h5⟩:=r
       have h':(c'==c && !ks.contains m)=true:=h
       have hcc:c'=c:=by rw [Bool.and_eq_true] at h'; simpa using h'.1
       subst hcc
       obtain ⟨v',fp,ev,ro⟩:=I.tree h1
       rw [h4] at ev; cases ev
       obtain ⟨w,f1,rest,wk,r1,_,_⟩:=ro.focus h3
       have:=h5.inj wk
       subst this
       exact main ks ts f1 h' r1
   |sh x=>exact r.elim
   |ow x=>exact r.elim
   |ex c fs=>exact r.elim
   |tr io x=>exact r.elim
theorem yS {c:String} {m:Str} {C:Addr} {f:List Sl -> OI} {a:Arg} {as:List Arg} {ta:TE} {t:TA} (hc:cls c=some C) (ok:argsOk (a ::as)=true) (ha:JA1 K cls ta a) (h:JAI K cls t as):JX K cls W (wm C m (spI K cls f) W ta t) (oi c m f (a ::as)):=by
 intro Av G S₀ ρ σ S H Q I p
 unfold oi at p
 dsimp only at p
 split at p
 . rename_i hr
   unfold jb at p
   cases e:jk (a ::as) ρ with
   |none=>rw [e] at p; exact p.elim
   | some ss=>
     rw [e] at p
     have e':=e
     unfold jk at e'
     obtain ⟨s,e1,e2⟩:=Option.bind_eq_some_iff.mp e'
     obtain ⟨sr,e3,rfl⟩:=Option.map_eq_some_iff.mp e2
     rw [e1] at hr
     refine ha Av G S₀ ρ σ S H _ s I e1 fun v S1 H1 w1 r1=>?_
     have I1:=I.grow w1
     obtain ⟨q,dx,us,rfl,hq,hl⟩:=Af hc I1 r1 hr
     refine ⟨q,dx,us,rfl,hq,hl,?_⟩
     refine h Av G S₀ ρ σ S1 H1 _ sr I1 e3 fun vs S2 H2 w2 ar=>?_
     exact vb (ss:=s ::sr) ok (I1.grow w2) (w1.s.trans w2.s) ⟨s,sr,_,vs,rfl,rfl,r1.mono w2.s w2.g,ar⟩ p
 . exact p.elim
theorem ze {f:List Sl -> OI} {as:List Arg} {ss:List Sl} {vs:List V} (ok:dq as=[]) (I:SR K cls Av G S₀ ρ σ S H) (ar:ARs K S H ρ σ as ss vs)
  (p:lx K cls W σ S H Q (match f ss with
    |.ok x _=>.ok (.sh x)
    |.exc c fs _=>.exc c fs
    |.bad=>.bad)):spI K cls f vs H Q fun C a H'=>W C a σ H':=by
 have hm:minus H (fun _=>[])=H:=by funext a; exact jt fun k h=>nomatch h
 have hlen:=ar.len
 refine ⟨S,ss,fun _=>[],⟨I.sh,by rw [hlen.1,hlen.2],fun k s es=>?_,fun j k a h=>(nomatch h),fun k a h=>(nomatch h)⟩,?_⟩
 . have hk:k<as.length:=by rw [<- hlen.1]; exact (List.getElem?_eq_some_iff.mp es).1
   obtain ⟨s',w,es',ev,r⟩:=ar.at (k:=k) (a:=as[k]) (by simp [hk])
   rw [es] at es'; cases es'
   refine ⟨w,ev,?_⟩
   cases q:as[k] with
   | e me=>
     rw [q] at r
     cases s<;>first|exact r.elim|exact ⟨rfl,r⟩
   | t i mp=>
     have:=gM (as:=as) (k:=k) (i:=i) (mp:=mp) (by rw [List.getElem?_eq_getElem hk,q])
     rw [ok] at this; cases this
   | b i mp=>
     rw [q] at r
     cases s with
     | bo u=>
       obtain ⟨t,π,v0,h1,h2,h3,h4,h5⟩:=r
       obtain ⟨v',fp,ev',ro⟩:=I.tree h1
       rw [h4] at ev'; cases ev'
       obtain ⟨w',f1,rest,wk,r1,_,_⟩:=ro.focus h3
       have:=h5.inj wk
       subst this
       exact ⟨rfl,f1,by rw [hm]; exact r1⟩
     |sh x=>exact r.elim
     |ow x=>exact r.elim
     |ex c fs=>exact r.elim
     |tr io x=>exact r.elim
 . have gr:∀ {outs S' H' Fc'},Cz K cls vs S H (fun _=>[]) outs S' H' Fc' -> bu S H S' H':=fun {outs S' H' Fc'} E=>⟨E.s,by have:=E.keep; rwa [hm] at this,E.sh,fun b hb=>by
    rcases E.new b hb with z|z|⟨k,z⟩
    . exact .inl z
    . exact .inr z
    . cases z⟩
   cases e:f ss with
   |bad=>rw [e] at p; exact p
   |ok x outs=>rw [e] at p; exact fun v S' H' Fc' E r=>p v S' H' (gr E) r
   |exc c fs outs=>rw [e] at p; exact fun a C S' H' Fc' E r=>p a C S' H' (gr E) r
theorem xT {c:String} {m:Str} {C:Addr} {f:List Sl -> OI} {a:Arg} {as:List Arg} {ta:TE} {t:TA} (hc:cls c=some C) (ok:dq (a ::as)=[]) (ha:JA1 K cls ta a) (h:JAI K cls t as):JE K cls W (wm C m (spI K cls f) W ta t) (mU c m f (a ::as)):=by
 intro Av G S₀ ρ σ S H Q I p
 unfold mU at p
 dsimp only at p
 split at p
 . rename_i hr
   unfold xv at p
   cases e:jk (a ::as) ρ with
   |none=>rw [e] at p; exact p.elim
   | some ss=>
     rw [e] at p
     have e':=e
     unfold jk at e'
     obtain ⟨s,e1,e2⟩:=Option.bind_eq_some_iff.mp e'
     obtain ⟨sr,e3,rfl⟩:=Option.map_eq_some_iff.mp e2
     rw [e1] at hr
     refine ha Av G S₀ ρ σ S H _ s I e1 fun v S1 H1 w1 r1=>?_
     have I1:=I.grow w1
     obtain ⟨q,dx,us,rfl,hq,hl⟩:=Af hc I1 r1 hr
     refine ⟨q,dx,us,rfl,hq,hl,?_⟩
     refine h Av G S₀ ρ σ S1 H1 _ sr I1 e3 fun vs S2 H2 w2 ar=>?_
     exact ze (ss:=s ::sr) ok (I1.grow w2) ⟨s,sr,_,vs,rfl,rfl,r1.mono w2.s w2.g,ar⟩ (p.back (w1.trans w2))
 . exact p.elim
theorem Fl {c:String} {C:Addr} {f:List Sl -> OI} (hc:cls c=some C):JD K cls W (Cp C (spI K cls f) [] (fun _ _ _=>False) kU) (vK c f):=by
 intro Av G S₀ ρ σ S H Q I p
 unfold vK at p
 show ∀ x dx,H x=none -> H dx=none -> dx≠x -> _
 intro x dx hx hdx ne
 have gS:∀ a,H a=none -> S a=none:=fun a h=>I.sh.free h
 let H1:=upd (upd H dx (.own x)) x (.ins C dx [])
 have h1x:H1 x=some (.ins C dx []):=bQ
 have h1d:H1 dx=some (.own x):=by show upd _ x _ dx=_; rw [bJ ne,bQ]
 have h1o:∀ a,a≠x -> a≠dx -> H1 a=H a:=fun a n1 n2=>by show upd _ x _ a=_; rw [bJ n1,bJ n2]
 let Fc:Nat -> List Addr:=fun k=>if k=0 then [x,dx] else []
 have mF:∀ k a,a∈Fc k -> k=0 /\ (a=x \/ a=dx):=fun k a h=>by
  have h':a∈(if k=0 then [x,dx] else []):=h
  split at h'
  . rename_i e; exact ⟨e,by simpa using h'⟩
  . cases h'
 have A:Co K cls [.tr true (.ob c [] [])] [.ref x] S H1 Fc:=by
  refine ⟨fun b u h=>?_,rfl,fun k s e=>?_,fun j k a h1 h2=>?_,fun k a h=>?_⟩
  . have hb:=I.sh b u h
    rw [h1o b (fun z=>by rw [z,hx] at hb; cases hb) (fun z=>by rw [z,hdx] at hb; cases hb)]; exact hb
  . cases k with
    | zero=>
      cases e
      refine ⟨.ref x,rfl,?_,?_⟩
      . unfold bz
        exact ⟨x,C,dx,[],[],rfl,hc,h1x,h1d,rfl,rfl,.nil⟩
      . show [x,dx].Nodup
        simp [Ne.symm ne]
    |succ k=>simp at e
  . rw [(mF j a h1).1,(mF k a h2).1]
  . rcases (mF k a h).2 with z|z
    . subst z; exact ⟨⟨_,h1x,rfl⟩,gS _ hx⟩
    . subst z; exact ⟨⟨_,h1d,rfl⟩,gS _ hdx⟩
 refine ⟨S,_,Fc,A,?_⟩
 have free:∀ a,minus H1 Fc a=none -> H a=none:=fun a h=>by
  rcases mT h with z|⟨k,z⟩
  . by_cases n1:a=x
    . rw [n1]; exact hx
    . by_cases n2:a=dx
      . rw [n2]; exact hdx
      . rw [h1o a n1 n2] at z; exact z
  . rcases (mF k a z).2 with y|y
    . rw [y]; exact hx
    . rw [y]; exact hdx
 cases e:f [.tr true (.ob c [] [])] with
 |bad=>rw [e] at p; exact p.elim
 |exc c fs outs=>rw [e] at p; exact p.elim
 | ok y outs=>
   rw [e] at p
   cases y with
   | non=>
     cases outs with
     |nil=>exact p.elim
     | cons o outs=>
       cases o with
       |none=>exact p.elim
       | some t=>
         dsimp only at p
         intro v S' H' Fc' E r
         unfold Rep at r
         refine ⟨r,p (.ref x) S' H' ⟨E.s,fun b u h=>?_,E.sh,fun b h=>?_⟩ ?_⟩
         . have n1:b≠x:=fun z=>by rw [z,hx] at h; cases h
           have n2:b≠dx:=fun z=>by rw [z,hdx] at h; cases h
           refine E.keep b u ?_
           rw [jt fun k z=>?_]
           . exact (h1o b n1 n2).trans h
           . rcases (mF k b z).2 with y|y
             . exact n1 y
             . exact n2 y
         . rcases E.new b h with z|z|⟨k,z⟩
           . exact .inl z
           . refine .inr ?_
             by_cases n1:b=x
             . rw [n1]; exact hx
             . by_cases n2:b=dx
               . rw [n2]; exact hdx
               . exact (h1o b n1 n2).symm.trans z
           . rcases (mF k b z).2 with y|y
             . rw [y]; exact .inr hx
             . rw [y]; exact .inr hdx
         . obtain ⟨u,eu,ro,nd⟩:=E.out 0 t rfl
           cases eu
           exact ⟨Fc' 0,ro,nd,fun a ha=>⟨free a (E.live 0 a ha).1,(E.live 0 a ha).2⟩⟩
   |bl b=>exact p.elim
   |int b=>exact p.elim
   |str b=>exact p.elim
   |lst b=>exact p.elim
   |tup b=>exact p.elim
end
end L2.P
namespace L2.E
open PySem PySem.Spec PyProof.Rows L2
noncomputable def rq (wi:TI) (ι:List Nat) (tc:TT) (te:TE):TE:=fun σ H Q=>wi σ H fun J H1=>∀ D,H1 D=none -> ∃ W:Nat -> Nat -> List V -> Hp -> Prop,(∃ m,W 0 m [] (upd H1 D (.lst []))) /\ ∀ i m ys H,W i m ys H ->
 H D=some (.lst ys) /\ ((J.stop i H /\ Q (.ref D) H) \/ (J.go i H /\ ∀ x H',J.yld i H x H' -> tc (pick ι σ++[some x]) H' fun b H3=>H3 D=some (.lst ys) /\ if b=true then
   te (pick ι σ++[some x]) H3 fun y H2=>H2 D=some (.lst ys) /\ ys.length<sizeLine /\ ∃ m',m'<m /\ W (i+1) m' (ys++[y]) (upd H2 D (.lst (ys++[y]))) else ∃ m',m'<m /\ W (i+1) m' ys H3))
section
variable {X:Cx} {scope:Scope} {cl:List (Str×Addr)} {M:List Str} {ι:List Nat} {x:Str}
theorem BE {elt iter c:Expr} {px pos:Pos} {wi:TI} {tc:TT} {te:TE} (S:kR X scope cl M ι x) (hc:X.calm=true) (hi:PI X (.Name x px) iter wi) (hcd:∀ C s₀ H₀ ex,PT (blk X scope cl (M++[x]) C s₀ H₀ ex) c tc) (he:∀ C s₀ H₀ ex,PE (blk X scope cl (M++[x]) C s₀ H₀ ex) elt te)
  (hs:∀ v,foldedSetIterable iter X.env v=pure v:=by intro _; rfl):PE X (.ListComp elt [⟨.Name x px,iter,[c],0⟩] scope pos) (rq wi ι tc te):=by
 intro pins s σ H Q I h
 rw [eval_ListComp]
 refine wpAny_comprehension_free (use:=none) rfl hs S.clos S.kind (fun y hy hl=>?_) (wpAny_mono (hi pins s σ H _ I h) (fun v s1 h1=>wpAny_mono h1 (fun itv s2 h2=>?_) fun _ _ z=>z) fun _ _ z=>z)
 . have q:=List.all_eq_true.mp S.locs y hy
   rw [hl] at q
   simpa using q
 obtain ⟨it,fp,tn,J,H2,rfl,I2,T,st2,f2,hW⟩:=h2
 have I3:=I2.C6 (ys:=[]) (its:=[]) (t':=s2.toks) .nil (Nat.zero_le _)
 obtain ⟨W,⟨m0,w0⟩,turn⟩:=hW s2.heap.objs.size I2.fresh
 have fpo:∀ b∈fp,b<s2.heap.objs.size:=fun b hb=>let ⟨_,e,_⟩:=T.obj _ _ st2 b hb; Heap.lt_size e
 have f3:∀ b∈fp,mH X pins (upd H2 s2.heap.objs.size (.lst [])) b:=fun b hb=>by
  obtain ⟨q0,q⟩:=f2 b hb
  exact ⟨by rw [bJ (Nat.ne_of_lt (fpo b hb))]; exact q0,q⟩
 show wpAny _ _ (newObj (.type "list") _ none) _ _ s2
 refine wpAny_newObj_type (wpAny_newFunctionEnv (fun y hy=>?_) (by intro y hy; simp at hy) (fun h₁ hn₁ sb₁=>?_) S.kind)
 . have q:=List.all_eq_true.mp S.nocell y hy
   simpa using q
 have hsz:(s2.heap.push { cls:=.type "list",dict:=none,data:=.seq ([]:List Value).toArray }).objs.size=s2.heap.objs.size+1:=Heap.size_push ..
 have hk₁:∀ b o,(s2.heap.push { cls:=.type "list",dict:=none,data:=.seq ([]:List Value).toArray }).get? b=some o -> h₁.get? b=some o:=fun b o e=>
  (sb₁.2 b (Nat.ne_of_lt (Heap.lt_size e))).trans (Heap.get?_push_of_some _ e)
 have J0:=wt (t':=s2.toks+([]:List (Str×Value)).length) S I3 (ex:=fp) (fun b hb=>⟨f3 b hb,Nat.lt_of_lt_of_le (fpo b hb) (by rw [hsz]; exact Nat.le_succ _)⟩) hn₁ hk₁
 have old:∀ b∈fp,∀ o,s2.heap.get? b=some o -> h₁.get? b=some o:=fun b _ o e=>hk₁ b o (Heap.get?_push_of_some _ e)
 have st₁:tn 0 h₁:=T.keep _ _ _ st2 old
 have loop:codeAny (model X.prog X.w) X.A (.compLoop (.ListComp elt [⟨.Name x px,iter,[c],0⟩] scope pos) 0 (.ref it) (.ref s2.heap.objs.size) (compEnvC scope cl (s2.heap.objs.size+1) X.env))
   (compPost (model X.prog X.w) X.A X.xe none (EP X pins σ Q) (.ref s2.heap.objs.size) (s2.heap.objs.size+1)) { s2 with heap:=h₁,toks:=s2.toks+([]:List (Str×Value)).length }:=by
  rw [hsz] at J0
  refine codeAny_loop rfl (fun n s'=>∃ i H' ys v,Inv (blk X scope cl (M++[x]) (s2.heap.objs.size+1) { s2 with heap:=s2.heap.push { cls:=.type "list",data:=.seq ([]:List Value).toArray },toks:=s2.toks } (upd H2 s2.heap.objs.size (.lst [])) fp) [] (pick ι σ++[v]) H' s' /\ tn i s'.heap /\ (∀ b∈fp,H' b=none) /\ W i n ys H')
   (fun n s' hI=>?_) m0 ⟨0,_,[],none,J0,st₁,fun b hb=>(f3 b hb).1,w0⟩
  obtain ⟨i,H',ys,v,J',st',fr',w'⟩:=hI
  obtain ⟨hD,alt⟩:=turn i n ys H' w'
  have fpY:∀ {G:Hp},(∀ b∈fp,G b=none) -> ∀ b∈fp,mH (blk X scope cl (M++[x]) (s2.heap.objs.size+1) { s2 with heap:=s2.heap.push { cls:=.type "list",data:=.seq ([]:List Value).toArray },toks:=s2.toks } (upd H2 s2.heap.objs.size (.lst [])) fp) [] G b:=fun hG b hb=>
   ⟨hG b hb,(J'.ok.exf b hb).1,J'.ok.exfs b hb,.inl hb,(J'.ok.exf b hb).2,fun p hp=>absurd (show p∈([]:List (Addr×Obj)) from hp) (by simp)⟩
  show wpAny _ _ ((compTurn _ 0 (.ref it) (.ref s2.heap.objs.size) (compEnvC scope cl (s2.heap.objs.size+1) X.env)).onRaise _) _ _ s'
  refine wpAny_noted (wpAny_noRaise ?_)
  rw [compTurn_list]
  refine wpAny_bind (wpAny_standAt (wpAny_bind ?_))
  rcases alt with ⟨stop,qn⟩|⟨go,step⟩
  . refine thn (T.done (blk X scope cl (M++[x]) (s2.heap.objs.size+1) _ _ fp) rfl rfl rfl hc i [] s' _ H' _ J' (fpY fr') st' stop) fun r s4 ⟨hr,J4⟩=>?_
    subst hr
    refine wpAny_pure ?_
    obtain ⟨m,hm,_⟩:=id J4.loc
    refine ⟨m,hm,fun h' sb=>⟨.ref s2.heap.objs.size,H',tT I3 hsz.symm f3 J4 sb,rfl,qn⟩⟩
  . refine thn (T.item (blk X scope cl (M++[x]) (s2.heap.objs.size+1) _ _ fp) rfl rfl rfl hc i [] s' _ H' _ J' (fpY fr') st' go) fun r s4 ⟨u,hr,h4⟩=>?_
    subst hr
    refine wpAny_bind (thn h4 fun _ s5 ⟨z,H5,J5,r5,y5,st5,fr5⟩=>?_)
    have J5':=J5.pinned (fpY fr5) (T.obj _ _ st5)
    have hxN:(M++[x])[M.length]?=some x:=by simp
    refine wpAny_bind ?_
    refine wpAny_assign_Name ?_
    refine jV (X:=blk X scope cl (M++[x]) (s2.heap.objs.size+1) _ _ fp) (i:=M.length) (v:=z) J5' S.nd hxN (.inl (lookup_relabel_local S.var)) r5 (fun s6 J6=>?_) (.inr (lookup_relabel_local S.var))
    have hlp:(pick ι σ).length=M.length:=by
     have q:=congrArg List.length S.names
     rw [List.length_map,List.length_map] at q
     unfold pick
     rw [List.length_map,q]
    have hset:(pick ι σ++[v]).set M.length (some z)=pick ι σ++[some z]:=by
     rw [<- hlp,List.set_append_right _ _ (Nat.le_refl _),Nat.sub_self]
     rfl
    rw [hset] at J6
    refine wpAny_bind (wpAny_tests_one (thn (hcd _ _ _ _ _ s6 _ H5 _ J6 (step z H5 y5)) fun b s7 ⟨H7,J7,hD7,q7⟩=>?_))
    cases b with
    | true=>
      rw [if_pos rfl] at q7
      refine wpAny_bind (wpAny_bind (thn (he _ _ _ _ _ s7 _ H7 _ J7 q7) fun yv s8 ⟨y,H8,J8,r8,hD8,hz8,m',hm',w8⟩=>?_))
      refine wpAny_bind (thn (ck (X:=blk X scope cl (M++[x]) (s2.heap.objs.size+1) _ _ fp) _ s8 _ H8 (.ref s2.heap.objs.size) [y] (.ref s2.heap.objs.size) [yv] (fun _ G=>G=upd H8 s2.heap.objs.size (.lst (ys++[y]))) J8 rfl (.cons r8 .nil) ⟨_,_,y,rfl,rfl,hD8,hz8,rfl⟩) fun _ s9 ⟨_,H9,J9,_,e9⟩=>?_)
      subst e9
      refine wpAny_pure (wpAny_pure ⟨rfl,m',hm',i+1,_,_,some z,J9.gC,?_,fun b hb=>?_,w8⟩)
      . exact T.keep _ _ _ st5 fun b hb o e=>(J9.pin (b,o) (List.mem_append_right _ (List.mem_append_right _ (cL hb e)))).1
      . obtain ⟨o,e,d⟩:=T.obj _ _ st5 b hb
        exact (J9.pin (b,o) (List.mem_append_right _ (List.mem_append_right _ (cL hb e)))).2.1
    | false=>
      rw [if_neg (by decide)] at q7
      obtain ⟨m',hm',w8⟩:=q7
      refine wpAny_pure ⟨rfl,m',hm',i+1,_,_,some z,J7.gC,?_,fun b hb=>?_,w8⟩
      . exact T.keep _ _ _ st5 fun b hb o e=>(J7.pin (b,o) (List.mem_append_right _ (List.mem_append_right _ (cL hb e)))).1
      . obtain ⟨o,e,d⟩:=T.obj _ _ st5 b hb
        exact (J7.pin (b,o) (List.mem_append_right _ (List.mem_append_right _ (cL hb e)))).2.1
 rw [hsz] at *
 exact codeAny_compStart_list loop (T.self X.A 0 _ _ _ st₁ loop)
end
theorem Df (its:List Value):slicePick its.toArray none none (some (-1))=its.reverse.toArray:=by
 unfold slicePick
 have hb:sliceBounds none none (some (-1)) its.toArray.size=((its.length:Int) - 1,-1,-1):=by simp [sliceBounds]
 rw [hb]
 congr 1
 have hr:sliceRange ((its.length:Int) - 1) (-1) (-1)=(List.range its.length).map fun i=>its.length - 1 - i:=by
  unfold sliceRange
  rw [if_neg (by decide)]
  have hc:(if ((its.length:Int) - 1) > -1 then (((its.length:Int) - 1) - -1 - -1 - 1)/(- -1) else 0).toNat=its.length:=by
   split
   . rw [show (- -1:Int)=1 by decide,Int.ediv_one]; omega
   . omega
  dsimp only
  rw [hc]
  refine List.map_congr_left fun k hk=>?_
  have:=List.mem_range.mp hk
  omega
 rw [hr]
 apply List.ext_getElem?
 intro n
 rw [List.filterMap_map]
 have hall:∀ m,m <= its.length -> List.filterMap ((fun x=>its.toArray[x]?) ∘ fun i=>its.length - 1 - i) (List.range m)=(its.reverse).take m:=by
  intro m
  induction m with
  |zero=>intro _; simp
  | succ m ih=>
    intro hm
    rw [List.range_succ,List.filterMap_append,ih (by omega)]
    have h1:its.length - 1 - m<its.length:=by omega
    have h2:m<its.reverse.length:=by rw [List.length_reverse]; omega
    rw [List.take_succ_eq_append_getElem h2]
    congr 1
    simp [h1]
 rw [hall its.length (Nat.le_refl _),List.take_of_length_le (by simp)]
theorem xK:∀ {xs:List V} {us:List Value},Vals xs us -> Vals xs.reverse us.reverse
 |_,_,.nil=>.nil
 | _,_,.cons r t=>by
   rw [List.reverse_cons,List.reverse_cons]
   exact (xK t).append (.cons r .nil)
section
variable {X:Cx} {e st:Expr} {te ts:TE} {pos p2:Pos}
noncomputable def Hn (K:PySem.W.Frag) (te ts:TE):TE:=fun σ H Q=>te σ H fun x H1=>ts σ H1 fun k H2=>k=.int (-1) /\ ∃ a xs,x=.ref a /\ SqL K H2 a xs /\ ∀ p,H2 p=none -> Q (.ref p) (upd H2 p (.lst xs.reverse))
theorem G4 (he:PE X e te) (hk:PE X st ts):PE X (.Subscript e (.Slice none none (some st) p2) pos) (Hn X.K te ts):=by
 intro pins s σ H Q I h
 refine Subscript_ (thn (he pins s σ H _ I h) fun v s1 ⟨x,H1,I1,r1,q1⟩=>?_)
 refine wpAny_Slice ?_
 rw [evalPart_none]
 refine wpAny_pure (wpAny_pure ?_)
 rw [evalPart_some]
 refine thn (hk pins s1 σ H1 _ I1 q1) fun u s3 ⟨k,H3,I3,r3,q3⟩=>?_
 obtain ⟨rfl,a,xs,rfl,hq,q⟩:=q3
 obtain ⟨t,rfl⟩:=r3
 cases r1
 have I4:Inv X pins σ H3 { s3 with heap:=s3.heap.push { cls:=.type "slice",data:=.fields #[.none,.none,.int (-1) t] } }:=I3.kept (t':=s3.toks) fun b ob q=>Heap.get?_push_of_some _ q
 obtain ⟨its,r,ht,hz⟩:=I4.list hq
 have hlen:=r.length
 show wpAny (model X.prog X.w) X.A (subscriptTail e (.Slice none none (some st) p2) (.ref a) (.ref s3.heap.objs.size)) (EP X pins σ Q) X.xe { s3 with heap:=s3.heap.push { cls:=.type "slice",data:=.fields #[.none,.none,.int (-1) t] } }
 refine tail_any (ops:=[.ref a,.ref s3.heap.objs.size]) ht.isList.typeIs slot_list_getitem.lookup ?_ (by with_unfolding_all rfl)
 refine wpAny_getItem_list_slice ht.isList (Heap.IsSliceOf.new ..) .none .none (.int (-1) t) (by decide) ?_ (by rw [List.size_toArray]<;>omega)
 rw [Df]
 refine ⟨.ref _,_,I4.laid (t':=s3.toks) (o:=.lst xs.reverse) (fun b ob q=>Heap.get?_push_of_some _ q) (Nat.le_refl _) ?_,rfl,q _ (I4.hok.fresh (Nat.le_refl _))⟩
 refine ⟨by rw [List.length_reverse]; exact hz,its.reverse,0,xK r,Heap.get?_push_size _ rfl⟩
end
section
variable {X:Cx} {scope:Scope} {cl:List (Str×Addr)} {M:List Str} {ι:List Nat} {x:Str}
theorem EY {i:Nat} {y:Str} {py spos:Pos} {elt iter:Expr} {px pos:Pos} {wi:TI} {te:TE} (S:kR X scope cl M ι x) (hc:X.calm=true) (hi:PI X (.Name x px) iter wi) (he:∀ C s₀ H₀ ex,PE (blk X scope cl (M++[x]) C s₀ H₀ ex) elt te)
  (hN:X.N.Nodup) (hiy:X.N[i]?=some y) (hy:Loc X.env.scope y) (hsw:swapsWith (.ListComp elt [⟨.Name x px,iter,[],0⟩] scope pos) (some (.Name y py)) spos.line X.env=pure true) (hf:X.fn y=true \/ X.env.scope.names.lookup y=some .local:=by first|exact .inl rfl|exact .inr rfl|assumption)
  (hs:∀ v,foldedSetIterable iter X.env v=pure v:=by intro _; rfl):PS X (.Assign [.Name y py] (.ListComp elt [⟨.Name x px,iter,[],0⟩] scope pos) spos) (rQ (sW wi ι te) (j0 i)):=by
 intro pins s σ H D0 I h
 rw [exec_Assign_Name_used _ _ _ _ hsw]
 refine wpAny_bind (wpAny_standAt (wpAny_bind ?_))
 show wpAny _ _ (do let _ <- comprehension (.ListComp elt [⟨.Name x px,iter,[],0⟩] scope pos) scope X.env _ (newList []) false (eval iter X.env) (some (assign (.Name y py) X.env))) _ _ s
 refine wpAny_bind (wpAny_mono (wpAny_comprehension_free (use:=some (assign (.Name y py) X.env)) (Q:=fun _ s'=>∃ σ' H',Inv X pins σ' H' s' /\ D0.nx σ' H') rfl hs S.clos S.kind (fun y hy hl=>?_) (wpAny_mono (hi pins s σ H _ I h) (fun v s1 h1=>wpAny_mono h1 (fun itv s2 h2=>?_) fun _ _ z=>z) fun _ _ z=>z)) (fun _ s' hq=>wpAny_pure (wpAny_pure hq)) fun _ _ e=>e)
 . have q:=List.all_eq_true.mp S.locs y hy
   rw [hl] at q
   simpa using q
 obtain ⟨it,fp,tn,J,H2,rfl,I2,T,st2,f2,hW⟩:=h2
 have I3:=I2.C6 (ys:=[]) (its:=[]) (t':=s2.toks) .nil (Nat.zero_le _)
 obtain ⟨W,⟨m0,w0⟩,turn⟩:=hW s2.heap.objs.size I2.fresh
 have fpo:∀ b∈fp,b<s2.heap.objs.size:=fun b hb=>let ⟨_,e,_⟩:=T.obj _ _ st2 b hb; Heap.lt_size e
 have f3:∀ b∈fp,mH X pins (upd H2 s2.heap.objs.size (.lst [])) b:=fun b hb=>by
  obtain ⟨q0,q⟩:=f2 b hb
  exact ⟨by rw [bJ (Nat.ne_of_lt (fpo b hb))]; exact q0,q⟩
 show wpAny _ _ (newObj (.type "list") _ none) _ _ s2
 refine wpAny_newObj_type (wpAny_newFunctionEnv (fun y hy=>?_) (by intro y hy; simp at hy) (fun h₁ hn₁ sb₁=>?_) S.kind)
 . have q:=List.all_eq_true.mp S.nocell y hy
   simpa using q
 have hsz:(s2.heap.push { cls:=.type "list",dict:=none,data:=.seq ([]:List Value).toArray }).objs.size=s2.heap.objs.size+1:=Heap.size_push ..
 have hk₁:∀ b o,(s2.heap.push { cls:=.type "list",dict:=none,data:=.seq ([]:List Value).toArray }).get? b=some o -> h₁.get? b=some o:=fun b o e=>
  (sb₁.2 b (Nat.ne_of_lt (Heap.lt_size e))).trans (Heap.get?_push_of_some _ e)
 have J0:=wt (t':=s2.toks+([]:List (Str×Value)).length) S I3 (ex:=fp) (fun b hb=>⟨f3 b hb,Nat.lt_of_lt_of_le (fpo b hb) (by rw [hsz]; exact Nat.le_succ _)⟩) hn₁ hk₁
 have old:∀ b∈fp,∀ o,s2.heap.get? b=some o -> h₁.get? b=some o:=fun b _ o e=>hk₁ b o (Heap.get?_push_of_some _ e)
 have st₁:tn 0 h₁:=T.keep _ _ _ st2 old
 have loop:codeAny (model X.prog X.w) X.A (.compLoop (.ListComp elt [⟨.Name x px,iter,[],0⟩] scope pos) 0 (.ref it) (.ref s2.heap.objs.size) (compEnvC scope cl (s2.heap.objs.size+1) X.env))
   (compPost (model X.prog X.w) X.A X.xe (some (assign (.Name y py) X.env)) (fun _ s'=>∃ σ' H',Inv X pins σ' H' s' /\ D0.nx σ' H') (.ref s2.heap.objs.size) (s2.heap.objs.size+1)) { s2 with heap:=h₁,toks:=s2.toks+([]:List (Str×Value)).length }:=by
  rw [hsz] at J0
  refine codeAny_loop rfl (fun n s'=>∃ i H' ys v,Inv (blk X scope cl (M++[x]) (s2.heap.objs.size+1) { s2 with heap:=s2.heap.push { cls:=.type "list",data:=.seq ([]:List Value).toArray },toks:=s2.toks } (upd H2 s2.heap.objs.size (.lst [])) fp) [] (pick ι σ++[v]) H' s' /\ tn i s'.heap /\ (∀ b∈fp,H' b=none) /\ W i n ys H')
   (fun n s' hI=>?_) m0 ⟨0,_,[],none,J0,st₁,fun b hb=>(f3 b hb).1,w0⟩
  obtain ⟨i,H',ys,v,J',st',fr',w'⟩:=hI
  obtain ⟨hD,alt⟩:=turn i n ys H' w'
  have fpY:∀ {G:Hp},(∀ b∈fp,G b=none) -> ∀ b∈fp,mH (blk X scope cl (M++[x]) (s2.heap.objs.size+1) { s2 with heap:=s2.heap.push { cls:=.type "list",data:=.seq ([]:List Value).toArray },toks:=s2.toks } (upd H2 s2.heap.objs.size (.lst [])) fp) [] G b:=fun hG b hb=>
   ⟨hG b hb,(J'.ok.exf b hb).1,J'.ok.exfs b hb,.inl hb,(J'.ok.exf b hb).2,fun p hp=>absurd (show p∈([]:List (Addr×Obj)) from hp) (by simp)⟩
  show wpAny _ _ ((compTurn _ 0 (.ref it) (.ref s2.heap.objs.size) (compEnvC scope cl (s2.heap.objs.size+1) X.env)).onRaise _) _ _ s'
  refine wpAny_noted (wpAny_noRaise ?_)
  rw [vL]
  refine wpAny_bind (wpAny_standAt (wpAny_bind ?_))
  rcases alt with ⟨stop,qn⟩|⟨go,step⟩
  . refine thn (T.done (blk X scope cl (M++[x]) (s2.heap.objs.size+1) _ _ fp) rfl rfl rfl hc i [] s' _ H' _ J' (fpY fr') st' stop) fun r s4 ⟨hr,J4⟩=>?_
    subst hr
    refine wpAny_pure ?_
    obtain ⟨m,hm,_⟩:=id J4.loc
    have I4:Inv X pins σ H' s4:=tT (h':=s4.heap) I3 hsz.symm f3 J4 ⟨rfl,fun _ _=>rfl⟩
    obtain ⟨oC,es,ep,hoC,rC⟩:=id hm
    have fC:mH X pins H' (s2.heap.objs.size+1):=I3.zy (by rw [hsz]; exact Nat.le_refl _) J4.free
    obtain ⟨_,c1,c2,c3,c4,c5⟩:=id fC
    have I5:=I4.pinned (fp:=[s2.heap.objs.size+1]) (fun b hb=>by
     have z:b=s2.heap.objs.size+1:=by simpa using hb
     subst z; exact fC) fun b hb=>by
     have z:b=s2.heap.objs.size+1:=by simpa using hb
     subst z
     exact ⟨oC,hoC,fun v z=>by rw [rC.1] at z; cases z⟩
    show wpAny _ _ (assign (.Name y py) X.env (.ref s2.heap.objs.size)) _ _ s4
    refine wpAny_assign_Name (jV I5 hN hiy hy (v:=.ref s2.heap.objs.size) rfl (fun s5 I6=>?_) hf)
    have hC5:s5.heap.get? (s2.heap.objs.size+1)=some oC:=(I6.pin (_,oC) (List.mem_append_right _ (List.mem_append_right _ (cL (List.mem_singleton.mpr rfl) hoC)))).1
    refine ⟨m,⟨oC,es,ep,hC5,rC⟩,fun h' sb=>⟨_,H',(I6.gC).turned (t':=s5.toks) (it:=s2.heap.objs.size+1) (fun b o hb e=>(sb.2 b hb).trans e) J4.free c1 c3 c4 c5,qn⟩⟩
  . refine thn (T.item (blk X scope cl (M++[x]) (s2.heap.objs.size+1) _ _ fp) rfl rfl rfl hc i [] s' _ H' _ J' (fpY fr') st' go) fun r s4 ⟨u,hr,h4⟩=>?_
    subst hr
    refine wpAny_bind (thn h4 fun _ s5 ⟨z,H5,J5,r5,y5,st5,fr5⟩=>?_)
    have J5':=J5.pinned (fpY fr5) (T.obj _ _ st5)
    have hxN:(M++[x])[M.length]?=some x:=by simp
    refine wpAny_bind ?_
    refine wpAny_assign_Name ?_
    refine jV (X:=blk X scope cl (M++[x]) (s2.heap.objs.size+1) _ _ fp) (i:=M.length) (v:=z) J5' S.nd hxN (.inl (lookup_relabel_local S.var)) r5 (fun s6 J6=>?_) (.inr (lookup_relabel_local S.var))
    have hlp:(pick ι σ).length=M.length:=by
     have q:=congrArg List.length S.names
     rw [List.length_map,List.length_map] at q
     unfold pick
     rw [List.length_map,q]
    have hset:(pick ι σ++[v]).set M.length (some z)=pick ι σ++[some z]:=by
     rw [<- hlp,List.set_append_right _ _ (Nat.le_refl _),Nat.sub_self]
     rfl
    rw [hset] at J6
    refine wpAny_bind (wpAny_bind (thn (he _ _ _ _ _ s6 _ H5 _ J6 (step z H5 y5)) fun yv s7 ⟨y,H7,J7,r7,hD7,hz7,m',hm',w7⟩=>?_))
    refine wpAny_bind (thn (ck (X:=blk X scope cl (M++[x]) (s2.heap.objs.size+1) _ _ fp) _ s7 _ H7 (.ref s2.heap.objs.size) [y] (.ref s2.heap.objs.size) [yv] (fun _ G=>G=upd H7 s2.heap.objs.size (.lst (ys++[y]))) J7 rfl (.cons r7 .nil) ⟨_,_,y,rfl,rfl,hD7,hz7,rfl⟩) fun _ s8 ⟨_,H8,J8,_,e8⟩=>?_)
    subst e8
    refine wpAny_pure (wpAny_pure ⟨rfl,m',hm',i+1,_,_,some z,J8.gC,?_,fun b hb=>?_,w7⟩)
    . exact T.keep _ _ _ st5 fun b hb o e=>(J8.pin (b,o) (List.mem_append_right _ (List.mem_append_right _ (cL hb e)))).1
    . obtain ⟨o,e,d⟩:=T.obj _ _ st5 b hb
      exact (J8.pin (b,o) (List.mem_append_right _ (List.mem_append_right _ (cL hb e)))).2.1
 rw [hsz] at *
 exact codeAny_compStart_list loop (T.self X.A 0 _ _ _ st₁ loop)
theorem BJ {i:Nat} {y:Str} {py spos:Pos} {elt iter c:Expr} {px pos:Pos} {wi:TI} {tc:TT} {te:TE} (S:kR X scope cl M ι x) (hc:X.calm=true) (hi:PI X (.Name x px) iter wi) (hcd:∀ C s₀ H₀ ex,PT (blk X scope cl (M++[x]) C s₀ H₀ ex) c tc) (he:∀ C s₀ H₀ ex,PE (blk X scope cl (M++[x]) C s₀ H₀ ex) elt te)
  (hN:X.N.Nodup) (hiy:X.N[i]?=some y) (hy:Loc X.env.scope y) (hsw:swapsWith (.ListComp elt [⟨.Name x px,iter,[c],0⟩] scope pos) (some (.Name y py)) spos.line X.env=pure true) (hf:X.fn y=true \/ X.env.scope.names.lookup y=some .local:=by first|exact .inl rfl|exact .inr rfl|assumption)
  (hs:∀ v,foldedSetIterable iter X.env v=pure v:=by intro _; rfl):PS X (.Assign [.Name y py] (.ListComp elt [⟨.Name x px,iter,[c],0⟩] scope pos) spos) (rQ (rq wi ι tc te) (j0 i)):=by
 intro pins s σ H D0 I h
 rw [exec_Assign_Name_used _ _ _ _ hsw]
 refine wpAny_bind (wpAny_standAt (wpAny_bind ?_))
 show wpAny _ _ (do let _ <- comprehension (.ListComp elt [⟨.Name x px,iter,[c],0⟩] scope pos) scope X.env _ (newList []) false (eval iter X.env) (some (assign (.Name y py) X.env))) _ _ s
 refine wpAny_bind (wpAny_mono (wpAny_comprehension_free (use:=some (assign (.Name y py) X.env)) (Q:=fun _ s'=>∃ σ' H',Inv X pins σ' H' s' /\ D0.nx σ' H') rfl hs S.clos S.kind (fun y hy hl=>?_) (wpAny_mono (hi pins s σ H _ I h) (fun v s1 h1=>wpAny_mono h1 (fun itv s2 h2=>?_) fun _ _ z=>z) fun _ _ z=>z)) (fun _ s' hq=>wpAny_pure (wpAny_pure hq)) fun _ _ e=>e)
 . have q:=List.all_eq_true.mp S.locs y hy
   rw [hl] at q
   simpa using q
 obtain ⟨it,fp,tn,J,H2,rfl,I2,T,st2,f2,hW⟩:=h2
 have I3:=I2.C6 (ys:=[]) (its:=[]) (t':=s2.toks) .nil (Nat.zero_le _)
 obtain ⟨W,⟨m0,w0⟩,turn⟩:=hW s2.heap.objs.size I2.fresh
 have fpo:∀ b∈fp,b<s2.heap.objs.size:=fun b hb=>let ⟨_,e,_⟩:=T.obj _ _ st2 b hb; Heap.lt_size e
 have f3:∀ b∈fp,mH X pins (upd H2 s2.heap.objs.size (.lst [])) b:=fun b hb=>by
  obtain ⟨q0,q⟩:=f2 b hb
  exact ⟨by rw [bJ (Nat.ne_of_lt (fpo b hb))]; exact q0,q⟩
 show wpAny _ _ (newObj (.type "list") _ none) _ _ s2
 refine wpAny_newObj_type (wpAny_newFunctionEnv (fun y hy=>?_) (by intro y hy; simp at hy) (fun h₁ hn₁ sb₁=>?_) S.kind)
 . have q:=List.all_eq_true.mp S.nocell y hy
   simpa using q
 have hsz:(s2.heap.push { cls:=.type "list",dict:=none,data:=.seq ([]:List Value).toArray }).objs.size=s2.heap.objs.size+1:=Heap.size_push ..
 have hk₁:∀ b o,(s2.heap.push { cls:=.type "list",dict:=none,data:=.seq ([]:List Value).toArray }).get? b=some o -> h₁.get? b=some o:=fun b o e=>
  (sb₁.2 b (Nat.ne_of_lt (Heap.lt_size e))).trans (Heap.get?_push_of_some _ e)
 have J0:=wt (t':=s2.toks+([]:List (Str×Value)).length) S I3 (ex:=fp) (fun b hb=>⟨f3 b hb,Nat.lt_of_lt_of_le (fpo b hb) (by rw [hsz]; exact Nat.le_succ _)⟩) hn₁ hk₁
 have old:∀ b∈fp,∀ o,s2.heap.get? b=some o -> h₁.get? b=some o:=fun b _ o e=>hk₁ b o (Heap.get?_push_of_some _ e)
 have st₁:tn 0 h₁:=T.keep _ _ _ st2 old
 have loop:codeAny (model X.prog X.w) X.A (.compLoop (.ListComp elt [⟨.Name x px,iter,[c],0⟩] scope pos) 0 (.ref it) (.ref s2.heap.objs.size) (compEnvC scope cl (s2.heap.objs.size+1) X.env))
   (compPost (model X.prog X.w) X.A X.xe (some (assign (.Name y py) X.env)) (fun _ s'=>∃ σ' H',Inv X pins σ' H' s' /\ D0.nx σ' H') (.ref s2.heap.objs.size) (s2.heap.objs.size+1)) { s2 with heap:=h₁,toks:=s2.toks+([]:List (Str×Value)).length }:=by
  rw [hsz] at J0
  refine codeAny_loop rfl (fun n s'=>∃ i H' ys v,Inv (blk X scope cl (M++[x]) (s2.heap.objs.size+1) { s2 with heap:=s2.heap.push { cls:=.type "list",data:=.seq ([]:List Value).toArray },toks:=s2.toks } (upd H2 s2.heap.objs.size (.lst [])) fp) [] (pick ι σ++[v]) H' s' /\ tn i s'.heap /\ (∀ b∈fp,H' b=none) /\ W i n ys H')
   (fun n s' hI=>?_) m0 ⟨0,_,[],none,J0,st₁,fun b hb=>(f3 b hb).1,w0⟩
  obtain ⟨i,H',ys,v,J',st',fr',w'⟩:=hI
  obtain ⟨hD,alt⟩:=turn i n ys H' w'
  have fpY:∀ {G:Hp},(∀ b∈fp,G b=none) -> ∀ b∈fp,mH (blk X scope cl (M++[x]) (s2.heap.objs.size+1) { s2 with heap:=s2.heap.push { cls:=.type "list",data:=.seq ([]:List Value).toArray },toks:=s2.toks } (upd H2 s2.heap.objs.size (.lst [])) fp) [] G b:=fun hG b hb=>
   ⟨hG b hb,(J'.ok.exf b hb).1,J'.ok.exfs b hb,.inl hb,(J'.ok.exf b hb).2,fun p hp=>absurd (show p∈([]:List (Addr×Obj)) from hp) (by simp)⟩
  show wpAny _ _ ((compTurn _ 0 (.ref it) (.ref s2.heap.objs.size) (compEnvC scope cl (s2.heap.objs.size+1) X.env)).onRaise _) _ _ s'
  refine wpAny_noted (wpAny_noRaise ?_)
  rw [compTurn_list]
  refine wpAny_bind (wpAny_standAt (wpAny_bind ?_))
  rcases alt with ⟨stop,qn⟩|⟨go,step⟩
  . refine thn (T.done (blk X scope cl (M++[x]) (s2.heap.objs.size+1) _ _ fp) rfl rfl rfl hc i [] s' _ H' _ J' (fpY fr') st' stop) fun r s4 ⟨hr,J4⟩=>?_
    subst hr
    refine wpAny_pure ?_
    obtain ⟨m,hm,_⟩:=id J4.loc
    have I4:Inv X pins σ H' s4:=tT (h':=s4.heap) I3 hsz.symm f3 J4 ⟨rfl,fun _ _=>rfl⟩
    obtain ⟨oC,es,ep,hoC,rC⟩:=id hm
    have fC:mH X pins H' (s2.heap.objs.size+1):=I3.zy (by rw [hsz]; exact Nat.le_refl _) J4.free
    obtain ⟨_,c1,c2,c3,c4,c5⟩:=id fC
    have I5:=I4.pinned (fp:=[s2.heap.objs.size+1]) (fun b hb=>by
     have z:b=s2.heap.objs.size+1:=by simpa using hb
     subst z; exact fC) fun b hb=>by
     have z:b=s2.heap.objs.size+1:=by simpa using hb
     subst z
     exact ⟨oC,hoC,fun v z=>by rw [rC.1] at z; cases z⟩
    show wpAny _ _ (assign (.Name y py) X.env (.ref s2.heap.objs.size)) _ _ s4
    refine wpAny_assign_Name (jV I5 hN hiy hy (v:=.ref s2.heap.objs.size) rfl (fun s5 I6=>?_) hf)
    have hC5:s5.heap.get? (s2.heap.objs.size+1)=some oC:=(I6.pin (_,oC) (List.mem_append_right _ (List.mem_append_right _ (cL (List.mem_singleton.mpr rfl) hoC)))).1
    refine ⟨m,⟨oC,es,ep,hC5,rC⟩,fun h' sb=>⟨_,H',(I6.gC).turned (t':=s5.toks) (it:=s2.heap.objs.size+1) (fun b o hb e=>(sb.2 b hb).trans e) J4.free c1 c3 c4 c5,qn⟩⟩
  . refine thn (T.item (blk X scope cl (M++[x]) (s2.heap.objs.size+1) _ _ fp) rfl rfl rfl hc i [] s' _ H' _ J' (fpY fr') st' go) fun r s4 ⟨u,hr,h4⟩=>?_
    subst hr
    refine wpAny_bind (thn h4 fun _ s5 ⟨z,H5,J5,r5,y5,st5,fr5⟩=>?_)
    have J5':=J5.pinned (fpY fr5) (T.obj _ _ st5)
    have hxN:(M++[x])[M.length]?=some x:=by simp
    refine wpAny_bind ?_
    refine wpAny_assign_Name ?_
    refine jV (X:=blk X scope cl (M++[x]) (s2.heap.objs.size+1) _ _ fp) (i:=M.length) (v:=z) J5' S.nd hxN (.inl (lookup_relabel_local S.var)) r5 (fun s6 J6=>?_) (.inr (lookup_relabel_local S.var))
    have hlp:(pick ι σ).length=M.length:=by
     have q:=congrArg List.length S.names
     rw [List.length_map,List.length_map] at q
     unfold pick
     rw [List.length_map,q]
    have hset:(pick ι σ++[v]).set M.length (some z)=pick ι σ++[some z]:=by
     rw [<- hlp,List.set_append_right _ _ (Nat.le_refl _),Nat.sub_self]
     rfl
    rw [hset] at J6
    refine wpAny_bind (wpAny_tests_one (thn (hcd _ _ _ _ _ s6 _ H5 _ J6 (step z H5 y5)) fun b s7 ⟨H7,J7,hD7,q7⟩=>?_))
    cases b with
    | true=>
      rw [if_pos rfl] at q7
      refine wpAny_bind (wpAny_bind (thn (he _ _ _ _ _ s7 _ H7 _ J7 q7) fun yv s8 ⟨y,H8,J8,r8,hD8,hz8,m',hm',w8⟩=>?_))
      refine wpAny_bind (thn (ck (X:=blk X scope cl (M++[x]) (s2.heap.objs.size+1) _ _ fp) _ s8 _ H8 (.ref s2.heap.objs.size) [y] (.ref s2.heap.objs.size) [yv] (fun _ G=>G=upd H8 s2.heap.objs.size (.lst (ys++[y]))) J8 rfl (.cons r8 .nil) ⟨_,_,y,rfl,rfl,hD8,hz8,rfl⟩) fun _ s9 ⟨_,H9,J9,_,e9⟩=>?_)
      subst e9
      refine wpAny_pure (wpAny_pure ⟨rfl,m',hm',i+1,_,_,some z,J9.gC,?_,fun b hb=>?_,w8⟩)
      . exact T.keep _ _ _ st5 fun b hb o e=>(J9.pin (b,o) (List.mem_append_right _ (List.mem_append_right _ (cL hb e)))).1
      . obtain ⟨o,e,d⟩:=T.obj _ _ st5 b hb
        exact (J9.pin (b,o) (List.mem_append_right _ (List.mem_append_right _ (cL hb e)))).2.1
    | false=>
      rw [if_neg (by decide)] at q7
      obtain ⟨m',hm',w8⟩:=q7
      refine wpAny_pure ⟨rfl,m',hm',i+1,_,_,some z,J7.gC,?_,fun b hb=>?_,w8⟩
      . exact T.keep _ _ _ st5 fun b hb o e=>(J7.pin (b,o) (List.mem_append_right _ (List.mem_append_right _ (cL hb e)))).1
      . obtain ⟨o,e,d⟩:=T.obj _ _ st5 b hb
        exact (J7.pin (b,o) (List.mem_append_right _ (List.mem_append_right _ (cL hb e)))).2.1
 rw [hsz] at *
 exact codeAny_compStart_list loop (T.self X.A 0 _ _ _ st₁ loop)
end
end L2.E
namespace L2.P
open PySem PySem.Spec PyProof.Rows L2 L2.E
section
variable {K:PySem.W.Frag} {cls:String -> Option Addr} {W:XW} {Av G S₀ S S' H H' B B':Hp} {ρ:ah} {σ:St} {Q:VK}
theorem Cw {tl te:TE} {ml me:ah -> OE} {ι:List Nat} (hι:ι.Nodup) (hl:JE K cls W tl ml) (he:JE K cls (fun _ _ _ _=>False) te me):JE K cls W (sW (HE K tl) ι te) (uQ ml ι me):=by
 intro Av G S₀ ρ σ S H Q I p
 refine hl.go I p fun r v S1 H1 I1 w1 r1 p1=>?_
 have ra:=r1.rd I1.sh
 cases e:r.pv with
 | tup xs=>
   rw [e] at p1 ra
   obtain ⟨a,vs,rfl,hq,hr⟩:=mM ra
   refine ⟨a,rfl,⟨vs,aJ.tup I1.sh hq⟩,?_⟩
   dsimp only at p1
   cases em:dr me (cY ι ρ) xs with
   |exc c fs=>rw [em] at p1; exact p1.elim
   |bad=>rw [em] at p1; exact p1.elim
   | ok ys=>
     rw [em] at p1
     simp only [noX] at p1
     split at p1
     . rename_i hlen
       refine pA hι he I1 em hlen (fun k H' x g hx=>?_) (fun H' g=>⟨vs,aJ.tup (I1.sh.trans g) hq,by rw [hr.length]; exact Nat.le_refl _⟩) fun D S' H' w nD sD ⟨us,hD,rr⟩=>p1 (.ref D) S' H' w ⟨D,us,rfl,nD,sD,hD,rr⟩
       obtain ⟨u,hu,ru⟩:=hr.get hx
       refine ⟨⟨vs,u,aJ.tup (I1.sh.trans g) hq,hu⟩,?_⟩
       rintro v' H2 ⟨rfl,hv⟩
       have:=hv vs (aJ.tup (I1.sh.trans g) hq)
       rw [hu] at this
       cases this
       exact ⟨rfl,ru⟩
     . exact p1.elim
 |_=>rw [e] at p1; exact p1.elim
theorem yc {J:It} {ι:List Nat} {tc:TT} {mc:ah -> OT} {te:TE} {me:ah -> OE} {xs ys:List PV} (hι:ι.Nodup) (hc:JT K cls (fun _ _ _ _=>False) tc mc) (he:JE K cls (fun _ _ _ _=>False) te me) (I:SR K cls Av G S₀ ρ σ S H) (hy:fV mc me (cY ι ρ) xs=.ok ys) (hl:ys.length <= lim)
  (go:∀ k H' x,aJ H H' -> xs[k]?=some x -> J.go k H' /\ ∀ v H2,J.yld k H' v H2 -> H2=H' /\ Rep K S x v) (stop:∀ H',aJ H H' -> J.stop xs.length H')
  (hQ:∀ D S' H',bu S H S' H' -> H D=none -> S' D=none -> (∃ us,H' D=some (.lst us) /\ bZ K S' ys us) -> Q (.ref D) H'):
  ∀ D,H D=none -> ∃ W:Nat -> Nat -> List V -> Hp -> Prop,(∃ m,W 0 m [] (upd H D (.lst []))) /\ ∀ i m us H',W i m us H' ->
    H' D=some (.lst us) /\ ((J.stop i H' /\ Q (.ref D) H') \/ (J.go i H' /\ ∀ x H2,J.yld i H' x H2 -> tc (L2.E.pick ι σ++[some x]) H2 fun b H4=>H4 D=some (.lst us) /\ if b=true then te (L2.E.pick ι σ++[some x]) H4 fun y H3=>H3 D=some (.lst us) /\ us.length<sizeLine /\ ∃ m',m'<m /\ W (i+1) m' (us++[y]) (upd H3 D (.lst (us++[y]))) else ∃ m',m'<m /\ W (i+1) m' us H4)):=by
 intro D nD
 refine ⟨fun k m us H'=>m+k=xs.length /\ H' D=some (.lst us) /\ ∃ S' zs ws,aJ S S' /\ aJ H H' /\ aJ S' H' /\ (∀ b,S' b≠none -> S b≠none \/ (H b=none /\ b≠D)) /\ bZ K S' zs us /\ fV mc me (cY ι ρ) (xs.drop k)=.ok ws /\ ys=zs++ws,
  ⟨xs.length,rfl,bQ,S,[],ys,aJ.refl _,aJ.new nD,I.sh.trans (aJ.new nD),fun b z=>.inl z,.nil,hy,rfl⟩,?_⟩
 rintro k m us H' ⟨hm,hD,S',zs,ws,s1,g1,sh1,n1,r1,e1,rfl⟩
 refine ⟨hD,?_⟩
 have hSD:S' D=none:=by
  cases q:S' D with
  |none=>rfl
  | some o=>
    rcases n1 D (by rw [q]; simp) with z|⟨_,z⟩
    . exact absurd (I.sh.free nD) z
    . exact absurd rfl z
 by_cases hk:k<xs.length
 . refine .inr ?_
   have hx:xs[k]?=some xs[k]:=by simp [hk]
   obtain ⟨hgo,hyld⟩:=go k H' xs[k] g1 hx
   refine ⟨hgo,fun v H2 hv=>?_⟩
   obtain ⟨rfl,rv⟩:=hyld v H2 hv
   rw [List.drop_eq_getElem_cons hk] at e1
   have I1:SR K cls Av G S₀ ρ σ S' H2:=I.grow ⟨s1,g1,sh1,fun b z=>by
    rcases n1 b z with z|⟨z,_⟩
    . exact .inl z
    . exact .inr z⟩
   have Ip:=I1.pick hι (Rep.mono s1 rv)
   refine hc _ G S₀ _ _ S' H2 _ Ip ?_
   unfold fV at e1
   split at e1
   . rename_i ec
     rw [ec]
     intro S2 H3 w2
     have hSD2:S2 D=none:=by
      cases q:S2 D with
      |none=>rfl
      | some o=>
        rcases w2.new D (by rw [q]; simp) with z|z
        . exact absurd hSD z
        . rw [hD] at z; cases z
     refine ⟨w2.g _ _ hD,?_⟩
     rw [if_pos rfl]
     refine he _ G S₀ _ _ S2 H3 _ (Ip.grow w2) ?_
     cases em:me (cY ι ρ++[some (.sh xs[k])]) with
     |exc c fs=>rw [em] at e1; cases e1
     |bad=>rw [em] at e1; cases e1
     | ok r=>
       rw [em] at e1
       simp only [OE.fA] at e1
       cases es:mf r with
       |none=>rw [es] at e1; cases e1
       | some y=>
         rw [es] at e1
         dsimp only at e1
         cases e2:fV mc me (cY ι ρ) (xs.drop (k+1)) with
         |exc c fs=>rw [e2] at e1; cases e1
         |bad=>rw [e2] at e1; cases e1
         | ok zs'=>
           rw [e2] at e1
           simp only [OA.fA] at e1
           cases e1
           intro u S4 H4 w4 r4
           obtain ⟨S3,w3,s3,ru⟩:=r4.share w4 es
           have hl2:(zs++y ::zs').length <= lim:=hl
           have w5:=w2.trans w3
           have hSD3:S3 D=none:=by
            cases q:S3 D with
            |none=>rfl
            | some o=>
              rcases w3.new D (by rw [q]; simp) with z|z
              . exact absurd hSD2 z
              . rw [w2.g _ _ hD] at z; cases z
           refine ⟨w5.g _ _ hD,?_,m - 1,by omega,by omega,bQ,S3,zs++[y],zs',s1.trans w5.s,(g1.trans w5.g).upd nD,w3.sh.upd hSD3,fun b z=>?_,(r1.mono w5.s).append (.cons ru .nil),e2,by simp⟩
           . rw [r1.length,<- Dz]
             rw [List.length_append,List.length_cons] at hl2
             omega
           . rcases w5.new b z with z|z
             . exact n1 b z
             . refine .inr ⟨g1.free z,fun e=>?_⟩
               rw [e,hD] at z; cases z
   . rename_i ec
     rw [ec]
     intro S2 H3 w2
     refine ⟨w2.g _ _ hD,?_⟩
     rw [if_neg (by decide)]
     refine ⟨m - 1,by omega,by omega,w2.g _ _ hD,S2,zs,ws,s1.trans w2.s,g1.trans w2.g,w2.sh,fun b z=>?_,r1.mono w2.s,e1,rfl⟩
     rcases w2.new b z with z|z
     . exact n1 b z
     . refine .inr ⟨g1.free z,fun e=>?_⟩
       rw [e,hD] at z; cases z
   . cases e1
 . have hk':k=xs.length:=by omega
   subst hk'
   refine .inl ⟨stop H' g1,?_⟩
   rw [List.drop_length] at e1
   cases e1
   exact hQ D S' H' ⟨s1,g1,sh1,fun b z=>by
    rcases n1 b z with z|⟨z,_⟩
    . exact .inl z
    . exact .inr z⟩ nD hSD ⟨us,hD,by rw [List.append_nil]; exact r1⟩
theorem qC {tl te:TE} {tc:TT} {ml me:ah -> OE} {mc:ah -> OT} {ι:List Nat} (hι:ι.Nodup) (hl:JE K cls W tl ml) (hc:JT K cls (fun _ _ _ _=>False) tc mc) (he:JE K cls (fun _ _ _ _=>False) te me):JE K cls W (rq (xS K tl) ι tc te) (jT ml ι mc me):=by
 intro Av G S₀ ρ σ S H Q I p
 refine hl.go I p fun r v S1 H1 I1 w1 r1 p1=>?_
 have ra:=r1.rd I1.sh
 cases e:r.pv with
 | lst xs=>
   rw [e] at p1 ra
   obtain ⟨a,vs,rfl,hq,hr⟩:=iF ra
   refine ⟨a,rfl,⟨vs,hq⟩,?_⟩
   dsimp only at p1
   cases em:fV mc me (cY ι ρ) xs with
   |exc c fs=>rw [em] at p1; exact p1.elim
   |bad=>rw [em] at p1; exact p1.elim
   | ok ys=>
     rw [em] at p1
     simp only [noX] at p1
     split at p1
     . rename_i hlen
       refine yc hι hc he I1 em hlen (fun k H' x g hx=>?_) (fun H' g=>⟨vs,aJ.seq g hq,by rw [hr.length]; exact Nat.le_refl _⟩) fun D S' H' w nD sD ⟨us,hD,rr⟩=>p1 (.ref D) S' H' w ⟨D,us,rfl,nD,sD,hD,rr⟩
       obtain ⟨u,hu,ru⟩:=hr.get hx
       refine ⟨⟨vs,u,aJ.seq g hq,hu⟩,?_⟩
       rintro v' H2 ⟨rfl,hv⟩
       have:=hv vs (aJ.seq g hq)
       rw [hu] at this
       cases this
       exact ⟨rfl,ru⟩
     . exact p1.elim
 |_=>rw [e] at p1; exact p1.elim
theorem G5 {ta ts:TE} {ma ms:ah -> OE} (ha:JE K cls W ta ma) (hs:JE K cls W ts ms):JE K cls W (Hn K ta ts) (FW ma ms):=by
 intro Av G S₀ ρ σ S H Q I p
 refine ha.go I p fun a v S1 H1 I1 w1 r1 p1=>hs.go I1 p1 fun k u S2 H2 I2 w2 r2 p2=>?_
 have ra:=(r1.rd I1.sh).mono w2.s w2.g
 have rk:=r2.rd I2.sh
 split at p2
 . rename_i xs n ea ek
   split at p2
   . rename_i hn
     rw [ea] at ra
     rw [ek] at rk
     obtain ⟨q,vs,rfl,hq,hr⟩:=iF ra
     refine ⟨by rw [dG rk,hn],q,vs,rfl,hq,fun l hl=>?_⟩
     refine p2 _ S2 _ (bu.heap I2.sh hl) ⟨l,_,rfl,hl,I2.sh.free hl,bQ,?_⟩
     clear ea p2 hq ra
     induction xs generalizing vs with
     |nil=>rw [hr.nil_inv]; exact .nil
     | cons x xs ih=>
       obtain ⟨y,t,rfl,h1,h2⟩:=hr.cons_inv
       rw [List.reverse_cons,List.reverse_cons]
       exact (ih _ h2).append (.cons h1 .nil)
   . exact p2.elim
 . exact p2.elim
theorem xy:JU K (fun xs H Q=>∃ p ys,xs=[.ref p] /\ ((SqL K H p ys /\ ∀ l,H l=none -> Q (.ref l) (upd H l (.tup ys))) \/ (SqT K H p ys /\ Q (.ref p) H))) lN:=by
 intro S H x v rr Q I hx e k
 cases x with
 | lst xs=>
   cases e
   obtain ⟨p,vs,rfl,hq,r⟩:=iF hx
   refine ⟨p,vs,rfl,.inl ⟨hq,fun l hl=>k _ _ _ (bu.both I hl) ?_⟩⟩
   show Rep K _ _ _
   unfold Rep
   exact ⟨l,vs,rfl,SqT.new bQ,r.mono (bu.both (o:=.tup vs) I hl).s⟩
 | tup xs=>
   cases e
   obtain ⟨p,vs,rfl,hq,r⟩:=mM hx
   refine ⟨p,vs,rfl,.inr ⟨aJ.tup I hq,k _ S H (bu.refl I) ?_⟩⟩
   show Rep K _ _ _
   unfold Rep
   exact ⟨p,vs,rfl,hq,r⟩
 |_=>cases e
end
end L2.P
namespace L2.E
open PySem PySem.Spec PyProof.Rows L2
theorem BN {X:Cx} {scope:Scope} {cl:List (Str×Addr)} {M:List Str} {ι:List Nat} {x:Str} {elt iter c:Expr} {px pos:Pos} {wi:TI} {tc:TT} {te:TE} (S:kR X scope cl M ι x) (hc:X.calm=true) (hi:QI X (.Name x px) iter wi) (hcd:∀ C s₀ H₀ ex,QT (blk X scope cl (M++[x]) C s₀ H₀ ex) c tc) (he:∀ C s₀ H₀ ex,QE (blk X scope cl (M++[x]) C s₀ H₀ ex) elt te)
  (hs:∀ v,foldedSetIterable iter X.env v=pure v:=by intro _; rfl):QE X (.ListComp elt [⟨.Name x px,iter,[c],0⟩] scope pos) (rq wi ι tc te):=⟨BE S hc hi.out (fun a b c d=>(hcd a b c d).out) (fun a b c d=>(he a b c d).out) hs⟩
theorem Je {X:Cx} {e st:Expr} {te ts:TE} {pos p2:Pos} (he:QE X e te) (hk:QE X st ts):QE X (.Subscript e (.Slice none none (some st) p2) pos) (Hn X.K te ts):=⟨G4 he.out hk.out⟩
theorem FT {X:Cx} {scope:Scope} {cl:List (Str×Addr)} {M:List Str} {ι:List Nat} {x:Str} {i:Nat} {y:Str} {py spos:Pos} {elt iter:Expr} {px pos:Pos} {wi:TI} {te:TE} (hN:X.N.Nodup) (hiy:X.N[i]?=some y) (hy:Loc X.env.scope y) (S:kR X scope cl M ι x) (hc:X.calm=true) (hi:QI X (.Name x px) iter wi) (he:∀ C s₀ H₀ ex,QE (blk X scope cl (M++[x]) C s₀ H₀ ex) elt te)
  (hsw:swapsWith (.ListComp elt [⟨.Name x px,iter,[],0⟩] scope pos) (some (.Name y py)) spos.line X.env=pure true:=by rfl) (hf:X.fn y=true \/ X.env.scope.names.lookup y=some .local:=by first|exact .inl rfl|exact .inr rfl|assumption)
  (hs:∀ v,foldedSetIterable iter X.env v=pure v:=by intro _; rfl):QS X (.Assign [.Name y py] (.ListComp elt [⟨.Name x px,iter,[],0⟩] scope pos) spos) (rQ (sW wi ι te) (j0 i)):=⟨EY S hc hi.out (fun a b c d=>(he a b c d).out) hN hiy hy hsw hf hs⟩
theorem vk {X:Cx} {scope:Scope} {cl:List (Str×Addr)} {M:List Str} {ι:List Nat} {x:Str} {i:Nat} {y:Str} {py spos:Pos} {elt iter c:Expr} {px pos:Pos} {wi:TI} {tc:TT} {te:TE} (hN:X.N.Nodup) (hiy:X.N[i]?=some y) (hy:Loc X.env.scope y) (S:kR X scope cl M ι x) (hc:X.calm=true) (hi:QI X (.Name x px) iter wi) (hcd:∀ C s₀ H₀ ex,QT (blk X scope cl (M++[x]) C s₀ H₀ ex) c tc) (he:∀ C s₀ H₀ ex,QE (blk X scope cl (M++[x]) C s₀ H₀ ex) elt te)
  (hsw:swapsWith (.ListComp elt [⟨.Name x px,iter,[c],0⟩] scope pos) (some (.Name y py)) spos.line X.env=pure true:=by rfl) (hf:X.fn y=true \/ X.env.scope.names.lookup y=some .local:=by first|exact .inl rfl|exact .inr rfl|assumption)
  (hs:∀ v,foldedSetIterable iter X.env v=pure v:=by intro _; rfl):QS X (.Assign [.Name y py] (.ListComp elt [⟨.Name x px,iter,[c],0⟩] scope pos) spos) (rQ (rq wi ι tc te) (j0 i)):=⟨BJ S hc hi.out (fun a b c d=>(hcd a b c d).out) (fun a b c d=>(he a b c d).out) hN hiy hy hsw hf hs⟩
noncomputable def JI (p:Int×V) (e:DictEntry):Prop:=e.hash=hashInt p.1 /\ (∃ t,e.key=.int p.1 t) /\ RelV p.2 e.val
noncomputable def DKI (K:PySem.W.Frag) (d:Addr) (kvs:List (Int×V)):Prop:=(d==sysModules)=false /\ (kvs.map (·.1)).Nodup /\ ∃ (es:List DictEntry) (ep:Nat),K.lookup d=some ⟨.type "dict",none,.dict es.toArray ep,#[]⟩ /\ Paired JI kvs es
theorem yK {prog:Program} {w:World}:∀ {kvs:List (Int×V)} {es:List DictEntry},Paired JI kvs es ->
  ∃ us:List (Int×Value),us.map (·.1)=kvs.map (·.1) /\ Pairs (intKind prog w) es us /\ (∀ e∈es,∃ k,(intKind prog w).is k e.key=true /\ e.hash=(intKind prog w).hash k) /\
    ∀ n,match kvs.lookup n with
      |some v=>∃ u,valueAt us n=some u /\ RelV v u
      |none=>valueAt us n=none
 |_,_,.nil=>⟨[],rfl,.nil,fun e he=>(nomatch he),fun n=>rfl⟩
 | (n,v) ::kvs,e ::es,.cons h t=>by
   obtain ⟨us,h1,h2,h3,h4⟩:=yK (prog:=prog) (w:=w) t
   obtain ⟨k1,⟨tk,k2⟩,k3⟩:=h
   have hk:(intKind prog w).is n e.key=true:=by rw [k2]; show Value.isInt n (.int n tk)=true; simp [Value.isInt]
   refine ⟨(n,e.val) ::us,by simp [h1],.cons hk rfl h2,fun e' he'=>?_,fun m=>?_⟩
   . rcases List.mem_cons.mp he' with z|z
     . subst z; exact ⟨n,hk,k1⟩
     . exact h3 e' z
   . have:=h4 m
     by_cases hm:m=n
     . subst hm
       simp [List.lookup,valueAt]
       exact k3
     . have hb:(m==n)=false:=by simpa using hm
       have hn:¬ n=m:=fun z=>hm z.symm
       simp only [List.lookup,hb]
       unfold valueAt at this ⊢
       simp only [List.find?_cons,hn,decide_false]
       exact this
theorem DKI.at {X:Cx} {pins:List (Addr×Obj)} {σ:St} {H:Hp} {s:Shared} {d:Addr} {kvs:List (Int×V)} (D:DKI X.K d kvs) (I:Inv X pins σ H s):
  ∃ us:List (Int × Value),s.heap.DictOf (intKind X.prog X.w) d us /\ ∀ n,match kvs.lookup n with
     |some v=>∃ u,valueAt us n=some u /\ RelV v u
     |none=>valueAt us n=none:=by
 obtain ⟨_,nd,es,ep,hk,pr⟩:=D
 obtain ⟨us,h1,h2,h3,h4⟩:=yK (prog:=X.prog) (w:=X.w) pr
 exact ⟨us,⟨_,es.toArray,ep,I.kIn d _ hk,⟨rfl,rfl,rfl⟩,rfl,fun e he=>h3 e (by simpa using he),by simpa using h2,by rw [h1]; exact nd⟩,h4⟩
section
variable {X:Cx}
noncomputable def C7 (K:PySem.W.Frag) (td te:TE):TE:=fun σ H Q=>td σ H fun x H1=>∃ d kvs,x=.ref d /\ DKI K d kvs /\ te σ H1 fun y H2=>∃ n,y=.int n /\ Q ((kvs.lookup n).getD .non) H2
theorem xJ {o e:Expr} {td te:TE} {apos cpos:Pos} (ho:QE X o td) (he:QE X e te) (hbase:attributeBase o "get" X.env (eval o X.env)=eval o X.env:=by rfl)
  (few:((backTo cpos (starEach [e] X.env)).all (fun x=>!x.1)&&(backToKw cpos (keywordEach [] X.env)).all (fun x=>x.1.isSome)&&decide (([e]:List Expr).length+([]:List Keyword).length+(if ([]:List Keyword).isEmpty then 0 else 1)<30))=true:=by rfl)
  (line:(apos.endLine==cpos.line)=true:=by rfl) (trees:backTo cpos (starEach [e] X.env)=[(false,eval e X.env)]:=by rfl):QE X (.Call (.Attribute o "get" apos) [e] [] cpos) (C7 X.K td te):=⟨by
 intro pins s σ H Q I h
 refine wpAny_Call_method hbase few line PySem.F.plainAttrs_dict PySem.F.slot_dict_get PySem.F.type_dict_get (thn (ho.out pins s σ H _ I h) fun u s1 ⟨x,H1,I1,rx,d,kvs,ex,D,q1⟩=>?_)
 subst ex
 obtain rfl:u=Value.ref d:=rx
 obtain ⟨us,dd,hv⟩:=D.at I1
 obtain ⟨_,nd,es,ep,hk,pr⟩:=id D
 refine ⟨dd.typeIs,fun b hb=>by cases hb; exact ⟨_,I1.kIn d _ hk,rfl⟩,?_⟩
 rw [trees]
 refine Calls.callWith_builtin rfl (Calls.evalArgs_plain (Calls.spliced_cons (thn (he.out pins s1 σ H1 _ I1 q1) fun iv s2 ⟨y,H2,I2,ry,n,ey,q2⟩=>Calls.spliced_nil ?_)))
 subst ey
 obtain ⟨t,rfl⟩:=ry
 obtain ⟨us2,dd2,hv2⟩:=D.at I2
 refine call_meetsIn PySem.F.slot_dict_get dd2.typeIs PySem.F.entry_dict_get (PySem.F.args_dict_get_2 _ _) (meets_dict_get (intKind X.prog X.w) d (k:=n) (key:=.int n t) (by show Value.isInt n (.int n t)=true; simp [Value.isInt]) D.1) ⟨_,dd2.mapOf,⟨_,H2,I2.tok _,?_,q2⟩⟩
 have h2:=hv2 n
 cases q:kvs.lookup n with
 |none=>rw [q] at h2; rw [h2]; rfl
 |some v=>rw [q] at h2; obtain ⟨u,e,r⟩:=h2; rw [e]; exact r⟩
end
end L2.E
namespace L2.P
open PySem PySem.Spec PyProof.Rows L2 L2.E
section
variable {K:PySem.W.Frag} {cls:String -> Option Addr} {W:XW} {Av G S₀ S S' H H' B B':Hp} {ρ:ah} {σ:St} {Q:VK}
noncomputable def DKP (K:PySem.W.Frag) (d:Addr) (kvs:List (Int×PV)):Prop:=∃ us,DKI K d us /\ Paired (fun (p:Int×PV) (q:Int×V)=>p.1=q.1 /\ ∀ S,Rep K S p.2 q.2) kvs us
theorem DKP.look {d:Addr}:∀ {kvs:List (Int×PV)} {us:List (Int×V)},Paired (fun (p:Int×PV) (q:Int×V)=>p.1=q.1 /\ ∀ S,Rep K S p.2 q.2) kvs us -> ∀ n,match kvs.lookup n with
  |some x=>∃ v,us.lookup n=some v /\ ∀ S,Rep K S x v
  |none=>us.lookup n=none
 |_,_,.nil,n=>rfl
 | (k,x) ::kvs,(k',v) ::us,.cons h t,n=>by
   obtain ⟨rfl,hr⟩:=h
   have:=DKP.look (d:=d) t n
   by_cases hm:n=k
   . subst hm
     simp [List.lookup]
     exact hr
   . have hb:(n==k)=false:=by simpa using hm
     simp only [List.lookup,hb]
     exact this
theorem xF {d:Addr} {kvs:List (Int×PV)} {ta:TE} {ma:ah -> OE} (D:DKP K d kvs) (ha:JE K cls W ta ma):JE K cls W (C7 K (tC (.ref d)) ta) (mUn (gJ kvs) ma):=by
 intro Av G S₀ ρ σ S H Q I p
 obtain ⟨us,D1,pr⟩:=D
 refine ⟨d,us,rfl,D1,?_⟩
 refine ha.go I p fun a v S1 H1 I1 w1 r1 p1=>?_
 have ra:=r1.rd I1.sh
 cases e:a.pv with
 | int n=>
   rw [e] at p1 ra
   have:=DKP.look (d:=d) pr n
   simp only [gJ,oE] at p1
   refine ⟨n,dG ra,?_⟩
   cases q:kvs.lookup n with
   | none=>
     rw [q] at p1 this
     rw [this]
     exact p1 _ S1 H1 (bu.refl I1.sh) (by show Rep K S1 _ _; unfold Rep; rfl)
   | some x=>
     rw [q] at p1 this
     obtain ⟨u,eu,hr⟩:=this
     rw [eu]
     exact p1 _ S1 H1 (bu.refl I1.sh) (hr S1)
 |_=>rw [e] at p1; exact p1.elim
end
end L2.P
namespace L2.E
open PySem PySem.Spec PyProof.Rows L2
end L2.E
namespace L2.P
open PySem PySem.Spec PyProof.Rows L2 L2.E
end L2.P
namespace L2.P
open PySem
end L2.P
namespace L2.P
open PySem PySem.Spec PyProof.Rows L2 L2.E
end L2.P
namespace L2.P
open PySem
noncomputable def xq (x:Str):List PV:=x.cps.toList.map fun c=>.str ⟨#[c]⟩
noncomputable def o2 (ml:ah -> OE) (ι:List Nat) (me:ah -> OE):ah -> OE:=fun ρ=>(ml ρ).bind fun r=>match r.pv with
 |.str x=>noX (dr me (cY ι ρ) (xq x))
 |_=>.bad
@[simp] theorem D7 (ml:ah -> OE) (ι:List Nat) (me:ah -> OE) (ρ:ah):o2 ml ι me ρ=((ml ρ).bind fun r=>match r.pv with
  |.str x=>noX (dr me (cY ι ρ) (xq x))
  |_=>.bad):=rfl
noncomputable def CP:PV -> Option RV
 |.str x=>if x.length=1 then some (.sh (.int (x.cps.getD 0 0:Nat))) else none
 |_=>none
noncomputable def pd:PV -> Option RV
 |.int i=>if i.natAbs.log2<1920 then some (.sh (.str (toString i))) else none
 |_=>none
end L2.P
namespace L2
open PySem PySem.Spec PyProof.Rows
noncomputable def Its (x:Str):It:=⟨fun i _=>i<x.cps.size,fun i H v H'=>H'=H /\ ∃ c,x.cps[i]?=some c /\ v=.str ⟨#[c]⟩,fun i _=>x.cps.size <= i⟩
theorem xV {P:Program} {w:World} {K:PySem.W.Frag} {tg:Expr} {it:Addr} {x:Str} {t:Tok} {n:String} (hn:["enumerate","zip","dict_itemiterator","dict_reverseitemiterator","odict_iterator","itertools.zip_longest","itertools.pairwise"].contains n=false)
  (W:∀ A:Around,A.handled=none -> Walks P w A it [it] [it] x.cps.size (SignAt x) (fun i h=>h.IsStrIter it n x t i))
  (De:∀ (A:Around) (s:Shared) (i:Nat) (Q:Option Value -> Shared -> Prop) (E:Value -> Shared -> Prop),A.handled=none -> s.heap.IsStrIter it n x t i -> x.cps[i]?=none -> (∀ h',Heap.ExtBut it s.heap h' -> Q none { s with heap:=h' }) -> wpAny (model P w) A (pyNext (.ref it)) Q E s)
  (Se:∀ (A:Around) (i:Nat) (s:Shared) (Q:Value -> Shared -> Prop) (E:Value -> Shared -> Prop),s.heap.IsStrIter it n x t i -> Q (.ref it) s -> wpAny (model P w) A (pyIter (.ref it)) Q E s):Turn P w K tg (Its x) [it] it (fun i h=>h.IsStrIter it n x t i) where
 mem:=by simp
 obj:=fun i h st b hb=>by
  have e:b=it:=by simpa using hb
  subst e
  obtain ⟨o,e,c,d⟩:=st
  exact ⟨o,e,fun v z=>by rw [d] at z; cases z⟩
 keep:=fun i h h' st k=>let ⟨o,e,r⟩:=st; ⟨o,k it (by simp) o e,r⟩
 item:=by
  intro X hP hw hK hc i pins s σ H E I hf st hg
  subst hP hw hK
  obtain ⟨f0,f1,f2,f3,f4,f5⟩:=hf it (by simp)
  refine (W X.A (I.ok.hd hc)).item i s _ _ hg st fun v h' tk hv st' kk=>?_
  obtain ⟨c,u,hc1,rfl⟩:=hv
  have I1:Inv X pins σ H { s with heap:=h',toks:=tk }:=I.turned (fun b o hb e=>kk b o (by simpa using hb) e) f0 f1 f3 f4 f5
  obtain ⟨o,e,cc,d⟩:=id st'
  exact ⟨_,rfl,AN (s:={ s with heap:=h',toks:=tk }) e cc d hn ⟨.str ⟨#[c]⟩,H,I1,⟨u,rfl⟩,⟨rfl,c,hc1,rfl⟩,st',fun b hb=>(hf b hb).1⟩⟩
 done:=by
  intro X hP hw hK hc i pins s σ H E I hf st hg
  subst hP hw hK
  obtain ⟨f0,f1,f2,f3,f4,f5⟩:=hf it (by simp)
  have hg':x.cps.size <= i:=hg
  exact De X.A s i _ _ (I.ok.hd hc) st (by simp; omega) fun h' eb=>⟨rfl,I.turned (t':=s.toks) (fun b o hb e=>eb b o hb e) f0 f1 f3 f4 f5⟩
 self:=fun A i s Q E st h=>Se A i s Q E st h
noncomputable def IS (tl:TE):TI:=fun σ H R=>tl σ H fun v H1=>∃ x,v=.str x /\ R (Its x) H1
theorem Hh {X:Cx} {tg:Expr} {l:Expr} {tl:TE} (hl:PE X l tl):PI X tg l (IS tl):=by
 intro pins s σ H R I h
 refine thn (hl pins s σ H _ I h) fun v s1 ⟨y,H1,I1,r1,q1⟩=>?_
 obtain ⟨x,e,q⟩:=q1
 subst e
 obtain ⟨t,rfl⟩:=r1
 have hf:∀ b∈[s1.heap.objs.size],mH X pins H1 b:=fun b hb=>by
  have e:b=s1.heap.objs.size:=by simpa using hb
  subst e
  exact I1.zy (Nat.le_refl _) (I1.hok.fresh (Nat.le_refl _))
 cases ha:x.cps.all (·<128) with
 | false=>
   exact wpAny_pyIter_wide ha ⟨s1.heap.objs.size,[s1.heap.objs.size],_,_,H1,rfl,I1.kept (t':=s1.toks) fun b o e=>Heap.get?_push_of_some _ e,
    xV (n:="str_iterator") (x:=x) (t:=t) (by decide) (fun A' hA=>Walks.strWide hA _ x t) (fun A s i Q E hA st hx hQ=>wpAny_pyNext_wide_end hA st hx hQ) (fun A i s Q E st h=>wpAny_pyIter_striter_wide st h),⟨_,Heap.get?_push_size _ rfl,rfl,rfl⟩,hf,q⟩
 | true=>
   exact wpAny_pyIter_ascii ha ⟨s1.heap.objs.size,[s1.heap.objs.size],_,_,H1,rfl,I1.kept (t':=s1.toks) fun b o e=>Heap.get?_push_of_some _ e,
    xV (n:="str_ascii_iterator") (x:=x) (t:=t) (by decide) (fun A' hA=>Walks.strAscii hA _ x t) (fun A s i Q E hA st hx hQ=>wpAny_pyNext_ascii_end hA st hx hQ) (fun A i s Q E st h=>wpAny_pyIter_striter_ascii st h),⟨_,Heap.get?_push_size _ rfl,rfl,rfl⟩,hf,q⟩
end L2
theorem L2.E.boot_ord:PySem.bootBuiltins "ord" = some (.builtin "ord"):=by decide +kernel
namespace L2.P
open PySem PySem.Spec PyProof.Rows L2 L2.E
theorem Dt {X:L2.Cx} {tg l:Expr} {tl:TE} (h:QE X l tl):QI X tg l (IS tl):=⟨Hh h.out⟩
section
variable {K:PySem.W.Frag} {cls:String -> Option Addr} {W:XW} {Av G S₀ S S' H H' B B':Hp} {ρ:ah} {σ:St} {Q:VK} {F:Nat -> List Addr}
theorem yo {tl te:TE} {ml me:ah -> OE} {ι:List Nat} (hι:ι.Nodup) (hl:JE K cls W tl ml) (he:JE K cls (fun _ _ _ _=>False) te me):JE K cls W (sW (IS tl) ι te) (o2 ml ι me):=by
 intro Av G S₀ ρ σ S H Q I p
 refine hl.go I p fun r v S1 H1 I1 w1 r1 p1=>?_
 have ra:=r1.rd I1.sh
 cases e:r.pv with
 | str x=>
   rw [e] at p1 ra
   have hv:=jy ra
   subst hv
   refine ⟨x,rfl,?_⟩
   dsimp only at p1
   cases em:dr me (cY ι ρ) (xq x) with
   |exc c fs=>rw [em] at p1; exact p1.elim
   |bad=>rw [em] at p1; exact p1.elim
   | ok ys=>
     rw [em] at p1
     simp only [noX] at p1
     split at p1
     . rename_i hlen
       have hcl:(xq x).length=x.cps.size:=by simp [xq]
       refine pA hι he I1 em hlen (fun k H' y g hx=>?_) (fun H' g=>by show x.cps.size <= (xq x).length; rw [hcl]; exact Nat.le_refl _) fun D S' H' w nD sD ⟨us,hD,rr⟩=>p1 (.ref D) S' H' w ⟨D,us,rfl,nD,sD,hD,rr⟩
       have hk:k<x.cps.size:=by rw [<- hcl]; exact (List.getElem?_eq_some_iff.mp hx).1
       refine ⟨hk,?_⟩
       rintro v' H2 ⟨rfl,c,hc,rfl⟩
       refine ⟨rfl,?_⟩
       have hy:y=.str ⟨#[c]⟩:=by
        unfold xq at hx
        rw [List.getElem?_map] at hx
        have:x.cps.toList[k]?=some c:=by simpa using hc
        rw [this] at hx
        exact (Option.some.inj hx).symm
       subst hy
       unfold Rep
       rfl
     . exact p1.elim
 |_=>rw [e] at p1; exact p1.elim
theorem Iw:JU K (fun xs H Q=>∃ x,xs=[.str x] /\ x.length=1 /\ Q (.int (x.cps.getD 0 0:Nat)) H) CP:=by
 intro S H x v rr Q I hx e k
 cases x with
 | str x=>
   by_cases hl:x.length=1
   . have e':CP (.str x)=some (.sh (.int (x.cps.getD 0 0:Nat))):=if_pos hl
     rw [e'] at e
     cases e
     exact ⟨x,by rw [jy hx],hl,k _ S H (bu.refl I) (by show Rep K S _ _; unfold Rep; rfl)⟩
   . have e':CP (.str x)=none:=if_neg hl
     rw [e'] at e
     cases e
 |_=>cases e
theorem Cv:JU K (fun xs H Q=>∃ i:Int,xs=[.int i] /\ i.natAbs.log2<1920 /\ Q (.str (toString i)) H) pd:=by
 intro S H x v rr Q I hx e k
 cases x with
 | int i=>
   by_cases hl:i.natAbs.log2<1920
   . have e':pd (.int i)=some (.sh (.str (toString i))):=if_pos hl
     rw [e'] at e
     cases e
     exact ⟨i,by rw [dG hx],hl,k _ S H (bu.refl I) (by show Rep K S _ _; unfold Rep; rfl)⟩
   . have e':pd (.int i)=none:=if_neg hl
     rw [e'] at e
     cases e
 |_=>cases e
end
end L2.P
namespace HT
open PySem PyProof.Rows
end HT
namespace L2
open PySem PySem.Spec PyProof.Rows
end L2
namespace L2.P
open PySem PySem.Spec PyProof.Rows L2 L2.E
end L2.P
namespace HT
open PySem PyProof.Rows
open AutoSeq1 (wpAny_loadPart')
end HT
namespace L2
open PySem PySem.Spec PyProof.Rows
end L2
namespace L2.P
open PySem PySem.Spec PyProof.Rows L2 L2.E
end L2.P
namespace L2.P
open PySem
noncomputable def KD (kvs:List (Int×PV)) (a b:RV):OE:=match a.pv,b with
 |.int n,.sh d=>.ok (.sh ((kvs.lookup n).getD d))
 |_,_=>.bad
noncomputable def IH (kvs:List (Int×Int)):ah -> OD:=fun _=>.ok (.di (kvs.map fun p=>(p.1,.int p.2)))
noncomputable def yU (neg:Bool) (me:ah -> OE) (i:Nat) (mp:MP):ah -> OE:=fun ρ=>(me ρ).bind fun r=>match r.pv with
 | .int n=>(match subAt i mp ρ with
   |some (.di kvs)=>.ok (.sh (.bl (if neg then !(kvs.lookup n).isSome else (kvs.lookup n).isSome)))
   |_=>.bad)
 |_=>.bad
noncomputable def A0 (i:Nat) (mp:MP) (me:ah -> OE):ah -> OE:=fun ρ=>match subAt i mp ρ with
 | some (.di kvs)=>(me ρ).bind fun r=>(match r.pv with
   |.int n=>oE ((kvs.lookup n).map .sh)
   |_=>.bad)
 |_=>.bad
noncomputable def Aq:PV -> Option RV
 | .str x=>(match x.cps.toList with
   |[c]=>if 48 <= c /\ c <= 57 then some (.sh (.int ((c:Int) - 48))) else none
   |_=>none)
 |_=>none
noncomputable def dJ (i:Nat) (mp:MP) (me:ah -> OE):ah -> OS:=fun ρ=>uk i mp ρ fun u put=>match u with
 | .ol ts=>(me ρ).cX ρ fun r=>(match r with
   |.fr ys=>if ts.length+ys.length <= lim then .nx (put (.ol (ts++ys.map .sh))) else .bad
   |.sh (.lst ys)=>if ts.length+ys.length <= lim then .nx (put (.ol (ts++ys.map .sh))) else .bad
   |_=>.bad)
 |_=>.bad
end L2.P
namespace L2
open PySem PySem.Spec PyProof.Rows
end L2
namespace L2.E
open PySem PySem.Spec PyProof.Rows L2
end L2.E
namespace L2.P
open PySem PySem.Spec PyProof.Rows L2 L2.E
end L2.P
namespace L2.E
open PySem PySem.Spec PyProof.Rows L2
section
variable {X:Cx} {o i:Expr} {td ty:TE} {pos:Pos}
theorem Ja (hu:X.A.units+1<cLine) (hi:QE X i ty) (ho:QE X o td) (h1:behindInMarks .In o=false:=by first|exact xE _ (by decide) (by decide)|rfl):QT X (.Compare i [.In] [o] pos) (tB (G3 ty td)):=⟨Ih (He hu hi.out ho.out) h1⟩
theorem Eg (hu:X.A.units+1<cLine) (ho:QE X o td) (hi:QE X i ty) (hs:GQ i):QE X (.Subscript o i pos) (Dk td ty):=⟨Fb hu ho.out hi.out hs⟩
structure QPs (X:Cx) (pos:Pos) (keys:List (Option Expr)) (values:List Expr) (trs:List (TE×TE)):Prop where
 out:PPs X pos keys values trs
theorem EL:QPs X pos [] [] []:=⟨Fs⟩
theorem jW {k v:Expr} {ks:List (Option Expr)} {vs:List Expr} {tk tv:TE} {trs:List (TE×TE)} (hk:QE X k tk) (hv:QE X v tv) (hr:QPs X pos ks vs trs):QPs X pos (some k ::ks) (v ::vs) ((tk,tv) ::trs):=⟨CQ hk.out hv.out hr.out⟩
theorem Fm {keys:List (Option Expr)} {values:List Expr} {trs:List (TE×TE)} (h:QPs X pos keys values trs) (hall:keys.all (·.isSome)=true:=by rfl) (hl:keys.length=values.length:=by rfl) (h0:keys≠[]:=by intro z; cases z) (h15:keys.length <= 15:=by decide):QE X (.Dict keys values pos) (C3 trs):=⟨Ez h.out hall hl h0 h15⟩
end
end L2.E
namespace L2.P
open PySem PySem.Spec PyProof.Rows L2 L2.E
section
variable {K:PySem.W.Frag} {cls:String -> Option Addr} {W:XW} {S H:Hp}
theorem yG (kvs:List (Int×Int)) (σ:St):∀ (H:Hp) (R:List (V×V) -> Hp -> Prop),R (kvs.map fun p=>(.int p.1,.int p.2)) H -> v5 (kvs.map fun p=>(tC (.int p.1),tC (.int p.2))) σ H R:=by
 induction kvs with
 |nil=>intro H R h; exact h
 |cons p kvs ih=>intro H R h; exact ih H _ h
theorem Bb (more:List (Key×V)):∀ kvs:List (Key×V),((kvs++more).map (·.1)).Nodup -> oo kvs more=kvs++more:=by
 induction more with
 |nil=>intro kvs _; simp [oo]
 | cons p more ih=>
   intro kvs h
   have hn:lX kvs p.1=none:=by
    unfold lX
    rw [Option.map_eq_none_iff,List.find?_eq_none]
    intro q hq e
    have e':q.1=p.1:=of_decide_eq_true e
    rw [List.map_append,List.nodup_append] at h
    exact h.2.2 q.1 (List.mem_map_of_mem hq) p.1 (by simp) e'
   show oo (putK kvs p.1 p.2) more=_
   rw [Cs _ hn,ih _ (by simpa using h)]
   simp
theorem IC {kvs:List (Int×Int)} (nd:(kvs.map (·.1)).Nodup) (h15:kvs.length <= 15):JD K cls W (C3 (kvs.map fun p=>(tC (.int p.1),tC (.int p.2)))) (IH kvs):=by
 intro Av G S₀ ρ σ S H Q I p
 intro q hq
 refine yG kvs σ _ _ ⟨bQ,kvs.map fun p=>(Sum.inl p.1,V.int p.2),by simp [kV],by simpa using h15,?_⟩
 rw [FK,Bb _ [] (by
  rw [List.nil_append,List.map_map]
  have:((fun x:Key×V=>x.1) ∘ fun p:Int×Int=>((Sum.inl p.1:Key),V.int p.2))=(fun k:Int=>(Sum.inl k:Key)) ∘ fun p:Int×Int=>p.1:=rfl
  rw [this,<- List.map_map]
  exact List.pairwise_map.mpr (List.Pairwise.imp (fun h z=>h (Sum.inl.inj z)) nd)),List.nil_append]
 refine p (.ref q) S _ (bu.heap I.sh hq) ⟨[q],?_,by simp,fun a ha=>?_⟩
 . unfold bz
   refine ⟨q,_,rfl,bQ,rfl,?_⟩
   clear nd h15 p
   induction kvs with
   |nil=>exact .nil
   |cons x kvs ih=>exact .cons ⟨rfl,by unfold Rep; rfl⟩ ih
 . have z:a=q:=by simpa using ha
   subst z
   exact ⟨hq,I.sh.free hq⟩
theorem xr.look {kvs:List (Int×PV)} {us:List (Key×V)} (h:xr K S kvs us) (n:Int):match kvs.lookup n with
  |some x=>∃ v,lX us (Sum.inl n:Key)=some v /\ Rep K S x v
  |none=>lX us (Sum.inl n:Key)=none:=by
 induction h with
 |nil=>rfl
 | @cons p q ps qs h t ih=>
   obtain ⟨h1,h2⟩:=h
   obtain ⟨k,x⟩:=p
   obtain ⟨k',v⟩:=q
   dsimp only at h1 h2
   subst h1
   by_cases hm:n=k
   . subst hm
     simp [List.lookup,lX]
     exact h2
   . have hb:(n==k)=false:=by simpa using hm
     have hd:decide ((Sum.inl k:Key)=Sum.inl n)=false:=decide_eq_false fun z=>hm (Sum.inl.inj z).symm
     simp only [List.lookup,hb]
     have e:lX ((Sum.inl k,v) ::qs) (Sum.inl n:Key)=lX qs (Sum.inl n):=by
      unfold lX
      rw [List.find?_cons,hd]
     rw [e]
     exact ih
theorem xr.Ek {kvs:List (Int×PV)} {us:List (Key×V)} (h:xr K S kvs us) (n:Int):(lX us (Sum.inl n:Key)).isSome=(kvs.lookup n).isSome:=by
 have:=h.look n
 cases q:kvs.lookup n with
 |none=>rw [q] at this; rw [this]; rfl
 |some x=>rw [q] at this; obtain ⟨v,e,_⟩:=this; rw [e]; rfl
theorem EE {i:Nat} {ta td:TE} {ma:ah -> OE} {mp:MP} (ha:JE K cls W ta ma) (hp:JP K cls td i mp):JE K cls W (G3 ta td) (yU false ma i mp):=by
 intro Av G S₀ ρ σ S H Q I p
 refine ha.go I p fun a v S1 H1 I1 w1 r1 p1=>?_
 have ra:=r1.rd I1.sh
 cases e:a.pv with
 | int n=>
   rw [e] at p1 ra
   dsimp only at p1
   split at p1
   . rename_i kvs es
     refine hp.sub I1 es fun w S2 H2 f w2 _ r=>?_
     unfold bz at r
     obtain ⟨q,us,rfl,hq,_,hd⟩:=r
     have hv:=dG ra
     subst hv
     refine ⟨q,_,rfl,wX.k (k:=Sum.inl n) hq,?_⟩
     rw [hd.Ek n]
     exact p1 _ S2 H2 w2 om
   . exact p1.elim
 |_=>rw [e] at p1; exact p1.elim
theorem Fu {i:Nat} {ta td:TE} {ma:ah -> OE} {mp:MP} (hp:JP K cls td i mp) (ha:JE K cls W ta ma):JE K cls W (Dk td ta) (A0 i mp ma):=by
 intro Av G S₀ ρ σ S H Q I p
 unfold A0 at p
 split at p
 . rename_i kvs es
   refine hp.sub I es fun w S2 H2 f w2 I2 r=>?_
   refine ha.go I2 (p.back w2) fun a v S1 H1 I1 w1 r1 p1=>?_
   have ra:=r1.rd I1.sh
   have r':=r.mono w1.s fun a _ o z=>w1.g _ _ z
   unfold bz at r'
   obtain ⟨q,us,rfl,hq,_,hd⟩:=r'
   cases e:a.pv with
   | int n=>
     rw [e] at p1 ra
     dsimp only at p1
     have hv:=dG ra
     subst hv
     have hl:=hd.look n
     cases el:kvs.lookup n with
     |none=>rw [el] at p1; exact p1.elim
     | some x=>
       rw [el] at p1 hl
       obtain ⟨u,eu,ru⟩:=hl
       refine ⟨q,u,rfl,by have:=wX.k (k:=(Sum.inl n:Key)) hq; rw [eu] at this; exact this,p1 u S1 H1 (bu.refl I1.sh) ru⟩
   |_=>rw [e] at p1; exact p1.elim
 . exact p.elim
end
end L2.P
namespace L2.E
open PySem PySem.Spec PyProof.Rows L2
end L2.E
namespace L2.P
open PySem PySem.Spec PyProof.Rows L2 L2.E
end L2.P
namespace L2.E
open PySem PySem.Spec PyProof.Rows L2
theorem BX {X:Cx}:nU X (.type "int") (fun xs H Q=>∃ x n,xs=[.str x] /\ PySem.intText? x=some n /\ x.length <= 640 /\ Q (.int n) H):=by
 intro pins s σ H xs us Q I r h
 obtain ⟨x,n,rfl,h1,h2,q⟩:=h
 obtain ⟨u,rfl,t,rfl⟩:=vals1 r
 exact PySem.W.KIN.call_text h1 h2 ⟨.int n,H,I.tok _,⟨_,rfl⟩,q⟩
theorem zS {x:Str} {c:Nat} (h:x.cps.toList=[c]) (h1:48 <= c) (h2:c <= 57):PySem.intText? x=some ((c:Int) - 48) /\ x.length <= 640:=by
 have e:x=⟨#[c]⟩:=by
  cases x with
  | mk a=>cases a with
    |mk l=>simp at h; subst h; rfl
 subst e
 refine ⟨?_,by show 1 <= 640; decide⟩
 have hc:c=48 \/ c=49 \/ c=50 \/ c=51 \/ c=52 \/ c=53 \/ c=54 \/ c=55 \/ c=56 \/ c=57:=by omega
 rcases hc with rfl|rfl|rfl|rfl|rfl|rfl|rfl|rfl|rfl|rfl<;>decide +kernel
end L2.E
namespace L2.P
open PySem PySem.Spec PyProof.Rows L2 L2.E
theorem EF {K:PySem.W.Frag}:JU K (fun xs H Q=>∃ x n,xs=[.str x] /\ PySem.intText? x=some n /\ x.length <= 640 /\ Q (.int n) H) Aq:=by
 intro S H x v rr Q sh r e k
 cases x with
 | str z=>
   have hv:v=.str z:=by have r':Rep K S (.str z) v:=r; unfold Rep at r'; exact r'
   subst hv
   unfold Aq at e
   dsimp only at e
   split at e
   . rename_i c hc
     split at e
     . rename_i h
       cases e
       obtain ⟨h1,h2⟩:=zS hc h.1 h.2
       exact ⟨z,_,rfl,h1,h2,k _ S H (bu.refl sh) (by show Rep K S _ _; unfold Rep; rfl)⟩
     . cases e
   . cases e
 |_=>cases e
end L2.P
namespace L2.E
open PySem PySem.Spec PyProof.Rows L2
theorem vY (l:Addr) (items:Array Value) (n:Nat) (b:Addr) (items2:Array Value) (n2:Nat) (dd2:Option Addr) (sl2:Array (Option Value)) (hc0:¬(!items.isEmpty&&Builtin.List.listTooLong (items.size+items2.size))=true) (hc1:items.size <= sizeLine) (hs2:items.size+items2.size <= sizeLine+1):
  Meets (Builtin.«list.extend» ⟨[.ref l,.ref b],[]⟩) (fun _ R s=>s.heap.get? l=some { cls:=.type "list",dict:=none,data:=.seq items n,slots:=#[] } /\ s.heap.get? b=some { cls:=.type "list",dict:=dd2,data:=.seq items2 n2,slots:=sl2 } /\ R (.ok (.ret Value.none)) { s with heap:=s.heap.update l (Obj.mapSeq fun x=>x++items2),toks:=s.toks }):=
 .of_wp fun prog w A R s h=>by
  obtain ⟨hp,g,d,tk,os⟩:=s; obtain ⟨hl,hb,h⟩:=h; have f1:=AutoSeq1.idx_int; have f2:=AutoSeq1.sub_tuple_tuple; have f3:=AutoSeq1.sub_list_list; have f4:=AutoSeq1.sub_tuple_list; have f5:=AutoSeq1.sub_list_tuple
  have hz':(items++items2).size <= sizeLine+1:=by rw [Array.size_append]; exact hs2
  wp_walk using (wpAny_updateSeq hl rfl (hz:=hc1) (_hz':=hz')),wpAny_loadPart' hl,wpAny_loadPart' hb; exact ⟨_,rfl,h⟩
noncomputable def xU (K:PySem.W.Frag):V -> List V -> Hp -> VK -> Prop:=fun x vs H Q=>∃ l b xs zs,x=.ref l /\ vs=[.ref b] /\ H l=some (.lst xs) /\ SqL K H b zs /\ xs.length+zs.length <= sizeLine /\ Q .non (upd H l (.lst (xs++zs)))
theorem fJ {X:Cx}:MtM X "list.extend" (xU X.K):=by
 intro pins s σ H x vs v us Q I rx rv h
 obtain ⟨l,b,xs,zs,rfl,rfl,hH,hB,hz,q⟩:=h
 cases rx
 obtain ⟨u,rfl,ru⟩:=rv.one
 cases ru
 obtain ⟨z,its,n,r,hl,e⟩:=I.HB hH
 obtain ⟨its2,r2,pl2,z2⟩:=I.list hB
 obtain ⟨⟨cls2,dd2,data2,sl2⟩,ho2,hc2,n2,hd2⟩:=pl2.isList
 simp only at hc2 hd2
 subst hc2 hd2
 have hl2:=r2.length
 have hsz:its.toArray.size+its2.toArray.size <= sizeLine:=by rw [List.size_toArray,List.size_toArray]; omega
 have hlong:¬ (!its.toArray.isEmpty&&Builtin.List.listTooLong (its.toArray.size+its2.toArray.size))=true:=by
  rw [DE hsz,Bool.and_false]
  exact Bool.false_ne_true
 refine call_meets F.slot_list_extend ⟨_,e,rfl⟩ F.entry_list_extend (F.args_list_extend_2 _ _)
  (vY l its.toArray n b its2.toArray n2 dd2 sl2 hlong (by rw [List.size_toArray]; omega) (by omega)) ⟨e,ho2,?_⟩
 refine ⟨.non,_,I.GS (its':=its++its2) hH e (by simp) (r.append r2) ?_,rfl,q⟩
 rw [List.length_append]
 omega
end L2.E
namespace L2.P
open PySem PySem.Spec PyProof.Rows L2 L2.E
section
variable {K:PySem.W.Frag} {cls:String -> Option Addr} {W:XW} {Av G S₀ S S' H H' B B':Hp} {ρ:ah} {σ:St} {Q:VK} {F:Nat -> List Addr}
theorem fN {i:Nat} {te tx:TE} {mp:MP} {me:ah -> OE} (hp:JP K cls te i mp) (hx:JE K cls W tx me):JS K cls W (uJ (tBM K "list" (xU K) te (ja tx kU))) (dJ i mp me):=by
 intro Av G S₀ ρ σ S H D I p
 obtain ⟨io,t,π,u,hi,e0,e1,p⟩:=rF p
 obtain ⟨v0,hv⟩:=I.val hi
 cases u with
 |sh x=>exact p.elim
 |ob c ks us=>exact p.elim
 |di x=>exact p.elim
 |dt x=>exact p.elim
 | ol ts=>
   dsimp only at p
   refine hp.at I hi hv e0 e1 fun w S1 H1 w1 I1 wk=>?_
   have p1:=p.back w1.s
   obtain ⟨F,J1⟩:=id I1
   obtain ⟨q,vs,ff,rest,wk',hq,hl,rs,_,nd,c⟩:=J1.tM hi hv e1
   have:=wk.inj wk'
   subst this
   refine ⟨.inl ⟨rfl,_,SqL.new hq⟩,?_⟩
   refine hx.goS I1 p1 fun r v S2 H2 I2 w2 r2 p2=>?_
   have ndf:ff.Nodup:=(List.nodup_cons.mp (List.nodup_append.mp nd).1).2
   cases r with
   |al ys=>exact p2.elim
   | sh x=>
     cases x with
     | lst ys=>
       dsimp only at p2
       split at p2
       . rename_i hlt
         have r3:Rep K S2 (.lst ys) v:=r2
         unfold Rep at r3
         obtain ⟨b,us,rfl,k3,k4⟩:=r3
         refine ⟨q,b,vs,us,rfl,rfl,w2.g _ _ hq,aJ.seq w2.sh k3,by rw [hl,k4.length]; exact hlt,?_⟩
         obtain ⟨g,J3,_⟩:=c S2 H2 (ts++ys.map .sh) (vs++us) (ff++[]) w2 ((rs.mono w2.s fun a _ o h=>w2.g _ _ h).append (.shs k4)) (by rw [List.append_nil]; exact ndf) fun a ha=>.inl (by simpa using ha)
         exact p2 σ S2 _ ⟨_,J3⟩ (aJ.refl _)
       . exact p2.elim
     |_=>exact p2.elim
   | fr ys=>
     dsimp only at p2
     split at p2
     . rename_i hlt
       obtain ⟨b,us,rfl,k1,k2,k3,k4⟩:=r2
       refine ⟨q,b,vs,us,rfl,rfl,w2.g _ _ hq,SqL.new k3,by rw [hl,k4.length]; exact hlt,?_⟩
       obtain ⟨g,J3,_⟩:=c S2 H2 (ts++ys.map .sh) (vs++us) (ff++[]) w2 ((rs.mono w2.s fun a _ o h=>w2.g _ _ h).append (.shs k4)) (by rw [List.append_nil]; exact ndf) fun a ha=>.inl (by simpa using ha)
       exact p2 σ S2 _ ⟨_,J3⟩ (aJ.refl _)
     . exact p2.elim
end
end L2.P
namespace L2.E
open PySem PySem.Spec PyProof.Rows L2
theorem eN {N P:List Str} {sc:Scope} (a:sc.kind=.function:=by rfl) (b:sc.isCoroutine=false:=by rfl) (c:sc.isGenerator=false:=by rfl) (d:N.Nodup:=by decide +kernel) (e:N.take P.length=P:=by rfl)
  (f:∀ x∈P,sc.names.lookup x=some .local \/ sc.names.lookup x=some .cell:=by decide +kernel) (g:∀ y∈sc.names,y.2≠.free:=by decide +kernel):aY N P sc:=⟨a,b,c,d,e,f,g⟩
structure Ent (K:PySem.W.Frag) (mg:Str -> Option Value) (x:Str) (st:Stmt) (f:Addr) (d:FuncData) (ps:List Str):Prop where
 F:Fun K x x st f d
 m:mg x=some (.ref f)
 b:Binds K d ps []
structure Fd (K:PySem.W.Frag) (x:Str) (st:Stmt) (f:Addr) (d:FuncData):Prop where
 a:PySem.W.nsIn K mainGlobals x=some (some (.ref f))
 F:Fun K x x st f d
section
variable {K:PySem.W.Frag} {mg:Str -> Option Value} {h:Heap} {x:Str} {st:Stmt} {f:Addr} {d:FuncData}
theorem du {oc:Value} {od an:Option Addr} {osl:Array (Option Value)} {kV doc pm cdv ct:Value} (a:PySem.W.nsIn K mainGlobals x=some (some (.ref f)))
  (l:K.lookup f=some ⟨oc,od,.func (PySem.W.fnOf x x (eL st) (dH st) (aC st) .none kV doc pm an cdv ct),osl⟩) (c:PySem.W.codeIn K cdv x=true) (k:PySem.W.keepIn K (.ref f)=true):
  Fd K x st f (PySem.W.fnOf x x (eL st) (dH st) (aC st) .none kV doc pm an cdv ct):=⟨a,kZ l c k⟩
theorem Fd.e {ps:List Str} (H:Fd K x st f d) (X:K.In h) (G:h.Ns mainGlobals mg)
  (hb:∀ (kV doc pm:Value) (an:Option Addr) (cdv ct:Value) (us:List Value),us.length=ps.length -> bindArgs (PySem.W.fnOf x x (eL st) (dH st) (aC st) .none kV doc pm an cdv ct) ⟨us,[]⟩=pure (ps.zip us)):Ent K mg x st f d ps:=⟨H.F,PySem.W.mg_of X G H.a,H.F.binds hb⟩
theorem Fd.e0 (H:Fd K x st f d) (X:K.In h) (G:h.Ns mainGlobals mg)
  (hb:∀ (kV doc pm:Value) (an:Option Addr) (cdv ct:Value),bindArgs (PySem.W.fnOf x x (eL st) (dH st) (aC st) .none kV doc pm an cdv ct) ⟨[],[]⟩=pure []:=by intros; rfl):Ent K mg x st f d []:=
 H.e X G fun p q r s t u us hl=>match us,hl with|[],_=>hb p q r s t u
theorem Fd.e1 {a:Str} (H:Fd K x st f d) (X:K.In h) (G:h.Ns mainGlobals mg)
  (hb:∀ (kV doc pm:Value) (an:Option Addr) (cdv ct i:Value),bindArgs (PySem.W.fnOf x x (eL st) (dH st) (aC st) .none kV doc pm an cdv ct) ⟨[i],[]⟩=pure [(a,i)]:=by intros; rfl):Ent K mg x st f d [a]:=
 H.e X G fun p q r s t u us hl=>match us,hl with|[_],_=>hb p q r s t u _
theorem Fd.e2 {a b:Str} (H:Fd K x st f d) (X:K.In h) (G:h.Ns mainGlobals mg)
  (hb:∀ (kV doc pm:Value) (an:Option Addr) (cdv ct i j:Value),bindArgs (PySem.W.fnOf x x (eL st) (dH st) (aC st) .none kV doc pm an cdv ct) ⟨[i,j],[]⟩=pure [(a,i),(b,j)]:=by intros; rfl):Ent K mg x st f d [a,b]:=
 H.e X G fun p q r s t u us hl=>match us,hl with|[_,_],_=>hb p q r s t u _ _
theorem Fd.e3 {a b c:Str} (H:Fd K x st f d) (X:K.In h) (G:h.Ns mainGlobals mg)
  (hb:∀ (kV doc pm:Value) (an:Option Addr) (cdv ct i j k:Value),bindArgs (PySem.W.fnOf x x (eL st) (dH st) (aC st) .none kV doc pm an cdv ct) ⟨[i,j,k],[]⟩=pure [(a,i),(b,j),(c,k)]:=by intros; rfl):Ent K mg x st f d [a,b,c]:=
 H.e X G fun p q r s t u us hl=>match us,hl with|[_,_,_],_=>hb p q r s t u _ _ _
theorem Fd.e5 {a b c e g:Str} (H:Fd K x st f d) (X:K.In h) (G:h.Ns mainGlobals mg)
  (hb:∀ (kV doc pm:Value) (an:Option Addr) (cdv ct i j k l m:Value),bindArgs (PySem.W.fnOf x x (eL st) (dH st) (aC st) .none kV doc pm an cdv ct) ⟨[i,j,k,l,m],[]⟩=pure [(a,i),(b,j),(c,k),(e,l),(g,m)]:=by intros; rfl):Ent K mg x st f d [a,b,c,e,g]:=
 H.e X G fun p q r s t u us hl=>match us,hl with|[_,_,_,_,_],_=>hb p q r s t u _ _ _ _ _
end
theorem qz {X:Cx} {pos:Pos} (i:Nat) {x:Str} {e:Expr} {te:TE} {pos':Pos} (h7:X.N.Nodup) (h10:QE X e te) (h8:X.N[i]?=some x:=by rfl) (h9:Loc X.env.scope x:=by first|exact Or.inl rfl|exact Or.inr rfl)
  (h11:autoParam (swapsWith e (some (.Name x pos')) pos.line X.env=pure false) L2.qau._auto_1) (h12:autoParam (X.fn x=true \/ X.env.scope.names.lookup x=some .local) L2.qau._auto_1):QS X (.Assign [.Name x pos'] e pos) (rQ te (j0 i)):=HM h7 h8 h9 h10 h11 h12
theorem qx {X:Cx} {j k:Nat} {f:Addr} {fd:FuncData} {ps:List Str} {sp:Sp} {W:XW} {x:Str} {st:Stmt} {p pos:Pos} {e:Expr} {es:List Expr} {t:TA} (h15:cA X.prog X.w X.K X.mg X.base (CXE X.prog X.w) j f fd ps sp) (E:Ent X.K X.mg x st f fd ps) (h16:gY k X.A) (h22:Thr X W) (h23:QA X (e ::es) t)
  (hj:j <= k:=by decide) (h17:Gl X x:=by rfl) (h24:autoParam ((x==Str.ofString "__debug__")=false) L2.qau._auto_1) (h25:autoParam (starEach (e ::es) X.env=(false,eval e X.env) ::starEach es X.env) L2.qau._auto_1) (h26:autoParam (((backTo pos (starEach es X.env)).any fun x=>x.1)=false) L2.qau._auto_1):
  QE X (.Call (.Name x p) (e ::es) [] pos) (qy sp [] W t):=DC (h15.mono hj) h16 h17 E.m E.F.kp E.b .nil h22 h23 h24 h25 h26
theorem pL {X:Cx} {p pos:Pos} {e:Expr} {te:TE} (h11:X.mg "len" = none) (h:QE X e te) (h10:Gl X "len":=by rfl) (hs:isStar e=false:=by rfl) (h16:autoParam (starEach [e] X.env=(false,eval e X.env) ::starEach [] X.env) L2.qau._auto_1) (h17:autoParam (((backTo pos (starEach [] X.env)).any fun x=>x.1)=false) L2.qau._auto_1):
  QE X (.Call (.Name "len" p) [e] [] pos) (tCB (fun xs H Q=>∃ p ys,xs=[.ref p] /\ (SqL X.K H p ys \/ SqT X.K H p ys) /\ Q (.int ys.length) H) (ja te kU)):=mK wN h10 h11 boot_len (aa h au hs) (by decide) (by decide) h16 h17
theorem qi {X:Cx} {a b:Expr} {ta tb:TE} {pos:Pos} {r:R2} (h7:IxR X r) (h8:QE X a ta) (h9:QE X b tb) (h10:wo b:=by exact fun _ _=>rfl):QE X (.Subscript a b pos) (tOp r ta tb):=Kb h7 h8 h9 h10
theorem bT {X:Cx} {a b:Expr} {ta tb:TE} {pos:Pos} {op:CmpOp} {r:R2} (h8:OpR X (compareOp op) r) (h9:QE X a ta) (h10:QE X b tb) (h11:behindInMarks op b=false:=by exact kL _):QT X (.Compare a [op] [b] pos) (vW (tOp r ta tb)):=jL h8 h9 h10 h11
theorem qap {X:Cx} {o e:Expr} {to te:TE} {apos cpos pos:Pos} {r:V -> List V -> Hp -> VK -> Prop} (h15:MtR X "list.append" r) (h16:QE X o to) (h:QE X e te) (hs:isStar e=false:=by rfl)
  (h18:autoParam (attributeBase o "append" X.env (eval o X.env)=eval o X.env) L2.qau._auto_1) (h19:autoParam (((((backTo cpos (starEach [e] X.env)).all fun x=>!x.1)&&(backToKw cpos (keywordEach [] X.env)).all fun x=>x.1.isSome)&&decide (([e].length+([]:List Keyword).length+if ([]:List Keyword).isEmpty=true then 0 else 1)<30))=true) L2.qau._auto_1)
  (h20:autoParam ((apos.endLine==cpos.line)=true) L2.qau._auto_1) (h21:autoParam (starEach [e] X.env=(false,eval e X.env) ::starEach [] X.env) L2.qau._auto_1) (h22:autoParam (((backTo cpos (starEach [] X.env)).any fun x=>x.1)=false) L2.qau._auto_1) (h5:autoParam (swapsWith (.Call (.Attribute o "append" apos) [e] [] cpos) none pos.line X.env=pure false) L2.qau._auto_1):
  QS X (.Expr (.Call (.Attribute o "append" apos) [e] [] cpos) pos) (uJ (tBM X.K "list" r to (ja te kU))):=AA (F4 PySem.F.plainAttrs_list PySem.F.slot_list_append PySem.F.type_list_append h15 h16 (aa h au hs) h18 h19 h20 h21 h22) h5
theorem qex {X:Cx} {o e:Expr} {to te:TE} {apos cpos pos:Pos} {r:V -> List V -> Hp -> VK -> Prop} (h15:MtR X "list.extend" r) (h16:QE X o to) (h:QE X e te) (hs:isStar e=false:=by rfl)
  (h18:autoParam (attributeBase o "extend" X.env (eval o X.env)=eval o X.env) L2.qau._auto_1) (h19:autoParam (((((backTo cpos (starEach [e] X.env)).all fun x=>!x.1)&&(backToKw cpos (keywordEach [] X.env)).all fun x=>x.1.isSome)&&decide (([e].length+([]:List Keyword).length+if ([]:List Keyword).isEmpty=true then 0 else 1)<30))=true) L2.qau._auto_1)
  (h20:autoParam ((apos.endLine==cpos.line)=true) L2.qau._auto_1) (h21:autoParam (starEach [e] X.env=(false,eval e X.env) ::starEach [] X.env) L2.qau._auto_1) (h22:autoParam (((backTo cpos (starEach [] X.env)).any fun x=>x.1)=false) L2.qau._auto_1) (h5:autoParam (swapsWith (.Call (.Attribute o "extend" apos) [e] [] cpos) none pos.line X.env=pure false) L2.qau._auto_1):
  QS X (.Expr (.Call (.Attribute o "extend" apos) [e] [] cpos) pos) (uJ (tBM X.K "list" r to (ja te kU))):=AA (F4 PySem.F.plainAttrs_list PySem.F.slot_list_extend PySem.F.type_list_extend h15 h16 (aa h au hs) h18 h19 h20 h21 h22) h5
end L2.E
namespace L2.P
open PySem PySem.Spec PyProof.Rows L2 L2.E
theorem jA {K:PySem.W.Frag} {cls:String -> Option Addr} {i:Nat} {te tk:TE} {mp:MP} {mk:ah -> OE} (h:JP K cls te i mp) (k:JE K cls (fun _ _ _ _=>False) tk mk):JP K cls (tOp (Ei K) te tk) i (pIx i mp mk):=JJ h k
end L2.P
namespace PG
noncomputable def lU (n:Int):Bool:=(decide (0 <= n)&&decide (n<55296))||(decide (57343<n)&&decide (n <= 1114111))
noncomputable def bF (n:Int):List Int:=if n<128 then [n] else if n<2048 then [192+n/64,128+n%64] else if n<65536 then [224+n/4096,128+n/64%64,128+n%64] else [240+n/262144,128+n/4096%64,128+n/64%64,128+n%64]
noncomputable def cell (ns:List Int) (k:Int):Int:=if ns=[] then 0 else ns.getD (k%(ns.length:Int)).toNat 0
noncomputable def mix (ns:List Int) (k:Int):Int:=
 let a:=(cell ns k+104729*(k+1))%4294967291
 let b:=a*48271%4294967279
 (b/64*69621+b)%4294967231
noncomputable def menu:List Int:=[34,92,47,8,12,10,13,9,0,31,127]
noncomputable def point (n:Int):Int:=
 if n%8<2 then 32+n/8%95 else if n%8<4 then menu.getD (n/8%11).toNat 0 else if n%8=4 then 128+n/8%1920
 else if n%8=5 then 2048+n/8%53248 else if n%8=6 then 57344+n/8%8192 else 65536+n/8%1048576
noncomputable def uB (ns:List Int) (k:Int):Int:=if mix ns k/5%8=3 then mix ns k/40%14 else mix ns k%5
noncomputable def points (ns:List Int) (k:Int):List Int:=(List.range (uB ns k).toNat).map fun j:Nat=>point (mix ns (k+1+(j:Int)))
theorem zA (ns:List Int) (k:Int):0 <= mix ns k /\ mix ns k<4294967231:=by unfold mix; dsimp only; omega
theorem yW (ns:List Int) (k:Int):0 <= uB ns k /\ uB ns k<14:=by
 have:=zA ns k
 unfold uB; split<;>omega
theorem EV (i:Nat) (h:i<11):0 <= menu.getD i 0 /\ menu.getD i 0<128:=by
 revert h; revert i; decide
theorem Dp (n:Int):lU (point n)=true:=by
 unfold point lU
 have h11:=EV (n/8%11).toNat (by omega)
 simp only [Bool.or_eq_true,Bool.and_eq_true,decide_eq_true_eq]
 split
 . omega
 . split
   . omega
   . split
     . omega
     . split
       . omega
       . split<;>omega
theorem ph (ns:List Int) (k:Int):(points ns k).all lU=true:=by
 rw [List.all_eq_true]
 intro x hx
 unfold points at hx
 obtain ⟨j,_,rfl⟩:=List.mem_map.mp hx
 exact Dp _
theorem qM (ns:List Int) (k:Int):(points ns k).length<14:=by
 have:=yW ns k
 unfold points
 rw [List.length_map,List.length_range]
 omega
end PG
namespace PG
noncomputable def K1 (b:Int):Int×Int:=if b=224 then (160,191) else if b=237 then (128,159) else (128,191)
noncomputable def Lg (b:Int):Int×Int:=if b=240 then (144,191) else if b=244 then (128,143) else (128,191)
noncomputable def spans (b:Int):Option (List (Int×Int)):=if 0 <= b /\ b<128 then some [] else if 194 <= b /\ b<224 then some [(128,191)] else if 224 <= b /\ b<240 then some [K1 b,(128,191)] else if 240 <= b /\ b<245 then some [Lg b,(128,191),(128,191)] else none
noncomputable def mark (k:Nat):Int:=[0,192,224,240].getD k 0
noncomputable def val (b:Int) (cs:List Int):Int:=cs.foldl (fun n c=>n*64+c - 128) (b - mark cs.length)
theorem qr {n:Int} (h:lU n=true):0 <= n /\ n <= 1114111:=by
 unfold lU at h
 simp only [Bool.or_eq_true,Bool.and_eq_true,decide_eq_true_eq] at h
 omega
end PG
namespace L2.P
open PySem
@[simp] theorem Gj (s:String):(Str.ofString s).cps.all (·<0x110000)=true:=by
  rw [Str.ofString_eq_toList,List.all_toArray,List.all_map]
  rw [List.all_eq_true]
  intro c _
  have:=c.valid
  simp only [Function.comp,decide_eq_true_eq]
  rcases this with h|⟨_,h⟩
  . exact Nat.lt_of_lt_of_le h (by decide)
  . exact h
theorem toNat_inj:∀ (xs ys:List Char),xs.map Char.toNat=ys.map Char.toNat -> xs=ys
 |[],[],_=>rfl
 |[],_ ::_,h=>by cases h
 |_ ::_,[],h=>by cases h
 | x ::xs,y ::ys,h=>by
   rw [List.map_cons,List.map_cons] at h
   injection h with h1 h2
   have:x=y:=Char.ext (UInt32.toNat_inj.mp h1)
   rw [this,toNat_inj xs ys h2]
theorem aK (a b:String):Str.ofString a=Str.ofString b↔a=b:=by
 constructor
 . intro h
   rw [Str.ofString_eq_toList,Str.ofString_eq_toList] at h
   injection h with h
   have h2:a.toList.map Char.toNat=b.toList.map Char.toNat:=by
    have:=congrArg Array.toList h
    simpa using this
   exact String.toList_inj.mp (toNat_inj _ _ h2)
 . intro h; rw [h]
@[simp] theorem FG (a b:String):(Str.ofString a==Str.ofString b)=decide (a=b):=by
  by_cases h:a=b
  . subst h; simp
  . have:Str.ofString a≠Str.ofString b:=fun z=>h ((aK a b).mp z)
    simp [h,this]
@[simp] theorem KR (a b:String):kX (.str (Str.ofString a)) (.str (Str.ofString b))=decide (a=b):=by simp [kX]
@[simp] theorem get_nil (t:OV):t.get []=some t:=by cases t<;>rfl
@[simp] theorem lp (t u:OV):t.put [] u=u:=by cases t<;>rfl
end L2.P
namespace PG
open L2.P PySem
inductive It where
 |sp (lo hi:Int)|bf|value|lead|figures|fraction|exponent|sign|text|escape|code|coded|hex|hexd|hexcf|row|mrow|fields|mfields|name
 deriving DecidableEq
noncomputable def bA:It -> PV
 |.sp lo hi=>.tup [.int lo,.int hi]
 |.bf=>.str "white" | .value=>.str "value" | .lead=>.str "lead" | .figures=>.str "figures" | .fraction=>.str "fraction" | .exponent=>.str "exponent" | .sign=>.str "sign"
 |.text=>.str "text" | .escape=>.str "escape" | .code=>.str "code" | .coded=>.str "code d" | .hex=>.str "hex" | .hexd=>.str "hex d" | .hexcf=>.str "hex c to f"
 |.row=>.str "row" | .mrow=>.str "more row" | .fields=>.str "fields" | .mfields=>.str "more fields" | .name=>.str "name"
noncomputable def loose:It -> Bool
 |.bf=>true|.figures=>true|.fraction=>true|.exponent=>true|.sign=>true
 |_=>false
noncomputable def opn:It -> Bool
 |.row=>true|.mrow=>true|.fields=>true|.mfields=>true
 |_=>false
noncomputable def wht (b:Int):Bool:=decide (9=b)||(decide (10=b)||(decide (13=b)||decide (32=b)))
noncomputable def fig (b:Int):Bool:=decide (48 <= b)&&decide (b <= 57)
noncomputable def eS (b:Int):Option Int:=if 48 <= b /\ b <= 57 then some (b - 48) else if 65 <= b /\ b <= 70 then some (b - 55) else if 97 <= b /\ b <= 102 then some (b - 87) else none
noncomputable def lP (b:Int):Option (List It):=if b=48 then some [.fraction,.exponent] else if 48 <= b /\ b <= 57 then some [.figures,.fraction,.exponent] else none
noncomputable def kl (b:Int):Option (List It):=
 if b=91 then some [.bf,.row] else if b=123 then some [.bf,.fields] else if b=34 then some [.text] else if b=45 then some [.lead]
 else if b=110 then some [.sp 117 117,.sp 108 108,.sp 108 108] else if b=116 then some [.sp 114 114,.sp 117 117,.sp 101 101] else if b=102 then some [.sp 97 97,.sp 108 108,.sp 115 115,.sp 101 101]
 else lP b
noncomputable def rH:List It:=[.bf,.sp 58 58,.bf,.value,.bf,.mfields]
noncomputable def tls (b:Int):Option (List It):=
 if 0 <= b /\ b<128 then some [] else if 194 <= b /\ b<224 then some [.sp 128 191]
 else if 224 <= b /\ b<240 then some [if b=224 then .sp 160 191 else if b=237 then .sp 128 159 else .sp 128 191,.sp 128 191]
 else if 240 <= b /\ b<245 then some [if b=240 then .sp 144 191 else if b=244 then .sp 128 143 else .sp 128 191,.sp 128 191,.sp 128 191]
 else none
noncomputable def sA (b:Int):Option (List It):=if b=34 then some [] else if b=92 then some [.escape,.text] else if b<32 then none else (tls b).map (·++[.text])
noncomputable def wD (b:Int):Bool:=b=34||b=92||b=47||b=98||b=102||b=110||b=114||b=116
noncomputable def Dj (b:Int):Option (List It):=if b=117 then some [.code] else if wD b then some [] else none
noncomputable def zB (w:Int):Option (List It):=if w<8 then some [.hex,.hex] else if w<12 then some [.hex,.hex,.sp 92 92,.sp 117 117,.hexd,.hexcf,.hex,.hex] else none
noncomputable def bh:It -> Int -> Option (List It)
 |.sp lo hi,b=>if lo <= b /\ b <= hi then some [] else none
 |.bf,b=>if wht b then some [.bf] else none
 |.value,b=>kl b
 |.lead,b=>lP b
 |.figures,b=>if 48 <= b /\ b <= 57 then some [.figures] else none
 |.fraction,b=>if b=46 then some [.sp 48 57,.figures] else none
 |.exponent,b=>if b=101 \/ b=69 then some [.sign,.sp 48 57,.figures] else none
 |.sign,b=>if b=43 \/ b=45 then some [] else none
 |.text,b=>sA b
 |.escape,b=>Dj b
 |.code,b=>(eS b).bind fun w=>if w=13 then some [.coded] else some [.hex,.hex,.hex]
 |.coded,b=>(eS b).bind zB
 |.hex,b=>(eS b).map fun _=>[]
 |.hexd,b=>(eS b).bind fun w=>if w=13 then some [] else none
 |.hexcf,b=>(eS b).bind fun w=>if 12 <= w then some [] else none
 |.row,b=>if b=93 then some [] else (kl b).map (·++[.bf,.mrow])
 |.mrow,b=>if b=44 then some [.bf,.value,.bf,.mrow] else if b=93 then some [] else none
 |.fields,b=>if b=125 then some [] else if b=34 then some (.text ::rH) else none
 |.mfields,b=>if b=44 then some (.bf ::.name ::rH) else if b=125 then some [] else none
 |.name,b=>if b=34 then some [.text] else none
noncomputable def cnt (st:List It):Nat:=(st.filter opn).length
noncomputable def gon:List It -> Int -> List It×Bool
 |[],_=>([],false)
 | it ::st,b=>match bh it b with
   |some l=>(l++st,decide (cnt (l++st) <= 64))
   |none=>if loose it then gon st b else (st,false)
noncomputable def tk:List It -> List Int -> List It×Nat
 |st,[]=>(st,0)
 |st,b ::r=>if (gon st b).2 then ((tk (gon st b).1 r).1,(tk (gon st b).1 r).2+1) else ((gon st b).1,0)
noncomputable def st0:List It:=[.bf,.value,.bf]
noncomputable def flt (row:List Int):Option Nat:=if (tk st0 row).2=row.length /\ (tk st0 row).1.all loose=true then none else some (tk st0 row).2
noncomputable def wk (st:List It):OV:=.ob "Walk" ["coming"] [.ol ((st.reverse.map bA).map .sh)]
theorem CI (it:It) (b:Int) (l:List It) (h:bh it b=some l):l.length <= 8:=by
 have hv:∀ l,kl b=some l -> l.length <= 5:=by
  intro l h
  unfold kl lP at h
  repeat' split at h
  all_goals (first|(cases h; done)|(injection h with h; subst h; decide))
 have ht:∀ l,tls b=some l -> l.length <= 5:=by
  intro l h
  unfold tls at h
  repeat' split at h
  all_goals (first|(cases h; done)|(injection h with h; subst h; simp))
 cases it with
 |value=>exact Nat.le_trans (hv l h) (by decide)
 | row=>
   simp only [bh] at h
   split at h
   . injection h with h; subst h; decide
   . cases e:kl b with
     |none=>rw [e] at h; cases h
     |some l'=>rw [e] at h; injection h with h; subst h; have:=hv l' e; simp; omega
 | text=>
   simp only [bh,sA] at h
   repeat' split at h
   all_goals first|(cases h; done)|(injection h with h; subst h; decide)|skip
   cases e:tls b with
   |none=>rw [e] at h; cases h
   |some l'=>rw [e] at h; injection h with h; subst h; have:=ht l' e; simp; omega
 | code=>
   simp only [bh] at h
   cases e:eS b with
   |none=>rw [e] at h; cases h
   |some w=>rw [e] at h; simp only [Option.bind_some] at h; split at h<;>(injection h with h; subst h; decide)
 | coded=>
   simp only [bh] at h
   cases e:eS b with
   |none=>rw [e] at h; cases h
   | some w=>
     rw [e] at h; simp only [Option.bind_some,zB] at h
     repeat' split at h
     all_goals first|(cases h; done)|(injection h with h; subst h; decide)
 | hex=>
   simp only [bh] at h
   cases e:eS b with
   |none=>rw [e] at h; cases h
   |some w=>rw [e] at h; injection h with h; subst h; simp
 | hexd=>
   simp only [bh] at h
   cases e:eS b with
   |none=>rw [e] at h; cases h
   |some w=>rw [e] at h; simp only [Option.bind_some] at h; split at h<;>first|(cases h; done)|(injection h with h; subst h; decide)
 | hexcf=>
   simp only [bh] at h
   cases e:eS b with
   |none=>rw [e] at h; cases h
   |some w=>rw [e] at h; simp only [Option.bind_some] at h; split at h<;>first|(cases h; done)|(injection h with h; subst h; decide)
 | _=>
   simp only [bh,lP,Dj,rH] at h
   repeat' split at h
   all_goals first|(cases h; done)|(injection h with h; subst h; decide)
theorem Ag (st:List It) (b:Int):(gon st b).1.length <= st.length+8:=by
 induction st with
 |nil=>simp [gon]
 | cons it st ih=>
   unfold gon
   cases e:bh it b with
   |some l=>have:=CI it b l e; simp; omega
   | none=>
     dsimp only
     split
     . simp; omega
     . simp; omega
end PG
namespace PG
inductive Sg where
 |pl (p:Int)|sh (c p:Int)|hx (a b c d:Int)|pr (a b c d e f g h:Int)
noncomputable def pts:Sg -> List Int
 |.pl p=>[p]
 |.sh c _=>[92,c]
 |.hx a b c d=>[92,117,a,b,c,d]
 |.pr a b c d e f g h=>[92,117,a,b,c,d,92,117,e,f,g,h]
noncomputable def hv (b:Int):Int:=(eS b).getD 0
noncomputable def cod (a b c d:Int):Int:=16*(16*(16*hv a+hv b)+hv c)+hv d
noncomputable def Kj:Sg -> Int
 |.pl p=>p
 |.sh _ p=>p
 |.hx a b c d=>cod a b c d
 |.pr a b c d e f g h=>65536+1024*(cod a b c d - 55296)+cod e f g h - 56320
noncomputable def shP:List (Int×Int):=[(34,34),(92,92),(47,47),(98,8),(102,12),(110,10),(114,13),(116,9)]
noncomputable def Sok:Sg -> Prop
 |.pl p=>lU p=true /\ 32 <= p /\ p≠34 /\ p≠92
 |.sh c p=>(c,p)∈shP
 |.hx a b c d=>(eS a).isSome=true /\ (eS b).isSome=true /\ (eS c).isSome=true /\ (eS d).isSome=true /\ ¬ (55296 <= cod a b c d /\ cod a b c d <= 57343)
 |.pr a b c d e f g h=>(eS a=some 13 /\ 8 <= hv b /\ hv b<12 /\ (eS b).isSome=true /\ (eS c).isSome=true /\ (eS d).isSome=true) /\ eS e=some 13 /\ 12 <= hv f /\ (eS f).isSome=true /\ (eS g).isSome=true /\ (eS h).isSome=true
noncomputable def nV (s:Sg):List Int:=(pts s).flatMap bF
theorem kI {b w:Int} (h:eS b=some w):0 <= w /\ w<16 /\ 48 <= b /\ b <= 102 /\ b≠92 /\ b≠117:=by
 unfold eS at h
 split at h
 . injection h with h; omega
 . split at h
   . injection h with h; omega
   . split at h
     . injection h with h; omega
     . cases h
theorem mI {b w:Int} (h:eS b=some w):hv b=w:=by unfold hv; rw [h]; rfl
theorem lD {n:Int} (h:n<128):bF n=[n]:=by unfold bF; rw [if_pos h]
theorem cnt_cons (it:It) (st:List It):cnt (it ::st)=(if opn it then 1 else 0)+cnt st:=by
 unfold cnt
 cases e:opn it<;>simp [e]
 omega
theorem FA (l st:List It):cnt (l++st)=cnt l+cnt st:=by
 unfold cnt; rw [List.filter_append,List.length_append]
theorem JG {st st':List It} {b:Int} {r:List Int} (h:gon st b=(st',true)):tk st (b ::r)=((tk st' r).1,(tk st' r).2+1):=by
 simp [tk,h]
theorem Et {it:It} {st l:List It} {b:Int} {r:List Int} (h:bh it b=some l) (hl:cnt l=0) (hc:cnt st <= 64):tk (it ::st) (b ::r)=((tk (l++st) r).1,(tk (l++st) r).2+1):=by
 refine JG ?_
 have:cnt (l++st) <= 64:=by rw [FA]; omega
 simp [gon,h,this]
theorem FP {it:It} {st:List It} {b:Int} {r:List Int} (h:bh it b=none) (hl:loose it=true):tk (it ::st) (b ::r)=tk st (b ::r):=by
 simp [tk,gon,h,hl]
noncomputable def Goes (st:List It) (bs:List Int) (st':List It):Prop:=∀ r,tk st (bs++r)=((tk st' r).1,(tk st' r).2+bs.length)
theorem Goes.nil (st:List It):Goes st [] st:=fun r=>by simp
theorem Goes.trans {a b c:List It} {xs ys:List Int} (h:Goes a xs b) (k:Goes b ys c):Goes a (xs++ys) c:=fun r=>by
 rw [List.append_assoc,h,k,List.length_append]
 congr 1
 omega
theorem Goes.step {it:It} {st l st':List It} {b:Int} {bs:List Int} (h:bh it b=some l) (hl:cnt l=0) (hc:cnt st <= 64) (k:Goes (l++st) bs st'):Goes (it ::st) (b ::bs) st':=fun r=>by
 rw [List.cons_append,Et h hl hc,k,List.length_cons]
 congr 1
theorem Fv {p:Int} {st:List It} (h:lU p=true) (h1:32 <= p) (h2:p≠34) (h3:p≠92) (hc:cnt st <= 64):Goes (.text ::st) (bF p) (.text ::st):=by
 have hr:=qr h
 have hs:p<55296 \/ 57343<p:=by
  unfold lU at h
  simp only [Bool.or_eq_true,Bool.and_eq_true,decide_eq_true_eq] at h
  omega
 have hc1:cnt (.text ::st) <= 64:=by rw [cnt_cons]; simp [opn]; omega
 have hsp:∀ lo hi:Int,cnt (.sp lo hi ::.text ::st) <= 64:=fun lo hi=>by rw [cnt_cons,cnt_cons]; simp [opn]; omega
 have b1:∀ b:Int,b≠34 -> b≠92 -> ¬ b<32 -> bh .text b=(tls b).map (·++[.text]):=fun b g1 g2 g3=>by simp only [bh,sA,g1,g2,g3,if_false]
 unfold bF
 by_cases c1:p<128
 . rw [if_pos c1]
   refine Goes.step (l:=[.text]) ?_ rfl hc (.nil _)
   rw [b1 p h2 h3 (by omega)]
   unfold tls
   rw [if_pos ⟨by omega,c1⟩]
   rfl
 . rw [if_neg c1]
   by_cases c2:p<2048
   . rw [if_pos c2]
     refine Goes.step (l:=[.sp 128 191,.text]) ?_ rfl hc ?_
     . rw [b1 _ (by omega) (by omega) (by omega)]
       unfold tls
       rw [if_neg (by omega),if_pos (by omega)]
       rfl
     . refine Goes.step (l:=[]) ?_ rfl hc1 (.nil _)
       simp only [bh]
       rw [if_pos (by omega)]
   . rw [if_neg c2]
     by_cases c3:p<65536
     . rw [if_pos c3]
       refine Goes.step (l:=[if 224+p/4096=224 then .sp 160 191 else if 224+p/4096=237 then .sp 128 159 else .sp 128 191,.sp 128 191,.text]) ?_ ?_ hc ?_
       . rw [b1 _ (by omega) (by omega) (by omega)]
         unfold tls
         rw [if_neg (by omega),if_neg (by omega),if_pos (by omega)]
         rfl
       . split
         . rfl
         . split<;>rfl
       . refine Goes.step (l:=[]) ?_ rfl (hsp _ _) ?_
         . split
           . simp only [bh]; rw [if_pos (by omega)]
           . split
             . simp only [bh]; rw [if_pos (by omega)]
             . simp only [bh]; rw [if_pos (by omega)]
         . refine Goes.step (l:=[]) ?_ rfl hc1 (.nil _)
           simp only [bh]
           rw [if_pos (by omega)]
     . rw [if_neg c3]
       have hsp2:cnt (.sp 128 191 ::.sp 128 191 ::.text ::st) <= 64:=by rw [cnt_cons,cnt_cons,cnt_cons]; simp [opn]; omega
       refine Goes.step (l:=[if 240+p/262144=240 then .sp 144 191 else if 240+p/262144=244 then .sp 128 143 else .sp 128 191,.sp 128 191,.sp 128 191,.text]) ?_ ?_ hc ?_
       . rw [b1 _ (by omega) (by omega) (by omega)]
         unfold tls
         rw [if_neg (by omega),if_neg (by omega),if_neg (by omega),if_pos (by omega)]
         rfl
       . split
         . rfl
         . split<;>rfl
       . refine Goes.step (l:=[]) ?_ rfl hsp2 ?_
         . split
           . simp only [bh]; rw [if_pos (by omega)]
           . split
             . simp only [bh]; rw [if_pos (by omega)]
             . simp only [bh]; rw [if_pos (by omega)]
         . refine Goes.step (l:=[]) ?_ rfl (hsp _ _) ?_
           . simp only [bh]; rw [if_pos (by omega)]
           . refine Goes.step (l:=[]) ?_ rfl hc1 (.nil _)
             simp only [bh]
             rw [if_pos (by omega)]
theorem nu {b w:Int} (h:eS b=some w):bh .hex b=some []:=by simp [bh,h]
theorem some_of {b:Int} (h:(eS b).isSome=true):∃ w,eS b=some w:=Option.isSome_iff_exists.mp h
theorem mS {a b c d:Int} (ha:(eS a).isSome=true) (hb:(eS b).isSome=true) (hc:(eS c).isSome=true) (hd:(eS d).isSome=true):bF a=[a] /\ bF b=[b] /\ bF c=[c] /\ bF d=[d]:=by
 obtain ⟨w1,e1⟩:=some_of ha
 obtain ⟨w2,e2⟩:=some_of hb
 obtain ⟨w3,e3⟩:=some_of hc
 obtain ⟨w4,e4⟩:=some_of hd
 have:=kI e1
 have:=kI e2
 have:=kI e3
 have:=kI e4
 exact ⟨lD (by omega),lD (by omega),lD (by omega),lD (by omega)⟩
theorem ED (s:Sg) (h:Sok s) (st:List It) (hc:cnt st <= 64):Goes (.text ::st) (nV s) (.text ::st):=by
 have hc1:cnt (.text ::st) <= 64:=by rw [cnt_cons]; simp [opn]; omega
 have n0:∀ it:It,opn it=false -> ∀ st,cnt st <= 64 -> cnt (it ::st) <= 64:=fun it ho st h=>by rw [cnt_cons,ho]; simp; omega
 cases s with
 | pl p=>
   obtain ⟨h1,h2,h3,h4⟩:=h
   show Goes _ (bF p++[]) _
   rw [List.append_nil]
   exact Fv h1 h2 h3 h4 hc
 | sh c p=>
   have hb:nV (.sh c p)=[92,c] /\ bh .escape c=some []:=by
    simp only [Sok,shP,List.mem_cons,Prod.mk.injEq,List.not_mem_nil,or_false] at h
    rcases h with h|h|h|h|h|h|h|h<;>(obtain ⟨rfl,rfl⟩:=h; exact ⟨rfl,rfl⟩)
   rw [hb.1]
   exact Goes.step (l:=[.escape,.text]) rfl rfl hc (Goes.step (l:=[]) hb.2 rfl hc1 (.nil _))
 | hx a b c d=>
   obtain ⟨ha,hb,hcc,hd,hs⟩:=h
   obtain ⟨e1,e2,e3,e4⟩:=mS ha hb hcc hd
   have hby:nV (.hx a b c d)=[92,117,a,b,c,d]:=by
    show bF 92++(bF 117++(bF a++(bF b++(bF c++(bF d++[])))))=_
    rw [e1,e2,e3,e4]; rfl
   rw [hby]
   obtain ⟨w1,f1⟩:=some_of ha
   obtain ⟨w2,f2⟩:=some_of hb
   obtain ⟨w3,f3⟩:=some_of hcc
   obtain ⟨w4,f4⟩:=some_of hd
   refine Goes.step (l:=[.escape,.text]) rfl rfl hc (Goes.step (l:=[.code]) rfl rfl hc1 ?_)
   by_cases hw:w1=13
   . have h8:w2 < 8:=by
      have g2:=kI f2
      have g3:=kI f3
      have g4:=kI f4
      simp only [cod,mI f1,mI f2,mI f3,mI f4] at hs
      omega
     refine Goes.step (l:=[.coded]) (by simp [bh,f1,hw]) rfl hc1 (Goes.step (l:=[.hex,.hex]) (by simp [bh,f2,zB,h8]) rfl hc1 ?_)
     exact Goes.step (l:=[]) (nu f3) rfl (n0 _ rfl _ hc1) (Goes.step (l:=[]) (nu f4) rfl hc1 (.nil _))
   . refine Goes.step (l:=[.hex,.hex,.hex]) (by simp [bh,f1,hw]) rfl hc1 ?_
     exact Goes.step (l:=[]) (nu f2) rfl (n0 _ rfl _ (n0 _ rfl _ hc1)) (Goes.step (l:=[]) (nu f3) rfl (n0 _ rfl _ hc1) (Goes.step (l:=[]) (nu f4) rfl hc1 (.nil _)))
 | pr a b c d e f g h'=>
   obtain ⟨⟨f1,hb8,hb12,hb,hcc,hd⟩,f5,hf12,hf,hg,hh⟩:=h
   obtain ⟨e1,e2,e3,e4⟩:=mS (by rw [f1]; rfl) hb hcc hd
   obtain ⟨e5,e6,e7,e8⟩:=mS (by rw [f5]; rfl) hf hg hh
   have hby:nV (.pr a b c d e f g h')=[92,117,a,b,c,d,92,117,e,f,g,h']:=by
    show bF 92++(bF 117++(bF a++(bF b++(bF c++(bF d++(bF 92++(bF 117++(bF e++(bF f++(bF g++(bF h'++[])))))))))))=_
    rw [e1,e2,e3,e4,e5,e6,e7,e8]; rfl
   rw [hby]
   obtain ⟨w2,f2⟩:=some_of hb
   obtain ⟨w3,f3⟩:=some_of hcc
   obtain ⟨w4,f4⟩:=some_of hd
   obtain ⟨w6,f6⟩:=some_of hf
   obtain ⟨w7,f7⟩:=some_of hg
   obtain ⟨w8,f8⟩:=some_of hh
   rw [mI f2] at hb8 hb12
   rw [mI f6] at hf12
   have hn8:¬ w2<8:=by omega
   refine Goes.step (l:=[.escape,.text]) rfl rfl hc (Goes.step (l:=[.code]) rfl rfl hc1 (Goes.step (l:=[.coded]) (by simp [bh,f1]) rfl hc1 (Goes.step (l:=[.hex,.hex,.sp 92 92,.sp 117 117,.hexd,.hexcf,.hex,.hex]) (by simp [bh,f2,zB,hn8,hb12]) rfl hc1 ?_)))
   have k1:=n0 .hex rfl _ hc1
   have k2:=n0 .hex rfl _ k1
   have k3:=n0 .hexcf rfl _ k2
   have k4:=n0 .hexd rfl _ k3
   have k5:=n0 (.sp 117 117) rfl _ k4
   have k6:=n0 (.sp 92 92) rfl _ k5
   have k7:=n0 .hex rfl _ k6
   exact Goes.step (l:=[]) (nu f3) rfl k7 (Goes.step (l:=[]) (nu f4) rfl k6 (Goes.step (l:=[]) rfl rfl k5 (Goes.step (l:=[]) rfl rfl k4 (Goes.step (l:=[]) (by simp [bh,f5]) rfl k3 (Goes.step (l:=[]) (by simp [bh,f6,hf12]) rfl k2 (Goes.step (l:=[]) (nu f7) rfl k1 (Goes.step (l:=[]) (nu f8) rfl hc1 (.nil _))))))))
noncomputable def inner (ss:List Sg):List Int:=ss.flatMap nV
theorem CN (ss:List Sg) (h:∀ s∈ss,Sok s) (st:List It) (hc:cnt st <= 64):Goes (.text ::st) (inner ss) (.text ::st):=by
 induction ss with
 |nil=>exact .nil _
 |cons s ss ih=>exact (ED s (h s List.mem_cons_self) st hc).trans (ih fun x hx=>h x (List.mem_cons_of_mem _ hx))
theorem rS (ss:List Sg) (h:∀ s∈ss,Sok s) (st:List It) (hc:cnt st <= 64):Goes (.text ::st) (inner ss++[34]) st:=
 (CN ss h st hc).trans (Goes.step (l:=[]) rfl rfl hc (.nil _))
inductive Skp:List Int -> Prop
 |nil:Skp []
 |one {b:Int} {r:List Int}:b≠34 -> b≠92 -> Skp r -> Skp (b ::r)
 |two {c:Int} {r:List Int}:Skp r -> Skp (92 ::c ::r)
theorem Skp.app {xs ys:List Int} (h:Skp xs) (k:Skp ys):Skp (xs++ys):=by
 induction h with
 |nil=>exact k
 |one h1 h2 _ ih=>exact .one h1 h2 ih
 |two _ ih=>exact .two ih
theorem Goes.skip {it:It} {st st':List It} {b:Int} {bs:List Int} (h:bh it b=none) (hl:loose it=true) (k:Goes st (b ::bs) st'):Goes (it ::st) (b ::bs) st':=fun r=>by
 rw [List.cons_append,FP h hl,<- List.cons_append,k]
noncomputable def txt (ss:List Sg):List Int:=34 ::(inner ss++[34])
theorem zJ {st:List It} (ss:List Sg) (h:∀ s∈ss,Sok s) (hc:cnt st <= 64):Goes (.value ::st) (txt ss) st:=
 Goes.step (l:=[.text]) rfl rfl hc (rS ss h st hc)
end PG
namespace PG
noncomputable abbrev isF (b:Int):Prop:=48 <= b /\ b <= 57
noncomputable def cQ (n:Nat):List Int:=if n<10 then [48+(n:Int)] else cQ (n/10)++[48+((n%10:Nat):Int)]
termination_by n
decreasing_by omega
noncomputable def dz (n:Nat):List Int:=if n=0 then [] else cQ n
theorem IT (n:Nat):cQ n=dz (n/10)++[48+((n%10:Nat):Int)]:=by
 rw [cQ]
 unfold dz
 by_cases h:n<10
 . rw [if_pos h,if_pos (by omega),Nat.mod_eq_of_lt h]; rfl
 . rw [if_neg h,if_neg (by omega)]
theorem yA (n:Nat):∀ b∈cQ n,isF b:=by
 induction n using Nat.strongRecOn with
 | _ n ih=>
   intro b hb
   rw [cQ] at hb
   split at hb
   . simp at hb; unfold isF; omega
   . rcases List.mem_append.mp hb with z|z
     . exact ih (n/10) (by omega) b z
     . simp at z; unfold isF; omega
theorem Eh (n:Nat):cQ n≠[]:=by rw [IT]; simp
theorem B4 (n:Nat) (h:0<n):∃ d r,cQ n=d ::r /\ 49 <= d /\ d <= 57 /\ ∀ b∈r,isF b:=by
 induction n using Nat.strongRecOn with
 | _ n ih=>
   rw [cQ]
   split
   . exact ⟨48+(n:Int),[],rfl,by omega,by omega,fun b hb=>by cases hb⟩
   . obtain ⟨d,r,e,h1,h2,h3⟩:=ih (n/10) (by omega) (by omega)
     rw [e]
     refine ⟨d,r++[48+((n%10:Nat):Int)],rfl,h1,h2,fun b hb=>?_⟩
     rcases List.mem_append.mp hb with z|z
     . exact h3 b z
     . simp at z; unfold isF; omega
theorem Bw:cQ 0=[48]:=by rw [cQ]; rfl
theorem oj (k:Nat):∀ n:Nat,n<10 ^ (k+1) -> (cQ n).length <= k+1:=by
 induction k with
 |zero=>intro n h; rw [cQ,if_pos (by simpa using h)]; simp
 | succ k ih=>
   intro n h
   rw [cQ]
   split
   . simp
   . have:n/10<10 ^ (k+1):=by rw [Nat.pow_succ] at h; omega
     have:=ih (n/10) this
     simp; omega
noncomputable def cv (ds:List Int):Int:=ds.foldl (fun n d=>10*n+d - 48) 0
theorem Ft (ds:List Int) (d:Int):cv (ds++[d])=10*cv ds+d - 48:=by simp [cv]
theorem FQ (n:Nat):cv (cQ n)=n:=by
 induction n using Nat.strongRecOn with
 | _ n ih=>
   rw [cQ]
   split
   . simp [cv]; omega
   . rw [Ft,ih (n/10) (by omega)]; omega
structure Nm where
 neg:Bool
 ip:List Int
 fr:List Int
 ex:Option (Int×List Int×List Int)
noncomputable def frB (fr:List Int):List Int:=if fr=[] then [] else 46 ::fr
noncomputable def exB:Option (Int×List Int×List Int) -> List Int
 |none=>[]
 |some (e,s,ds)=>e ::(s++ds)
noncomputable def nb (m:Nm):List Int:=(if m.neg then [45] else [])++(m.ip++(frB m.fr++exB m.ex))
structure Nok (m:Nm):Prop where
 ip:(m.ip=[48]) \/ ∃ d r,m.ip=d ::r /\ 49 <= d /\ d <= 57 /\ ∀ b∈r,isF b
 fr:∀ b∈m.fr,isF b
 ex:∀ e s ds,m.ex=some (e,s,ds) -> (e=101 \/ e=69) /\ (s=[] \/ s=[43] \/ s=[45]) /\ ds≠[] /\ ∀ b∈ds,isF b
noncomputable def nl:It -> Bool
 |.figures=>true|.fraction=>true|.exponent=>true
 |_=>false
theorem r9 {st:List It} (hc:cnt st <= 64) (ds:List Int) (h:∀ b∈ds,isF b):Goes (.figures ::st) ds (.figures ::st):=by
 induction ds with
 |nil=>exact .nil _
 | cons d ds ih=>
   refine Goes.step (l:=[.figures]) ?_ rfl hc (ih fun b hb=>h b (List.mem_cons_of_mem _ hb))
   have:=h d List.mem_cons_self
   simp only [bh]
   rw [if_pos this]
theorem Cf {m:Nm} (h:Nok m) {st:List It} (hc:cnt st <= 64):∃ ls,ls.all nl=true /\ Goes (.value ::st) (nb m) (ls++st):=by
 have n1:∀ it:It,opn it=false -> ∀ st,cnt st <= 64 -> cnt (it ::st) <= 64:=fun it ho st h=>by rw [cnt_cons,ho]; simp; omega
 have hlead:∃ ls,(ls=[.fraction,.exponent] \/ ls=[.figures,.fraction,.exponent]) /\ Goes (.lead ::st) m.ip (ls++st) /\ ∀ b r,m.ip=b ::r -> bh .value b=bh .lead b:=by
  rcases h.ip with e|⟨d,r,e,h1,h2,h3⟩
  . exact ⟨_,.inl rfl,by rw [e]; exact Goes.step (l:=[.fraction,.exponent]) rfl rfl hc (.nil _),fun b r e2=>by rw [e] at e2; cases e2; rfl⟩
  . refine ⟨_,.inr rfl,?_,fun b r' e2=>?_⟩
    . rw [e]
      refine Goes.step (l:=[.figures,.fraction,.exponent]) ?_ rfl hc ?_
      . simp only [bh,lP]
        rw [if_neg (by omega),if_pos (by omega)]
      . exact r9 (n1 _ rfl _ (n1 _ rfl _ hc)) r h3
    . rw [e] at e2
      cases e2
      simp only [bh,kl]
      rw [if_neg (by omega),if_neg (by omega),if_neg (by omega),if_neg (by omega),if_neg (by omega),if_neg (by omega),if_neg (by omega)]
 obtain ⟨ls,hls,g1,g2⟩:=hlead
 have g3:Goes (.value ::st) ((if m.neg then [45] else [])++m.ip) (ls++st):=by
  cases m.neg with
  |true=>exact Goes.step (l:=[.lead]) rfl rfl hc g1
  | false=>
    rw [if_neg (by decide),List.nil_append]
    rcases h.ip with e|⟨d,r,e,_⟩
    . intro q
      have e1:=g1 q
      have e2:=g2 48 [] e
      rw [e] at e1 ⊢
      rw [<- e1]
      simp [tk,gon,e2,loose]
    . intro q
      have e1:=g1 q
      have e2:=g2 d r e
      have ne:∃ l,bh .lead d=some l:=by
       rw [e] at e1
       cases e3:bh .lead d with
       |some l=>exact ⟨l,rfl⟩
       |none=>simp [tk,gon,e3,loose] at e1
      obtain ⟨l,hl⟩:=ne
      rw [e] at e1 ⊢
      rw [<- e1]
      simp [tk,gon,e2,hl]
 have g4:∃ ls',(ls'=[.figures,.exponent] \/ ls'=[.fraction,.exponent] \/ ls'=[.figures,.fraction,.exponent]) /\ Goes (ls++st) (frB m.fr) (ls'++st):=by
  unfold frB
  cases e:m.fr with
  | nil=>
    rw [if_pos rfl]
    refine ⟨ls,?_,.nil _⟩
    rcases hls with z|z
    . exact .inr (.inl z)
    . exact .inr (.inr z)
  | cons d ds=>
    rw [if_neg (by simp)]
    have hf:=h.fr
    rw [e] at hf
    refine ⟨_,.inl rfl,?_⟩
    have base:Goes (.fraction ::.exponent ::st) (46 ::d ::ds) (.figures ::.exponent ::st):=by
     refine Goes.step (l:=[.sp 48 57,.figures]) rfl rfl (n1 _ rfl _ hc) (Goes.step (l:=[]) ?_ rfl (n1 _ rfl _ (n1 _ rfl _ hc)) (r9 (n1 _ rfl _ hc) ds fun b hb=>hf b (List.mem_cons_of_mem _ hb)))
     have:=hf d List.mem_cons_self
     simp only [bh]
     rw [if_pos this]
    rcases hls with z|z
    . subst z; exact base
    . subst z; exact Goes.skip rfl rfl base
 obtain ⟨ls',hls',g5⟩:=g4
 have g6:∃ ls2,ls2.all nl=true /\ Goes (ls'++st) (exB m.ex) (ls2++st):=by
  cases e:m.ex with
  | none=>
    refine ⟨ls',?_,.nil _⟩
    rcases hls' with z|z|z<;>(subst z; rfl)
  | some x=>
    obtain ⟨eb,s,ds⟩:=x
    obtain ⟨he,hs,hd,hf⟩:=h.ex eb s ds e
    refine ⟨[.figures],rfl,?_⟩
    have base:Goes (.exponent ::st) (eb ::(s++ds)) (.figures ::st):=by
     refine Goes.step (l:=[.sign,.sp 48 57,.figures]) (by rcases he with rfl|rfl<;>rfl) rfl hc ?_
     obtain ⟨d,r,ed⟩:∃ d r,ds=d ::r:=by
      cases ds with
      |nil=>exact absurd rfl hd
      |cons d r=>exact ⟨d,r,rfl⟩
     subst ed
     have hd1:=hf d List.mem_cons_self
     have tail:Goes (.sp 48 57 ::.figures ::st) (d ::r) (.figures ::st):=by
      refine Goes.step (l:=[]) ?_ rfl (n1 _ rfl _ hc) (r9 hc r fun b hb=>hf b (List.mem_cons_of_mem _ hb))
      simp only [bh]
      rw [if_pos hd1]
     rcases hs with rfl|rfl|rfl
     . refine Goes.skip ?_ rfl tail
       unfold isF at hd1
       simp only [bh]
       rw [if_neg (by omega)]
     . exact Goes.step (l:=[]) rfl rfl (n1 _ rfl _ (n1 _ rfl _ hc)) tail
     . exact Goes.step (l:=[]) rfl rfl (n1 _ rfl _ (n1 _ rfl _ hc)) tail
    have k1:bh .figures eb=none:=by rcases he with rfl|rfl<;>rfl
    have k2:bh .fraction eb=none:=by rcases he with rfl|rfl<;>rfl
    rcases hls' with z|z|z
    . subst z; exact Goes.skip k1 rfl base
    . subst z; exact Goes.skip k2 rfl base
    . subst z; exact Goes.skip k1 rfl (Goes.skip k2 rfl base)
 obtain ⟨ls2,hl2,g7⟩:=g6
 refine ⟨ls2,hl2,?_⟩
 have:=g3.trans (g5.trans g7)
 unfold nb
 simpa using this
theorem Bx {ls st st':List It} {b:Int} {bs:List Int} (h:ls.all nl=true) (hb:bh .figures b=none /\ bh .fraction b=none /\ bh .exponent b=none) (k:Goes st (b ::bs) st'):Goes (ls++st) (b ::bs) st':=by
 induction ls with
 |nil=>exact k
 | cons it ls ih=>
   simp only [List.all_cons,Bool.and_eq_true] at h
   cases it with
   |figures=>exact Goes.skip hb.1 rfl (ih h.2)
   |fraction=>exact Goes.skip hb.2.1 rfl (ih h.2)
   |exponent=>exact Goes.skip hb.2.2 rfl (ih h.2)
   |_=>exact absurd h.1 (by simp [nl])
end PG
namespace PG
open L2.P PySem
noncomputable def out:List Bool -> List It
 |[]=>[.bf]
 |r ::fs=>.bf ::(if r then .mrow else .mfields) ::out fs
noncomputable def hd (r e:Bool):It:=if r then (if e then .row else .mrow) else (if e then .fields else .mfields)
noncomputable def stk (r e:Bool) (fs:List Bool):List It:=.bf ::hd r e ::out fs
theorem gV:∀ fs:List Bool,cnt (out fs)=fs.length
 |[]=>rfl
 | r ::fs=>by
   show cnt (.bf ::(if r then It.mrow else It.mfields) ::out fs)=fs.length+1
   rw [cnt_cons,cnt_cons,gV fs]
   cases r<;>simp [opn]<;>omega
noncomputable def Gs (a:List It) (xs:List Int) (b:List It):Prop:=∃ ls,ls.all nl=true /\ Goes a xs (ls++b)
theorem Gs.of {a b:List It} {xs:List Int} (h:Goes a xs b):Gs a xs b:=⟨[],rfl,h⟩
noncomputable def xW (b:Int):Prop:=bh .figures b=none /\ bh .fraction b=none /\ bh .exponent b=none
theorem Gs.go {a b c:List It} {xs ys:List Int} {y:Int} (h:Gs a xs b) (hy:xW y) (k:Goes b (y ::ys) c):Goes a (xs++y ::ys) c:=by
 obtain ⟨ls,hl,h⟩:=h
 exact h.trans (Bx hl hy k)
theorem Bo {b:Int} (h:wht b=true):xW b:=by
 unfold wht at h
 simp only [Bool.or_eq_true,decide_eq_true_eq] at h
 refine ⟨?_,?_,?_⟩<;>rcases h with h|h|h|h<;>subst h<;>rfl
theorem yw:xW 44:=⟨rfl,rfl,rfl⟩
theorem CK:xW 93:=⟨rfl,rfl,rfl⟩
theorem BC:xW 125:=⟨rfl,rfl,rfl⟩
theorem cN {st:List It} (hc:cnt st <= 64):∀ ws:List Int,(∀ b∈ws,wht b=true) -> Goes (.bf ::st) ws (.bf ::st)
 |[],_=>Goes.nil _
 |w ::ws,h=>Goes.step (l:=[.bf]) (by simp [bh,h w (List.mem_cons_self)]) rfl hc (cN hc ws fun b hb=>h b (List.mem_cons_of_mem _ hb))
theorem Gs.bf {a st:List It} {xs ws:List Int} (h:Gs a xs (.bf ::st)) (hc:cnt st <= 64) (hw:∀ b∈ws,wht b=true):Gs a (xs++ws) (.bf ::st):=by
 cases ws with
 |nil=>rw [List.append_nil]; exact h
 |cons w ws=>exact .of (h.go (Bo (hw w List.mem_cons_self)) (cN hc _ hw))
theorem Goes.past {st st':List It} {b:Int} {bs:List Int} (hb:wht b=false) (k:Goes st (b ::bs) st'):Goes (.bf ::st) (b ::bs) st':=
 Goes.skip (by simp [bh,hb]) rfl k
theorem Goes.one {it:It} {st l:List It} {b:Int} (h:bh it b=some l) (hc:cnt (l++st) <= 64):Goes (it ::st) [b] (l++st):=fun r=>by
 have:gon (it ::st) b=(l++st,true):=by unfold gon; rw [h]; simp [hc]
 show tk (it ::st) (b ::r)=_
 rw [JG this]; rfl
theorem Gs.vJ {a:List It} {xs:List Int} {fs:List Bool} (h:Gs a xs (stk true false fs)) (hc:fs.length<64):Goes a (xs++[44]) (.bf ::.value ::out (true ::fs)):=by
 refine h.go yw (.past rfl ?_)
 have:=Goes.one (it:=.mrow) (st:=out fs) (b:=44) (l:=[.bf,.value,.bf,.mrow]) rfl (by
  show cnt (.bf ::.value ::out (true ::fs)) <= 64
  rw [cnt_cons,cnt_cons,gV]; simp [opn]; omega)
 exact this
theorem Gs.qS {a:List It} {xs:List Int} {fs:List Bool} (h:Gs a xs (stk false false fs)) (hc:fs.length<64):Goes a (xs++[44]) (.bf ::.name ::.bf ::.sp 58 58 ::.bf ::.value ::out (false ::fs)):=by
 refine h.go yw (.past rfl ?_)
 have:=Goes.one (it:=.mfields) (st:=out fs) (b:=44) (l:=.bf ::.name ::rH) rfl (by
  show cnt (.bf ::.name ::.bf ::.sp 58 58 ::.bf ::.value ::out (false ::fs)) <= 64
  simp only [cnt_cons,gV]; simp [opn]; omega)
 exact this
theorem Gs.close {a:List It} {xs:List Int} {fs:List Bool} (r e:Bool) (h:Gs a xs (stk r e fs)) (hc:fs.length <= 64):Goes a (xs++[if r then 93 else 125]) (out fs):=by
 refine h.go (by cases r; exact BC; exact CK) (.past (by cases r<;>rfl) ?_)
 exact Goes.one (it:=hd r e) (st:=out fs) (l:=[]) (by cases r<;>cases e<;>rfl) (by rw [List.nil_append,gV]; exact hc)
theorem BA {fs:List Bool} (r:Bool) (hc:fs.length<64):Goes (.value ::out fs) [if r then 91 else 123] (stk r true fs):=by
 have:=Goes.one (it:=.value) (st:=out fs) (b:=if r then 91 else 123) (l:=[.bf,hd r true]) (by cases r<;>rfl) (by
  show cnt (.bf ::hd r true ::out fs) <= 64
  rw [cnt_cons,cnt_cons,gV]; cases r<;>simp [opn,hd]<;>omega)
 exact this
theorem zL {fs:List Bool} {b:Int} {bs:List Int} {st' l:List It} (hb:kl b=some l) (hn:b≠93) (k:Goes (.value ::out (true ::fs)) (b ::bs) st'):Goes (.row ::out fs) (b ::bs) st':=fun r=>by
 rw [<- k r]
 have e1:bh .row b=some (l++[.bf,.mrow]):=by simp [bh,hn,hb]
 have e2:bh .value b=some l:=hb
 have:gon (.row ::out fs) b=gon (.value ::out (true ::fs)) b:=by
  unfold gon
  rw [e1,e2]
  simp [out]
 show tk _ (b ::(bs++r))=tk _ (b ::(bs++r))
 unfold tk
 rw [this]
inductive Wd where|null|tru|fal
noncomputable def wdb:Wd -> List Int
 |.null=>[110,117,108,108]|.tru=>[116,114,117,101]|.fal=>[102,97,108,115,101]
theorem i6 {c:Int} {st:List It} (hc:cnt st <= 64):Goes (.sp c c ::st) [c] st:=by
 have:=Goes.one (it:=.sp c c) (st:=st) (b:=c) (l:=[]) (by simp [bh]) hc
 exact this
theorem Bt {st:List It} (hc:cnt st <= 64) (w:Wd):Goes (.value ::st) (wdb w) st:=by
 cases w with
 |null=>exact Goes.step (l:=[.sp 117 117,.sp 108 108,.sp 108 108]) rfl rfl hc (Goes.trans (xs:=[117]) (i6 (by simpa [cnt_cons,opn] using hc)) (Goes.trans (xs:=[108]) (i6 (by simpa [cnt_cons,opn] using hc)) (i6 hc)))
 |tru=>exact Goes.step (l:=[.sp 114 114,.sp 117 117,.sp 101 101]) rfl rfl hc (Goes.trans (xs:=[114]) (i6 (by simpa [cnt_cons,opn] using hc)) (Goes.trans (xs:=[117]) (i6 (by simpa [cnt_cons,opn] using hc)) (i6 hc)))
 |fal=>exact Goes.step (l:=[.sp 97 97,.sp 108 108,.sp 115 115,.sp 101 101]) rfl rfl hc (Goes.trans (xs:=[97]) (i6 (by simpa [cnt_cons,opn] using hc)) (Goes.trans (xs:=[108]) (i6 (by simpa [cnt_cons,opn] using hc)) (Goes.trans (xs:=[115]) (i6 (by simpa [cnt_cons,opn] using hc)) (i6 hc))))
inductive Lf where|wd (w:Wd)|nm (m:Nm)|tx (l:List Sg)
noncomputable def lfb:Lf -> List Int
 |.wd w=>wdb w|.nm m=>nb m|.tx l=>txt l
noncomputable def Lok:Lf -> Prop
 |.wd _=>True|.nm m=>Nok m|.tx l=>∀ s∈l,Sok s
theorem Az {st:List It} (hc:cnt st <= 64) (x:Lf) (h:Lok x):Gs (.value ::st) (lfb x) st:=by
 cases x with
 |wd w=>exact .of (Bt hc w)
 |nm m=>exact Cf h hc
 |tx l=>exact .of (zJ l h hc)
theorem vS {st:List It} (hc:cnt st <= 64) (l:List Sg) (h:∀ s∈l,Sok s):Goes (.name ::st) (txt l) st:=
 Goes.step (l:=[.text]) rfl rfl hc (rS l h st hc)
theorem sY {fs:List Bool} (hc:fs.length<64) (l:List Sg) (h:∀ s∈l,Sok s):Goes (.fields ::out fs) (txt l) (.bf ::.sp 58 58 ::.bf ::.value ::out (false ::fs)):=by
 have hcc:cnt (.bf ::.sp 58 58 ::.bf ::.value ::out (false ::fs)) <= 64:=by simp only [cnt_cons,gV]; simp [opn]; omega
 have h1:=Goes.one (it:=.fields) (st:=out fs) (b:=34) (l:=.text ::rH) rfl (by
  show cnt (.text ::.bf ::.sp 58 58 ::.bf ::.value ::out (false ::fs)) <= 64
  rw [cnt_cons]; simpa [opn] using hcc)
 exact Goes.trans h1 (rS l h _ hcc)
theorem qq {st:List It} (hc:cnt st <= 64) {ws:List Int} (hw:∀ b∈ws,wht b=true):Goes (.bf ::.sp 58 58 ::.bf ::st) (ws++[58]) (.bf ::st):=
 (cN (by simpa [cnt_cons,opn] using hc) ws hw).trans (.past rfl (i6 (by simpa [cnt_cons,opn] using hc)))
noncomputable def tb (b:Int):Prop:=wht b=true \/ isF b \/ b=46 \/ b=101 \/ b=69 \/ b=43 \/ b=45
theorem Goes.whole {a b:List It} {xs:List Int} (h:Goes a xs b):(tk a xs).2=xs.length:=by
 have:=h []
 rw [List.append_nil] at this
 rw [this]; simp [tk]
end PG
namespace L2.P
open PySem
theorem OV.get_nil (t:OV):t.get []=some t:=by unfold OV.get; rfl
theorem OV.lp (t u:OV):t.put [] u=u:=by unfold OV.put; rfl
theorem OV.qI {ts:List OV} {j:Nat} {u:OV} (h:ts[j]?=some u) (π:List Stp):(OV.ol ts).get (.ix j ::π)=u.get π:=by
 rw [OV.get]; simp [OV.at1,h]
theorem OV.zm {ts:List OV} {j:Nat} {u x:OV} (h:ts[j]?=some u) (π:List Stp):(OV.ol ts).put (.ix j ::π) x=.ol (ts.set j (u.put π x)):=by
 rw [OV.put]; simp [OV.at1,h,OV.iR]
theorem bK {ρ:ah} {i:Nat} {s:Sl} {t:OV} (h:ρ[i]?=some (some s)) (hs:slT s=some t):fF i ρ=some t:=by
 unfold fF; rw [h]; exact hs
theorem ko {ρ:ah} {i j:Nat} {ts:List OV} {mk:ah -> OE} {r:RV} {k:Int} (h:fF i ρ=some (.ol ts)) (hk:mk ρ=.ok r) (hr:r.pv=.int k) (hj:ixP ts.length k=some j):pIx i aI mk ρ=some [.ix j]:=by
 unfold pIx
 rw [h]
 simp [aI,OV.get_nil,hk,hr,hj]
theorem wG {ρ:ah} {i j j2:Nat} {ts us:List OV} {mp:MP} {mk:ah -> OE} {r:RV} {k:Int} (h:fF i ρ=some (.ol ts)) (hp:mp ρ=some [.ix j]) (hu:ts[j]?=some (.ol us)) (hk:mk ρ=.ok r) (hr:r.pv=.int k) (hj:ixP us.length k=some j2):pIx i mp mk ρ=some [.ix j,.ix j2]:=by
 unfold pIx
 rw [h,hp]
 simp [OV.qI hu,OV.get_nil,hk,hr,hj]
theorem subAt_one {ρ:ah} {i j:Nat} {ts:List OV} {mp:MP} {u:OV} (h:fF i ρ=some (.ol ts)) (hp:mp ρ=some [.ix j]) (hu:ts[j]?=some u):subAt i mp ρ=some u:=by
 unfold subAt; rw [h,hp]; simp [OV.qI hu,OV.get_nil]
theorem sJ {ρ:ah} {i j j2:Nat} {ts us:List OV} {mp:MP} {u:OV} (h:fF i ρ=some (.ol ts)) (hp:mp ρ=some [.ix j,.ix j2]) (hv:ts[j]?=some (.ol us)) (hu:us[j2]?=some u):subAt i mp ρ=some u:=by
 unfold subAt; rw [h,hp]; simp [OV.qI hv,OV.qI hu,OV.get_nil]
theorem iQ {ρ:ah} {i:Nat} {t:OV} (h:fF i ρ=some t):subAt i aI ρ=some t:=by
 unfold subAt; rw [h]; simp [aI,OV.get_nil]
theorem m9 {ρ:ah} {i:Nat} {mp:MP} {x:PV} (h:subAt i mp ρ=some (.sh x)):cU i mp ρ=.ok (.sh x):=by unfold cU; rw [h]
theorem uh {ρ:ah} {i:Nat} {mp:MP} {ts:List OV} (h:subAt i mp ρ=some (.ol ts)):fT i mp ρ=.ok (.sh (.int ts.length)):=by unfold fT; rw [h]
theorem uV {ρ:ah} {i:Nat} {mp:MP} {ts:List OV} (h:subAt i mp ρ=some (.ol ts)):dA i mp ρ=.ok (!ts.isEmpty):=by unfold dA; rw [h]
theorem FN {ρ:ah} {i:Nat} {io:Bool} {ts:List OV} {x:OV} (h:ρ[i]?=some (some (.tr io (.ol (ts++[x]))))):qj i aI ρ=.ok (ρ.set i (some (.tr io (.ol ts)))) (slO x):=by
 unfold qj
 rw [h]
 simp [aI,OV.get_nil,OV.lp]
theorem tO {ρ:ah} {i:Nat} {io:Bool} {ts:List OV} {x:OV} {md:ah -> OD} (h:ρ[i]?=some (some (.tr io (.ol ts)))) (hd:md ρ=.ok x) (hl:ts.length<lim):b0 i aI md ρ=.nx (ρ.set i (some (.tr io (.ol (ts++[x]))))):=by
 unfold b0 uk
 rw [h]
 simp only [aI,OV.get_nil,hd,hl,if_true,OV.lp]
theorem AK {ρ:ah} {i j j2:Nat} {io:Bool} {ts us xs:List OV} {x:OV} {mp:MP} {md:ah -> OD} (h:ρ[i]?=some (some (.tr io (.ol ts)))) (hp:mp ρ=some [.ix j,.ix j2]) (hv:ts[j]?=some (.ol us)) (hu:us[j2]?=some (.ol xs)) (hd:md ρ=.ok x) (hl:xs.length<lim):
  b0 i mp md ρ=.nx (ρ.set i (some (.tr io (.ol (ts.set j (.ol (us.set j2 (.ol (xs++[x]))))))))):=by
 unfold b0 uk
 rw [h,hp]
 simp only [OV.qI hv,OV.qI hu,OV.get_nil,hd,hl,if_true,OV.zm hv,OV.zm hu,OV.lp]
theorem tP {ρ:ah} {i j j2:Nat} {io:Bool} {ts us:List OV} {x:OV} {mp:MP} {mk:ah -> OE} {md:ah -> OD} {r:RV} {k:Int} (h:ρ[i]?=some (some (.tr io (.ol ts)))) (hp:mp ρ=some [.ix j]) (hv:ts[j]?=some (.ol us)) (hk:mk ρ=.ok r) (hr:r.pv=.int k) (hj:ixP us.length k=some j2) (hd:md ρ=.ok x):
  ou i mp mk md ρ=.nx (ρ.set i (some (.tr io (.ol (ts.set j (.ol (us.set j2 x))))))):=by
 unfold ou uk
 rw [hd]
 dsimp only
 rw [h,hp]
 simp only [OV.qI hv,OV.get_nil,hk,iG,hr,hj,OV.zm hv,OV.lp]
theorem Dh {ρ:ah} {i:Nat} {io:Bool} {ts:List OV} {ys:List PV} {me:ah -> OE} (h:ρ[i]?=some (some (.tr io (.ol ts)))) (he:me ρ=.ok (.fr ys) \/ me ρ=.ok (.sh (.lst ys))) (hl:ts.length+ys.length <= lim):dJ i aI me ρ=.nx (ρ.set i (some (.tr io (.ol (ts++ys.map .sh))))):=by
 unfold dJ uk
 rw [h]
 rcases he with he|he<;>simp only [aI,OV.get_nil,he,iG,hl,if_true,OV.lp]
theorem aZ {m n:ah -> OS} {ρ ρ':ah} (h:m ρ=.nx ρ'):aH m n ρ=n ρ':=by unfold aH; rw [h]; rfl
theorem Ce {m n:ah -> OS} {ρ ρ':ah} {v:RV} (h:m ρ=.rt ρ' v):aH m n ρ=.rt ρ' v:=by unfold aH; rw [h]; rfl
theorem wa (ρ:ah):aT ρ=.nx ρ:=rfl
theorem Ci {c:ah -> OT} {a b:ah -> OS} {ρ:ah} (h:c ρ=.ok true):bj c a b ρ=a ρ:=by unfold bj; rw [h]; rfl
theorem FR {c:ah -> OT} {a b:ah -> OS} {ρ:ah} (h:c ρ=.ok false):bj c a b ρ=b ρ:=by unfold bj; rw [h]; rfl
theorem pB {f:List PV -> OE} {x y:PV} {r:RV} (h:f [x,y]=.ok r) (hr:∀ xs,r≠.al xs):bg (bp f (aj (ao 0) (aj (ao 1) aG))) [some (.sh x),some (.sh y)]=.rt [some (.sh x),some (.sh y)] r:=by
 cases r with
 |al xs=>exact absurd rfl (hr xs)
 |sh z=>simp [h]
 |fr z=>simp [h]
theorem Bs {f:List PV -> OE} {x y:PV} {r:RV} (h:f [y]=.ok r) (hr:∀ xs,r≠.al xs):bg (bp f (aj (ao 1) aG)) [some (.sh x),some (.sh y)]=.rt [some (.sh x),some (.sh y)] r:=by
 cases r with
 |al xs=>exact absurd rfl (hr xs)
 |sh z=>simp [h]
 |fr z=>simp [h]
theorem GN {ρ:ah} {r:RV} (hr:∀ xs,r≠.al xs):fin (.rt ρ r)=.ok r:=by
 cases r with
 |al xs=>exact absurd rfl (hr xs)
 |sh z=>rfl
 |fr z=>rfl
theorem sk {c:ah -> OT} {a n:ah -> OS} {ρ:ah} (h:c ρ=.ok false):aH (bj c a aT) n ρ=n ρ:=aZ (Eq.trans (FR h) (wa _))
theorem st {c:ah -> OT} {a b n:ah -> OS} {ρ ρ':ah} {r:RV} (h:c ρ=.ok true) (k:a ρ=.rt ρ' r):aH (bj c a b) n ρ=.rt ρ' r:=Ce (Eq.trans (Ci h) k)
theorem u5 {X:OS} {ρ:ah} {x:PV} (h:X=.rt ρ (.sh x)):fin X=.ok (.sh x):=by rw [h]; rfl
end L2.P
namespace L2.plainglass_k06_faults_placed
open PySem L2.P
noncomputable def nW (c:String):Bool:=c == "Walk"
noncomputable def uw:ah -> OS:=
    (aH (bj (de (ao 0))
    (bg (mOp jX (ao 0) (mOp b5 (ao 1) (mUn qQ (ao 0)))))
    aT)
    (bg (mC (.int 0))))
noncomputable def iD:List PV -> OE:=fnP 2 2 uw
noncomputable def tw:ah -> OS:=
    (bg (mOp b5 (mOp fm (mOp yd (mOp dC (ao 2) (mC (.int 64))) (mC (.int 69621))) (ao 2)) (mC (.int 4294967231))))
noncomputable def tD:ah -> OS:=
    (aH (bb 2 (mOp b5 (mOp yd (ao 2) (mC (.int 48271))) (mC (.int 4294967279))))
    tw)
noncomputable def vO:ah -> OS:=
    (aH (bb 2 (mOp b5 (mOp fm (bp iD (aj (ao 0) (aj (ao 1) aG))) (mOp yd (mC (.int 104729)) (mOp fm (ao 1) (mC (.int 1))))) (mC (.int 4294967291))))
    tD)
noncomputable def b4:List PV -> OE:=fnP 2 3 vO
noncomputable def jN:ah -> OS:=
    (ir 4)
noncomputable def lO:ah -> OS:=
    (aH (bj (dA 2 aI)
    (aH (b0 2 (pIx 2 (pIx 2 aI (mUn gj (mC (.int 1)))) (mC (.int 1))) (mD (gi (az (mOp gEq (cU 2 (pIx 2 (pIx 2 aI (mUn gj (mC (.int 1)))) (mC (.int 0)))) (mC (.str "row")))) (ao 4) (fU (aj (cU 3 (pIx 3 aI (mC (.int 3)))) (aj (ao 4) aG))))))
    (bj (az (mOp gEq (cU 2 (pIx 2 (pIx 2 aI (mUn gj (mC (.int 1)))) (mC (.int 0)))) (mC (.str "fields"))))
    (ou 1 (pIx 1 aI (mOp ve (cU 3 (pIx 3 aI (mC (.int 2)))) (mC (.int 1)))) (mC (.int 3)) (mD (fT 1 aI)))
    aT))
    aT)
    jN)
noncomputable def jF:ah -> OS:=
    (aH (bb 4 (fU (aj (cU 3 (pIx 3 aI (mC (.int 0)))) (aj (mUn lN (cU 3 (pIx 3 aI (mC (.int 1))))) aG))))
    lO)
noncomputable def qc:ah -> OS:=
    (aH (ou 1 (pIx 1 aI (cU 3 (pIx 3 aI (mC (.int 2))))) (mC (.int 3)) (mD (fT 1 aI)))
    jF)
noncomputable def p7:ah -> OS:=
    (aH (ou 1 (pIx 1 aI (cU 3 (pIx 3 aI (mC (.int 2))))) (mC (.int 2)) (mD (fT 0 aI)))
    qc)
noncomputable def qd:ah -> OS:=
    (aH (b0 0 aI (mD (gi (az (mOp gEq (cU 3 (pIx 3 aI (mC (.int 0)))) (mC (.str "row")))) (mC (.int 93)) (mC (.int 125)))))
    p7)
noncomputable def o9:ah -> OS:=
    (aH (i8 3 (qj 2 aI))
    qd)
noncomputable def cP:List Sl -> OI:=fnI 3 5 o9
noncomputable def jH:ah -> OE:=
    (mOp jX (bP (aj (mC (.int 32)) (aj (mC (.int 9)) (aj (mC (.int 10)) (aj (mC (.int 13)) aG))))) (mOp b5 (mOp dC (mOp dC (ao 0) (mC (.int 4))) (mOp fm (mC (.int 1)) (mOp yd (mC (.int 3)) (ao 1)))) (mC (.int 4))))
noncomputable def oJ:ah -> OS:=
    (aH (bj (az (mOp gGt (mOp b5 (ao 0) (mC (.int 4))) (mC (.int 0))))
    (bg (bP aG))
    aT)
    (bg (xw (mOp fm (mOp b5 (mOp dC (ao 0) (mC (.int 64))) (mC (.int 3))) (mC (.int 1))) [0] jH)))
noncomputable def cw:List PV -> OE:=fnP 1 1 oJ
noncomputable def eZ:ah -> OS:=
    (bg (mOp fm (mC (.int 65536)) (mOp b5 (ao 2) (mC (.int 1048576)))))
noncomputable def fb:ah -> OS:=
    (aH (bj (az (mOp gEq (ao 1) (mC (.int 6))))
    (bg (mOp fm (mC (.int 57344)) (mOp b5 (ao 2) (mC (.int 8192)))))
    aT)
    eZ)
noncomputable def eX:ah -> OS:=
    (aH (bj (az (mOp gEq (ao 1) (mC (.int 5))))
    (bg (mOp fm (mC (.int 2048)) (mOp b5 (ao 2) (mC (.int 53248)))))
    aT)
    fb)
noncomputable def eW:ah -> OS:=
    (aH (bj (az (mOp gEq (ao 1) (mC (.int 4))))
    (bg (mOp fm (mC (.int 128)) (mOp b5 (ao 2) (mC (.int 1920)))))
    aT)
    eX)
noncomputable def fg:ah -> OS:=
    (aH (bj (az (mOp gLt (ao 1) (mC (.int 4))))
    (bg (mOp jX (bP (aj (mC (.int 34)) (aj (mC (.int 92)) (aj (mC (.int 47)) (aj (mC (.int 8)) (aj (mC (.int 12)) (aj (mC (.int 10)) (aj (mC (.int 13)) (aj (mC (.int 9)) (aj (mC (.int 0)) (aj (mC (.int 31)) (aj (mC (.int 127)) aG)))))))))))) (mOp b5 (ao 2) (mC (.int 11)))))
    aT)
    eW)
noncomputable def fe:ah -> OS:=
    (aH (bj (az (mOp gLt (ao 1) (mC (.int 2))))
    (bg (mOp fm (mC (.int 32)) (mOp b5 (ao 2) (mC (.int 95)))))
    aT)
    fg)
noncomputable def eY:ah -> OS:=
    (aH (bb 2 (mOp dC (ao 0) (mC (.int 8))))
    fe)
noncomputable def gu:ah -> OS:=
    (aH (bb 1 (mOp b5 (ao 0) (mC (.int 8))))
    eY)
noncomputable def dE:List PV -> OE:=fnP 1 3 gu
noncomputable def lb:ah -> OE:=
    (bp dE (aj (bp b4 (aj (ao 0) (aj (mOp fm (mOp fm (ao 1) (mC (.int 1))) (ao 2)) aG))) aG))
noncomputable def kJ:ah -> OS:=
    (bg (xw (ao 3) [0,1] lb))
noncomputable def kP:ah -> OS:=
    (aH (bj (az (mOp gEq (mOp b5 (mOp dC (ao 2) (mC (.int 5))) (mC (.int 8))) (mC (.int 3))))
    (bb 3 (mOp b5 (mOp dC (ao 2) (mC (.int 40))) (mC (.int 14))))
    aT)
    kJ)
noncomputable def kK:ah -> OS:=
    (aH (bb 3 (mOp b5 (ao 2) (mC (.int 5))))
    kP)
noncomputable def nA:ah -> OS:=
    (aH (bb 2 (bp b4 (aj (ao 0) (aj (ao 1) aG))))
    kK)
noncomputable def ef:List PV -> OE:=fnP 2 4 nA
noncomputable def ql:ah -> OS:=
    (aH (bj (az (mOp gEq (mOp b5 (ao 1) (mC (.int 2))) (mC (.int 0))))
    (bg (bP (aj (mOp fm (mC (.int 97)) (mOp b5 (mOp dC (ao 1) (mC (.int 2))) (mC (.int 3)))) aG)))
    aT)
    (bg (bp ef (aj (ao 0) (aj (mOp fm (mC (.int 11)) (mOp b5 (mOp dC (ao 1) (mC (.int 2))) (mC (.int 37)))) aG)))))
noncomputable def gq:List PV -> OE:=fnP 2 2 ql
noncomputable def ib:ah -> OS:=
    (aH (bb 2 (mOp gz (bP (aj (mOp fm (mC (.int 128)) (mOp b5 (ao 0) (mC (.int 64)))) aG)) (ao 2)))
    (bb 0 (mOp dC (ao 0) (mC (.int 64)))))
noncomputable def ik:ah -> OS:=
    (bg (mOp gz (bP (aj (mOp fm (mOp jX (bP (aj (mC (.int 192)) (aj (mC (.int 224)) (aj (mC (.int 240)) aG)))) (mOp ve (ao 1) (mC (.int 1)))) (ao 0)) aG)) (ao 2)))
noncomputable def ia:ah -> OS:=
    (aH (tm 3 (ao 1)
    ib)
    ik)
noncomputable def ie:ah -> OS:=
    (aH (bb 2 (bP aG))
    ia)
noncomputable def il:ah -> OS:=
    (aH (bb 1 (mOp fm (mOp fm (mC (.int 1)) (mUn yx (mOp gGe (ao 0) (mC (.int 2048))))) (mUn yx (mOp gGe (ao 0) (mC (.int 65536))))))
    ie)
noncomputable def jZ:ah -> OS:=
    (aH (bj (az (mOp gLt (ao 0) (mC (.int 128))))
    (bg (bP (aj (ao 0) aG)))
    aT)
    il)
noncomputable def eh:List PV -> OE:=fnP 1 4 jZ
noncomputable def lG:ah -> OS:=
    (aH (bb 4 (mOp b5 (ao 0) (mC (.int 16))))
    (aH (bj (az (mOp gLt (ao 4) (mC (.int 10))))
    (bb 2 (mOp gz (bP (aj (mOp fm (mC (.int 48)) (ao 4)) aG)) (ao 2)))
    (bb 2 (mOp gz (bP (aj (mOp fm (gi (de (ao 1)) (mC (.int 55)) (mC (.int 87))) (ao 4)) aG)) (ao 2))))
    (bb 0 (mOp dC (ao 0) (mC (.int 16))))))
noncomputable def sT:ah -> OS:=
    (bg (mOp gz (bP (aj (mC (.int 92)) (aj (mC (.int 117)) aG))) (ao 2)))
noncomputable def sR:ah -> OS:=
    (aH (tm 3 (mC (.int 4))
    lG)
    sT)
noncomputable def vX:ah -> OS:=
    (aH (bb 2 (bP aG))
    sR)
noncomputable def gP:List PV -> OE:=fnP 2 5 vX
noncomputable def rh:ah -> OS:=
    (bg (mOp gz (bp gP (aj (mOp fm (mC (.int 55296)) (mOp dC (ao 4) (mC (.int 1024)))) (aj (mOp gEq (ao 3) (mC (.int 1))) aG))) (bp gP (aj (mOp fm (mC (.int 56320)) (mOp b5 (ao 4) (mC (.int 1024)))) (aj (mOp gEq (ao 3) (mC (.int 0))) aG)))))
noncomputable def rJ:ah -> OS:=
    (aH (bb 4 (mOp ve (ao 0) (mC (.int 65536))))
    rh)
noncomputable def kn:ah -> OS:=
    (aH (bj (az (mOp gLt (ao 0) (mC (.int 65536))))
    (bg (bp gP (aj (ao 0) (aj (mOp gEq (ao 3) (mC (.int 1))) aG))))
    aT)
    rJ)
noncomputable def eR:ah -> OS:=
    (aH (bj (dI (az (mOp gGt (ao 3) (mC (.int 1)))) (dI (az (mOp gGe (ao 0) (mC (.int 32)))) (dI (az (mOp gNe (ao 0) (mC (.int 34)))) (az (mOp gNe (ao 0) (mC (.int 92)))))))
    (bg (bp eh (aj (ao 0) aG)))
    aT)
    kn)
noncomputable def mX:ah -> OS:=
    (aH (bj (dI (az (mOp gEq (ao 3) (mC (.int 0)))) (az (yU false (ao 0) 2 aI)))
    (bg (bP (aj (mC (.int 92)) (aj (A0 2 aI (ao 0)) aG))))
    aT)
    eR)
noncomputable def iZ:ah -> OS:=
    (aH (bb 3 (mOp b5 (ao 1) (mC (.int 5))))
    mX)
noncomputable def vd:ah -> OS:=
    (aH (mq 2 (IH [(34,34),(92,92),(47,47),(8,98),(12,102),(10,110),(13,114),(9,116)]))
    iZ)
noncomputable def iz:List PV -> OE:=fnP 2 5 vd
noncomputable def kx:ah -> OS:=
    (aH (bb 2 (mOp gz (ao 2) (bp iz (aj (ao 4) (aj (mOp fm (mOp dC (ao 1) (mOp fm (mC (.int 1)) (mOp b5 (ao 3) (mC (.int 7))))) (ao 3)) aG)))))
    (bb 3 (mOp fm (ao 3) (mC (.int 1)))))
noncomputable def rP:ah -> OS:=
    (bg (mOp gz (ao 2) (bP (aj (mC (.int 34)) aG))))
noncomputable def rL:ah -> OS:=
    (aH (sU 4 (ao 0)
    kx)
    rP)
noncomputable def qY:ah -> OS:=
    (aH (bb 3 (mC (.int 0)))
    rL)
noncomputable def uN:ah -> OS:=
    (aH (bb 2 (bP (aj (mC (.int 34)) aG)))
    qY)
noncomputable def fK:List PV -> OE:=fnP 2 5 uN
noncomputable def lT:ah -> OS:=
    (ir 5)
noncomputable def lR:ah -> OS:=
    (aH (bj (dI (dA 3 aI) (az (mOp gEq (cU 3 (pIx 3 (pIx 3 aI (mUn gj (mC (.int 1)))) (mC (.int 0)))) (mC (.str "fields")))))
    (aH (bb 6 (bp gq (aj (ao 0) (aj (mOp dC (ao 4) (mC (.int 13))) aG))))
    (aH (bb 5 (mUn lN (ao 6)))
    (aH (bb 7 (fT 1 aI))
    (aH (jQ 6 (dJ 1 aI (bp fK (aj (ao 6) (aj (mOp dC (ao 4) (mC (.int 17))) aG)))))
    (aH (b0 2 aI (mD (bP (aj (mC (.str "name")) (aj (ao 7) (aj (fT 1 aI) (aj (mC (.int 0)) aG)))))))
    (aH (dJ 1 aI (bp cw (aj (mOp dC (ao 4) (mC (.int 19))) aG)))
    (aH (b0 1 aI (mD (mC (.int 58))))
    (dJ 1 aI (bp cw (aj (mOp dC (ao 4) (mC (.int 23))) aG))))))))))
    aT)
    lT)
noncomputable def pV:ah -> OS:=
    (aH (bj (dI (dA 3 aI) (de (cU 3 (pIx 3 (pIx 3 aI (mUn gj (mC (.int 1)))) (mC (.int 1))))))
    (aH (b0 1 aI (mD (mC (.int 44))))
    (dJ 1 aI (bp cw (aj (mOp dC (ao 4) (mC (.int 11))) aG))))
    aT)
    lR)
noncomputable def p5:ah -> OS:=
    (aH (bb 5 (fU aG))
    pV)
noncomputable def lJ:ah -> OS:=
    (aH (dJ 1 aI (bp cw (aj (mOp dC (ao 4) (mC (.int 3))) aG)))
    p5)
noncomputable def fw:List Sl -> OI:=fnI 5 8 lJ
noncomputable def ij:ah -> OT:=
    (az (mOp gEq (mOp b5 (ao 0) (mC (.int 10))) (mC (.int 0))))
noncomputable def jR:ah -> OS:=
    (aH (bb 0 (mOp dC (ao 0) (mC (.int 10))))
    (bb 1 (mOp fm (ao 1) (mC (.int 1)))))
noncomputable def pX:ah -> OS:=
    (bg (fU (aj (ao 0) (aj (ao 1) aG))))
noncomputable def pR:ah -> OS:=
    (aH (fQ ij
    jR fuel)
    pX)
noncomputable def oM:ah -> OS:=
    (aH (bj (az (mOp gEq (ao 0) (mC (.int 0))))
    (bg (fU (aj (mC (.int 0)) (aj (mC (.int 0)) aG))))
    aT)
    pR)
noncomputable def eO:List PV -> OE:=fnP 2 2 oM
noncomputable def gH:ah -> OE:=
    (mUn Aq (ao 0))
noncomputable def jd:ah -> OE:=
    (mOp fm (mC (.int 48)) (ao 0))
noncomputable def fq:ah -> OS:=
    (bb 4 (mOp fm (mOp yd (ao 4) (mC (.int 10))) (ao 5)))
noncomputable def gL:ah -> OS:=
    (aH (eM 3 (mOp fm (mC (.int 48)) (ao 5)))
    (aH (bb 4 (mOp fm (mOp yd (ao 4) (mC (.int 10))) (ao 5)))
    (bb 6 (mOp ve (ao 6) (mC (.int 1))))))
noncomputable def fu:ah -> OE:=
    (mUn CP (ao 0))
noncomputable def j5:ah -> OS:=
    (jQ 3 (bg (fU (aj (ao 3) (aj (bp eO (aj (ao 4) (aj (ao 6) aG))) aG)))))
noncomputable def o1:ah -> OS:=
    (aH (bj (de (ao 1))
    (bb 4 (mUn gj (ao 4)))
    aT)
    j5)
noncomputable def n8:ah -> OS:=
    (aH (bj (az (mOp gEq (mOp b5 (mOp dC (ao 0) (mC (.int 31))) (mC (.int 3))) (mC (.int 1))))
    (aH (bb 7 (mOp b5 (mOp dC (ao 0) (mC (.int 37))) (mC (.int 30))))
    (aH (eM 3 (mOp jX (bP (aj (mC (.int 101)) (aj (mC (.int 69)) aG))) (mOp b5 (mOp dC (ao 0) (mC (.int 41))) (mC (.int 2)))))
    (aH (bb 8 (mOp gEq (mOp b5 (mOp dC (ao 0) (mC (.int 43))) (mC (.int 3))) (mC (.int 1))))
    (aH (bj (de (ao 8))
    (eM 3 (mC (.int 45)))
    (bj (az (mOp gEq (mOp b5 (mOp dC (ao 0) (mC (.int 43))) (mC (.int 3))) (mC (.int 2))))
    (eM 3 (mC (.int 43)))
    aT))
    (aH (bj (az (mOp gEq (mOp b5 (mOp dC (ao 0) (mC (.int 47))) (mC (.int 4))) (mC (.int 1))))
    (eM 3 (mC (.int 48)))
    aT)
    (aH (bb 3 (mOp gz (ao 3) (o2 (mUn pd (ao 7)) [] fu)))
    (bb 6 (mOp fm (ao 6) (gi (de (ao 8)) (mUn gj (ao 7)) (ao 7))))))))))
    aT)
    o1)
noncomputable def oW:ah -> OS:=
    (aH (bj (az (mOp gEq (mOp b5 (mOp dC (ao 0) (mC (.int 17))) (mC (.int 3))) (mC (.int 1))))
    (aH (eM 3 (mC (.int 46)))
    (sU 5 (kY (bP (aj (mOp b5 (mOp dC (ao 0) (mC (.int 19))) (mC (.int 10))) (aj (mOp b5 (mOp dC (ao 0) (mC (.int 23))) (mC (.int 4))) (aj (mC (.int 0)) aG)))) (mC .non) (gp (mOp fm (mC (.int 1)) (mOp b5 (mOp dC (ao 0) (mC (.int 29))) (mC (.int 3))))))
    gL))
    aT)
    n8)
noncomputable def oV:ah -> OS:=
    (aH (bb 6 (mC (.int 0)))
    oW)
noncomputable def oQ:ah -> OS:=
    (aH (jQ 2 (sU 5 (ao 2)
    fq))
    oV)
noncomputable def o7:ah -> OS:=
    (aH (bb 4 (mC (.int 0)))
    oQ)
noncomputable def oS:ah -> OS:=
    (aH (bb 3 (mOp gz (ao 3) (sG (ao 2) [] jd)))
    o7)
noncomputable def o5:ah -> OS:=
    (aH (bb 3 (gi (de (ao 1)) (bP (aj (mC (.int 45)) aG)) (bP aG)))
    oS)
noncomputable def oY:ah -> OS:=
    (aH (bb 2 (o2 (mUn pd (mOp b5 (mOp dC (ao 0) (mC (.int 3))) (mC (.int 100000)))) [] gH))
    o5)
noncomputable def rj:ah -> OS:=
    (aH (bb 1 (mOp gEq (mOp b5 (ao 0) (mC (.int 3))) (mC (.int 0))))
    oY)
noncomputable def fH:List PV -> OE:=fnP 1 9 rj
noncomputable def km:ah -> OS:=
    (bg (fU (aj (mC (.str "number")) (aj (mOp gv (ao 4) (mC (.int 0))) (aj (fU (aj (mC (.str "number")) (aj (mOp gv (mOp gv (ao 4) (mC (.int 1))) (mC (.int 0))) (aj (mOp gv (mOp gv (ao 4) (mC (.int 1))) (mC (.int 1))) aG)))) aG)))))
noncomputable def pN:ah -> OS:=
    (aH (bb 4 (bp fH (aj (mOp dC (ao 1) (mC (.int 7))) aG)))
    km)
noncomputable def pK:ah -> OS:=
    (aH (bj (az (mOp gEq (ao 2) (mC (.int 3))))
    (aH (bb 3 (bp ef (aj (ao 0) (aj (mOp fm (mC (.int 7)) (mOp b5 (ao 1) (mC (.int 41)))) aG))))
    (jQ 3 (bg (fU (aj (mC (.str "text")) (aj (bp fK (aj (ao 3) (aj (mOp dC (ao 1) (mC (.int 30))) aG))) (aj (fU (aj (mC (.str "text")) (aj (mUn lN (ao 3)) aG))) aG)))))))
    aT)
    pN)
noncomputable def pE:ah -> OS:=
    (aH (bj (az (mOp gEq (ao 2) (mC (.int 2))))
    (bg (fU (aj (mC (.str "false")) (aj (bP (aj (mC (.int 102)) (aj (mC (.int 97)) (aj (mC (.int 108)) (aj (mC (.int 115)) (aj (mC (.int 101)) aG)))))) (aj (mC (.bl false)) aG)))))
    aT)
    pK)
noncomputable def pH:ah -> OS:=
    (aH (bj (az (mOp gEq (ao 2) (mC (.int 1))))
    (bg (fU (aj (mC (.str "true")) (aj (bP (aj (mC (.int 116)) (aj (mC (.int 114)) (aj (mC (.int 117)) (aj (mC (.int 101)) aG))))) (aj (mC (.bl true)) aG)))))
    aT)
    pE)
noncomputable def kh:ah -> OS:=
    (aH (bj (az (mOp gEq (ao 2) (mC (.int 0))))
    (bg (fU (aj (mC (.str "null")) (aj (bP (aj (mC (.int 110)) (aj (mC (.int 117)) (aj (mC (.int 108)) (aj (mC (.int 108)) aG))))) (aj (mC .non) aG)))))
    aT)
    pH)
noncomputable def lq:ah -> OS:=
    (aH (bb 2 (mOp b5 (mOp dC (ao 1) (mC (.int 5))) (mC (.int 6))))
    kh)
noncomputable def cn:List PV -> OE:=fnP 2 5 lq
noncomputable def ig:ah -> OS:=
    (aH (bb 7 (bp b4 (aj (ao 0) (aj (ao 6) aG))))
    (bj (dI (dA 4 aI) (az (mOp gEq (mOp b5 (ao 7) (mC (.int 5))) (mC (.int 1)))))
    (aH (dJ 2 aI (bp cw (aj (mOp dC (ao 7) (mC (.int 3))) aG)))
    (i8 5 (jb cP [.t 2 aI,.t 3 aI,.t 4 aI])))
    (bj (u4 (dA 4 aI) (az (mOp gEq (ao 6) (mC (.int 0)))))
    (aH (i8 8 (jb fw [.e (ao 0),.t 2 aI,.t 3 aI,.t 4 aI,.e (ao 7)]))
    (aH (bb 9 (fT 2 aI))
    (bj (u4 (az (mOp gGt (mOp b5 (ao 7) (mC (.int 5))) (mC (.int 2)))) (dI (az (mOp gEq (ao 6) (mC (.int 0)))) (az (mOp gGt (mOp b5 (ao 7) (mC (.int 9))) (mC (.int 0))))))
    (aH (bb 10 (mOp jX (bP (aj (mC (.str "row")) (aj (mC (.str "fields")) aG))) (mOp b5 (mOp dC (ao 7) (mC (.int 5))) (mC (.int 2)))))
    (aH (b0 2 aI (mD (gi (az (mOp gEq (ao 10) (mC (.str "row")))) (mC (.int 91)) (mC (.int 123)))))
    (aH (b0 4 aI (mDl (mDc (mD (ao 10)) (mDc (mD (bP aG)) (mDc (mD (fT 3 aI)) (mDc (mD (ao 8)) mDn))))))
    (b0 3 aI (mD (bP (aj (ao 10) (aj (ao 9) (aj (mC (.int 0)) (aj (mC (.int 0)) aG))))))))))
    (aH (bb 11 (bp cn (aj (ao 0) (aj (ao 7) aG))))
    (aH (dJ 2 aI (mOp gv (ao 11) (mC (.int 1))))
    (aH (b0 3 aI (mD (bP (aj (mOp gv (ao 11) (mC (.int 0))) (aj (ao 9) (aj (fT 2 aI) (aj (mOp fm (fT 3 aI) (mC (.int 1))) aG)))))))
    (aH (bb 5 (mOp gv (ao 11) (mC (.int 2))))
    (bj (dI (dA 4 aI) (az (mOp gEq (cU 4 (pIx 4 (pIx 4 aI (mUn gj (mC (.int 1)))) (mC (.int 0)))) (mC (.str "fields")))))
    (aH (ou 3 (pIx 3 aI (mUn gj (mC (.int 2)))) (mC (.int 3)) (mD (fT 3 aI)))
    (b0 4 (pIx 4 (pIx 4 aI (mUn gj (mC (.int 1)))) (mC (.int 1))) (mD (fU (aj (ao 8) (aj (ao 5) aG))))))
    (bj (dA 4 aI)
    (b0 4 (pIx 4 (pIx 4 aI (mUn gj (mC (.int 1)))) (mC (.int 1))) (mD (ao 5)))
    aT)))))))))
    aT)))
noncomputable def ic:ah -> OT:=
    (dA 4 aI)
noncomputable def jP:ah -> OS:=
    (i8 5 (jb cP [.t 2 aI,.t 3 aI,.t 4 aI]))
noncomputable def lK:ah -> OE:=
    (mUn lN (ao 0))
noncomputable def pZ:ah -> OS:=
    (oN 3 (oN 2 (bg (fU (aj (ao 2) (aj (sG (ao 3) [] lK) (aj (ao 5) aG)))))))
noncomputable def lQ:ah -> OS:=
    (aH (dJ 2 aI (bp cw (aj (bp b4 (aj (ao 0) (aj (mC (.int 61)) aG))) aG)))
    pZ)
noncomputable def p9:ah -> OS:=
    (aH (fQ ic
    jP fuel)
    lQ)
noncomputable def lW:ah -> OS:=
    (aH (tm 6 (ao 1)
    ig)
    p9)
noncomputable def pU:ah -> OS:=
    (aH (bb 5 (mC .non))
    lW)
noncomputable def pQ:ah -> OS:=
    (aH (mq 4 (mD (bP aG)))
    pU)
noncomputable def qg:ah -> OS:=
    (aH (mq 3 (mD (bP aG)))
    pQ)
noncomputable def o3:ah -> OS:=
    (aH (mq 2 (mD (bP aG)))
    qg)
noncomputable def gD:List PV -> OE:=fnP 2 12 o3
noncomputable def tG:ah -> OS:=
    (Ea 0 aI "coming" nW (mD (bP (aj (mC (.str "white")) (aj (mC (.str "value")) (aj (mC (.str "white")) aG))))))
noncomputable def cW:List Sl -> OI:=fnI 1 1 tG
noncomputable def jU:ah -> OS:=
    (bg (mUn (gJ [(110,.tup ([117,108,108].map .int)),(116,.tup ([114,117,101].map .int)),(102,.tup ([97,108,115,101].map .int))]) (ao 0)))
noncomputable def eU:List PV -> OE:=fnP 1 1 jU
noncomputable def sV:ah -> OS:=
    (bg (lV gLe gLe (mC (.int 48)) (ao 0) (mC (.int 57))))
noncomputable def eP:List PV -> OE:=fnP 1 1 sV
noncomputable def kf:ah -> OS:=
    (bg (mC .non))
noncomputable def kb:ah -> OS:=
    (aH (bj (de (bp eP (aj (ao 0) aG)))
    (bg (bP (aj (mC (.str "figures")) (aj (mC (.str "fraction")) (aj (mC (.str "exponent")) aG)))))
    aT)
    kf)
noncomputable def lM:ah -> OS:=
    (aH (bj (az (mOp gEq (ao 0) (mC (.int 48))))
    (bg (bP (aj (mC (.str "fraction")) (aj (mC (.str "exponent")) aG))))
    aT)
    kb)
noncomputable def dO:List PV -> OE:=fnP 1 1 lM
noncomputable def cF:ah -> OE:=
    (fU (aj (ao 0) (aj (ao 0) aG)))
noncomputable def cK:ah -> OS:=
    (bg (bp dO (aj (ao 0) aG)))
noncomputable def cH:ah -> OS:=
    (aH (bj (az (mOp yO (ao 1) (mC .non)))
    (bg (uQ (ao 1) [] cF))
    aT)
    cK)
noncomputable def cE:ah -> OS:=
    (aH (bb 1 (bp eU (aj (ao 0) aG)))
    cH)
noncomputable def cI:ah -> OS:=
    (aH (bj (az (mOp gEq (ao 0) (mC (.int 45))))
    (bg (bP (aj (mC (.str "lead")) aG)))
    aT)
    cE)
noncomputable def cG:ah -> OS:=
    (aH (bj (az (mOp gEq (ao 0) (mC (.int 34))))
    (bg (bP (aj (mC (.str "text")) aG)))
    aT)
    cI)
noncomputable def cJ:ah -> OS:=
    (aH (bj (az (mOp gEq (ao 0) (mC (.int 123))))
    (bg (bP (aj (mC (.str "white")) (aj (mC (.str "fields")) aG))))
    aT)
    cG)
noncomputable def dy:ah -> OS:=
    (aH (bj (az (mOp gEq (ao 0) (mC (.int 91))))
    (bg (bP (aj (mC (.str "white")) (aj (mC (.str "row")) aG))))
    aT)
    cJ)
noncomputable def bN:List PV -> OE:=fnP 1 2 dy
noncomputable def bG:ah -> OS:=
    (bg (gi (az (mOp gIn (ao 1) (fU (aj (mC (.int 43)) (aj (mC (.int 45)) aG))))) (bP aG) (mC .non)))
noncomputable def bH:ah -> OS:=
    (aH (bj (az (mOp gEq (ao 0) (mC (.str "exponent"))))
    (bg (gi (az (mOp gIn (ao 1) (fU (aj (mC (.int 101)) (aj (mC (.int 69)) aG))))) (bP (aj (mC (.str "sign")) (aj (fU (aj (mC (.int 48)) (aj (mC (.int 57)) aG))) (aj (mC (.str "figures")) aG)))) (mC .non)))
    aT)
    bG)
noncomputable def bB:ah -> OS:=
    (aH (bj (az (mOp gEq (ao 0) (mC (.str "fraction"))))
    (bg (gi (az (mOp gEq (ao 1) (mC (.int 46)))) (bP (aj (fU (aj (mC (.int 48)) (aj (mC (.int 57)) aG))) (aj (mC (.str "figures")) aG))) (mC .non)))
    aT)
    bH)
noncomputable def bD:ah -> OS:=
    (aH (bj (az (mOp gEq (ao 0) (mC (.str "figures"))))
    (bg (gi (de (bp eP (aj (ao 1) aG))) (bP (aj (mC (.str "figures")) aG)) (mC .non)))
    aT)
    bB)
noncomputable def bW:ah -> OS:=
    (aH (bj (az (mOp gEq (ao 0) (mC (.str "lead"))))
    (bg (bp dO (aj (ao 1) aG)))
    aT)
    bD)
noncomputable def aW:List PV -> OE:=fnP 2 2 bW
noncomputable def qh:ah -> OS:=
    (bg (mC .non))
noncomputable def qb:ah -> OS:=
    (aH (bj (az (lV gLe gLe (mC (.int 97)) (ao 0) (mC (.int 102))))
    (bg (mOp ve (ao 0) (mC (.int 87))))
    aT)
    qh)
noncomputable def p6:ah -> OS:=
    (aH (bj (az (lV gLe gLe (mC (.int 65)) (ao 0) (mC (.int 70))))
    (bg (mOp ve (ao 0) (mC (.int 55))))
    aT)
    qb)
noncomputable def tq:ah -> OS:=
    (aH (bj (de (bp eP (aj (ao 0) aG)))
    (bg (mOp ve (ao 0) (mC (.int 48))))
    aT)
    p6)
noncomputable def fD:List PV -> OE:=fnP 1 1 tq
noncomputable def i7:ah -> OS:=
    (bg (mC .non))
noncomputable def jg:ah -> OS:=
    (aH (bj (az (mOp gLt (ao 0) (mC (.int 12))))
    (aH (bb 1 (bP (aj (fU (aj (mC (.int 92)) (aj (mC (.int 92)) aG))) (aj (fU (aj (mC (.int 117)) (aj (mC (.int 117)) aG))) (aj (mC (.str "hex d")) (aj (mC (.str "hex c to f")) (aj (mC (.str "hex")) (aj (mC (.str "hex")) aG))))))))
    (bg (mOp gz (bP (aj (mC (.str "hex")) (aj (mC (.str "hex")) aG))) (ao 1))))
    aT)
    i7)
noncomputable def ke:ah -> OS:=
    (aH (bj (az (mOp gLt (ao 0) (mC (.int 8))))
    (bg (bP (aj (mC (.str "hex")) (aj (mC (.str "hex")) aG))))
    aT)
    jg)
noncomputable def dD:List PV -> OE:=fnP 1 2 ke
noncomputable def hU:ah -> OS:=
    (bg (mC (.tup ([128,191].map .int))))
noncomputable def gZ:ah -> OS:=
    (aH (bj (az (mOp gEq (ao 0) (mC (.int 237))))
    (bg (fU (aj (mC (.int 128)) (aj (mC (.int 159)) aG))))
    aT)
    hU)
noncomputable def iV:ah -> OS:=
    (aH (bj (az (mOp gEq (ao 0) (mC (.int 224))))
    (bg (fU (aj (mC (.int 160)) (aj (mC (.int 191)) aG))))
    aT)
    gZ)
noncomputable def cO:List PV -> OE:=fnP 1 1 iV
noncomputable def iE:ah -> OS:=
    (bg (mC (.tup ([128,191].map .int))))
noncomputable def iL:ah -> OS:=
    (aH (bj (az (mOp gEq (ao 0) (mC (.int 244))))
    (bg (fU (aj (mC (.int 128)) (aj (mC (.int 143)) aG))))
    aT)
    iE)
noncomputable def jl:ah -> OS:=
    (aH (bj (az (mOp gEq (ao 0) (mC (.int 240))))
    (bg (fU (aj (mC (.int 144)) (aj (mC (.int 191)) aG))))
    aT)
    iL)
noncomputable def dn:List PV -> OE:=fnP 1 1 jl
noncomputable def kA:ah -> OS:=
    (bg (mC .non))
noncomputable def kz:ah -> OS:=
    (aH (bj (az (lV gLe gLt (mC (.int 240)) (ao 0) (mC (.int 245))))
    (bg (bP (aj (bp dn (aj (ao 0) aG)) (aj (mC (.tup ([128,191].map .int))) (aj (mC (.tup ([128,191].map .int))) aG)))))
    aT)
    kA)
noncomputable def ky:ah -> OS:=
    (aH (bj (az (lV gLe gLt (mC (.int 224)) (ao 0) (mC (.int 240))))
    (bg (bP (aj (bp cO (aj (ao 0) aG)) (aj (mC (.tup ([128,191].map .int))) aG))))
    aT)
    kz)
noncomputable def kE:ah -> OS:=
    (aH (bj (az (lV gLe gLt (mC (.int 194)) (ao 0) (mC (.int 224))))
    (bg (bP (aj (mC (.tup ([128,191].map .int))) aG)))
    aT)
    ky)
noncomputable def pk:ah -> OS:=
    (aH (bj (az (lV gLe gLt (mC (.int 0)) (ao 0) (mC (.int 128))))
    (bg (bP aG))
    aT)
    kE)
noncomputable def iW:List PV -> OE:=fnP 1 1 pk
noncomputable def dR:ah -> OS:=
    (bg (mOp gz (ao 1) (bP (aj (mC (.str "text")) aG))))
noncomputable def dW:ah -> OS:=
    (aH (bj (u4 (az (mOp gLt (ao 0) (mC (.int 32)))) (az (mOp yC (ao 1) (mC .non))))
    (bg (mC .non))
    aT)
    dR)
noncomputable def dP:ah -> OS:=
    (aH (bb 1 (bp iW (aj (ao 0) aG)))
    dW)
noncomputable def dU:ah -> OS:=
    (aH (bj (az (mOp gEq (ao 0) (mC (.int 92))))
    (bg (bP (aj (mC (.str "escape")) (aj (mC (.str "text")) aG))))
    aT)
    dP)
noncomputable def eE:ah -> OS:=
    (aH (bj (az (mOp gEq (ao 0) (mC (.int 34))))
    (bg (bP aG))
    aT)
    dU)
noncomputable def bV:List PV -> OE:=fnP 1 2 eE
noncomputable def cR:ah -> OS:=
    (bg (mUn (gJ [(34,.int 34),(92,.int 92),(47,.int 47),(98,.int 8),(102,.int 12),(110,.int 10),(114,.int 13),(116,.int 9)]) (ao 0)))
noncomputable def bO:List PV -> OE:=fnP 1 1 cR
noncomputable def iA:ah -> OS:=
    (aH (bj (az (mOp gEq (ao 0) (mC (.int 117))))
    (bg (bP (aj (mC (.str "code")) aG)))
    aT)
    (bg (gi (az (mOp yC (bp bO (aj (ao 0) aG)) (mC .non))) (mC .non) (bP aG))))
noncomputable def cy:List PV -> OE:=fnP 1 1 iA
noncomputable def dj:ah -> OS:=
    (bg (bp dD (aj (ao 2) aG)))
noncomputable def df:ah -> OS:=
    (aH (bj (az (mOp gEq (ao 0) (mC (.str "code"))))
    (bg (gi (az (mOp gEq (ao 2) (mC (.int 13)))) (bP (aj (mC (.str "code d")) aG)) (bP (aj (mC (.str "hex")) (aj (mC (.str "hex")) (aj (mC (.str "hex")) aG))))))
    aT)
    dj)
noncomputable def dg:ah -> OS:=
    (aH (bj (az (mOp yC (ao 2) (mC .non)))
    (bg (mC .non))
    aT)
    df)
noncomputable def dc:ah -> OS:=
    (aH (bb 2 (bp fD (aj (ao 1) aG)))
    dg)
noncomputable def dh:ah -> OS:=
    (aH (bj (az (mOp gEq (ao 0) (mC (.str "escape"))))
    (bg (bp cy (aj (ao 1) aG)))
    aT)
    dc)
noncomputable def dM:ah -> OS:=
    (aH (bj (az (mOp gEq (ao 0) (mC (.str "text"))))
    (bg (bp bV (aj (ao 1) aG)))
    aT)
    dh)
noncomputable def bL:List PV -> OE:=fnP 2 3 dM
noncomputable def gG:ah -> OS:=
    (bg (bP aG))
noncomputable def gE:ah -> OS:=
    (aH (bj (az (mOp gEq (ao 0) (mC (.str "hex c to f"))))
    (bg (gi (az (mOp gGe (ao 2) (mC (.int 12)))) (bP aG) (mC .non)))
    aT)
    gG)
noncomputable def gn:ah -> OS:=
    (aH (bj (az (mOp gEq (ao 0) (mC (.str "hex d"))))
    (bg (gi (az (mOp gEq (ao 2) (mC (.int 13)))) (bP aG) (mC .non)))
    aT)
    gE)
noncomputable def gB:ah -> OS:=
    (aH (bj (az (mOp yC (ao 2) (mC .non)))
    (bg (mC .non))
    aT)
    gn)
noncomputable def i4:ah -> OS:=
    (aH (bb 2 (bp fD (aj (ao 1) aG)))
    gB)
noncomputable def dB:List PV -> OE:=fnP 2 3 i4
noncomputable def eT:ah -> OS:=
    (bg (gi (az (mOp yC (ao 1) (mC .non))) (mC .non) (mOp gz (ao 1) (bP (aj (mC (.str "white")) (aj (mC (.str "more row")) aG))))))
noncomputable def eQ:ah -> OS:=
    (aH (bb 1 (bp bN (aj (ao 0) aG)))
    eT)
noncomputable def fO:ah -> OS:=
    (aH (bj (az (mOp gEq (ao 0) (mC (.int 93))))
    (bg (bP aG))
    aT)
    eQ)
noncomputable def cb:List PV -> OE:=fnP 1 2 fO
noncomputable def pT:ah -> OS:=
    (bg (bP (aj (mC (.str "white")) (aj (fU (aj (mC (.int 58)) (aj (mC (.int 58)) aG))) (aj (mC (.str "white")) (aj (mC (.str "value")) (aj (mC (.str "white")) (aj (mC (.str "more fields")) aG))))))))
noncomputable def ez:List PV -> OE:=fnP 0 0 pT
noncomputable def gc:ah -> OS:=
    (aH (bj (az (mOp gEq (ao 0) (mC (.int 125))))
    (bg (bP aG))
    aT)
    (bg (gi (az (mOp gEq (ao 0) (mC (.int 34)))) (mOp gz (bP (aj (mC (.str "text")) aG)) (bp ez aG)) (mC .non))))
noncomputable def bY:List PV -> OE:=fnP 1 1 gc
noncomputable def cf:ah -> OS:=
    (bg (gi (az (mOp gEq (ao 1) (mC (.int 125)))) (bP aG) (mC .non)))
noncomputable def b6:ah -> OS:=
    (aH (bj (az (mOp gEq (ao 1) (mC (.int 44))))
    (bg (mOp gz (bP (aj (mC (.str "white")) (aj (mC (.str "name")) aG))) (bp ez aG)))
    aT)
    cf)
noncomputable def cg:ah -> OS:=
    (aH (bj (az (mOp gEq (ao 0) (mC (.str "more row"))))
    (aH (bj (az (mOp gEq (ao 1) (mC (.int 44))))
    (bg (bP (aj (mC (.str "white")) (aj (mC (.str "value")) (aj (mC (.str "white")) (aj (mC (.str "more row")) aG))))))
    aT)
    (bg (gi (az (mOp gEq (ao 1) (mC (.int 93)))) (bP aG) (mC .non))))
    aT)
    b6)
noncomputable def b9:ah -> OS:=
    (aH (bj (az (mOp gEq (ao 0) (mC (.str "fields"))))
    (bg (bp bY (aj (ao 1) aG)))
    aT)
    cg)
noncomputable def cC:ah -> OS:=
    (aH (bj (az (mOp gEq (ao 0) (mC (.str "row"))))
    (bg (bp cb (aj (ao 1) aG)))
    aT)
    b9)
noncomputable def ba:List PV -> OE:=fnP 2 2 cC
noncomputable def u6:ah -> OS:=
    (bg (mOp gIn (ao 0) (mC (.tup ([9,10,13,32].map .int)))))
noncomputable def iy:List PV -> OE:=fnP 1 1 u6
noncomputable def uR:ah -> OS:=
    (bg (bp bN (aj (ao 1) aG)))
noncomputable def uj:ah -> OS:=
    (aH (bj (az (mOp gEq (ao 0) (mC (.str "name"))))
    (bg (gi (az (mOp gEq (ao 1) (mC (.int 34)))) (bP (aj (mC (.str "text")) aG)) (mC .non)))
    aT)
    uR)
noncomputable def uW:ah -> OS:=
    (aH (bj (az (mOp gEq (ao 0) (mC (.str "white"))))
    (bg (gi (de (bp iy (aj (ao 1) aG))) (bP (aj (mC (.str "white")) aG)) (mC .non)))
    aT)
    uj)
noncomputable def uF:ah -> OS:=
    (aH (bj (az (mOp gIn (ao 0) (mC (.tup [.str "row",.str "more row",.str "fields",.str "more fields"]))))
    (bg (bp ba (aj (ao 0) (aj (ao 1) aG))))
    aT)
    uW)
noncomputable def uo:ah -> OS:=
    (aH (bj (az (mOp gIn (ao 0) (fU (aj (mC (.str "hex")) (aj (mC (.str "hex d")) (aj (mC (.str "hex c to f")) aG))))))
    (bg (bp dB (aj (ao 0) (aj (ao 1) aG))))
    aT)
    uF)
noncomputable def uz:ah -> OS:=
    (aH (bj (az (mOp gIn (ao 0) (fU (aj (mC (.str "text")) (aj (mC (.str "escape")) (aj (mC (.str "code")) (aj (mC (.str "code d")) aG)))))))
    (bg (bp bL (aj (ao 0) (aj (ao 1) aG))))
    aT)
    uo)
noncomputable def ui:ah -> OS:=
    (aH (bj (az (mOp gIn (ao 0) (fU (aj (mC (.str "lead")) (aj (mC (.str "figures")) (aj (mC (.str "fraction")) (aj (mC (.str "exponent")) (aj (mC (.str "sign")) aG))))))))
    (bg (bp aW (aj (ao 0) (aj (ao 1) aG))))
    aT)
    uz)
noncomputable def uu:ah -> OS:=
    (aH (bj (de (mIs "tuple" (ao 0)))
    (bg (gi (az (lV gLe gLe (mOp gv (ao 0) (mC (.int 0))) (ao 1) (mOp gv (ao 0) (mC (.int 1))))) (bP aG) (mC .non)))
    aT)
    ui)
noncomputable def j3:List PV -> OE:=fnP 2 2 uu
noncomputable def iY:ah -> OE:=
    (ao 0)
noncomputable def gf:ah -> OT:=
    (az (mOp gIn (ao 0) (mC (.tup [.str "row",.str "more row",.str "fields",.str "more fields"]))))
noncomputable def nP:ah -> OS:=
    (bg (mUn qQ (jT (cU 0 (pFd 0 aI "coming" nW)) [] gf iY)))
noncomputable def cD:List Sl -> OI:=fnI 1 1 nP
noncomputable def gQ:ah -> OT:=
    (dA 0 (pFd 0 aI "coming" nW))
noncomputable def gU:ah -> OS:=
    (aH (i8 2 (qj 0 (pFd 0 aI "coming" nW)))
    (aH (bb 3 (bp j3 (aj (ao 2) (aj (ao 1) aG))))
    (aH (bj (az (mOp yO (ao 3) (mC .non)))
    (aH (dJ 0 (pFd 0 aI "coming" nW) (FW (ao 3) (mUn gj (mC (.int 1)))))
    (bg (mOp gLe (mU "Walk" "brackets" cD [.b 0 aI]) (mC (.int 64)))))
    aT)
    (bj (az (mOp rV (ao 2) (mC (.tup [.str "white",.str "figures",.str "fraction",.str "exponent",.str "sign"]))))
    (bg (mC (.bl false)))
    aT))))
noncomputable def jc:ah -> OS:=
    (aH (fQ gQ
    gU fuel)
    (bg (mC (.bl false))))
noncomputable def dQ:List Sl -> OI:=fnI 2 4 jc
noncomputable def jG:ah -> OS:=
    (Fp true (oi "Walk" "goes_on" dQ [.t 0 aI,.e (ao 3)])
    (ir 2)
    aT)
noncomputable def lu:ah -> OS:=
    (aH (zW 2 3 (ao 1)
    jG)
    (bg (mUn qQ (ao 1))))
noncomputable def fz:List Sl -> OI:=fnI 2 4 lu
noncomputable def i3:ah -> OE:=
    (mOp gIn (ao 0) (mC (.tup [.str "white",.str "figures",.str "fraction",.str "exponent",.str "sign"])))
noncomputable def nO:ah -> OS:=
    (bg (mUn Ff (sG (cU 0 (pFd 0 aI "coming" nW)) [] i3)))
noncomputable def cV:List Sl -> OI:=fnI 1 1 nO
noncomputable def sy:ah -> OS:=
    (ir 2)
noncomputable def vA:ah -> OS:=
    (aH (bj (dI (az (mOp gEq (ao 2) (mUn qQ (ao 0)))) (de (mU "Walk" "is_whole" cV [.b 1 aI])))
    (bg (mC .non))
    aT)
    sy)
noncomputable def vT:ah -> OS:=
    (aH (i8 2 (oi "Walk" "take" fz [.t 1 aI,.e (ao 0)]))
    vA)
noncomputable def A3:ah -> OS:=
    (aH (mq 1 (vK "Walk" cW))
    vT)
noncomputable def kq:List PV -> OE:=fnP 1 3 A3
noncomputable def tf:ah -> OS:=
    (bg (yM (mIs "int" (ao 0)) (CY (mIs "bool" (ao 0)))))
noncomputable def gA:List PV -> OE:=fnP 1 1 tf
noncomputable def vZ:ah -> OE:=
    (ao 0)
noncomputable def wI:ah -> OT:=
    (az (mOp gEq (mOp gv (ao 0) (mC (.int 0))) (mC (.str "name"))))
noncomputable def tN:ah -> OE:=
    (ao 0)
noncomputable def tX:ah -> OT:=
    (az (mOp rV (ao 0) (fU (aj (mC (.int 32)) (aj (mC (.int 9)) (aj (mC (.int 10)) (aj (mC (.int 13)) aG)))))))
noncomputable def Ai:ah -> OS:=
    (bg (yM (bp gA (aj (ao 9) aG)) (mOp gEq (ao 9) (ao 6))))
noncomputable def xA:ah -> OS:=
    (aH (bb 9 (bp kq (aj (mOp gz (mOp gz (kY (ao 2) (mC .non) (gp (ao 6))) (bP (aj (ao 7) aG))) (kY (ao 2) (gp (ao 6)) (mC .non))) aG)))
    Ai)
noncomputable def AU:ah -> OS:=
    (aH (bj (az (mOp gEq (ao 5) (mC (.int 0))))
    (aH (bb 6 (mOp gv (ao 3) (mC (.int 1))))
    (aH (bb 7 (mOp jX (bP (aj (mC (.int 44)) (aj (mC (.int 58)) (aj (mC (.int 125)) (aj (mC (.int 43)) (aj (mC (.int 46)) (aj (mC (.int 65)) (aj (mC (.int 0)) (aj (mC (.int 31)) (aj (mC (.int 128)) (aj (mC (.int 255)) (aj (mC (.int 39)) (aj (mC (.int 35)) aG))))))))))))) (mOp b5 (bp b4 (aj (ao 0) (aj (mC (.int 58)) aG))) (mC (.int 12)))))
    (aH (bb 8 (jT (kY (ao 2) (mC .non) (gp (ao 6))) [] tX tN))
    (bj (dI (az (mOp gEq (ao 7) (mC (.int 125)))) (dI (de (ao 8)) (az (mOp gEq (mOp jX (ao 8) (mUn gj (mC (.int 1)))) (mC (.int 123))))))
    (bg (mOp gNe (bp kq (aj (mOp gz (kY (ao 2) (mC .non) (gp (ao 6))) (bP (aj (ao 7) aG))) aG)) (ao 6)))
    aT))))
    (aH (bb 6 (mOp gv (ao 3) (mC (.int 2))))
    (bb 7 (mOp jX (bP (aj (mC (.int 34)) (aj (mC (.int 91)) (aj (mC (.int 123)) (aj (mC (.int 65)) (aj (mC (.int 39)) (aj (mC (.int 35)) (aj (mC (.int 0)) (aj (mC (.int 200)) aG))))))))) (mOp b5 (bp b4 (aj (ao 0) (aj (mC (.int 58)) aG))) (mC (.int 8)))))))
    xA)
noncomputable def wq:ah -> OS:=
    (aH (bb 5 (mOp b5 (bp b4 (aj (ao 0) (aj (mC (.int 59)) aG))) (mC (.int 3))))
    AU)
noncomputable def AR:ah -> OS:=
    (aH (bj (dI (de (ao 4)) (az (mOp gEq (mOp b5 (bp b4 (aj (ao 0) (aj (mC (.int 57)) aG))) (mC (.int 3))) (mC (.int 0)))))
    (bb 3 (mOp jX (ao 4) (mOp b5 (bp b4 (aj (ao 0) (aj (mC (.int 56)) aG))) (mUn qQ (ao 4)))))
    aT)
    wq)
noncomputable def AX:ah -> OS:=
    (aH (bb 4 (jT (mOp gv (ao 1) (mC (.int 1))) [] wI vZ))
    AR)
noncomputable def AJ:ah -> OS:=
    (aH (bb 3 (mOp jX (mOp gv (ao 1) (mC (.int 1))) (mOp b5 (bp b4 (aj (ao 0) (aj (mC (.int 60)) aG))) (mUn qQ (mOp gv (ao 1) (mC (.int 1)))))))
    AX)
noncomputable def Ay:ah -> OS:=
    (aH (bb 2 (mOp gv (ao 1) (mC (.int 0))))
    AJ)
noncomputable def GK:ah -> OS:=
    (aH (bb 1 (bp gD (aj (ao 0) (aj (mOp fm (mC (.int 1)) (mOp b5 (bp b4 (aj (ao 0) (aj (mC (.int 62)) aG))) (mC (.int 10)))) aG))))
    Ay)
noncomputable def vw:List PV -> OE:=fnP 1 10 GK
theorem mV (ns:List Int) (k:Int):iD [.lst (ns.map .int),.int k]=.ok (.sh (.int (PG.cell ns k))):=by
 unfold iD uw PG.cell
 cases ns with
 |nil=>simp
 | cons n r=>
   have hp:(0:Int)<(r.length:Int)+1:=by omega
   have hm:0 <= k%((r.length:Int)+1):=Int.emod_nonneg _ (by omega)
   have hm2:k%((r.length:Int)+1)<(r.length:Int)+1:=Int.emod_lt_of_pos _ hp
   have hi:(k%((r.length:Int)+1)).toNat<(n ::r).length:=by rw [List.length_cons]; omega
   have ha:atP (PV.int n ::r.map .int) (k%((r.length:Int)+1))=some (.int ((n ::r).getD (k%((r.length:Int)+1)).toNat 0)):=by
    rw [DT _ _ hm]
    have:(PV.int n ::r.map .int)=(n ::r).map .int:=rfl
    rw [this,List.getElem?_map,List.getElem?_eq_getElem hi,List.getD_eq_getElem?_getD,List.getElem?_eq_getElem hi]
    rfl
   simp [hp,ha]
theorem bX (ns:List Int) (k:Int):b4 [.lst (ns.map .int),.int k]=.ok (.sh (.int (PG.mix ns k))):=by
 unfold PG.mix
 simp [tw,tD,vO,b4,mV]
theorem lC (n:Int):gA [.int n]=.ok (.sh (.bl true)):=by
 unfold gA tf
 simp
theorem lA (n:Int):dE [.int n]=.ok (.sh (.int (PG.point n))):=by
 unfold PG.point
 have ha:atP [PV.int 34,.int 92,.int 47,.int 8,.int 12,.int 10,.int 13,.int 9,.int 0,.int 31,.int 127] (n/8%11)=some (.int (PG.menu.getD (n/8%11).toNat 0)):=by
  have h0:0 <= n/8%11:=by omega
  have hi:(n/8%11).toNat<PG.menu.length:=by show _<11; omega
  rw [DT _ _ h0]
  show (PG.menu.map PV.int)[_]?=_
  rw [List.getElem?_map,List.getD_eq_getElem?_getD,List.getElem?_eq_getElem hi]
  rfl
 by_cases h1:n%8<2
 . simp [eZ,fb,eX,eW,fg,fe,eY,gu,dE,h1]
 . by_cases h2:n%8<4
   . simp [eZ,fb,eX,eW,fg,fe,eY,gu,dE,h1,h2,ha]
   . by_cases h3:n%8=4
     . simp [eZ,fb,eX,eW,fg,fe,eY,gu,dE,h3]
     . by_cases h4:n%8=5
       . simp [eZ,fb,eX,eW,fg,fe,eY,gu,dE,h4]
       . by_cases h5:n%8=6
         . simp [eZ,fb,eX,eW,fg,fe,eY,gu,dE,h5]
         . simp [eZ,fb,eX,eW,fg,fe,eY,gu,dE,h1,h2,h3,h4,h5]
theorem gT (ns:List Int) (k:Int):ef [.lst (ns.map .int),.int k]=.ok (.fr ((PG.points ns k).map .int)):=by
 have hs:=PG.yW ns k
 have hm:=PG.zA ns k
 have el:∀ m:Nat,dr lb [some (.sh (.lst (ns.map .int))),some (.sh (.int k))] (dF m) =
   .ok ((List.range m).map fun j:Nat=>.int (PG.point (PG.mix ns (k+1+(j:Int))))):=fun m=>by
  unfold dF
  refine kD _ fun j _=>?_
  simp [lb,bX,lA]
 have hp:(PG.points ns k).map PV.int=(List.range (PG.uB ns k).toNat).map fun j:Nat=>.int (PG.point (PG.mix ns (k+1+(j:Int)))):=by
  unfold PG.points
  rw [List.map_map]
  rfl
 rw [hp]
 have hl:(PG.uB ns k).toNat <= lim:=dS (by omega)
 unfold PG.uB at hs hl ⊢
 by_cases h3:PG.mix ns k/5%8=3
 . rw [if_pos h3] at hs hl ⊢
   have h1:-4611686018427387904 <= PG.mix ns k/40%14 /\ PG.mix ns k/40%14<4611686018427387904:=by omega
   simp [ef,nA,kK,kP,kJ,bX,h3,cY,el,h1]
   unfold lim; omega
 . rw [if_neg h3] at hs hl ⊢
   have h1:-4611686018427387904 <= PG.mix ns k%5 /\ PG.mix ns k%5<4611686018427387904:=by omega
   simp [ef,nA,kK,kP,kJ,bX,h3,cY,el,h1]
   unfold lim; omega
theorem lr (n:Int) (h:PG.lU n=true):eh [.int n]=.ok (.fr ((PG.bF n).map .int)):=by
 have hn:0 <= n:=by
  unfold PG.lU at h
  simp only [Bool.or_eq_true,Bool.and_eq_true,decide_eq_true_eq] at h
  omega
 unfold PG.bF
 by_cases h1:n<128
 . simp [ib,ik,ia,ie,il,jZ,eh,h1]
 . by_cases h2:n<2048
   . have g2:¬ 2048 <= n:=by omega
     have g3:¬ 65536 <= n:=by omega
     simp [ib,ik,ia,ie,il,jZ,eh,h1,h2,g2,g3,dF,List.range_succ]
   . by_cases h3:n<65536
     . have g2:2048 <= n:=by omega
       have g3:¬ 65536 <= n:=by omega
       have e1:n/64/64=n/4096:=by omega
       simp [ib,ik,ia,ie,il,jZ,eh,h1,h2,h3,g2,g3,dF,List.range_succ,e1]
     . have g2:2048 <= n:=by omega
       have g3:65536 <= n:=by omega
       have e1:n/64/64=n/4096:=by omega
       have e2:n/4096/64=n/262144:=by omega
       simp [ib,ik,ia,ie,il,jZ,eh,h1,h2,h3,g2,g3,dF,List.range_succ,e1,e2]
theorem mL (b:Int):iy [.int b]=.ok (.sh (.bl (PG.wht b))):=by
 simp -implicitDefEqProofs [u6,iy,gIn,og,fh,kX,PG.wht]
 simp [Bool.beq_eq_decide_eq]
theorem fB (b:Int):eP [.int b]=.ok (.sh (.bl (PG.fig b))):=by
 by_cases h:48 <= b<;>simp -implicitDefEqProofs [sV,eP,PG.fig,h]
theorem iP (b:Int):fD [.int b]=.ok (.sh (match PG.eS b with|some w=>.int w|none=>.non)):=by
 unfold PG.eS
 by_cases h1:48 <= b<;>by_cases h2:b <= 57<;>by_cases h3:65 <= b<;>by_cases h4:b <= 70<;>by_cases h5:97 <= b<;>by_cases h6:b <= 102<;>first|omega|simp -implicitDefEqProofs [qh,qb,p6,tq,fD,fB,PG.fig,h1,h2,h3,h4,h5,h6]
theorem DP (b:Int):iW [.int b]=.ok (match PG.tls b with|some l=>.fr (l.map PG.bA)|none=>.sh .non):=by
 have h3:cO [.int b]=.ok (.sh (PG.bA (if b=224 then .sp 160 191 else if b=237 then .sp 128 159 else .sp 128 191))):=by
  by_cases h1:b=224
  . simp [hU,gZ,iV,cO,h1,PG.bA]
  . by_cases h2:b=237<;>simp [hU,gZ,iV,cO,h1,h2,PG.bA]
 have h4:dn [.int b]=.ok (.sh (PG.bA (if b=240 then .sp 144 191 else if b=244 then .sp 128 143 else .sp 128 191))):=by
  by_cases h1:b=240
  . simp [iE,iL,jl,dn,h1,PG.bA]
  . by_cases h2:b=244<;>simp [iE,iL,jl,dn,h1,h2,PG.bA]
 unfold PG.tls
 by_cases h0:0 <= b /\ b<128
 . simp [kA,kz,ky,kE,pk,iW,h0.1,h0.2]
 . by_cases ha:194 <= b /\ b<224
   . have:¬ b<128:=by omega
     have z:0 <= b:=by omega
     simp [kA,kz,ky,kE,pk,iW,ha.1,ha.2,z,this,PG.bA]
   . by_cases hb:224 <= b /\ b<240
     . have z1:¬ b<128:=by omega
       have z2:¬ b<224:=by omega
       have z:0 <= b:=by omega
       have z3:194 <= b:=by omega
       simp [kA,kz,ky,kE,pk,iW,hb.1,hb.2,z,z1,z2,z3,h3]
       simp [PG.bA]
     . by_cases hc:240 <= b /\ b<245
       . have z1:¬ b<128:=by omega
         have z2:¬ b<224:=by omega
         have z:0 <= b:=by omega
         have z3:194 <= b:=by omega
         have z4:224 <= b:=by omega
         have z5:¬ b<240:=by omega
         simp [kA,kz,ky,kE,pk,iW,hc.1,hc.2,z,z1,z2,z3,z4,z5,h4]
         simp [PG.bA]
       . simp only [h0,ha,hb,hc,if_false]
         by_cases g0:0 <= b<;>by_cases g1:b<128<;>by_cases g2:194 <= b<;>by_cases g3:b<224<;>by_cases g4:224 <= b<;>by_cases g5:b<240<;>by_cases g6:240 <= b<;>by_cases g7:b<245<;>first|omega|simp [kA,kz,ky,kE,pk,iW,g0,g1,g2,g3,g4,g5,g6,g7]
noncomputable def rI:Option (List PG.It) -> RV
 |some l=>.fr (l.map PG.bA)
 |none=>.sh .non
theorem fX (b:Int):dO [.int b]=.ok (rI (PG.lP b)):=by
 unfold PG.lP
 by_cases h0:b=48
 . simp [kf,kb,lM,dO,h0,rI,PG.bA]
 . by_cases h1:48 <= b<;>by_cases h2:b <= 57<;>simp [kf,kb,lM,dO,h0,h1,h2,fB,PG.fig,rI,PG.bA]
theorem fo (b:Int):bN [.int b]=.ok (rI (PG.kl b)):=by
 unfold PG.kl
 by_cases h1:b=91
 . simp [cF,cK,cH,cE,cI,cG,cJ,dy,bN,h1,rI,PG.bA]
 by_cases h2:b=123
 . simp [cF,cK,cH,cE,cI,cG,cJ,dy,bN,h2,rI,PG.bA]
 by_cases h3:b=34
 . simp [cF,cK,cH,cE,cI,cG,cJ,dy,bN,h3,rI,PG.bA]
 by_cases h4:b=45
 . simp [cF,cK,cH,cE,cI,cG,cJ,dy,bN,h4,rI,PG.bA]
 by_cases h5:b=110
 . simp [cF,cK,cH,cE,cI,cG,cJ,dy,bN,h5,rI,PG.bA,jU,eU,gJ,cM,uQ,dr,cY,List.lookup]
 by_cases h6:b=116
 . simp [cF,cK,cH,cE,cI,cG,cJ,dy,bN,h6,rI,PG.bA,jU,eU,gJ,cM,uQ,dr,cY,List.lookup]
 by_cases h7:b=102
 . simp [cF,cK,cH,cE,cI,cG,cJ,dy,bN,h7,rI,PG.bA,jU,eU,gJ,cM,uQ,dr,cY,List.lookup]
 have z5:(b==110)=false:=by simpa using h5
 have z6:(b==116)=false:=by simpa using h6
 have z7:(b==102)=false:=by simpa using h7
 simp [cF,cK,cH,cE,cI,cG,cJ,dy,bN,h1,h2,h3,h4,h5,h6,h7,z5,z6,z7,jU,eU,gJ,cM,List.lookup,fX]
 cases PG.lP b<;>simp [rI]
theorem dw:ez []=.ok (.fr (PG.rH.map PG.bA)):=by
 simp [pT,ez,PG.rH,PG.bA]
theorem my (it:PG.It) (b:Int) (h:it=.lead \/ it=.figures \/ it=.fraction \/ it=.exponent \/ it=.sign):aW [PG.bA it,.int b]=.ok (rI (PG.bh it b)):=by
 rcases h with rfl|rfl|rfl|rfl|rfl
 . simp [bG,bH,bB,bD,bW,aW,PG.bA,gEq,eqS,aK,fX]
   cases e:PG.lP b<;>simp [PG.bh,rI,e]
 . by_cases h1:48 <= b<;>by_cases h2:b <= 57<;>simp [bG,bH,bB,bD,bW,aW,PG.bA,gEq,eqS,aK,fB,PG.fig,PG.bh,rI,h1,h2]
 . by_cases h1:b=46<;>simp [bG,bH,bB,bD,bW,aW,PG.bA,gEq,eqS,aK,PG.bh,rI,h1]
 . by_cases h1:b=101
   . simp [bG,bH,bB,bD,bW,aW,PG.bA,gEq,eqS,aK,PG.bh,rI,h1,gIn,og,fh,kX]
   . by_cases h2:b=69
     . simp [bG,bH,bB,bD,bW,aW,PG.bA,gEq,eqS,aK,PG.bh,rI,h2,gIn,og,fh,kX]
     . have z1:¬ 101=b:=fun z=>h1 z.symm
       have z2:¬ 69=b:=fun z=>h2 z.symm
       simp [bG,bH,bB,bD,bW,aW,PG.bA,gEq,eqS,aK,PG.bh,rI,h1,h2,z1,z2,gIn,og,fh,kX]
 . by_cases h1:b=43
   . simp [bG,bH,bB,bD,bW,aW,PG.bA,gEq,eqS,aK,PG.bh,rI,h1,gIn,og,fh,kX]
   . by_cases h2:b=45
     . simp [bG,bH,bB,bD,bW,aW,PG.bA,gEq,eqS,aK,PG.bh,rI,h2,gIn,og,fh,kX]
     . have z1:¬ 43=b:=fun z=>h1 z.symm
       have z2:¬ 45=b:=fun z=>h2 z.symm
       simp [bG,bH,bB,bD,bW,aW,PG.bA,gEq,eqS,aK,PG.bh,rI,h1,h2,z1,z2,gIn,og,fh,kX]
theorem ji (b:Int):∃ x,bO [.int b]=.ok (.sh x) /\ cM x=!PG.wD b:=by
 unfold PG.wD
 by_cases h1:b=34
 . exact ⟨.int 34,by simp [cR,bO,gJ,List.lookup,h1],by simp [cM,h1]⟩
 by_cases h2:b=92
 . exact ⟨.int 92,by simp [cR,bO,gJ,List.lookup,h2],by simp [cM,h2]⟩
 by_cases h3:b=47
 . exact ⟨.int 47,by simp [cR,bO,gJ,List.lookup,h3],by simp [cM,h3]⟩
 by_cases h4:b=98
 . exact ⟨.int 8,by simp [cR,bO,gJ,List.lookup,h4],by simp [cM,h4]⟩
 by_cases h5:b=102
 . exact ⟨.int 12,by simp [cR,bO,gJ,List.lookup,h5],by simp [cM,h5]⟩
 by_cases h6:b=110
 . exact ⟨.int 10,by simp [cR,bO,gJ,List.lookup,h6],by simp [cM,h6]⟩
 by_cases h7:b=114
 . exact ⟨.int 13,by simp [cR,bO,gJ,List.lookup,h7],by simp [cM,h7]⟩
 by_cases h8:b=116
 . exact ⟨.int 9,by simp [cR,bO,gJ,List.lookup,h8],by simp [cM,h8]⟩
 have zz:∀ k:Int,¬ b=k -> (b==k)=false:=fun k h=>by simpa using h
 exact ⟨.non,by simp [cR,bO,gJ,List.lookup,zz _ h1,zz _ h2,zz _ h3,zz _ h4,zz _ h5,zz _ h6,zz _ h7,zz _ h8],by simp [cM,h1,h2,h3,h4,h5,h6,h7,h8]⟩
theorem fP (b:Int):cy [.int b]=.ok (rI (PG.Dj b)):=by
 obtain ⟨x,hx,hn⟩:=ji b
 unfold PG.Dj
 by_cases h1:b=117
 . simp [iA,cy,h1,rI,PG.bA]
 . cases hs:PG.wD b<;>rw [hs] at hn<;>simp at hn<;>simp [iA,cy,h1,hx,hn,rI]
theorem FU (b:Int) (l:List PG.It) (h:PG.tls b=some l):l.length <= 3:=by
 unfold PG.tls at h
 repeat' split at h
 all_goals (first|(cases h; done)|(injection h with h; subst h; simp))
theorem fG (b:Int):bV [.int b]=.ok (rI (PG.sA b)):=by
 have ht:=DP b
 unfold PG.sA
 by_cases h1:b=34
 . simp [dR,dW,dP,dU,eE,bV,h1,rI]
 by_cases h2:b=92
 . simp [dR,dW,dP,dU,eE,bV,h2,rI,PG.bA]
 cases e:PG.tls b with
 | none=>
   rw [e] at ht
   by_cases h3:b<32<;>simp [dR,dW,dP,dU,eE,bV,h1,h2,h3,rI,ht,cM]
 | some l=>
   rw [e] at ht
   have hl:l.length+1 <= lim:=dS (by have:=FU b l e; omega)
   by_cases h3:b<32<;>simp [dR,dW,dP,dU,eE,bV,h1,h2,h3,rI,ht,cM,hl,PG.bA]
theorem iw (w:Int):dD [.int w]=.ok (rI (PG.zB w)):=by
 unfold PG.zB
 by_cases h1:w<8
 . simp [i7,jg,ke,dD,h1,rI,PG.bA]
 . by_cases h2:w<12<;>simp [i7,jg,ke,dD,h1,h2,rI,PG.bA]
theorem tW (it:PG.It) (b:Int) (h:it=.text \/ it=.escape \/ it=.code \/ it=.coded):bL [PG.bA it,.int b]=.ok (rI (PG.bh it b)):=by
 have hw:=iP b
 rcases h with rfl|rfl|rfl|rfl
 . simp [dj,df,dg,dc,dh,dM,bL,PG.bA,gEq,eqS,aK,fG]
   cases e:PG.sA b<;>simp [PG.bh,rI,e]
 . simp [dj,df,dg,dc,dh,dM,bL,PG.bA,gEq,eqS,aK,fP]
   cases e:PG.Dj b<;>simp [PG.bh,rI,e]
 . cases e:PG.eS b with
   | none=>
     rw [e] at hw
     simp [dj,df,dg,dc,dh,dM,bL,PG.bA,gEq,eqS,aK,hw,cM,PG.bh,e,rI]
   | some w=>
     rw [e] at hw
     by_cases h13:w=13<;>simp [dj,df,dg,dc,dh,dM,bL,PG.bA,gEq,eqS,aK,hw,cM,PG.bh,e,rI,h13]
 . cases e:PG.eS b with
   | none=>
     rw [e] at hw
     simp [dj,df,dg,dc,dh,dM,bL,PG.bA,gEq,eqS,aK,hw,cM,PG.bh,e,rI]
   | some w=>
     rw [e] at hw
     simp [dj,df,dg,dc,dh,dM,bL,PG.bA,gEq,eqS,aK,hw,cM,PG.bh,e,iw]
     cases e2:PG.zB w<;>simp [rI]
theorem zP (it:PG.It) (b:Int) (h:it=.hex \/ it=.hexd \/ it=.hexcf):dB [PG.bA it,.int b]=.ok (rI (PG.bh it b)):=by
 have hw:=iP b
 cases e:PG.eS b with
 | none=>
   rw [e] at hw
   rcases h with rfl|rfl|rfl<;>simp [gG,gE,gn,gB,i4,dB,PG.bA,gEq,eqS,aK,hw,cM,PG.bh,e,rI]
 | some w=>
   rw [e] at hw
   rcases h with rfl|rfl|rfl
   . simp [gG,gE,gn,gB,i4,dB,PG.bA,gEq,eqS,aK,hw,cM,PG.bh,e,rI]
   . by_cases h13:w=13<;>simp [gG,gE,gn,gB,i4,dB,PG.bA,gEq,eqS,aK,hw,cM,PG.bh,e,rI,h13]
   . by_cases h13:12 <= w<;>simp [gG,gE,gn,gB,i4,dB,PG.bA,gEq,eqS,aK,hw,cM,PG.bh,e,rI,h13]
theorem Bv (b:Int) (l:List PG.It) (h:PG.kl b=some l):l.length <= 5:=by
 unfold PG.kl PG.lP at h
 repeat' split at h
 all_goals (first|(cases h; done)|(injection h with h; subst h; decide))
theorem fL (b:Int):cb [.int b]=.ok (rI (PG.bh .row b)):=by
 have hv:=fo b
 by_cases h1:b=93
 . simp [eT,eQ,fO,cb,h1,rI,PG.bh]
 cases e:PG.kl b with
 |none=>rw [e] at hv; simp [eT,eQ,fO,cb,h1,hv,rI,PG.bh,e,cM]
 | some l=>
   rw [e] at hv
   have hl:l.length+2 <= lim:=dS (by have:=Bv b l e; omega)
   simp [eT,eQ,fO,cb,h1,hv,rI,PG.bh,e,cM,PG.bA,hl]
theorem eJ (b:Int):bY [.int b]=.ok (rI (PG.bh .fields b)):=by
 by_cases h1:b=125
 . simp [gc,bY,h1,rI,PG.bh]
 by_cases h2:b=34<;>simp [gc,bY,h1,h2,rI,PG.bh,dw,PG.rH,PG.bA]
theorem lz (it:PG.It) (b:Int) (h:it=.row \/ it=.mrow \/ it=.fields \/ it=.mfields):ba [PG.bA it,.int b]=.ok (rI (PG.bh it b)):=by
 rcases h with rfl|rfl|rfl|rfl
 . simp [cf,b6,cg,b9,cC,ba,PG.bA,gEq,eqS,aK,fL]
   cases e:PG.bh .row b<;>simp [rI]
 . by_cases h1:b=44
   . simp [cf,b6,cg,b9,cC,ba,PG.bA,gEq,eqS,aK,h1,PG.bh,rI]
   . by_cases h2:b=93<;>simp [cf,b6,cg,b9,cC,ba,PG.bA,gEq,eqS,aK,h1,h2,PG.bh,rI]
 . simp [cf,b6,cg,b9,cC,ba,PG.bA,gEq,eqS,aK,eJ]
   cases e:PG.bh .fields b<;>simp [rI]
 . by_cases h1:b=44
   . simp [cf,b6,cg,b9,cC,ba,PG.bA,gEq,eqS,aK,h1,PG.bh,rI,dw,PG.rH]
   . by_cases h2:b=125<;>simp [cf,b6,cg,b9,cC,ba,PG.bA,gEq,eqS,aK,h1,h2,PG.bh,rI]
theorem vM (o:Option (List PG.It)) (xs:List PV):rI o≠.al xs:=by cases o<;>simp [rI]
theorem b7 {x:PV} {b:Int} {ρ:ah} {o:Option (List PG.It)} (h:uu [some (.sh x),some (.sh (.int b))]=.rt ρ (rI o)):j3 [x,.int b]=.ok (rI o):=Eq.trans (congrArg fin h) (GN (vM o))
theorem qN (it:PG.It) (b:Int):j3 [PG.bA it,.int b]=.ok (rI (PG.bh it b)):=by
 have t1:∀ it:PG.It,aW [PG.bA it,.int b]=.ok (rI (PG.bh it b)) -> _:=fun it h=>pB h (vM _)
 have t2:∀ it:PG.It,bL [PG.bA it,.int b]=.ok (rI (PG.bh it b)) -> _:=fun it h=>pB h (vM _)
 have t3:∀ it:PG.It,dB [PG.bA it,.int b]=.ok (rI (PG.bh it b)) -> _:=fun it h=>pB h (vM _)
 have t4:∀ it:PG.It,ba [PG.bA it,.int b]=.ok (rI (PG.bh it b)) -> _:=fun it h=>pB h (vM _)
 cases it with
 |sp lo hi=>by_cases h1:lo <= b<;>by_cases h2:b <= hi<;>simp [uR,uj,uW,uF,uo,uz,ui,uu,j3,PG.bA,isP,h1,h2,PG.bh,rI]
 |bf=>exact b7 (ρ:=[some (.sh (PG.bA .bf)),some (.sh (.int b))]) ((sk (by rfl)).trans ((sk (by rfl)).trans ((sk (by rfl)).trans ((sk (by rfl)).trans ((sk (by rfl)).trans (st (by rfl) (by cases h:PG.wht b<;>simp [gi,mL,h,PG.bh,rI,PG.bA])))))))
 |name=>exact b7 (ρ:=[some (.sh (PG.bA .name)),some (.sh (.int b))]) ((sk (by rfl)).trans ((sk (by rfl)).trans ((sk (by rfl)).trans ((sk (by rfl)).trans ((sk (by rfl)).trans ((sk (by rfl)).trans (st (by rfl) (by by_cases h:b=34<;>simp [gi,h,PG.bh,rI,PG.bA]))))))))
 |value=>exact b7 ((sk (by rfl)).trans ((sk (by rfl)).trans ((sk (by rfl)).trans ((sk (by rfl)).trans ((sk (by rfl)).trans ((sk (by rfl)).trans ((sk (by rfl)).trans (Bs (fo b) (vM _)))))))))
 |lead=>exact b7 ((sk (by rfl)).trans (st (by rfl) (t1 .lead (my _ b (by simp)))))
 |figures=>exact b7 ((sk (by rfl)).trans (st (by rfl) (t1 .figures (my _ b (by simp)))))
 |fraction=>exact b7 ((sk (by rfl)).trans (st (by rfl) (t1 .fraction (my _ b (by simp)))))
 |exponent=>exact b7 ((sk (by rfl)).trans (st (by rfl) (t1 .exponent (my _ b (by simp)))))
 |sign=>exact b7 ((sk (by rfl)).trans (st (by rfl) (t1 .sign (my _ b (by simp)))))
 |text=>exact b7 ((sk (by rfl)).trans ((sk (by rfl)).trans (st (by rfl) (t2 .text (tW _ b (by simp))))))
 |escape=>exact b7 ((sk (by rfl)).trans ((sk (by rfl)).trans (st (by rfl) (t2 .escape (tW _ b (by simp))))))
 |code=>exact b7 ((sk (by rfl)).trans ((sk (by rfl)).trans (st (by rfl) (t2 .code (tW _ b (by simp))))))
 |coded=>exact b7 ((sk (by rfl)).trans ((sk (by rfl)).trans (st (by rfl) (t2 .coded (tW _ b (by simp))))))
 |hex=>exact b7 ((sk (by rfl)).trans ((sk (by rfl)).trans ((sk (by rfl)).trans (st (by rfl) (t3 .hex (zP _ b (by simp)))))))
 |hexd=>exact b7 ((sk (by rfl)).trans ((sk (by rfl)).trans ((sk (by rfl)).trans (st (by rfl) (t3 .hexd (zP _ b (by simp)))))))
 |hexcf=>exact b7 ((sk (by rfl)).trans ((sk (by rfl)).trans ((sk (by rfl)).trans (st (by rfl) (t3 .hexcf (zP _ b (by simp)))))))
 |row=>exact b7 ((sk (by rfl)).trans ((sk (by rfl)).trans ((sk (by rfl)).trans ((sk (by rfl)).trans (st (by rfl) (t4 .row (lz _ b (by simp))))))))
 |mrow=>exact b7 ((sk (by rfl)).trans ((sk (by rfl)).trans ((sk (by rfl)).trans ((sk (by rfl)).trans (st (by rfl) (t4 .mrow (lz _ b (by simp))))))))
 |fields=>exact b7 ((sk (by rfl)).trans ((sk (by rfl)).trans ((sk (by rfl)).trans ((sk (by rfl)).trans (st (by rfl) (t4 .fields (lz _ b (by simp))))))))
 |mfields=>exact b7 ((sk (by rfl)).trans ((sk (by rfl)).trans ((sk (by rfl)).trans ((sk (by rfl)).trans (st (by rfl) (t4 .mfields (lz _ b (by simp))))))))
noncomputable abbrev cm (st:List PG.It):List PV:=st.reverse.map PG.bA
theorem yL (st:List PG.It):PG.wk st=.ob "Walk" ["coming"] [.ol ((cm st).map .sh)]:=rfl
theorem zF (st:List PG.It):(PG.wk st).get [.fd "coming"]=some (.ol ((cm st).map .sh)):=by
 simp [yL,OV.get,OV.at1,n6]
theorem DJ (st:List PG.It) (t:OV):(PG.wk st).put [.fd "coming"] t=.ob "Walk" ["coming"] [t]:=by
 simp [yL,OV.put,OV.at1,OV.iR,n6,vj]
theorem zQ {ρ:ah} {i:Nat} {s:Sl} {st:List PG.It} (h:ρ[i]?=some (some s)) (hs:slT s=some (PG.wk st)):subAt i aI ρ=some (PG.wk st):=by
 unfold subAt fF aI; rw [h]; simp [hs]
theorem zC {ρ:ah} {i:Nat} {s:Sl} {st:List PG.It} (h:ρ[i]?=some (some s)) (hs:slT s=some (PG.wk st)):pFd i aI "coming" nW ρ=some [.fd "coming"]:=by
 unfold pFd
 rw [zQ h hs,yL]
 simp [nW,n6,aI]
theorem wV {ρ:ah} {i:Nat} {s:Sl} {st:List PG.It} (h:ρ[i]?=some (some s)) (hs:slT s=some (PG.wk st)):subAt i (pFd i aI "coming" nW) ρ=some (.ol ((cm st).map .sh)):=by
 unfold subAt fF
 rw [h,zC h hs]
 simp [hs,zF]
theorem Jp (it:PG.It):gf [some (.sh (PG.bA it))]=.ok (PG.opn it):=by
 cases it<;>simp -implicitDefEqProofs [gf,PG.bA,gIn,og,fh,PG.opn,kX]
theorem Bl (l:List PG.It):fV gf iY [] (l.map PG.bA)=.ok ((l.filter PG.opn).map PG.bA):=by
 induction l with
 |nil=>rfl
 | cons it l ih=>
   rw [List.map_cons]
   unfold fV
   have h:=Jp it
   have he:iY [some (.sh (PG.bA it))]=.ok (.sh (PG.bA it)):=rfl
   cases e:PG.opn it<;>rw [e] at h<;>simp [h,ih,e,he]
theorem zu (st:List PG.It) (hl:st.length <= 100000):cD [.bo (PG.wk st)]=.ok (.int (PG.cnt st)) [none]:=by
 have hp:cU 0 (pFd 0 aI "coming" nW) [some (.bo (PG.wk st))]=.ok (.al (cm st)):=by
  unfold cU
  rw [wV (s:=.bo (PG.wk st)) rfl rfl]
  simp only [vD]
 have hc:(st.reverse.filter PG.opn).length=PG.cnt st:=by unfold PG.cnt; rw [List.filter_reverse,List.length_reverse]
 have hn:PG.cnt st <= lim:=dS (by unfold PG.cnt; have:=List.length_filter_le PG.opn st; omega)
 have he:=Bl st.reverse
 simp -implicitDefEqProofs only [cD,nP,fnI,j8,jT,hp,cY,List.map_nil,he,Cy,Cb,List.map_cons,List.length_cons,List.length_nil,List.replicate,List.append_nil,pf,DH,CG,List.length_map,hc,hn,if_true,G1,xo,iG,DB,Nat.sub_self,sj]
 rfl
theorem Eo (it:PG.It):rV (PG.bA it) (.tup [.str "white",.str "figures",.str "fraction",.str "exponent",.str "sign"])=some (.sh (.bl (!PG.loose it))):=by
 cases it<;>simp -implicitDefEqProofs [PG.bA,rV,og,fh,PG.loose,kX]
theorem Dw (it:PG.It):gIn (PG.bA it) (.tup [.str "white",.str "figures",.str "fraction",.str "exponent",.str "sign"])=some (.sh (.bl (PG.loose it))):=by
 cases it<;>simp -implicitDefEqProofs [PG.bA,gIn,og,fh,PG.loose,kX]
theorem Ig {ρ:ah} {i:Nat} {io:Bool} {it:PG.It} {st:List PG.It} (h:ρ[i]?=some (some (.tr io (PG.wk (it ::st))))):qj i (pFd i aI "coming" nW) ρ=.ok (ρ.set i (some (.tr io (PG.wk st)))) (.sh (PG.bA it)):=by
 have hc:(cm (it ::st)).map OV.sh=(cm st).map OV.sh++[.sh (PG.bA it)]:=by simp [cm]
 unfold qj
 rw [h,zC h rfl]
 simp only [zF,hc,List.getLast?_concat,List.dropLast_concat,DJ]
 rfl
theorem HJ {ρ:ah} {i:Nat} {io:Bool} {l st:List PG.It} {me:ah -> OE} (h:ρ[i]?=some (some (.tr io (PG.wk st)))) (he:me ρ=.ok (.fr (l.map PG.bA).reverse)) (hl:st.length+l.length <= 100000):
  dJ i (pFd i aI "coming" nW) me ρ=.nx (ρ.set i (some (.tr io (PG.wk (l++st))))):=by
 have hc:(cm (l++st)).map OV.sh=(cm st).map OV.sh++(l.map PG.bA).reverse.map .sh:=by simp [cm]
 have hl2:st.length+l.length <= lim:=dS (by omega)
 unfold dJ uk
 rw [h,zC h rfl]
 simp only [zF,he,iG,List.length_map,List.length_reverse,hl2,if_true,DJ]
 rw [yL,hc]
theorem yn {ρ:ah} {i:Nat} {io:Bool} {st:List PG.It} (h:ρ[i]?=some (some (.tr io (PG.wk st)))):dA i (pFd i aI "coming" nW) ρ=.ok (!st.isEmpty):=by
 unfold dA
 rw [wV h rfl]
 cases st<;>simp [cm]
theorem Ey {ρ:ah} {i:Nat} {io:Bool} {st:List PG.It} (h:ρ[i]?=some (some (.tr io (PG.wk st)))) (hl:st.length <= 100000):mU "Walk" "brackets" cD [.b i aI] ρ=.ok (.sh (.int (PG.cnt st))):=by
 have ha:lS (.b i aI) ρ=some (.bo (PG.wk st)):=by
  simp only [lS]
  rw [zQ h rfl]
  rfl
 have hr:recv "Walk" "brackets" (some (.bo (PG.wk st)))=true:=by
  rw [yL]
  simp [recv,aK]
 simp only [mU,ha,hr,if_true,xv,jk,Option.bind_some,Option.map_some,zu st hl]
theorem B7 (b:Int) (it:PG.It) (st:List PG.It) (io:Bool) (x y:Option Sl) (hl:st.length+8 <= 100000):gU [some (.tr io (PG.wk (it ::st))),some (.sh (.int b)),x,y] =
  match PG.bh it b with
  |some l=>.rt [some (.tr io (PG.wk (l++st))),some (.sh (.int b)),some (.sh (PG.bA it)),some (.ow (l.map PG.bA))] (.sh (.bl (decide (PG.cnt (l++st) <= 64))))
  |none=>if PG.loose it then .nx [some (.tr io (PG.wk st)),some (.sh (.int b)),some (.sh (PG.bA it)),some (.sh .non)] else .rt [some (.tr io (PG.wk st)),some (.sh (.int b)),some (.sh (PG.bA it)),some (.sh .non)] (.sh (.bl false)):=by
 have h1:i8 2 (qj 0 (pFd 0 aI "coming" nW)) [some (.tr io (PG.wk (it ::st))),some (.sh (.int b)),x,y]=.nx [some (.tr io (PG.wk st)),some (.sh (.int b)),some (.sh (PG.bA it)),y]:=by
  unfold i8
  rw [Ig (it:=it) (st:=st) (io:=io) rfl]
  rfl
 have hb:=qN it b
 have hlo:=Eo it
 unfold gU
 simp only [oU,h1,jC]
 cases e:PG.bh it b with
 | none=>
   rw [e] at hb
   cases e2:PG.loose it<;>rw [e2] at hlo<;>simp -implicitDefEqProofs [hb,rI,cM,hlo]
 | some l=>
   rw [e] at hb
   have hll:=PG.CI it b l e
   have h2:dJ 0 (pFd 0 aI "coming" nW) (FW (ao 3) (mUn gj (mC (.int 1)))) [some (.tr io (PG.wk st)),some (.sh (.int b)),some (.sh (PG.bA it)),some (.ow (l.map PG.bA))]=.nx [some (.tr io (PG.wk (l++st))),some (.sh (.int b)),some (.sh (PG.bA it)),some (.ow (l.map PG.bA))]:=
    HJ (io:=io) rfl (by simp [FW]) (by omega)
   have h3:mU "Walk" "brackets" cD [.b 0 aI] [some (.tr io (PG.wk (l++st))),some (.sh (.int b)),some (.sh (PG.bA it)),some (.ow (l.map PG.bA))]=.ok (.sh (.int (PG.cnt (l++st)))):=Ey (io:=io) rfl (by simp; omega)
   have h4:(decide ((PG.cnt (l++st):Int) <= 64))=decide (PG.cnt (l++st) <= 64):=by rw [decide_eq_decide]; omega
   simp -implicitDefEqProofs [hb,rI,cM,h2,h3,h4]
theorem BU (b:Int) (io:Bool) (st:List PG.It):∀ (n:Nat) (x y:Option Sl),st.length<n -> st.length+8 <= 100000 ->
  ∃ x' y',(fQ gQ gU n [some (.tr io (PG.wk st)),some (.sh (.int b)),x,y]).andThen (bg (mC (.bl false)))=.rt [some (.tr io (PG.wk (PG.gon st b).1)),some (.sh (.int b)),x',y'] (.sh (.bl (PG.gon st b).2)):=by
 induction st with
 | nil=>
   intro n x y hn hl
   obtain ⟨m,rfl⟩:∃ m,n=m+1:=⟨n - 1,by simp at hn; omega⟩
   refine ⟨x,y,?_⟩
   have hc:gQ [some (.tr io (PG.wk [])),some (.sh (.int b)),x,y]=.ok false:=yn (i:=0) (ρ:=[some (.tr io (PG.wk [])),some (.sh (.int b)),x,y]) (io:=io) (st:=[]) rfl
   simp [fQ,hc,PG.gon]
 | cons it st ih=>
   intro n x y hn hl
   obtain ⟨m,rfl⟩:∃ m,n=m+1:=⟨n - 1,by simp at hn; omega⟩
   have hc:gQ [some (.tr io (PG.wk (it ::st))),some (.sh (.int b)),x,y]=.ok true:=yn (i:=0) (ρ:=[some (.tr io (PG.wk (it ::st))),some (.sh (.int b)),x,y]) (io:=io) (st:=it ::st) rfl
   have ht:=B7 b it st io x y (by simp at hl; omega)
   unfold PG.gon
   cases e:PG.bh it b with
   | some l=>
     rw [e] at ht
     exact ⟨some (.sh (PG.bA it)),some (.ow (l.map PG.bA)),by simp only [fQ,hc,lj,if_true,ht,AG,uC]⟩
   | none=>
     rw [e] at ht
     dsimp only at ht ⊢
     cases e2:PG.loose it with
     | false=>
       rw [e2] at ht
       exact ⟨some (.sh (PG.bA it)),some (.sh .non),by simp only [fQ,hc,lj,if_true,ht,AG,uC,Bool.false_eq_true,if_false]⟩
     | true=>
       rw [e2] at ht
       obtain ⟨x',y',h⟩:=ih m (some (.sh (PG.bA it))) (some (.sh .non)) (by simp at hn; omega) (by simp at hl; omega)
       exact ⟨x',y',by simp only [fQ,hc,lj,if_true,ht,m7,h]⟩
theorem B1 (b:Int) (st:List PG.It) (hl:st.length+8<100000):dQ [.tr true (PG.wk st),.sh (.int b)]=.ok (.bl (PG.gon st b).2) [some (PG.wk (PG.gon st b).1),none]:=by
 obtain ⟨x',y',h⟩:=BU b true st fuel none none (by unfold fuel; omega) (by omega)
 have e:jc [some (.tr true (PG.wk st)),some (.sh (.int b)),none,none]=_:=h
 show fnI 2 4 jc _=_
 unfold fnI
 rw [if_pos (by rfl)]
 show sj 2 (jc [some (.tr true (PG.wk st)),some (.sh (.int b)),none,none])=_
 rw [e]
 rfl
theorem Bg (io:Bool) (rw:PV) (row:List Int):∀ (k:Nat) (st:List PG.It) (x y:Option Sl),st.length+8*row.length+8<100000 ->
  ∃ x' y',nE 2 3 jG (tj k (row.map .int)) [some (.tr io (PG.wk st)),some (.sh rw),x,y]=if (PG.tk st row).2=row.length then .nx [some (.tr io (PG.wk (PG.tk st row).1)),some (.sh rw),x',y'] else .rt [some (.tr io (PG.wk (PG.tk st row).1)),some (.sh rw),x',y'] (.sh (.int ((k+(PG.tk st row).2:Nat):Int))):=by
 induction row with
 |nil=>intro k st x y hl; exact ⟨x,y,by simp [tj,nE,PG.tk]⟩
 | cons b row ih=>
   intro k st x y hl
   simp only [List.length_cons] at hl
   have hg:=B1 b st (by omega)
   have hlen:=PG.Ag st b
   have ht:jG [some (.tr io (PG.wk st)),some (.sh rw),some (.sh (.int k)),some (.sh (.int b))]=if (PG.gon st b).2 then .nx [some (.tr io (PG.wk (PG.gon st b).1)),some (.sh rw),some (.sh (.int k)),some (.sh (.int b))] else .rt [some (.tr io (PG.wk (PG.gon st b).1)),some (.sh rw),some (.sh (.int k)),some (.sh (.int b))] (.sh (.int k)):=by
    have ha:lS (.t 0 aI) [some (.tr io (PG.wk st)),some (.sh rw),some (.sh (.int k)),some (.sh (.int b))]=some (.tr true (PG.wk st)):=by simp [lS,aI]
    have ha2:lS (.e (ao 3)) [some (.tr io (PG.wk st)),some (.sh rw),some (.sh (.int k)),some (.sh (.int b))]=some (.sh (.int b)):=by simp [lS]
    have hr:recv "Walk" "goes_on" (some (.tr true (PG.wk st)))=true:=by rw [yL]; simp [recv,aK]
    have hx:oi "Walk" "goes_on" dQ [.t 0 aI,.e (ao 3)] [some (.tr io (PG.wk st)),some (.sh rw),some (.sh (.int k)),some (.sh (.int b))]=.ok [some (.tr io (PG.wk (PG.gon st b).1)),some (.sh rw),some (.sh (.int k)),some (.sh (.int b))] (.sh (.bl (PG.gon st b).2)):=by
     simp only [oi,ha,hr,if_true,jb,jk,ha2,Option.bind_some,Option.map_some,hg]
     simp [fj,kg,aI]
    unfold jG Fp
    rw [hx]
    cases (PG.gon st b).2<;>simp
   unfold PG.tk
   simp only [List.map_cons,tj,nE,List.set_cons_succ,List.set_cons_zero,ht]
   cases e:(PG.gon st b).2 with
   |false=>exact ⟨some (.sh (.int k)),some (.sh (.int b)),by simp⟩
   | true=>
     obtain ⟨x',y',h⟩:=ih (k+1) (PG.gon st b).1 (some (.sh (.int k))) (some (.sh (.int b))) (by omega)
     refine ⟨x',y',?_⟩
     simp only [if_true,m7,h,List.length_cons,Nat.add_right_cancel_iff]
     have:k+1+(PG.tk (PG.gon st b).1 row).2=k+((PG.tk (PG.gon st b).1 row).2+1):=by omega
     rw [this]
theorem Ik (st:List PG.It) (row:List Int) (hl:st.length+8*row.length+8<100000):fz [.tr true (PG.wk st),.sh (.lst (row.map .int))]=.ok (.int (PG.tk st row).2) [some (PG.wk (PG.tk st row).1),none]:=by
 obtain ⟨x',y',h⟩:=Bg true (.lst (row.map .int)) row 0 st none none hl
 show fnI 2 4 lu _=_
 unfold fnI
 rw [if_pos (by rfl)]
 show sj 2 (lu [some (.tr true (PG.wk st)),some (.sh (.lst (row.map .int))),none,none])=_
 unfold lu zW
 simp only [oU,y7,List.getElem?_cons_succ,List.getElem?_cons_zero,iG,Hz,h]
 by_cases e:(PG.tk st row).2=row.length
 . simp [e,sj,pb]
 . simp [e,sj,pb]
theorem zc (st:List PG.It) (hl:st.length <= 100000):cV [.bo (PG.wk st)]=.ok (.bl (st.all PG.loose)) [none]:=by
 have hp:cU 0 (pFd 0 aI "coming" nW) [some (.bo (PG.wk st))]=.ok (.al (cm st)):=by
  unfold cU
  rw [wV (s:=.bo (PG.wk st)) rfl rfl]
  simp only [vD]
 have hn:st.length <= lim:=dS (by omega)
 have he:dr i3 [] (cm st)=.ok ((st.reverse.map PG.loose).map .bl):=by
  rw [List.map_map]
  refine kD _ fun it _=>?_
  simp [i3,Dw]
 have hb:Ff (.lst ((st.reverse.map PG.loose).map .bl))=some (.sh (.bl (st.all PG.loose))):=by
  simp only [Ff,yP,Option.map_some]
  congr 3
  rw [List.all_map,List.all_reverse]
  rfl
 simp -implicitDefEqProofs only [cV,nO,fnI,j8,Cu,hp,cY,List.map_nil,he,Cy,Cb,List.map_cons,List.length_cons,List.length_nil,List.replicate,List.append_nil,pf,DH,CG,List.length_map,List.length_reverse,hn,if_true,hb,xo,iG,DB,Nat.sub_self,sj]
 rfl
theorem IQ:cW [.tr true (.ob "Walk" [] [])]=.ok .non [some (PG.wk PG.st0)]:=by
 rfl
theorem Hj (row:List Int):∀ st,(PG.tk st row).1.length <= st.length+8*row.length+8:=by
 induction row with
 |nil=>intro st; simp [PG.tk]
 | cons b row ih=>
   intro st
   have:=PG.Ag st b
   have h2:=ih (PG.gon st b).1
   unfold PG.tk
   split<;>simp only [List.length_cons]<;>omega
noncomputable def ofO:Option Nat -> PV
 |some k=>.int k
 |none=>.non
theorem pq (row:List Int) (hl:8*row.length+20<100000):kq [.lst (row.map .int)]=.ok (.sh (ofO (PG.flt row))):=by
 have ht:=Ik PG.st0 row (by simp [PG.st0]; omega)
 have hlen:=Hj row PG.st0
 have hw:=zc (PG.tk PG.st0 row).1 (by have:PG.st0.length=3:=rfl; omega)
 have h0:vK "Walk" cW [some (.sh (.lst (row.map .int))),none,none]=.ok (PG.wk PG.st0):=by unfold vK; rw [IQ]
 have h1:i8 2 (oi "Walk" "take" fz [.t 1 aI,.e (ao 0)]) [some (.sh (.lst (row.map .int))),some (.tr false (PG.wk PG.st0)),none]=.nx [some (.sh (.lst (row.map .int))),some (.tr false (PG.wk (PG.tk PG.st0 row).1)),some (.sh (.int (PG.tk PG.st0 row).2))]:=by
  have ha:lS (.t 1 aI) [some (.sh (.lst (row.map .int))),some (.tr false (PG.wk PG.st0)),none]=some (.tr true (PG.wk PG.st0)):=by simp [lS,aI]
  have ha2:lS (.e (ao 0)) [some (.sh (.lst (row.map .int))),some (.tr false (PG.wk PG.st0)),none]=some (.sh (.lst (row.map .int))):=by simp [lS]
  have hr:recv "Walk" "take" (some (.tr true (PG.wk PG.st0)))=true:=by rw [yL]; simp [recv,aK]
  unfold i8
  simp only [oi,ha,hr,if_true,jb,jk,ha2,Option.bind_some,Option.map_some,ht]
  simp [fj,kg,aI,nio]
 have h2:mU "Walk" "is_whole" cV [.b 1 aI] [some (.sh (.lst (row.map .int))),some (.tr false (PG.wk (PG.tk PG.st0 row).1)),some (.sh (.int (PG.tk PG.st0 row).2))]=.ok (.sh (.bl ((PG.tk PG.st0 row).1.all PG.loose))):=by
  have ha:lS (.b 1 aI) [some (.sh (.lst (row.map .int))),some (.tr false (PG.wk (PG.tk PG.st0 row).1)),some (.sh (.int (PG.tk PG.st0 row).2))]=some (.bo (PG.wk (PG.tk PG.st0 row).1)):=by
   simp only [lS]
   rw [zQ (s:=.tr false (PG.wk (PG.tk PG.st0 row).1)) rfl rfl]
   rfl
  have hr:recv "Walk" "is_whole" (some (.bo (PG.wk (PG.tk PG.st0 row).1)))=true:=by rw [yL]; simp [recv,aK]
  simp only [mU,ha,hr,if_true,xv,jk,Option.bind_some,Option.map_some,hw]
 unfold PG.flt
 have hd:mq 1 (vK "Walk" cW) [some (.sh (.lst (row.map .int))),none,none]=.nx [some (.sh (.lst (row.map .int))),some (.tr false (PG.wk PG.st0)),none]:=by
  unfold mq; rw [h0]; rfl
 simp -implicitDefEqProofs only [kq,Ae,rl,A3,List.map_cons,List.map_nil,List.length_cons,List.length_nil,List.cons_append,List.nil_append,List.replicate,oU,hd,jC,vT,h1,vA,zT,Fq,EI,GF,y7,List.getElem?_cons_succ,List.getElem?_cons_zero,Cb,pf,DK,h2]
 by_cases e:(PG.tk PG.st0 row).2=row.length
 . cases e2:(PG.tk PG.st0 row).1.all PG.loose<;>simp [e,sy,ofO]
 . have e3:¬ ((PG.tk PG.st0 row).2:Int)=(row.length:Int):=by omega
   simp [e,e3,sy,ofO]
noncomputable def fgB (big:Bool) (w:Int):Int:=if w<10 then 48+w else (if big then 55 else 87)+w
noncomputable def Ak (n:Int) (big:Bool):PG.Sg:=.hx (fgB big (n/16/16/16%16)) (fgB big (n/16/16%16)) (fgB big (n/16%16)) (fgB big (n%16))
noncomputable def tJ:List (Int×Int):=[(34,34),(92,92),(47,47),(8,98),(12,102),(10,110),(13,114),(9,116)]
noncomputable def FF (n m:Int) (b1 b2:Bool):PG.Sg:=.pr (fgB b1 (n/16/16/16%16)) (fgB b1 (n/16/16%16)) (fgB b1 (n/16%16)) (fgB b1 (n%16)) (fgB b2 (m/16/16/16%16)) (fgB b2 (m/16/16%16)) (fgB b2 (m/16%16)) (fgB b2 (m%16))
noncomputable def qe (p n:Int):PG.Sg:=
 if n%5=0 /\ (tJ.lookup p).isSome=true then .sh ((tJ.lookup p).getD 0) p
 else if 1<n%5 /\ 32 <= p /\ p≠34 /\ p≠92 then .pl p
 else if p<65536 then Ak p (decide (n%5=1))
 else FF (55296+(p - 65536)/1024) (56320+(p - 65536)%1024) (decide (n%5=1)) (decide (n%5=0))
theorem qR (big:Bool) {w:Int} (h:0 <= w /\ w<16):PG.eS (fgB big w)=some w:=by
 unfold fgB PG.eS
 by_cases h1:w<10
 . rw [if_pos h1,if_pos (by omega)]; congr 1; omega
 . cases big
   . simp only [h1,if_false,Bool.false_eq_true]
     rw [if_neg (by omega),if_neg (by omega),if_pos (by omega)]; congr 1; omega
   . simp only [h1,if_false,if_true]
     rw [if_neg (by omega),if_pos (by omega)]; congr 1; omega
theorem vn {p:Int} (h:(tJ.lookup p).isSome=true):((tJ.lookup p).getD 0,p)∈PG.shP:=by
 unfold tJ at h ⊢
 simp only [List.lookup] at h ⊢
 repeat' split
 all_goals first
  |(rename_i e; have e':=eq_of_beq e; subst e'; decide)
  |(simp_all; done)
theorem qU (n:Int) (big:Bool) (h:0 <= n /\ n<65536):(PG.eS (fgB big (n/16/16/16%16))=some (n/16/16/16%16) /\ PG.eS (fgB big (n/16/16%16))=some (n/16/16%16) /\ PG.eS (fgB big (n/16%16))=some (n/16%16) /\ PG.eS (fgB big (n%16))=some (n%16)) /\
  PG.cod (fgB big (n/16/16/16%16)) (fgB big (n/16/16%16)) (fgB big (n/16%16)) (fgB big (n%16))=n:=by
 have e1:=qR big (w:=n/16/16/16%16) (by omega)
 have e2:=qR big (w:=n/16/16%16) (by omega)
 have e3:=qR big (w:=n/16%16) (by omega)
 have e4:=qR big (w:=n%16) (by omega)
 refine ⟨⟨e1,e2,e3,e4⟩,?_⟩
 simp only [PG.cod,PG.mI e1,PG.mI e2,PG.mI e3,PG.mI e4]
 omega
theorem rm (p n:Int) (h:PG.lU p=true):PG.Sok (qe p n) /\ PG.Kj (qe p n)=p:=by
 have hr:=PG.qr h
 have hs:p<55296 \/ 57343<p:=by
  unfold PG.lU at h
  simp only [Bool.or_eq_true,Bool.and_eq_true,decide_eq_true_eq] at h
  omega
 unfold qe
 split
 . rename_i c; exact ⟨vn c.2,rfl⟩
 . split
   . rename_i c; exact ⟨⟨h,c.2.1,c.2.2.1,c.2.2.2⟩,rfl⟩
   . split
     . rename_i c
       obtain ⟨⟨e1,e2,e3,e4⟩,ec⟩:=qU p (decide (n%5=1)) (by omega)
       exact ⟨⟨by rw [e1]; rfl,by rw [e2]; rfl,by rw [e3]; rfl,by rw [e4]; rfl,by rw [ec]; omega⟩,ec⟩
     . rename_i c
       obtain ⟨⟨e1,e2,e3,e4⟩,ec⟩:=qU (55296+(p - 65536)/1024) (decide (n%5=1)) (by omega)
       obtain ⟨⟨f1,f2,f3,f4⟩,fc⟩:=qU (56320+(p - 65536)%1024) (decide (n%5=0)) (by omega)
       have g1:(55296+(p - 65536)/1024)/16/16/16%16=13:=by omega
       have g2:(56320+(p - 65536)%1024)/16/16/16%16=13:=by omega
       refine ⟨⟨⟨by rw [e1,g1],by rw [PG.mI e2]; omega,by rw [PG.mI e2]; omega,by rw [e2]; rfl,by rw [e3]; rfl,by rw [e4]; rfl⟩,by rw [f1,g2],by rw [PG.mI f2]; omega,by rw [f2]; rfl,by rw [f3]; rfl,by rw [f4]; rfl⟩,?_⟩
       show 65536+1024*(PG.cod _ _ _ _ - 55296)+PG.cod _ _ _ _ - 56320=p
       rw [ec,fc]
       omega
noncomputable def xB (n:Int) (big:Bool):List Int:=[92,117,fgB big (n/16/16/16%16),fgB big (n/16/16%16),fgB big (n/16%16),fgB big (n%16)]
theorem q9 (n:Int) (big:Bool) (found:List Int) (k:Int) (x:Option Sl) (hl:found.length <= 10):lG [some (.sh (.int n)),some (.sh (.bl big)),some (.ow (found.map .int)),some (.sh (.int k)),x]=.nx [some (.sh (.int (n/16))),some (.sh (.bl big)),some (.ow ((fgB big (n%16) ::found).map .int)),some (.sh (.int k)),some (.sh (.int (n%16)))]:=by
 have hlim:1+found.length <= lim:=dS (by omega)
 unfold fgB
 by_cases h:n%16<10
 . simp -implicitDefEqProofs [lG,h,hlim]
 . cases big<;>simp -implicitDefEqProofs [lG,h,hlim]
theorem jB (n:Int) (big:Bool):gP [.int n,.bl big]=.ok (.fr ((xB n big).map .int)):=by
 have h1:=q9 n big [] 0 none (by simp)
 have h2:=q9 (n/16) big [fgB big (n%16)] 1 (some (.sh (.int (n%16)))) (by simp)
 have h3:=q9 (n/16/16) big [fgB big (n/16%16),fgB big (n%16)] 2 (some (.sh (.int (n/16%16)))) (by simp)
 have h4:=q9 (n/16/16/16) big [fgB big (n/16/16%16),fgB big (n/16%16),fgB big (n%16)] 3 (some (.sh (.int (n/16/16%16)))) (by simp)
 simp only [List.map_cons,List.map_nil] at h1 h2 h3 h4
 have hr:dF 4=[.int 0,.int 1,.int 2,.int 3]:=rfl
 have hb:(-4611686018427387904:Int) <= 4 /\ (4:Int)<4611686018427387904:=by omega
 simp -implicitDefEqProofs [sT,sR,vX,gP,hr,h1,h2,h3,h4,xB]
theorem qE (n:Int) (big:Bool) (h:0 <= n /\ n<65536):PG.nV (Ak n big)=xB n big:=by
 obtain ⟨⟨e1,e2,e3,e4⟩,_⟩:=qU n big h
 obtain ⟨g1,g2,g3,g4⟩:=PG.mS (by rw [e1]; rfl) (by rw [e2]; rfl) (by rw [e3]; rfl) (by rw [e4]; rfl)
 show PG.bF 92++(PG.bF 117++(PG.bF _++(PG.bF _++(PG.bF _++(PG.bF _++[])))))=_
 rw [g1,g2,g3,g4]
 rfl
theorem BY (n m:Int) (b1 b2:Bool) (h:0 <= n /\ n<65536) (h':0 <= m /\ m<65536):PG.nV (FF n m b1 b2)=xB n b1++xB m b2:=by
 rw [<- qE n b1 h,<- qE m b2 h']
 show ([92,117,_,_,_,_,92,117,_,_,_,_]:List Int).flatMap PG.bF=([92,117,_,_,_,_]:List Int).flatMap PG.bF++([92,117,_,_,_,_]:List Int).flatMap PG.bF
 rw [<- List.flatMap_append]
 rfl
theorem nG (p n:Int) (h:PG.lU p=true):iz [.int p,.int n]=.ok (.fr ((PG.nV (qe p n)).map .int)):=by
 have hr:=PG.qr h
 have h8:=lr p h
 have hl:(tJ.map fun p=>(p.1,PV.int p.2)).lookup p=(tJ.lookup p).map .int:=by
  unfold tJ
  simp only [List.map,List.lookup]
  repeat' split
  all_goals rfl
 obtain ⟨kv,hkv⟩:∃ kv,kv=tJ.map fun p=>(p.1,PV.int p.2):=⟨_,rfl⟩
 rw [<- hkv] at hl
 have hset:mq 2 (IH [(34,34),(92,92),(47,47),(8,98),(12,102),(10,110),(13,114),(9,116)]) [some (.sh (.int p)),some (.sh (.int n)),none,none,none]=.nx [some (.sh (.int p)),some (.sh (.int n)),some (.tr false (.di kv)),none,none]:=by rw [hkv]; rfl
 have hi:∀ a b c d,subAt 2 aI [a,b,some (.tr false (.di kv)),c,d]=some (.di kv):=fun a b c d=>by simp [subAt,fF,slT,aI]
 clear hkv
 have e1:fin (iZ [some (.sh (.int p)),some (.sh (.int n)),some (.tr false (.di kv)),none,none])=.ok (.fr ((PG.nV (qe p n)).map .int)):=by
  unfold qe
  by_cases c1:n%5=0 /\ (tJ.lookup p).isSome=true
  . rw [if_pos c1]
    obtain ⟨c,hc⟩:=Option.isSome_iff_exists.mp c1.2
    have hm:=vn c1.2
    rw [hc] at hm hl ⊢
    have hby:PG.nV (.sh c p)=[92,c]:=by
     simp only [Option.getD_some,PG.shP,List.mem_cons,Prod.mk.injEq,List.not_mem_nil,or_false] at hm
     rcases hm with h|h|h|h|h|h|h|h<;>(obtain ⟨rfl,rfl⟩:=h; rfl)
    simp only [Option.map_some] at hl
    simp -implicitDefEqProofs [iZ,mX,c1.1,yU,A0,hi,hl,hby]
  . rw [if_neg c1]
    have hg1:∀ x,dI (az (mOp gEq (ao 3) (mC (.int 0)))) (az (yU false (ao 0) 2 aI)) [some (.sh (.int p)),some (.sh (.int n)),some (.tr false (.di kv)),some (.sh (.int (n%5))),x]=.ok false:=fun x=>by
     by_cases z:n%5=0
     . have:tJ.lookup p = none:=by
        cases e:tJ.lookup p with
        |none=>rfl
        |some c=>exact absurd ⟨z,by rw [e]; rfl⟩ c1
       rw [this] at hl
       simp only [Option.map_none] at hl
       simp -implicitDefEqProofs [z,yU,hi,hl]
     . simp -implicitDefEqProofs [z]
    have e2:fin (eR [some (.sh (.int p)),some (.sh (.int n)),some (.tr false (.di kv)),some (.sh (.int (n % 5))),none]) = .ok (.fr ((PG.nV (if 1 < n % 5 /\ 32 <= p /\ p ≠ 34 /\ p ≠ 92 then .pl p
          else if p<65536 then Ak p (decide (n%5=1)) else FF (55296+(p - 65536)/1024) (56320+(p - 65536)%1024) (decide (n%5=1)) (decide (n%5=0)))).map .int)):=by
     have e3:fin (kn [some (.sh (.int p)),some (.sh (.int n)),some (.tr false (.di kv)),some (.sh (.int (n%5))),none])=.ok (.fr ((PG.nV (if p<65536 then Ak p (decide (n%5=1)) else FF (55296+(p - 65536)/1024) (56320+(p - 65536)%1024) (decide (n%5=1)) (decide (n%5=0)))).map .int)):=by
      by_cases c3:p<65536
      . rw [if_pos c3,qE p _ (by omega)]
        simp -implicitDefEqProofs [kn,c3,jB]
      . rw [if_neg c3,BY _ _ _ _ (by omega) (by omega)]
        have hlim:(xB (55296+(p - 65536)/1024) (decide (n%5=1))).length+(xB (56320+(p - 65536)%1024) (decide (n%5=0))).length <= lim:=by simp [xB]
        simp -implicitDefEqProofs [kn,c3,rJ,rh,jB,hlim]
     by_cases d1:1<n%5
     . by_cases d2:32 <= p
       . by_cases d3:p=34
         . rw [if_neg (fun z=>z.2.2.1 d3)]
           simp -implicitDefEqProofs [eR,d1,d2,d3]
           simpa [d3] using e3
         . by_cases d4:p=92
           . rw [if_neg (fun z=>z.2.2.2 d4)]
             simp -implicitDefEqProofs [eR,d1,d2,d3,d4]
             simpa [d4] using e3
           . rw [if_pos ⟨d1,d2,d3,d4⟩]
             have hb:PG.nV (.pl p)=PG.bF p:=by show PG.bF p++[]=_; simp
             rw [hb]
             simp -implicitDefEqProofs [eR,d1,d2,d3,d4,h8]
       . rw [if_neg (fun z=>d2 z.2.1)]
         simp -implicitDefEqProofs [eR,d1,d2]
         exact e3
     . rw [if_neg (fun z=>d1 z.1)]
       simp -implicitDefEqProofs [eR,d1]
       exact e3
    have hs:iZ [some (.sh (.int p)),some (.sh (.int n)),some (.tr false (.di kv)),none,none]=eR [some (.sh (.int p)),some (.sh (.int n)),some (.tr false (.di kv)),some (.sh (.int (n%5))),none]:=by
     have h3:bb 3 (mOp b5 (ao 1) (mC (.int 5))) [some (.sh (.int p)),some (.sh (.int n)),some (.tr false (.di kv)),none,none]=.nx [some (.sh (.int p)),some (.sh (.int n)),some (.tr false (.di kv)),some (.sh (.int (n%5))),none]:=by simp -implicitDefEqProofs
     simp only [iZ,oU,h3,jC,mX,zT,hg1,lj,Bool.false_eq_true,if_false,ET]
    rw [hs]
    exact e2
 simp -implicitDefEqProofs only [iz,vd,Ae,rl,List.map_cons,List.map_nil,List.length_cons,List.length_nil,List.replicate,List.cons_append,List.nil_append,oU,hset,jC]
 exact e1
noncomputable def lts:List Int -> Int -> Nat -> List PG.Sg
 |[],_,_=>[]
 |p ::l,n,k=>qe p (n/(1+(k:Int)%7)+k) ::lts l n (k+1)
theorem Kk (l:List Int):∀ n k,l.all PG.lU=true -> (lts l n k).map PG.Kj=l:=by
 induction l with
 |nil=>intro n k _; rfl
 | cons p l ih=>
   intro n k h
   simp only [List.all_cons,Bool.and_eq_true] at h
   simp only [lts,List.map_cons,ih n (k+1) h.2,(rm p _ h.1).2]
theorem DZ (l:List Int):∀ n k,l.all PG.lU=true -> ∀ s∈lts l n k,PG.Sok s:=by
 induction l with
 |nil=>intro n k _ s hs; cases hs
 | cons p l ih=>
   intro n k h s hs
   simp only [List.all_cons,Bool.and_eq_true] at h
   rcases List.mem_cons.mp hs with z|z
   . subst z; exact (rm p _ h.1).1
   . exact ih n (k+1) h.2 s z
theorem DV (s:PG.Sg) (h:PG.Sok s):(PG.nV s).length <= 12:=by
 cases s with
 | pl p=>
   show (PG.bF p++[]).length <= 12
   rw [List.append_nil]
   unfold PG.bF
   repeat' split
   all_goals simp
 | sh c p=>
   simp only [PG.Sok,PG.shP,List.mem_cons,Prod.mk.injEq,List.not_mem_nil,or_false] at h
   rcases h with h|h|h|h|h|h|h|h<;>(obtain ⟨rfl,rfl⟩:=h; decide)
 | hx a b c d=>
   obtain ⟨ha,hb,hc,hd,_⟩:=h
   obtain ⟨e1,e2,e3,e4⟩:=PG.mS ha hb hc hd
   show (PG.bF 92++(PG.bF 117++(PG.bF a++(PG.bF b++(PG.bF c++(PG.bF d++[])))))).length <= 12
   rw [e1,e2,e3,e4,show PG.bF 92=[92] from rfl,show PG.bF 117=[117] from rfl]
   simp
 | pr a b c d e f g h'=>
   obtain ⟨⟨f1,_,_,hb,hcc,hd⟩,f5,_,hf,hg,hh⟩:=h
   obtain ⟨e1,e2,e3,e4⟩:=PG.mS (by rw [f1]; rfl) hb hcc hd
   obtain ⟨e5,e6,e7,e8⟩:=PG.mS (by rw [f5]; rfl) hf hg hh
   show (PG.bF 92++(PG.bF 117++(PG.bF a++(PG.bF b++(PG.bF c++(PG.bF d++(PG.bF 92++(PG.bF 117++(PG.bF e++(PG.bF f++(PG.bF g++(PG.bF h'++[])))))))))))).length <= 12
   rw [e1,e2,e3,e4,e5,e6,e7,e8,show PG.bF 92=[92] from rfl,show PG.bF 117=[117] from rfl]
   simp
theorem BQ (l:List Int) (n:Int) (a:Option Sl):∀ (k:Nat) (found:List Int) (x:Option Sl),l.all PG.lU=true -> found.length+12*l.length <= 100000 -> ∃ x',jj 4 kx (l.map .int) [a,some (.sh (.int n)),some (.ow (found.map .int)),some (.sh (.int (k:Int))),x]=.nx [a,some (.sh (.int n)),some (.ow ((found++PG.inner (lts l n k)).map .int)),some (.sh (.int ((k+l.length:Nat):Int))),x']:=by
 induction l with
 |nil=>intro k found x _ _; exact ⟨x,by simp [lts,PG.inner]⟩
 | cons p l ih=>
   intro k found x hp hl
   simp only [List.all_cons,Bool.and_eq_true] at hp
   simp only [List.length_cons] at hl
   have hs:=nG p (n/(1+(k:Int)%7)+k) hp.1
   have h12:=DV _ (rm p (n/(1+(k:Int)%7)+k) hp.1).1
   have hlim:found.length+(PG.nV (qe p (n/(1+(k:Int)%7)+k))).length <= lim:=dS (by omega)
   obtain ⟨x',h⟩:=ih (k+1) (found++PG.nV (qe p (n/(1+(k:Int)%7)+k))) (some (.sh (.int p))) hp.2 (by simp; omega)
   refine ⟨x',?_⟩
   have hd:(0:Int)<1+(k:Int)%7:=by omega
   have hd2:1+(k:Int)%7<1073741824:=by omega
   have ht:kx [a,some (.sh (.int n)),some (.ow (found.map .int)),some (.sh (.int (k:Int))),some (.sh (.int p))]=.nx [a,some (.sh (.int n)),some (.ow ((found++PG.nV (qe p (n/(1+(k:Int)%7)+k))).map .int)),some (.sh (.int ((k+1:Nat):Int))),some (.sh (.int p))]:=by
    simp -implicitDefEqProofs [kx,hd,hd2,hs,hlim]
   rw [List.map_cons,la]
   simp only [List.set_cons_succ,List.set_cons_zero,ht,m7,h]
   have e:k+1+l.length=k+(l.length+1):=by omega
   simp [lts,PG.inner,e]
theorem Au (l:List Int):∀ n k,(PG.inner (lts l n k)).length <= 12*l.length \/ l.all PG.lU=false:=by
 induction l with
 |nil=>intro n k; left; simp [lts,PG.inner]
 | cons p l ih=>
   intro n k
   by_cases h1:PG.lU p=true
   . rcases ih n (k+1) with h|h
     . left
       have h12:=DV _ (rm p (n/(1+(k:Int)%7)+k) h1).1
       show (PG.nV _++PG.inner (lts l n (k+1))).length <= _
       rw [List.length_append,List.length_cons]
       omega
     . right; simp [h]
   . right; simp [h1]
theorem jE (l:List Int) (n:Int) (h:l.all PG.lU=true) (hl:l.length <= 1000):fK [.lst (l.map .int),.int n]=.ok (.fr ((PG.txt (lts l n 0)).map .int)):=by
 obtain ⟨x',h1⟩:=BQ l n (some (.sh (.lst (l.map .int)))) 0 [34] none h (by simp; omega)
 have hlen:(PG.inner (lts l n 0)).length <= 12*l.length:=by
  rcases Au l n 0 with z|z
  . exact z
  . rw [h] at z; cases z
 have hlim:(PG.inner (lts l n 0)).length+1+1 <= lim:=dS (by omega)
 simp only [List.map_cons,List.map_nil,Int.ofNat_zero,Int.cast_ofNat_Int] at h1
 simp -implicitDefEqProofs only [fK,uN,Ae,rl,List.map_cons,List.map_nil,List.length_cons,List.length_nil,List.replicate,List.cons_append,List.nil_append,oU]
 simp -implicitDefEqProofs [qY,rL,h1,rP,hlim,PG.txt]
noncomputable def low:Nat -> Int -> Int×Nat
 |0,n=>(n,0)
 |k+1,n=>if n%10=0 then ((low k (n/10)).1,(low k (n/10)).2+1) else (n,0)
noncomputable def sv (s ds:List Int):Int:=if s=[45] then -PG.cv ds else PG.cv ds
noncomputable def exV:Option (Int×List Int×List Int) -> Int
 |none=>0
 |some (_,s,ds)=>sv s ds
noncomputable def mwV (m:PG.Nm):Int:=if m.neg then -PG.cv (m.ip++m.fr) else PG.cv (m.ip++m.fr)
noncomputable def dN (m:Nat):List Nat:=(Nat.toDigits 10 m).map Char.toNat
theorem Fy (m:Nat):(Str.ofString (toString ((m:Nat):Int))).cps.toList=dN m:=by
 rw [Str.ofString_eq_toList]
 have:(toString ((m:Nat):Int)).toList=Nat.toDigits 10 m:=by
  show (Nat.repr m).toList=_
  simp [Nat.repr]
 rw [this]
 rfl
theorem Ec (m:Nat):xq (Str.ofString (toString ((m:Nat):Int)))=(dN m).map fun c=>PV.str ⟨#[c]⟩:=by
 unfold xq
 rw [Fy]
theorem CM:∀ d:Nat,d<10 -> (Nat.digitChar d).toNat=48+d:=by decide
theorem tQ (m:Nat):(dN m).map (fun c:Nat=>(c:Int))=PG.cQ m:=by
 induction m using Nat.strongRecOn with
 | _ m ih=>
   rw [PG.cQ]
   by_cases h:m<10
   . rw [if_pos h]
     unfold dN
     rw [Nat.toDigits_of_lt_base h]
     simp [CM m h]
   . rw [if_neg h,<- ih (m/10) (by omega)]
     unfold dN
     rw [Nat.toDigits_of_base_le (by decide) (by omega)]
     simp [CM (m%10) (by omega)]
theorem Iq (m:Nat):∀ c∈dN m,48 <= c /\ c <= 57:=by
 intro c hc
 have h1:(c:Int)∈PG.cQ m:=by rw [<- tQ]; exact List.mem_map.mpr ⟨c,hc,rfl⟩
 have:=PG.yA m _ h1
 unfold PG.isF at this
 omega
theorem IF (m:Nat):(dN m).length=(PG.cQ m).length:=by rw [<- tQ]; simp
theorem EB (m:Nat) (h:m<100000):((m:Nat):Int).natAbs.log2<1920:=by
 have e:((m:Nat):Int).natAbs=m:=by omega
 rw [e]
 by_cases h0:m=0
 . subst h0; decide
 . have:=(Nat.log2_lt h0 (k:=17)).mpr (by omega)
   omega
theorem yI {me:ah -> OE} {f:Nat -> PV} (m:Nat) (h:m<100000) (hme:∀ c∈dN m,me ([]++[some (.sh (.str ⟨#[c]⟩))])=.ok (.sh (f c))) (ma:ah -> OE) (ρ:ah) (ha:ma ρ=.ok (.sh (.int (m:Int)))):
  o2 (mUn pd ma) [] me ρ=.ok (.fr ((dN m).map f)):=by
 have h2:(dN m).length <= lim:=by
  rw [IF]
  have:=PG.oj 4 m (by omega)
  exact dS (by omega)
 have e1:(mUn pd ma) ρ=.ok (.sh (.str (Str.ofString (toString (m:Int))))):=by
  have:pd (.int m)=some (.sh (.str (Str.ofString (toString (m:Int))))):=if_pos (EB m h)
  simp [ha,this]
 have hel:dr me [] ((dN m).map fun c=>PV.str ⟨#[c]⟩)=.ok ((dN m).map f):=kD _ hme
 rw [D7,e1]
 simp only [OE.bind,RV.pv,Ec,cY,List.map_nil,hel]
 simp [noX,h2]
theorem Jq (c:Nat) (h:48 <= c /\ c <= 57):gH ([]++[some (.sh (.str ⟨#[c]⟩))])=.ok (.sh (.int ((c:Int) - 48))):=by
 have:Aq (.str ⟨#[c]⟩)=some (.sh (.int ((c:Int) - 48))):=if_pos h
 simp [gH,this]
theorem Ic (c:Nat):fu ([]++[some (.sh (.str ⟨#[c]⟩))])=.ok (.sh (.int (c:Int))):=by
 have:CP (.str ⟨#[c]⟩)=some (.sh (.int ((⟨#[c]⟩:Str).cps.getD 0 0:Nat))):=rfl
 simp [fu,this]
noncomputable def ws (ds:List Int):List Int:=ds.map (· - 48)
theorem wl1 (l:List Int):∀ (w:Int) (a b c d x e f g:Option Sl),∃ x',jj 5 fq (l.map .int) [a,b,c,d,some (.sh (.int w)),x,e,f,g]=.nx [a,b,c,d,some (.sh (.int (l.foldl (fun n d=>n*10+d) w))),x',e,f,g]:=by
 induction l with
 |nil=>intro w a b c d x e f g; exact ⟨x,rfl⟩
 | cons y l ih=>
   intro w a b c d x e f g
   obtain ⟨x',h⟩:=ih (w*10+y) a b c d (some (.sh (.int y))) e f g
   refine ⟨x',?_⟩
   have ht:fq [a,b,c,d,some (.sh (.int w)),some (.sh (.int y)),e,f,g]=.nx [a,b,c,d,some (.sh (.int (w*10+y))),some (.sh (.int y)),e,f,g]:=by simp -implicitDefEqProofs [fq]
   rw [List.map_cons,la]
   simp only [List.set_cons_succ,List.set_cons_zero,ht,m7,h,List.foldl_cons]
theorem wl2 (l:List Int):∀ (row:List Int) (w p:Int) (a b c x f g:Option Sl),row.length+l.length <= 1000 -> ∃ x',jj 5 gL (l.map .int) [a,b,c,some (.ow (row.map .int)),some (.sh (.int w)),x,some (.sh (.int p)),f,g]=.nx [a,b,c,some (.ow ((row++l.map (48+·)).map .int)),some (.sh (.int (l.foldl (fun n d=>n*10+d) w))),x',some (.sh (.int (p - l.length))),f,g]:=by
 induction l with
 |nil=>intro row w p a b c x f g _; exact ⟨x,by simp⟩
 | cons y l ih=>
   intro row w p a b c x f g hl
   simp only [List.length_cons] at hl
   obtain ⟨x',h⟩:=ih (row++[48+y]) (w*10+y) (p - 1) a b c (some (.sh (.int y))) f g (by simp; omega)
   refine ⟨x',?_⟩
   have hlim:row.length<lim:=sE (by omega)
   have ht:gL [a,b,c,some (.ow (row.map .int)),some (.sh (.int w)),some (.sh (.int y)),some (.sh (.int p)),f,g]=.nx [a,b,c,some (.ow ((row++[48+y]).map .int)),some (.sh (.int (w*10+y))),some (.sh (.int y)),some (.sh (.int (p - 1))),f,g]:=by simp -implicitDefEqProofs [gL,hlim]
   rw [List.map_cons,la]
   simp only [List.set_cons_succ,List.set_cons_zero,ht,m7,h,List.foldl_cons]
   have e1:p - 1 - (l.length:Int)=p - ((l.length:Int)+1):=by omega
   simp [e1]
theorem A7 (ds:List Int):∀ w,(ws ds).foldl (fun n d=>n*10+d) w=ds.foldl (fun n d=>10*n+d - 48) w:=by
 induction ds with
 |nil=>intro w; rfl
 | cons d ds ih=>
   intro w
   simp only [ws,List.map_cons,List.foldl_cons] at ih ⊢
   have:w*10+(d - 48)=10*w+d - 48:=by omega
   rw [this]
   exact ih _
theorem IY (ds:List Int):(ws ds).map (48+·)=ds:=by
 unfold ws
 rw [List.map_map]
 conv=>rhs; rw [<- List.map_id ds]
 refine List.map_congr_left fun x _=>?_
 show 48+(x - 48)=x
 omega
theorem Dx (xs ys:List Int):PG.cv (xs++ys)=ys.foldl (fun n d=>10*n+d - 48) (PG.cv xs):=by
 unfold PG.cv; rw [List.foldl_append]
noncomputable def bU (n:Int):List Int:=if n/17%3=1 then ([48+n/19%10,48+n/23%4,48]:List Int).take (1+n/29%3).toNat else []
noncomputable def fW (n:Int):Option (Int×List Int×List Int):=if n/31%3=1 then some (if n/41%2=0 then 101 else 69,if n/43%3=1 then [45] else if n/43%3=2 then [43] else [],(if n/47%4=1 then [48] else [])++PG.cQ (n/37%30).toNat) else none
noncomputable def eA (n:Int):PG.Nm:=⟨decide (n%3=0),PG.cQ (n/3%100000).toNat,bU n,fW n⟩
theorem yk (n:Int):PG.Nok (eA n) where
 ip:=by
  by_cases h:(n/3%100000).toNat=0
  . left; show PG.cQ _=_; rw [h,PG.Bw]
  . right; exact PG.B4 _ (by omega)
 fr:=fun b hb=>by
  have hb':b∈bU n:=hb
  unfold bU at hb'
  split at hb'
  . have:=List.mem_of_mem_take hb'
    simp at this
    unfold PG.isF
    omega
  . cases hb'
 ex:=fun e s ds h=>by
  have h':fW n=some (e,s,ds):=h
  unfold fW at h'
  split at h'
  . injection h' with h'
    injection h' with h1 h'
    injection h' with h2 h3
    refine ⟨?_,?_,?_,?_⟩
    . rw [<- h1]; split<;>simp
    . rw [<- h2]; split
      . simp
      . split<;>simp
    . rw [<- h3]; intro z; exact PG.Eh _ (List.append_eq_nil_iff.mp z).2
    . rw [<- h3]; intro b hb
      rcases List.mem_append.mp hb with z|z
      . split at z
        . simp at z; subst z; decide
        . cases z
      . exact PG.yA _ b z
  . cases h'
theorem ye (k:Nat):∀ (n p:Int) (F:Nat),n≠0 -> n.natAbs<10 ^ k -> k<F -> fQ ij jR F [some (.sh (.int n)),some (.sh (.int p))]=.nx [some (.sh (.int (low k n).1)),some (.sh (.int (p+(low k n).2)))]:=by
 induction k with
 |zero=>intro n p F h0 h _; simp at h; omega
 | succ k ih=>
   intro n p F h0 h hF
   obtain ⟨F,rfl⟩:∃ G,F=G+1:=⟨F - 1,by omega⟩
   unfold fQ low
   by_cases hm:n%10=0
   . rw [Nat.pow_succ] at h
     have h1:n/10≠0:=by omega
     have h2:(n/10).natAbs<10 ^ k:=by generalize 10 ^ k=z at h; omega
     have:=ih (n/10) (p+1) F h1 h2 (by omega)
     have hc:ij [some (.sh (.int n)),some (.sh (.int p))]=.ok true:=by simp [ij,hm]
     have hb:jR [some (.sh (.int n)),some (.sh (.int p))]=.nx [some (.sh (.int (n/10))),some (.sh (.int (p+1)))]:=by simp [jR]
     simp [hc,hb,hm,this,Int.add_assoc,Int.add_comm 1]
   . simp [ij,hm]
noncomputable def pairOf (k:Nat) (n p:Int):PV:=if n=0 then .tup [.int 0,.int 0] else .tup [.int (low k n).1,.int (p+(low k n).2)]
theorem DU (k:Nat) (n p:Int) (h:n.natAbs<10 ^ k) (hk:k <= 90000):eO [.int n,.int p]=.ok (.sh (pairOf k n p)):=by
 unfold pairOf
 by_cases h0:n=0
 . rw [if_pos h0,h0]; simp -implicitDefEqProofs [eO,oM]
 . rw [if_neg h0]
   have:=ye k n p fuel h0 h (by unfold fuel; omega)
   simp -implicitDefEqProofs [eO,oM,pR,pX,h0,this]
theorem DI (ds:List Int) (h:∀ b∈ds,PG.isF b):0 <= PG.cv ds /\ PG.cv ds<10 ^ ds.length:=by
 have key:∀ (ds:List Int) (w:Int) (k:Nat),(∀ b∈ds,PG.isF b) -> 0 <= w /\ w<10 ^ k -> 0 <= ds.foldl (fun n d=>10*n+d - 48) w /\ ds.foldl (fun n d=>10*n+d - 48) w<10 ^ (k+ds.length):=by
  intro ds
  induction ds with
  |nil=>intro w k _ hw; simpa using hw
  | cons d ds ih=>
    intro w k hd hw
    have h1:=hd d List.mem_cons_self
    unfold PG.isF at h1
    have h2:(10:Int) ^ (k+1)=10 ^ k*10:=Int.pow_succ 10 k
    have:=ih (10*w+d - 48) (k+1) (fun b hb=>hd b (List.mem_cons_of_mem _ hb)) ⟨by omega,by rw [h2]; omega⟩
    rw [List.foldl_cons,List.length_cons]
    rw [show k+1+ds.length=k+(ds.length+1) by omega] at this
    exact this
 have:=key ds 0 0 h (by simp)
 rw [Nat.zero_add] at this
 exact this
theorem Dn (m:PG.Nm) (h:PG.Nok m) (k:Nat) (hk:(m.ip++m.fr).length <= k):(mwV m).natAbs<10 ^ k:=by
 have hip:∀ b∈m.ip++m.fr,PG.isF b:=by
  intro b hb
  rcases List.mem_append.mp hb with z|z
  . rcases h.ip with e|⟨d,r,e,h1,h2,h3⟩
    . rw [e] at z; simp at z; subst z; decide
    . rw [e] at z
      rcases List.mem_cons.mp z with y|y
      . unfold PG.isF; omega
      . exact h3 b y
  . exact h.fr b z
 obtain ⟨b1,b2⟩:=DI _ hip
 have b3:(10:Int) ^ (m.ip++m.fr).length <= 10 ^ k:=by
  have:=Nat.pow_le_pow_right (n:=10) (by decide) hk
  have e1:((10 ^ (m.ip++m.fr).length:Nat):Int)=(10:Int) ^ (m.ip++m.fr).length:=by norm_cast
  have e2:((10 ^ k:Nat):Int)=(10:Int) ^ k:=by norm_cast
  omega
 have e2:((10 ^ k:Nat):Int)=(10:Int) ^ k:=by norm_cast
 unfold mwV
 split<;>omega
theorem kr (n:Int) (hn:0 <= n):fH [.int n]=.ok (.sh (.tup [.lst ((PG.nb (eA n)).map .int),pairOf 20 (mwV (eA n)) (exV (eA n).ex - (eA n).fr.length)])):=by
 obtain ⟨K,hK⟩:∃ K:Nat,K=(n/3%100000).toNat:=⟨_,rfl⟩
 have hK1:n/3%100000=(K:Int):=by omega
 have hK2:K<100000:=by omega
 have hdl:=PG.oj 4 K (by omega)
 obtain ⟨sg,hsg⟩:∃ sg:List Int,sg=if n%3=0 then [45] else []:=⟨_,rfl⟩
 have hsl:sg.length <= 1:=by rw [hsg]; split<;>simp
 have ok:=yk n
 have hfl:(bU n).length <= 3:=by unfold bU; split<;>simp; omega
 have hb20:=Dn (eA n) ok 20 (by show (PG.cQ (n/3%100000).toNat++bU n).length <= 20; rw [<- hK]; simp; omega)
 have hpl:=DU 20 (mwV (eA n)) (exV (eA n).ex - (eA n).fr.length) hb20 (by decide)
 have c1:bb 2 (o2 (mUn pd (mOp b5 (mOp dC (ao 0) (mC (.int 3))) (mC (.int 100000)))) [] gH) [some (.sh (.int n)),some (.sh (.bl (decide (n%3=0)))),none,none,none,none,none,none,none]=.nx [some (.sh (.int n)),some (.sh (.bl (decide (n%3=0)))),some (.ow ((ws (PG.cQ K)).map .int)),none,none,none,none,none,none]:=by
  have:=yI (me:=gH) (f:=fun c=>.int ((c:Int) - 48)) K hK2 (fun c hc=>Jq c (Iq K c hc)) (mOp b5 (mOp dC (ao 0) (mC (.int 3))) (mC (.int 100000))) [some (.sh (.int n)),some (.sh (.bl (decide (n%3=0)))),none,none,none,none,none,none,none] (by simp -implicitDefEqProofs [hK1])
  rw [DQ,this]
  have e:(dN K).map (fun c:Nat=>PV.int ((c:Int) - 48))=(ws (PG.cQ K)).map .int:=by
   rw [<- tQ]; simp [ws,List.map_map,Function.comp_def]
  rw [e]
  rfl
 have c2:bb 3 (gi (de (ao 1)) (bP (aj (mC (.int 45)) aG)) (bP aG)) [some (.sh (.int n)),some (.sh (.bl (decide (n%3=0)))),some (.ow ((ws (PG.cQ K)).map .int)),none,none,none,none,none,none]=.nx [some (.sh (.int n)),some (.sh (.bl (decide (n%3=0)))),some (.ow ((ws (PG.cQ K)).map .int)),some (.ow (sg.map .int)),none,none,none,none,none]:=by
  rw [hsg]
  by_cases h:n%3=0<;>simp -implicitDefEqProofs [h]
 have hel:dr jd [] ((ws (PG.cQ K)).map .int)=.ok ((PG.cQ K).map .int):=by
  have:(PG.cQ K).map PV.int=(ws (PG.cQ K)).map fun x=>.int (48+x):=by
   conv=>lhs; rw [<- IY (PG.cQ K)]
   rw [List.map_map]; rfl
  rw [this]
  exact kD _ fun x _=>by simp -implicitDefEqProofs [jd]
 have hdlim:(PG.cQ K).length <= lim:=dS (by omega)
 have hslim:sg.length+(PG.cQ K).length <= lim:=dS (by omega)
 have c3:bb 3 (mOp gz (ao 3) (sG (ao 2) [] jd)) [some (.sh (.int n)),some (.sh (.bl (decide (n%3=0)))),some (.ow ((ws (PG.cQ K)).map .int)),some (.ow (sg.map .int)),none,none,none,none,none]=.nx [some (.sh (.int n)),some (.sh (.bl (decide (n%3=0)))),some (.ow ((ws (PG.cQ K)).map .int)),some (.ow ((sg++PG.cQ K).map .int)),none,none,none,none,none]:=by
  simp -implicitDefEqProofs [cY,hel,hdlim,hslim]
 obtain ⟨x1,w1⟩:=wl1 (ws (PG.cQ K)) 0 (some (.sh (.int n))) (some (.sh (.bl (decide (n%3=0))))) (some (.sh (.lst ((ws (PG.cQ K)).map .int)))) (some (.ow ((sg++PG.cQ K).map .int))) none none none none
 rw [A7] at w1
 have w1':jj 5 fq ((ws (PG.cQ K)).map .int) [some (.sh (.int n)),some (.sh (.bl (decide (n%3=0)))),some (.sh (.lst ((ws (PG.cQ K)).map .int))),some (.ow ((sg++PG.cQ K).map .int)),some (.sh (.int 0)),none,none,none,none]=.nx [some (.sh (.int n)),some (.sh (.bl (decide (n%3=0)))),some (.sh (.lst ((ws (PG.cQ K)).map .int))),some (.ow ((sg++PG.cQ K).map .int)),some (.sh (.int (PG.cv (PG.cQ K)))),x1,none,none,none]:=w1
 obtain ⟨W,hW⟩:∃ W,W=ws (PG.cQ K):=⟨_,rfl⟩
 obtain ⟨R1,hR1⟩:∃ R1,R1=sg++PG.cQ K:=⟨_,rfl⟩
 have hR1l:R1.length <= 6:=by rw [hR1]; simp; omega
 obtain ⟨V1,hV1⟩:∃ V1,V1=PG.cv (PG.cQ K):=⟨_,rfl⟩
 rw [<- hW,<- hR1,<- hV1] at w1'
 rw [<- hW] at c1 c2
 rw [<- hW,<- hR1] at c3
 have c4:∃ x2,bj (az (mOp gEq (mOp b5 (mOp dC (ao 0) (mC (.int 17))) (mC (.int 3))) (mC (.int 1)))) (aH (eM 3 (mC (.int 46))) (sU 5 (kY (bP (aj (mOp b5 (mOp dC (ao 0) (mC (.int 19))) (mC (.int 10))) (aj (mOp b5 (mOp dC (ao 0) (mC (.int 23))) (mC (.int 4))) (aj (mC (.int 0)) aG)))) (mC .non) (gp (mOp fm (mC (.int 1)) (mOp b5 (mOp dC (ao 0) (mC (.int 29))) (mC (.int 3)))))) gL)) aT
   [some (.sh (.int n)),some (.sh (.bl (decide (n%3=0)))),some (.sh (.lst (W.map .int))),some (.ow (R1.map .int)),some (.sh (.int V1)),x1,some (.sh (.int 0)),none,none] =
   .nx [some (.sh (.int n)),some (.sh (.bl (decide (n%3=0)))),some (.sh (.lst (W.map .int))),some (.ow ((R1++PG.frB (bU n)).map .int)),some (.sh (.int ((bU n).foldl (fun n d=>10*n+d - 48) V1))),x2,some (.sh (.int (-((bU n).length:Int)))),none,none]:=by
  by_cases h17:n/17%3=1
  . obtain ⟨L,hL⟩:∃ L:List Int,L=([n/19%10,n/23%4,0]:List Int).take (1+n/29%3).toNat:=⟨_,rfl⟩
    have hLf:bU n=L.map (48+·):=by
     unfold bU
     rw [if_pos h17,hL,List.map_take]
     simp
    have hLl:L.length=(1+n/29%3).toNat:=by rw [hL]; simp; omega
    have hcut:xn [PV.int (n/19%10),.int (n/23%4),.int 0] none (some (1+n/29%3))=L.map .int:=by
     have e1:rK 3 3 (some (1+n/29%3))=(1+n/29%3).toNat:=by
      unfold rK; dsimp only; rw [if_neg (by omega)]; omega
     show ([PV.int (n/19%10),.int (n/23%4),.int 0].drop 0).take (rK 3 3 (some (1+n/29%3)) - 0)=_
     rw [e1,hL,List.map_take]
     rfl
    obtain ⟨x2,w2⟩:=wl2 L (R1++[46]) V1 0 (some (.sh (.int n))) (some (.sh (.bl (decide (n%3=0))))) (some (.sh (.lst (W.map .int)))) x1 none none (by simp; omega)
    refine ⟨x2,?_⟩
    have hne:bU n≠[]:=by
     rw [hLf]
     intro z
     have:=congrArg List.length z
     simp [hLl] at this
     omega
    have hfold:L.foldl (fun n d=>n*10+d) V1=(bU n).foldl (fun n d=>10*n+d - 48) V1:=by
     have:=A7 (bU n) V1
     rw [<- this,hLf]
     congr 1
     unfold ws
     rw [List.map_map]
     conv=>lhs; rw [<- List.map_id L]
     refine List.map_congr_left fun x _=>?_
     show x=48+x - 48
     omega
    have hrow:R1++[46]++L.map (48+·)=R1++PG.frB (bU n):=by
     unfold PG.frB
     rw [if_neg hne,hLf]; simp
    rw [hfold,hrow] at w2
    have hlen:(0:Int) - (L.length:Int)=-((bU n).length:Int):=by rw [hLf]; simp
    rw [hlen] at w2
    have hl1:R1.length<lim:=sE (by omega)
    have w2':=w2
    simp only [List.map_append,List.map_cons,List.map_nil] at w2'
    simp -implicitDefEqProofs [h17,hl1,hcut,w2']
  . refine ⟨x1,?_⟩
    have hf:bU n=[]:=by unfold bU; rw [if_neg h17]
    rw [hf]
    simp -implicitDefEqProofs [h17,PG.frB]
 obtain ⟨x2,c4⟩:=c4
 obtain ⟨R2,hR2⟩:∃ R2,R2=R1++PG.frB (bU n):=⟨_,rfl⟩
 have hR2l:R2.length <= 10:=by
  rw [hR2]
  unfold PG.frB
  split<;>simp<;>omega
 have hV2:(bU n).foldl (fun n d=>10*n+d - 48) V1=PG.cv (PG.cQ K++bU n):=by rw [Dx,hV1]
 rw [hV2,<- hR2] at c4
 obtain ⟨V2,hV2e⟩:∃ V2,V2=PG.cv (PG.cQ K++bU n):=⟨_,rfl⟩
 rw [<- hV2e] at c4
 have c5:∃ y z,bj (az (mOp gEq (mOp b5 (mOp dC (ao 0) (mC (.int 31))) (mC (.int 3))) (mC (.int 1)))) (aH (bb 7 (mOp b5 (mOp dC (ao 0) (mC (.int 37))) (mC (.int 30)))) (aH (eM 3 (mOp jX (bP (aj (mC (.int 101)) (aj (mC (.int 69)) aG))) (mOp b5 (mOp dC (ao 0) (mC (.int 41))) (mC (.int 2))))) (aH (bb 8 (mOp gEq (mOp b5 (mOp dC (ao 0) (mC (.int 43))) (mC (.int 3))) (mC (.int 1)))) (aH (bj (de (ao 8)) (eM 3 (mC (.int 45))) (bj (az (mOp gEq (mOp b5 (mOp dC (ao 0) (mC (.int 43))) (mC (.int 3))) (mC (.int 2)))) (eM 3 (mC (.int 43))) aT)) (aH (bj (az (mOp gEq (mOp b5 (mOp dC (ao 0) (mC (.int 47))) (mC (.int 4))) (mC (.int 1)))) (eM 3 (mC (.int 48))) aT) (aH (bb 3 (mOp gz (ao 3) (o2 (mUn pd (ao 7)) [] fu))) (bb 6 (mOp fm (ao 6) (gi (de (ao 8)) (mUn gj (ao 7)) (ao 7)))))))))) aT
   [some (.sh (.int n)),some (.sh (.bl (decide (n%3=0)))),some (.sh (.lst (W.map .int))),some (.ow (R2.map .int)),some (.sh (.int V2)),x2,some (.sh (.int (-((bU n).length:Int)))),none,none] =
   .nx [some (.sh (.int n)),some (.sh (.bl (decide (n%3=0)))),some (.sh (.lst (W.map .int))),some (.ow ((R2++PG.exB (fW n)).map .int)),some (.sh (.int V2)),x2,some (.sh (.int (exV (fW n) - (bU n).length))),y,z]:=by
  by_cases h31:n/31%3=1
  . obtain ⟨M,hM⟩:∃ M:Nat,M=(n/37%30).toNat:=⟨_,rfl⟩
    have hM1:n/37%30=(M:Int):=by omega
    refine ⟨some (.sh (.int (M:Int))),some (.sh (.bl (decide (n/43%3=1)))),?_⟩
    obtain ⟨eb,heb⟩:∃ eb:Int,eb=if n/41%2=0 then 101 else 69:=⟨_,rfl⟩
    obtain ⟨sx,hsx⟩:∃ sx:List Int,sx=if n/43%3=1 then [45] else if n/43%3=2 then [43] else []:=⟨_,rfl⟩
    obtain ⟨zx,hzx⟩:∃ zx:List Int,zx=if n/47%4=1 then [48] else []:=⟨_,rfl⟩
    have hex:fW n=some (eb,sx,zx++PG.cQ M):=by unfold fW; rw [if_pos h31,heb,hsx,hzx,hM]
    have hsxl:sx.length <= 1:=by rw [hsx]; split
                                 . simp
                                 . split<;>simp
    have hzxl:zx.length <= 1:=by rw [hzx]; split<;>simp
    have hml:=PG.oj 4 M (by omega)
    have hat:atP [PV.int 101,.int 69] (n/41%2)=some (.int eb):=by
     have:n/41%2=0 \/ n/41%2=1:=by omega
     rw [heb]
     rcases this with h|h<;>rw [h]<;>rfl
    have hcvz:PG.cv (zx++PG.cQ M)=(M:Int):=by
     have:PG.cv (PG.cQ M)=M:=PG.FQ M
     rw [hzx]
     split
     . rw [Dx]; exact this
     . exact this
    have hexv:exV (fW n)=if n/43%3=1 then -(M:Int) else (M:Int):=by
     rw [hex]
     show sv sx (zx++PG.cQ M)=_
     unfold sv
     rw [hcvz,hsx]
     by_cases h1:n/43%3=1
     . simp [h1]
     . by_cases h2:n/43%3=2<;>simp [h1,h2]
    have l1:R2.length<lim:=sE (by omega)
    have l2:R2.length+1<lim:=sE (by omega)
    obtain ⟨R3,hR3⟩:∃ R3,R3=R2++[eb]:=⟨_,rfl⟩
    have g1:eM 3 (mOp jX (bP (aj (mC (.int 101)) (aj (mC (.int 69)) aG))) (mOp b5 (mOp dC (ao 0) (mC (.int 41))) (mC (.int 2)))) [some (.sh (.int n)),some (.sh (.bl (decide (n%3=0)))),some (.sh (.lst (W.map .int))),some (.ow (R2.map .int)),some (.sh (.int V2)),x2,some (.sh (.int (-((bU n).length:Int)))),some (.sh (.int (M:Int))),none]=.nx [some (.sh (.int n)),some (.sh (.bl (decide (n%3=0)))),some (.sh (.lst (W.map .int))),some (.ow (R3.map .int)),some (.sh (.int V2)),x2,some (.sh (.int (-((bU n).length:Int)))),some (.sh (.int (M:Int))),none]:=by
     rw [hR3]; simp -implicitDefEqProofs [hat,l1]
    have hR3l:R3.length <= 11:=by rw [hR3]; simp; omega
    have l3:R3.length<lim:=sE (by omega)
    obtain ⟨R4,hR4⟩:∃ R4,R4=R3++sx:=⟨_,rfl⟩
    have g2:bj (de (ao 8)) (eM 3 (mC (.int 45))) (bj (az (mOp gEq (mOp b5 (mOp dC (ao 0) (mC (.int 43))) (mC (.int 3))) (mC (.int 2)))) (eM 3 (mC (.int 43))) aT) [some (.sh (.int n)),some (.sh (.bl (decide (n%3=0)))),some (.sh (.lst (W.map .int))),some (.ow (R3.map .int)),some (.sh (.int V2)),x2,some (.sh (.int (-((bU n).length:Int)))),some (.sh (.int (M:Int))),some (.sh (.bl (decide (n/43%3=1))))]=.nx [some (.sh (.int n)),some (.sh (.bl (decide (n%3=0)))),some (.sh (.lst (W.map .int))),some (.ow (R4.map .int)),some (.sh (.int V2)),x2,some (.sh (.int (-((bU n).length:Int)))),some (.sh (.int (M:Int))),some (.sh (.bl (decide (n/43%3=1))))]:=by
     rw [hR4,hsx]
     by_cases h1:n/43%3=1
     . simp -implicitDefEqProofs [h1,l3]
     . by_cases h2:n/43%3=2<;>simp -implicitDefEqProofs [h1,h2,l3]
    have hR4l:R4.length <= 12:=by rw [hR4]; simp; omega
    have l4:R4.length<lim:=sE (by omega)
    obtain ⟨R5,hR5⟩:∃ R5,R5=R4++zx:=⟨_,rfl⟩
    have g3:bj (az (mOp gEq (mOp b5 (mOp dC (ao 0) (mC (.int 47))) (mC (.int 4))) (mC (.int 1)))) (eM 3 (mC (.int 48))) aT [some (.sh (.int n)),some (.sh (.bl (decide (n%3=0)))),some (.sh (.lst (W.map .int))),some (.ow (R4.map .int)),some (.sh (.int V2)),x2,some (.sh (.int (-((bU n).length:Int)))),some (.sh (.int (M:Int))),some (.sh (.bl (decide (n/43%3=1))))]=.nx [some (.sh (.int n)),some (.sh (.bl (decide (n%3=0)))),some (.sh (.lst (W.map .int))),some (.ow (R5.map .int)),some (.sh (.int V2)),x2,some (.sh (.int (-((bU n).length:Int)))),some (.sh (.int (M:Int))),some (.sh (.bl (decide (n/43%3=1))))]:=by
     rw [hR5,hzx]
     by_cases h1:n/47%4=1<;>simp -implicitDefEqProofs [h1,l4]
    have hR5l:R5.length <= 13:=by rw [hR5]; simp; omega
    have l5:R5.length+(PG.cQ M).length <= lim:=dS (by omega)
    have hcs:=yI (me:=fu) (f:=fun c=>.int (c:Int)) M (by omega) (fun c _=>Ic c) (ao 7) [some (.sh (.int n)),some (.sh (.bl (decide (n%3=0)))),some (.sh (.lst (W.map .int))),some (.ow (R5.map .int)),some (.sh (.int V2)),x2,some (.sh (.int (-((bU n).length:Int)))),some (.sh (.int (M:Int))),some (.sh (.bl (decide (n/43%3=1))))] (by simp)
    have hdd:(dN M).map (fun c:Nat=>PV.int (c:Int))=(PG.cQ M).map .int:=by rw [<- tQ,List.map_map]; rfl
    rw [hdd] at hcs
    have g4:bb 3 (mOp gz (ao 3) (o2 (mUn pd (ao 7)) [] fu)) [some (.sh (.int n)),some (.sh (.bl (decide (n%3=0)))),some (.sh (.lst (W.map .int))),some (.ow (R5.map .int)),some (.sh (.int V2)),x2,some (.sh (.int (-((bU n).length:Int)))),some (.sh (.int (M:Int))),some (.sh (.bl (decide (n/43%3=1))))]=.nx [some (.sh (.int n)),some (.sh (.bl (decide (n%3=0)))),some (.sh (.lst (W.map .int))),some (.ow ((R5++PG.cQ M).map .int)),some (.sh (.int V2)),x2,some (.sh (.int (-((bU n).length:Int)))),some (.sh (.int (M:Int))),some (.sh (.bl (decide (n/43%3=1))))]:=by
     simp -implicitDefEqProofs only [DQ,GF,hcs,y7,List.getElem?_cons_succ,List.getElem?_cons_zero,pf,DH,DB,Hb,List.length_map,l5,if_true,xo,iG,EJ,List.set_cons_succ,List.set_cons_zero,List.map_append]
    have hRex:R5++PG.cQ M=R2++PG.exB (fW n):=by
     rw [hex,hR5,hR4,hR3]
     show _=R2++(eb ::(sx++(zx++PG.cQ M)))
     simp
    rw [hRex] at g4
    have g5:bb 6 (mOp fm (ao 6) (gi (de (ao 8)) (mUn gj (ao 7)) (ao 7))) [some (.sh (.int n)),some (.sh (.bl (decide (n%3=0)))),some (.sh (.lst (W.map .int))),some (.ow ((R2++PG.exB (fW n)).map .int)),some (.sh (.int V2)),x2,some (.sh (.int (-((bU n).length:Int)))),some (.sh (.int (M:Int))),some (.sh (.bl (decide (n/43%3=1))))]=.nx [some (.sh (.int n)),some (.sh (.bl (decide (n%3=0)))),some (.sh (.lst (W.map .int))),some (.ow ((R2++PG.exB (fW n)).map .int)),some (.sh (.int V2)),x2,some (.sh (.int (exV (fW n) - (bU n).length))),some (.sh (.int (M:Int))),some (.sh (.bl (decide (n/43%3=1))))]:=by
     rw [hexv]
     generalize (R2++PG.exB (fW n)).map PV.int=RR
     by_cases h1:n/43%3=1
     . have e:-((bU n).length:Int) + -(M:Int)=-(M:Int) - (bU n).length:=by omega
       simp -implicitDefEqProofs [h1,e]
     . have e:-((bU n).length:Int)+(M:Int)=(M:Int) - (bU n).length:=by omega
       simp -implicitDefEqProofs [h1,e]
    have g0:bb 7 (mOp b5 (mOp dC (ao 0) (mC (.int 37))) (mC (.int 30))) [some (.sh (.int n)),some (.sh (.bl (decide (n%3=0)))),some (.sh (.lst (W.map .int))),some (.ow (R2.map .int)),some (.sh (.int V2)),x2,some (.sh (.int (-((bU n).length:Int)))),none,none]=.nx [some (.sh (.int n)),some (.sh (.bl (decide (n%3=0)))),some (.sh (.lst (W.map .int))),some (.ow (R2.map .int)),some (.sh (.int V2)),x2,some (.sh (.int (-((bU n).length:Int)))),some (.sh (.int (M:Int))),none]:=by
     simp -implicitDefEqProofs [hM1]
    have g1b:bb 8 (mOp gEq (mOp b5 (mOp dC (ao 0) (mC (.int 43))) (mC (.int 3))) (mC (.int 1))) [some (.sh (.int n)),some (.sh (.bl (decide (n%3=0)))),some (.sh (.lst (W.map .int))),some (.ow (R3.map .int)),some (.sh (.int V2)),x2,some (.sh (.int (-((bU n).length:Int)))),some (.sh (.int (M:Int))),none]=.nx [some (.sh (.int n)),some (.sh (.bl (decide (n%3=0)))),some (.sh (.lst (W.map .int))),some (.ow (R3.map .int)),some (.sh (.int V2)),x2,some (.sh (.int (-((bU n).length:Int)))),some (.sh (.int (M:Int))),some (.sh (.bl (decide (n/43%3=1))))]:=by
     simp -implicitDefEqProofs
    have gt:az (mOp gEq (mOp b5 (mOp dC (ao 0) (mC (.int 31))) (mC (.int 3))) (mC (.int 1))) [some (.sh (.int n)),some (.sh (.bl (decide (n%3=0)))),some (.sh (.lst (W.map .int))),some (.ow (R2.map .int)),some (.sh (.int V2)),x2,some (.sh (.int (-((bU n).length:Int)))),none,none]=.ok true:=by
     simp -implicitDefEqProofs [h31]
    rw [zT,gt]
    simp only [lj,if_true,oU,g0,jC,g1,g1b,g2,g3,g4,g5]
  . refine ⟨none,none,?_⟩
    have hex:fW n=none:=by unfold fW; rw [if_neg h31]
    rw [hex]
    have e:(0:Int) - ((bU n).length:Int)=-((bU n).length:Int):=by omega
    simp -implicitDefEqProofs [h31,PG.exB,exV,e]
 obtain ⟨y,z,c5⟩:=c5
 have hnb:R2++PG.exB (fW n)=PG.nb (eA n):=by
  rw [hR2,hR1,hsg]
  show _=(if (decide (n%3=0))=true then [45] else [])++(PG.cQ (n/3%100000).toNat++(PG.frB (bU n)++PG.exB (fW n)))
  rw [<- hK]
  simp
 rw [hnb] at c5
 have hmw:(if n%3=0 then -V2 else V2)=mwV (eA n):=by
  rw [hV2e]
  show _=(if decide (n%3=0)=true then -PG.cv (PG.cQ (n/3%100000).toNat++bU n) else PG.cv (PG.cQ (n/3%100000).toNat++bU n))
  rw [<- hK]
  simp
 have c6:bj (de (ao 1)) (bb 4 (mUn gj (ao 4))) aT [some (.sh (.int n)),some (.sh (.bl (decide (n%3=0)))),some (.sh (.lst (W.map .int))),some (.ow ((PG.nb (eA n)).map .int)),some (.sh (.int V2)),x2,some (.sh (.int (exV (fW n) - (bU n).length))),y,z]=.nx [some (.sh (.int n)),some (.sh (.bl (decide (n%3=0)))),some (.sh (.lst (W.map .int))),some (.ow ((PG.nb (eA n)).map .int)),some (.sh (.int (mwV (eA n)))),x2,some (.sh (.int (exV (fW n) - (bU n).length))),y,z]:=by
  rw [<- hmw]
  by_cases h:n%3=0<;>simp -implicitDefEqProofs [h]
 have hpl':eO [.int (mwV (eA n)),.int (exV (fW n) - (bU n).length)]=.ok (.sh (pairOf 20 (mwV (eA n)) (exV (fW n) - (bU n).length))):=hpl
 have c7:fin (j5 [some (.sh (.int n)),some (.sh (.bl (decide (n%3=0)))),some (.sh (.lst (W.map .int))),some (.ow ((PG.nb (eA n)).map .int)),some (.sh (.int (mwV (eA n)))),x2,some (.sh (.int (exV (fW n) - (bU n).length))),y,z])=.ok (.sh (.tup [.lst ((PG.nb (eA n)).map .int),pairOf 20 (mwV (eA n)) (exV (fW n) - (bU n).length)])):=by
  generalize PG.nb (eA n)=RR
  simp -implicitDefEqProofs [j5,nr,hpl']
 have c0:bb 1 (mOp gEq (mOp b5 (ao 0) (mC (.int 3))) (mC (.int 0))) [some (.sh (.int n)),none,none,none,none,none,none,none,none]=.nx [some (.sh (.int n)),some (.sh (.bl (decide (n%3=0)))),none,none,none,none,none,none,none]:=by
  simp -implicitDefEqProofs
 have c3b:bb 4 (mC (.int 0)) [some (.sh (.int n)),some (.sh (.bl (decide (n%3=0)))),some (.ow (W.map .int)),some (.ow (R1.map .int)),none,none,none,none,none]=.nx [some (.sh (.int n)),some (.sh (.bl (decide (n%3=0)))),some (.ow (W.map .int)),some (.ow (R1.map .int)),some (.sh (.int 0)),none,none,none,none]:=by simp -implicitDefEqProofs
 have c3c:jQ 2 (sU 5 (ao 2) fq) [some (.sh (.int n)),some (.sh (.bl (decide (n%3=0)))),some (.ow (W.map .int)),some (.ow (R1.map .int)),some (.sh (.int 0)),none,none,none,none]=.nx [some (.sh (.int n)),some (.sh (.bl (decide (n%3=0)))),some (.sh (.lst (W.map .int))),some (.ow (R1.map .int)),some (.sh (.int V1)),x1,none,none,none]:=by
  simp -implicitDefEqProofs [nr,w1']
 have c3d:bb 6 (mC (.int 0)) [some (.sh (.int n)),some (.sh (.bl (decide (n%3=0)))),some (.sh (.lst (W.map .int))),some (.ow (R1.map .int)),some (.sh (.int V1)),x1,none,none,none]=.nx [some (.sh (.int n)),some (.sh (.bl (decide (n%3=0)))),some (.sh (.lst (W.map .int))),some (.ow (R1.map .int)),some (.sh (.int V1)),x1,some (.sh (.int 0)),none,none]:=by simp -implicitDefEqProofs
 simp -implicitDefEqProofs only [fH,rj,Ae,rl,List.map_cons,List.map_nil,List.length_cons,List.length_nil,List.replicate,List.cons_append,List.nil_append,oU,c0,jC,oY,c1,o5,c2,oS,c3,o7,c3b,oQ,c3c,oV,c3d,oW,c4,n8,c5,o1,c6]
 exact c7
noncomputable def wc (j:Int):Int:=if j=0 then 32 else if j=1 then 9 else if j=2 then 10 else 13
noncomputable def lwh (n:Int):List Int:=if 0<n%4 then [] else (List.range (n/64%3+1).toNat).map fun k:Nat=>wc (n/4/(1+3*(k:Int))%4)
theorem Hx (j:Int):PG.wht (wc j)=true:=by
 unfold wc; split
 . rfl
 . split
   . rfl
   . split<;>rfl
theorem cu (n:Int):∀ b∈lwh n,PG.wht b=true:=by
 unfold lwh
 split
 . simp
 . intro b hb
   obtain ⟨k,_,rfl⟩:=List.mem_map.mp hb
   exact Hx _
theorem fi (n:Int):(lwh n).length <= 3:=by
 unfold lwh
 split
 . simp
 . simp; omega
theorem BO (n:Int) (j:Nat) (hj:j<3):jH [some (.sh (.int n)),some (.sh (.int j))]=.ok (.sh (.int (wc (n/4/(1+3*(j:Int))%4)))):=by
 have h:¬ (1+3*(j:Int))=0:=by omega
 obtain ⟨r,hr⟩:∃ r,r=n/4/(1+3*(j:Int))%4:=⟨_,rfl⟩
 have h4:r=0 \/ r=1 \/ r=2 \/ r=3:=by omega
 rw [<- hr]
 have h5:0<(1+3*(j:Int)):=by omega
 have h6:(1+3*(j:Int))<1073741824:=by omega
 simp -implicitDefEqProofs [jH,h,h5,h6,<- hr]
 rcases h4 with h|h|h|h<;>rw [h]<;>rfl
theorem dX (n:Int):cw [.int n]=.ok (.fr ((lwh n).map .int)):=by
 have el:∀ m:Nat,m <= 3 -> dr jH [some (.sh (.int n))] (dF m)=.ok ((List.range m).map fun j:Nat=>.int (wc (n/4/(1+3*(j:Int))%4))):=fun m hm=>by
  unfold dF
  refine kD _ fun j hj=>?_
  exact BO n j (by have:=List.mem_range.mp hj; omega)
 have h1:-4611686018427387904 <= n/64%3+1 /\ n/64%3+1<4611686018427387904:=by omega
 by_cases h:0<n%4
 . simp [cw,oJ,h,lwh]
 . have hp:(lwh n).map PV.int = (List.range (n / 64 % 3 + 1).toNat).map fun j:Nat=>.int (wc (n / 4 / (1 + 3 * (j:Int)) % 4)):=by
    unfold lwh; rw [if_neg h,List.map_map]; rfl
   rw [hp]
   have h2:=el (n/64%3+1).toNat (by omega)
   simp -implicitDefEqProofs [cw,oJ,h,cY,h2,h1]
   unfold lim; omega
noncomputable def lnm (ns:List Int) (n:Int):List Int:=if n%2=0 then [97+n/2%3] else PG.points ns (11+n/2%37)
theorem ue (ns:List Int) (n:Int):(lnm ns n).all PG.lU=true /\ (lnm ns n).length<14:=by
 unfold lnm
 split
 . refine ⟨?_,by simp⟩
   have h:n/2%3=0 \/ n/2%3=1 \/ n/2%3=2:=by omega
   rcases h with h|h|h<;>rw [h]<;>decide
 . exact ⟨PG.ph _ _,PG.qM _ _⟩
theorem nj (ns:List Int) (n:Int):gq [.lst (ns.map .int),.int n]=.ok (.fr ((lnm ns n).map .int)):=by
 unfold lnm
 by_cases h:n%2=0
 . simp [gq,ql,h]
 . simp [gq,ql,h,gT]
noncomputable def fI (ns:List Int) (n:Int):PG.Lf:=
 if n/5%6=0 then .wd .null else if n/5%6=1 then .wd .tru else if n/5%6=2 then .wd .fal
 else if n/5%6=3 then .tx (lts (PG.points ns (7+n%41)) (n/30) 0) else .nm (eA (n/7))
noncomputable def lfK:PG.Lf -> String
 |.wd .null=>"null" | .wd .tru=>"true" | .wd .fal=>"false" | .tx _=>"text" | .nm _=>"number"
theorem tV (ns:List Int) (n:Int):PG.Lok (fI ns n):=by
 unfold fI
 split
 . trivial
 . split
   . trivial
   . split
     . trivial
     . split
       . exact DZ _ _ _ (PG.ph _ _)
       . exact yk _
theorem xx (k:Nat) (n p:Int):∃ a b,pairOf k n p=.tup [.int a,.int b]:=by
 unfold pairOf; split
 . exact ⟨_,_,rfl⟩
 . exact ⟨_,_,rfl⟩
noncomputable def dv (row:List Int):OV:=.ol (row.map fun b=>.sh (.int b))
noncomputable def kS (k:Bool):PV:=.str (if k then "row" else "fields")
noncomputable def frO (k:Bool) (items:List PV) (i:Nat) (nm:List Int):OV:=.ol [.sh (kS k),.ol (items.map .sh),.sh (.int i),.sh (.tup (nm.map .int))]
noncomputable def ndO (s:PV) (a b c:Int):OV:=.ol [.sh s,.sh (.int a),.sh (.int b),.sh (.int c)]
noncomputable def brk (k:Bool):Int:=if k then 93 else 125
theorem yE (xs:List PV):uM (xs.map .sh)=some xs:=by
 induction xs with
 |nil=>rfl
 |cons x xs ih=>simp [uM,ih]
theorem vC (row:List Int) (nodes fs:List OV) (k:Bool) (items:List PV) (i:Nat) (nm:List Int) (s:PV) (a b c:Int) (hi:nodes[i]?=some (ndO s a b c)) (hr:row.length<100000) (hn:nodes.length<100000):
  o9 [some (.tr true (dv row)),some (.tr true (.ol nodes)),some (.tr true (.ol (fs++[frO k items i nm]))),none,none] =
   jF [some (.tr true (dv (row++[brk k]))),some (.tr true (.ol (nodes.set i (ndO s a (row.length+1) nodes.length)))),some (.tr true (.ol fs)),some (.tr false (frO k items i nm)),none]:=by
 have hil:i<nodes.length:=by
  rcases Nat.lt_or_ge i nodes.length with z|z
  . exact z
  . rw [List.getElem?_eq_none z] at hi; cases hi
 have e0:i8 3 (qj 2 aI) [some (.tr true (dv row)),some (.tr true (.ol nodes)),some (.tr true (.ol (fs++[frO k items i nm]))),none,none] =
   .nx [some (.tr true (dv row)),some (.tr true (.ol nodes)),some (.tr true (.ol fs)),some (.tr false (frO k items i nm)),none]:=by
  unfold i8
  rw [FN (ts:=fs) (x:=frO k items i nm) rfl]
  simp [frO,slO,nio]
 have p3:∀ (x y z u:Option Sl) (ix:ah -> OE) (j:Nat) (v:OV),ix [x,y,z,some (.tr false (frO k items i nm)),u]=.ok (.sh (.int j)) -> j<4 -> [OV.sh (kS k),.ol (items.map .sh),.sh (.int i),.sh (.tup (nm.map .int))][j]?=some v -> subAt 3 (pIx 3 aI ix) [x,y,z,some (.tr false (frO k items i nm)),u]=some v:=fun x y z u ix j v h1 h2 h3=>
  subAt_one (bK rfl rfl) (ko (bK rfl rfl) h1 rfl (by simp [ixP]; omega)) h3
 unfold o9
 rw [aZ e0]
 unfold qd
 have hd:∀ (x y z u:Option Sl),mD (gi (az (mOp gEq (cU 3 (pIx 3 aI (mC (.int 0)))) (mC (.str "row")))) (mC (.int 93)) (mC (.int 125))) [x,y,z,some (.tr false (frO k items i nm)),u]=.ok (.sh (.int (brk k))):=fun x y z u=>by
  have:=m9 (p3 x y z u (mC (.int 0)) 0 (.sh (kS k)) rfl (by omega) rfl)
  cases k<;>simp -implicitDefEqProofs [mD,gi,az,this,kS,brk,gEq,eqS,aK]
 have e1:b0 0 aI (mD (gi (az (mOp gEq (cU 3 (pIx 3 aI (mC (.int 0)))) (mC (.str "row")))) (mC (.int 93)) (mC (.int 125)))) [some (.tr true (dv row)),some (.tr true (.ol nodes)),some (.tr true (.ol fs)),some (.tr false (frO k items i nm)),none] =
   .nx [some (.tr true (dv (row++[brk k]))),some (.tr true (.ol nodes)),some (.tr true (.ol fs)),some (.tr false (frO k items i nm)),none]:=by
  rw [tO (ts:=row.map fun b=>.sh (.int b)) rfl (hd _ _ _ _) (by rw [List.length_map]; exact dS (n:=row.length+1) (by omega))]
  simp [dv]
 rw [aZ e1]
 have px:∀ (x z u:Option Sl) (ns:List OV),ns.length=nodes.length -> pIx 1 aI (cU 3 (pIx 3 aI (mC (.int 2)))) [x,some (.tr true (.ol ns)),z,some (.tr false (frO k items i nm)),u]=some [.ix i]:=fun x z u ns hns=>
  ko (bK rfl rfl) (m9 (p3 x _ z u (mC (.int 2)) 2 (.sh (.int i)) rfl (by omega) rfl)) rfl (by simp [ixP]; omega)
 unfold p7
 have e2:ou 1 (pIx 1 aI (cU 3 (pIx 3 aI (mC (.int 2))))) (mC (.int 2)) (mD (fT 0 aI)) [some (.tr true (dv (row++[brk k]))),some (.tr true (.ol nodes)),some (.tr true (.ol fs)),some (.tr false (frO k items i nm)),none] =
   .nx [some (.tr true (dv (row++[brk k]))),some (.tr true (.ol (nodes.set i (ndO s a (row.length+1) c)))),some (.tr true (.ol fs)),some (.tr false (frO k items i nm)),none]:=by
  have hl:=uh (iQ (ρ:=[some (.tr true (dv (row++[brk k]))),some (.tr true (.ol nodes)),some (.tr true (.ol fs)),some (.tr false (frO k items i nm)),none]) (i:=0) (bK rfl rfl))
  rw [tP (j2:=2) rfl (px _ _ _ nodes rfl) hi rfl rfl rfl (x:=.sh (.int (row.length+1))) (by unfold mD; rw [hl]; simp)]
  rfl
 rw [aZ e2]
 unfold qc
 have e3:ou 1 (pIx 1 aI (cU 3 (pIx 3 aI (mC (.int 2))))) (mC (.int 3)) (mD (fT 1 aI)) [some (.tr true (dv (row++[brk k]))),some (.tr true (.ol (nodes.set i (ndO s a (row.length+1) c)))),some (.tr true (.ol fs)),some (.tr false (frO k items i nm)),none] =
   .nx [some (.tr true (dv (row++[brk k]))),some (.tr true (.ol (nodes.set i (ndO s a (row.length+1) nodes.length)))),some (.tr true (.ol fs)),some (.tr false (frO k items i nm)),none]:=by
  have hl:=uh (iQ (ρ:=[some (.tr true (dv (row++[brk k]))),some (.tr true (.ol (nodes.set i (ndO s a (row.length+1) c)))),some (.tr true (.ol fs)),some (.tr false (frO k items i nm)),none]) (i:=1) (bK rfl rfl))
  have hi2:(nodes.set i (ndO s a (row.length+1) c))[i]?=some (ndO s a (row.length+1) c):=by simp [hil]
  rw [tP (j2:=3) rfl (px _ _ _ _ (by simp)) hi2 rfl rfl rfl (x:=.sh (.int nodes.length)) (by unfold mD; rw [hl]; simp)]
  simp [ndO]
 rw [aZ e3]
theorem vQ (x y z:Option Sl) (k:Bool) (items:List PV) (i:Nat) (nm:List Int) (hit:items.length<100000):
  bb 4 (fU (aj (cU 3 (pIx 3 aI (mC (.int 0)))) (aj (mUn lN (cU 3 (pIx 3 aI (mC (.int 1))))) aG))) [x,y,z,some (.tr false (frO k items i nm)),none] =
   .nx [x,y,z,some (.tr false (frO k items i nm)),some (.sh (.tup [kS k,.tup items]))]:=by
 have p3:∀ (ix:ah -> OE) (j:Nat) (v:OV),ix [x,y,z,some (.tr false (frO k items i nm)),none]=.ok (.sh (.int j)) -> j<4 -> [OV.sh (kS k),.ol (items.map .sh),.sh (.int i),.sh (.tup (nm.map .int))][j]?=some v -> subAt 3 (pIx 3 aI ix) [x,y,z,some (.tr false (frO k items i nm)),none]=some v:=fun ix j v h1 h2 h3=>
  subAt_one (bK rfl rfl) (ko (bK rfl rfl) h1 rfl (by simp [ixP]; omega)) h3
 have h0:=m9 (p3 (mC (.int 0)) 0 (.sh (kS k)) rfl (by omega) rfl)
 have h1:cU 3 (pIx 3 aI (mC (.int 1))) [x,y,z,some (.tr false (frO k items i nm)),none]=.ok (.al items):=by
  unfold cU
  rw [p3 (mC (.int 1)) 1 (.ol (items.map .sh)) rfl (by omega) rfl]
  simp only [yE]
 simp -implicitDefEqProofs [bb,h0,h1,lN]
theorem y2 (row:List Int) (nodes:List OV) (k:Bool) (items:List PV) (i:Nat) (nm:List Int) (s:PV) (a b c:Int) (hi:nodes[i]?=some (ndO s a b c)) (hr:row.length<100000) (hn:nodes.length<100000) (hit:items.length<100000):
  cP [.tr true (dv row),.tr true (.ol nodes),.tr true (.ol [frO k items i nm])] =
   .ok (.tup [kS k,.tup items]) [some (dv (row++[brk k])),some (.ol (nodes.set i (ndO s a (row.length+1) nodes.length))),some (.ol [])]:=by
 unfold cP fnI
 have e:=vC row nodes [] k items i nm s a b c hi hr hn
 rw [List.nil_append] at e
 have e0:j8 5 [.tr true (dv row),.tr true (.ol nodes),.tr true (.ol [frO k items i nm])]=[some (.tr true (dv row)),some (.tr true (.ol nodes)),some (.tr true (.ol [frO k items i nm])),none,none]:=rfl
 rw [if_pos (show List.length [Sl.tr true (dv row),Sl.tr true (.ol nodes),Sl.tr true (.ol [frO k items i nm])]=3 from rfl),e0,e]
 unfold jF
 rw [aZ (vQ _ _ _ k items i nm hit)]
 unfold lO
 have h:=uV (iQ (ρ:=[some (.tr true (dv (row++[brk k]))),some (.tr true (.ol (nodes.set i (ndO s a (row.length+1) nodes.length)))),some (.tr true (.ol [])),some (.tr false (frO k items i nm)),some (.sh (.tup [kS k,.tup items]))]) (i:=2) (bK rfl rfl))
 simp -implicitDefEqProofs [bj,h,jN,ir,sj,pb]
theorem zl (row:List Int) (nodes gs:List OV) (k k':Bool) (items items':List PV) (i i':Nat) (nm nm':List Int) (s s2:PV) (a b c a2 b2 c2:Int) (hi:nodes[i]?=some (ndO s a b c)) (hr:row.length<100000) (hn:nodes.length<100000) (hit:items.length<100000) (hit':items'.length<100000)
  (h2:k'=false -> 1 <= i /\ nodes[i - 1]?=some (ndO s2 a2 b2 c2)):
  cP [.tr true (dv row),.tr true (.ol nodes),.tr true (.ol (gs++[frO k' items' i' nm']++[frO k items i nm]))] =
   .ok (.tup [kS k,.tup items]) [some (dv (row++[brk k])),some (.ol (if k' then nodes.set i (ndO s a (row.length+1) nodes.length) else (nodes.set i (ndO s a (row.length+1) nodes.length)).set (i - 1) (ndO s2 a2 b2 nodes.length))),
    some (.ol (gs++[frO k' (items'++[if k' then .tup [kS k,.tup items] else .tup [.tup (nm.map .int),.tup [kS k,.tup items]]]) i' nm']))]:=by
 have hil:i<nodes.length:=by
  rcases Nat.lt_or_ge i nodes.length with z|z
  . exact z
  . rw [List.getElem?_eq_none z] at hi; cases hi
 unfold cP fnI
 have e:=vC row nodes (gs++[frO k' items' i' nm']) k items i nm s a b c hi hr hn
 have e0:j8 5 [.tr true (dv row),.tr true (.ol nodes),.tr true (.ol (gs++[frO k' items' i' nm']++[frO k items i nm]))]=[some (.tr true (dv row)),some (.tr true (.ol nodes)),some (.tr true (.ol (gs++[frO k' items' i' nm']++[frO k items i nm]))),none,none]:=rfl
 rw [if_pos (show List.length [Sl.tr true (dv row),Sl.tr true (.ol nodes),Sl.tr true (.ol (gs++[frO k' items' i' nm']++[frO k items i nm]))]=3 from rfl),e0,e]
 unfold jF
 rw [aZ (vQ _ _ _ k items i nm hit)]
 unfold lO
 generalize hN:nodes.set i (ndO s a (row.length+1) nodes.length)=N
 have hNl:N.length=nodes.length:=by rw [<- hN]; simp
 generalize hv:PV.tup [kS k,.tup items]=val
 generalize hR:dv (row++[brk k])=R
 have h:=uV (iQ (ρ:=[some (.tr true R),some (.tr true (.ol N)),some (.tr true (.ol (gs++[frO k' items' i' nm']))),some (.tr false (frO k items i nm)),some (.sh val)]) (i:=2) (bK rfl rfl))
 have hg:∀ u:OV,(gs++[u])[gs.length]?=some u:=fun u=>by simp
 have px:∀ (x y w v:Option Sl) (u:OV),pIx 2 aI (mUn gj (mC (.int 1))) [x,y,some (.tr true (.ol (gs++[u]))),w,v]=some [.ix gs.length]:=fun x y w v u=>
  ko (bK rfl rfl) (r:=.sh (.int (-1))) (by simp) rfl (by simp [ixP]; omega)
 have p0:∀ (x y w v:Option Sl) (its:List PV),cU 2 (pIx 2 (pIx 2 aI (mUn gj (mC (.int 1)))) (mC (.int 0))) [x,y,some (.tr true (.ol (gs++[frO k' its i' nm']))),w,v]=.ok (.sh (kS k')):=fun x y w v its=>
  m9 (sJ (bK rfl rfl) (wG (bK rfl rfl) (px _ _ _ _ _) (hg _) (k:=0) (j2:=0) rfl rfl rfl) (hg _) rfl)
 have e1:b0 2 (pIx 2 (pIx 2 aI (mUn gj (mC (.int 1)))) (mC (.int 1))) (mD (gi (az (mOp gEq (cU 2 (pIx 2 (pIx 2 aI (mUn gj (mC (.int 1)))) (mC (.int 0)))) (mC (.str "row")))) (ao 4) (fU (aj (cU 3 (pIx 3 aI (mC (.int 3)))) (aj (ao 4) aG)))))
   [some (.tr true R),some (.tr true (.ol N)),some (.tr true (.ol (gs++[frO k' items' i' nm']))),some (.tr false (frO k items i nm)),some (.sh val)] =
   .nx [some (.tr true R),some (.tr true (.ol N)),some (.tr true (.ol (gs++[frO k' (items'++[if k' then val else .tup [.tup (nm.map .int),val]]) i' nm']))),some (.tr false (frO k items i nm)),some (.sh val)]:=by
  have p3:cU 3 (pIx 3 aI (mC (.int 3))) [some (.tr true R),some (.tr true (.ol N)),some (.tr true (.ol (gs++[frO k' items' i' nm']))),some (.tr false (frO k items i nm)),some (.sh val)]=.ok (.sh (.tup (nm.map .int))):=
   m9 (subAt_one (bK rfl rfl) (ko (bK rfl rfl) (k:=3) (j:=3) rfl rfl rfl) rfl)
  have hd:mD (gi (az (mOp gEq (cU 2 (pIx 2 (pIx 2 aI (mUn gj (mC (.int 1)))) (mC (.int 0)))) (mC (.str "row")))) (ao 4) (fU (aj (cU 3 (pIx 3 aI (mC (.int 3)))) (aj (ao 4) aG))))
    [some (.tr true R),some (.tr true (.ol N)),some (.tr true (.ol (gs++[frO k' items' i' nm']))),some (.tr false (frO k items i nm)),some (.sh val)]=.ok (.sh (if k' then val else .tup [.tup (nm.map .int),val])):=by
   have q0:=p0 (some (.tr true R)) (some (.tr true (.ol N))) (some (.tr false (frO k items i nm))) (some (.sh val)) items'
   cases k'<;>simp -implicitDefEqProofs [mD,gi,az,q0,p3,kS,gEq,eqS,aK]
  rw [AK (j:=gs.length) (j2:=1) rfl (wG (bK rfl rfl) (px _ _ _ _ _) (hg _) (k:=1) (j2:=1) rfl rfl rfl) (hg _) (xs:=items'.map .sh) rfl hd (by rw [List.length_map]; exact dS (n:=items'.length+1) (by omega))]
  simp [frO]
 cases k' with
 | true=>
   have q0:=p0 (some (.tr true R)) (some (.tr true (.ol N))) (some (.tr false (frO k items i nm))) (some (.sh val)) (items'++[val])
   rw [if_pos rfl] at e1
   have hb:(!(gs++[frO true items' i' nm']).isEmpty)=true:=by simp
   rw [hb] at h
   refine Eq.trans (congrArg _ (aZ (ρ':=[some (.tr true R),some (.tr true (.ol N)),some (.tr true (.ol (gs++[frO true (items'++[val]) i' nm']))),some (.tr false (frO k items i nm)),some (.sh val)]) ?_)) ?_
   . unfold bj
     rw [h]
     refine Eq.trans (aZ e1) ?_
     simp -implicitDefEqProofs [bj,az,q0,kS,gEq,eqS,aK]
   . simp -implicitDefEqProofs [jN,ir,sj,pb]
 | false=>
   obtain ⟨h1,h3⟩:=h2 rfl
   have q0:=p0 (some (.tr true R)) (some (.tr true (.ol N))) (some (.tr false (frO k items i nm))) (some (.sh val)) (items'++[.tup [.tup (nm.map .int),val]])
   rw [if_neg (by simp)] at e1
   have hb:(!(gs++[frO false items' i' nm']).isEmpty)=true:=by simp
   rw [hb] at h
   have hN1:N[i - 1]?=some (ndO s2 a2 b2 c2):=by rw [<- hN,List.getElem?_set_ne (by omega)]; exact h3
   have hp2:mOp ve (cU 3 (pIx 3 aI (mC (.int 2)))) (mC (.int 1)) [some (.tr true R),some (.tr true (.ol N)),some (.tr true (.ol (gs++[frO false (items'++[.tup [.tup (nm.map .int),val]]) i' nm']))),some (.tr false (frO k items i nm)),some (.sh val)]=.ok (.sh (.int (i - 1:Int))):=by
    have q2:=m9 (ρ:=[some (.tr true R),some (.tr true (.ol N)),some (.tr true (.ol (gs++[frO false (items'++[.tup [.tup (nm.map .int),val]]) i' nm']))),some (.tr false (frO k items i nm)),some (.sh val)]) (i:=3) (mp:=pIx 3 aI (mC (.int 2))) (x:=.int i) (subAt_one (bK rfl rfl) (ko (bK rfl rfl) (k:=2) (j:=2) rfl rfl rfl) rfl)
    simp [q2]
   have hl:=uh (iQ (ρ:=[some (.tr true R),some (.tr true (.ol N)),some (.tr true (.ol (gs++[frO false (items'++[.tup [.tup (nm.map .int),val]]) i' nm']))),some (.tr false (frO k items i nm)),some (.sh val)]) (i:=1) (bK rfl rfl))
   have e3:=tP (ρ:=[some (.tr true R),some (.tr true (.ol N)),some (.tr true (.ol (gs++[frO false (items'++[.tup [.tup (nm.map .int),val]]) i' nm']))),some (.tr false (frO k items i nm)),some (.sh val)]) (i:=1) (io:=true) (ts:=N) (j:=i - 1) (j2:=3) (mk:=mC (.int 3)) (md:=mD (fT 1 aI)) (x:=.sh (.int N.length)) rfl
    (ko (i:=1) (ts:=N) (bK (s:=.tr true (.ol N)) rfl rfl) hp2 rfl (by rw [show ((i:Int) - 1)=((i - 1:Nat):Int) by omega]; unfold ixP; rw [if_pos (by omega),if_pos (by omega)]; simp)) hN1 rfl rfl rfl (by unfold mD; rw [hl])
   refine Eq.trans (congrArg _ (aZ (ρ':=[some (.tr true R),some (.tr true (.ol (N.set (i - 1) (ndO s2 a2 b2 N.length)))),some (.tr true (.ol (gs++[frO false (items'++[.tup [.tup (nm.map .int),val]]) i' nm']))),some (.tr false (frO k items i nm)),some (.sh val)]) ?_)) ?_
   . unfold bj
     rw [h]
     refine Eq.trans (aZ e1) ?_
     simp -implicitDefEqProofs [bj,az,q0,kS,gEq,eqS,aK]
     exact e3
   . rw [hNl]
     simp -implicitDefEqProofs [jN,ir,sj,pb]
structure Fr where
 k:Bool
 items:List PV
 i:Nat
 nm:List Int
structure Nd where
 s:String
 a:Int
 b:Int
 c:Int
structure Bd where
 row:List Int
 nodes:List Nd
 frs:List Fr
 val:PV
noncomputable def Fr.o (f:Fr):OV:=frO f.k f.items f.i f.nm
noncomputable def Nd.o (d:Nd):OV:=ndO (.str d.s) d.a d.b d.c
noncomputable def gk (fs:List Fr):OV:=.ol (fs.reverse.map Fr.o)
noncomputable def g9 (ns:List Nd):OV:=.ol (ns.map Nd.o)
theorem kB (f:Fr) (fs:List Fr):gk (f ::fs)=.ol (fs.reverse.map Fr.o++[f.o]):=by simp [gk]
noncomputable def full:List Fr -> Bool
 |f ::_=>!f.items.isEmpty
 |[]=>false
noncomputable def inF:List Fr -> Bool
 |f ::_=>!f.k
 |[]=>false
theorem pW {ρ:ah} {i:Nat} {io:Bool} {fs:List Fr} (h:ρ[i]?=some (some (.tr io (gk fs)))):dA i aI ρ=.ok (!fs.isEmpty):=by
 rw [uV (iQ (bK h rfl))]
 cases fs<;>simp
theorem Ej {ρ:ah} {i:Nat} {io:Bool} {f:Fr} {fs:List Fr} (h:ρ[i]?=some (some (.tr io (gk (f ::fs))))):pIx i aI (mUn gj (mC (.int 1))) ρ=some [.ix fs.length]:=by
 rw [kB] at h
 exact ko (bK h rfl) (r:=.sh (.int (-1))) (by simp) rfl (by simp [ixP]; omega)
theorem tU (f:Fr) (fs:List Fr):(fs.reverse.map Fr.o++[f.o])[fs.length]?=some f.o:=by simp
theorem uL {ρ:ah} {i:Nat} {io:Bool} {f:Fr} {fs:List Fr} (k:Int) (j:Nat) (hk:k=j) (hj:j<4) (h:ρ[i]?=some (some (.tr io (gk (f ::fs))))):pIx i (pIx i aI (mUn gj (mC (.int 1)))) (mC (.int k)) ρ=some [.ix fs.length,.ix j]:=by
 have h1:=Ej h
 rw [kB] at h
 subst hk
 refine wG (bK h rfl) h1 (tU f fs) (k:=j) rfl rfl ?_
 simp [ixP]; omega
theorem CW {ρ:ah} {i:Nat} {io:Bool} {fs:List Fr} (h:ρ[i]?=some (some (.tr io (gk fs)))):
  dI (dA i aI) (az (mOp gEq (cU i (pIx i (pIx i aI (mUn gj (mC (.int 1)))) (mC (.int 0)))) (mC (.str "fields")))) ρ=.ok (inF fs):=by
 cases fs with
 |nil=>simp [dI,pW h,inF]
 | cons f fs=>
   have hi:=uL 0 0 rfl (by omega) h
   have h':=h
   rw [kB] at h'
   have hp:=m9 (sJ (bK h' rfl) hi (tU f fs) rfl)
   cases hk:f.k<;>simp -implicitDefEqProofs [dI,pW h,inF,az,hp,hk,kS,gEq,eqS,aK]
theorem GL {ρ:ah} {i:Nat} {io:Bool} {fs:List Fr} (h:ρ[i]?=some (some (.tr io (gk fs)))):
  dI (dA i aI) (de (cU i (pIx i (pIx i aI (mUn gj (mC (.int 1)))) (mC (.int 1))))) ρ=.ok (full fs):=by
 cases fs with
 |nil=>simp [dI,pW h,full]
 | cons f fs=>
   have hi:=uL 1 1 rfl (by omega) h
   have h':=h
   rw [kB] at h'
   have hp:cU i (pIx i (pIx i aI (mUn gj (mC (.int 1)))) (mC (.int 1))) ρ=.ok (.al f.items):=by
    unfold cU
    rw [sJ (bK h' rfl) hi (tU f fs) (u:=.ol (f.items.map .sh)) rfl]
    simp only [yE]
   simp -implicitDefEqProofs [dI,pW h,full,de,hp,pO]
noncomputable def eD (fs:List Fr) (row:List Int) (n:Int):List Int:=row++lwh (n/3)++(if full fs then 44 ::lwh (n/11) else [])
noncomputable def iU (ns:List Int) (n:Int):List PG.Sg:=lts (lnm ns (n/13)) (n/17) 0
noncomputable def nv (ns:List Int) (n:Int):List Int:=lwh (n/19)++58 ::lwh (n/23)
noncomputable def aQ (ns:List Int) (B:Bd) (n:Int):List Int:=if inF B.frs then eD B.frs B.row n++PG.txt (iU ns n)++nv ns n else eD B.frs B.row n
noncomputable def bq (ns:List Int) (B:Bd) (n:Int):List Nd:=if inF B.frs then B.nodes++[⟨"name",(eD B.frs B.row n).length,(eD B.frs B.row n++PG.txt (iU ns n)).length,0⟩] else B.nodes
noncomputable def cq (ns:List Int) (B:Bd) (n:Int):List Int:=if inF B.frs then lnm ns (n/13) else []
theorem u3 (fs:List Fr) (row:List Int) (n:Int):(eD fs row n).length <= row.length+7:=by
 unfold eD
 have h1:=fi (n/3)
 have h2:=fi (n/11)
 cases full fs<;>simp<;>omega
theorem Ar (l:List Int) (n:Int) (h:l.all PG.lU=true) (h2:l.length<14):(PG.txt (lts l n 0)).length <= 158:=by
 rcases Au l n 0 with z|z
 . simp [PG.txt]; omega
 . rw [h] at z; cases z
theorem vH (ns:List Int) (n:Int):(PG.txt (iU ns n)).length <= 158:=Ar _ _ (ue ns _).1 (ue ns _).2
theorem pC (ns:List Int) (B:Bd) (n:Int):(aQ ns B n).length <= B.row.length+180:=by
 unfold aQ nv
 have h1:=u3 B.frs B.row n
 have h2:=vH ns n
 have h3:=fi (n/19)
 have h4:=fi (n/23)
 cases inF B.frs<;>simp<;>omega
theorem lH {ρ:ah} {i:Nat} {io:Bool} {row ys:List Int} {me:ah -> OE} (h:ρ[i]?=some (some (.tr io (dv row)))) (he:me ρ=.ok (.fr (ys.map .int)) \/ me ρ=.ok (.sh (.lst (ys.map .int)))) (hl:row.length+ys.length <= 1000000):dJ i aI me ρ=.nx (ρ.set i (some (.tr io (dv (row++ys))))):=by
 rw [Dh (ts:=row.map fun b=>.sh (.int b)) h he (by rw [List.length_map,List.length_map]; exact dS hl)]
 simp [dv,Function.comp_def]
theorem wF {ρ:ah} {i:Nat} {io:Bool} {row:List Int} {b:Int} {md:ah -> OD} (h:ρ[i]?=some (some (.tr io (dv row)))) (hd:md ρ=.ok (.sh (.int b))) (hl:row.length<1000000):b0 i aI md ρ=.nx (ρ.set i (some (.tr io (dv (row++[b]))))):=by
 rw [tO (ts:=row.map fun b=>.sh (.int b)) h hd (by rw [List.length_map]; exact dS (n:=row.length+1) (by omega))]
 simp [dv]
theorem wb {ρ:ah} {i:Nat} {io:Bool} {nds:List Nd} {d:Nd} {md:ah -> OD} (h:ρ[i]?=some (some (.tr io (g9 nds)))) (hd:md ρ=.ok d.o) (hl:nds.length<1000000):b0 i aI md ρ=.nx (ρ.set i (some (.tr io (g9 (nds++[d]))))):=by
 rw [tO (ts:=nds.map Nd.o) h hd (by rw [List.length_map]; exact dS (n:=nds.length+1) (by omega))]
 simp [g9]
theorem ua {ρ:ah} {i:Nat} {io:Bool} {row:List Int} (h:ρ[i]?=some (some (.tr io (dv row)))):fT i aI ρ=.ok (.sh (.int row.length)):=by
 rw [uh (iQ (bK h rfl)),List.length_map]
theorem xg {ρ:ah} {i:Nat} {io:Bool} {nds:List Nd} (h:ρ[i]?=some (some (.tr io (g9 nds)))):fT i aI ρ=.ok (.sh (.int nds.length)):=by
 rw [uh (iQ (bK h rfl)),List.length_map]
theorem Ex (ns:List Int) (B:Bd) (n:Int) (hr:B.row.length<100000) (hn:B.nodes.length<100000):
  fw [.sh (.lst (ns.map .int)),.tr true (dv B.row),.tr true (g9 B.nodes),.tr true (gk B.frs),.sh (.int n)] =
   .ok (.tup ((cq ns B n).map .int)) [none,some (dv (aQ ns B n)),some (g9 (bq ns B n)),some (gk B.frs),none]:=by
 have hw:∀ (ρ:ah) (d:Int),ρ[4]?=some (some (.sh (.int n))) -> 0<d -> d<1000 -> bp cw (aj (mOp dC (ao 4) (mC (.int d))) aG) ρ=.ok (.fr ((lwh (n/d)).map .int)):=fun ρ d h h1 h2=>by
  have h3:¬ d=0:=by omega
  have h4:d<1073741824:=by omega
  simp [h,h1,h3,h4,dX]
 have hbl:=u3 B.frs B.row n
 have e0:lJ [some (.sh (.lst (ns.map .int))),some (.tr true (dv B.row)),some (.tr true (g9 B.nodes)),some (.tr true (gk B.frs)),some (.sh (.int n)),none,none,none] =
   lR [some (.sh (.lst (ns.map .int))),some (.tr true (dv (eD B.frs B.row n))),some (.tr true (g9 B.nodes)),some (.tr true (gk B.frs)),some (.sh (.int n)),some (.sh (.tup [])),none,none]:=by
  unfold lJ
  rw [aZ (lH rfl (.inl (hw _ 3 rfl (by omega) (by omega))) (by have:=fi (n/3); omega))]
  unfold p5
  rw [aZ (ρ':=[some (.sh (.lst (ns.map .int))),some (.tr true (dv (B.row++lwh (n/3)))),some (.tr true (g9 B.nodes)),some (.tr true (gk B.frs)),some (.sh (.int n)),some (.sh (.tup [])),none,none]) (by simp [bb])]
  unfold pV
  refine aZ ?_
  unfold bj
  rw [GL (fs:=B.frs) rfl]
  have h3:=fi (n/3)
  have h11:=fi (n/11)
  cases hf:full B.frs with
  |false=>simp [eD,hf,aT]
  | true=>
    refine Eq.trans (aZ (wF (row:=B.row++lwh (n/3)) rfl rfl (by simp; omega))) ?_
    refine Eq.trans (lH rfl (.inl (hw _ 11 rfl (by omega) (by omega))) (by simp; omega)) ?_
    simp [eD,hf]
 unfold fw fnI
 rw [if_pos (show List.length [Sl.sh (.lst (ns.map .int)),.tr true (dv B.row),.tr true (g9 B.nodes),.tr true (gk B.frs),.sh (.int n)]=5 from rfl)]
 show sj 5 (lJ _)=_
 rw [show j8 8 [.sh (.lst (ns.map .int)),.tr true (dv B.row),.tr true (g9 B.nodes),.tr true (gk B.frs),.sh (.int n)]=[some (.sh (.lst (ns.map .int))),some (.tr true (dv B.row)),some (.tr true (g9 B.nodes)),some (.tr true (gk B.frs)),some (.sh (.int n)),none,none,none] from rfl,e0]
 unfold lR
 cases hf:inF B.frs with
 | false=>
   rw [aZ (ρ':=[some (.sh (.lst (ns.map .int))),some (.tr true (dv (eD B.frs B.row n))),some (.tr true (g9 B.nodes)),some (.tr true (gk B.frs)),some (.sh (.int n)),some (.sh (.tup [])),none,none]) (by
    unfold bj
    rw [CW (fs:=B.frs) rfl,hf]
    rfl)]
   simp [cq,aQ,bq,hf,lT,ir,sj,pb]
 | true=>
   generalize hrow:eD B.frs B.row n=row
   rw [hrow] at hbl
   have ht:=vH ns n
   have h19:=fi (n/19)
   have h23:=fi (n/23)
   have hnm:=nj ns (n/13)
   have htx:=jE (lnm ns (n/13)) (n/17) (ue ns _).1 (by have:=(ue ns (n/13)).2; omega)
   change fK _=.ok (.fr ((PG.txt (iU ns n)).map .int)) at htx
   rw [aZ (ρ':=[some (.sh (.lst (ns.map .int))),some (.tr true (dv (aQ ns B n))),some (.tr true (g9 (bq ns B n))),some (.tr true (gk B.frs)),some (.sh (.int n)),some (.sh (.tup ((cq ns B n).map .int))),some (.sh (.lst ((lnm ns (n/13)).map .int))),some (.sh (.int row.length))]) (by
    unfold bj
    rw [CW (fs:=B.frs) rfl,hf]
    show aH _ _ _=_
    rw [aZ (ρ':=[some (.sh (.lst (ns.map .int))),some (.tr true (dv row)),some (.tr true (g9 B.nodes)),some (.tr true (gk B.frs)),some (.sh (.int n)),some (.sh (.tup [])),some (.ow ((lnm ns (n/13)).map .int)),none]) (by simp [bb,hnm])]
    rw [aZ (ρ':=[some (.sh (.lst (ns.map .int))),some (.tr true (dv row)),some (.tr true (g9 B.nodes)),some (.tr true (gk B.frs)),some (.sh (.int n)),some (.sh (.tup ((cq ns B n).map .int))),some (.ow ((lnm ns (n/13)).map .int)),none]) (by simp [bb,lN,cq,hf])]
    rw [aZ (ρ':=[some (.sh (.lst (ns.map .int))),some (.tr true (dv row)),some (.tr true (g9 B.nodes)),some (.tr true (gk B.frs)),some (.sh (.int n)),some (.sh (.tup ((cq ns B n).map .int))),some (.ow ((lnm ns (n/13)).map .int)),some (.sh (.int row.length))]) (by unfold bb; rw [ua (row:=row) rfl]; simp)]
    rw [aZ (ρ':=[some (.sh (.lst (ns.map .int))),some (.tr true (dv (row++PG.txt (iU ns n)))),some (.tr true (g9 B.nodes)),some (.tr true (gk B.frs)),some (.sh (.int n)),some (.sh (.tup ((cq ns B n).map .int))),some (.sh (.lst ((lnm ns (n/13)).map .int))),some (.sh (.int row.length))]) (by
     unfold jQ
     exact lH (row:=row) rfl (.inl (by simp [nr,htx])) (by omega))]
    rw [aZ (wb (nds:=B.nodes) (d:=⟨"name",row.length,(row++PG.txt (iU ns n)).length,0⟩) rfl (by
     have:=ua (ρ:=[some (.sh (.lst (ns.map .int))),some (.tr true (dv (row++PG.txt (iU ns n)))),some (.tr true (g9 B.nodes)),some (.tr true (gk B.frs)),some (.sh (.int n)),some (.sh (.tup ((cq ns B n).map .int))),some (.sh (.lst ((lnm ns (n/13)).map .int))),some (.sh (.int row.length))]) (i:=1) (row:=row++PG.txt (iU ns n)) rfl
     simp [mD,this,Nd.o,ndO]) (by omega))]
    rw [aZ (lH (row:=row++PG.txt (iU ns n)) rfl (.inl (hw _ 19 rfl (by omega) (by omega))) (by simp; omega))]
    rw [aZ (wF (row:=row++PG.txt (iU ns n)++lwh (n/19)) rfl rfl (by simp; omega))]
    rw [lH (row:=row++PG.txt (iU ns n)++lwh (n/19)++[58]) rfl (.inl (hw _ 23 rfl (by omega) (by omega))) (by simp; omega)]
    simp [aQ,bq,hf,hrow,nv])]
   simp [lT,ir,sj,pb]
noncomputable def lfV (ns:List Int) (n:Int):PV:=
 if n/5%6=0 then .non else if n/5%6=1 then .bl true else if n/5%6=2 then .bl false
 else if n/5%6=3 then .tup [.str "text",.tup ((PG.points ns (7+n%41)).map .int)]
 else match pairOf 20 (mwV (eA (n/7))) (exV (eA (n/7)).ex - (eA (n/7)).fr.length) with
  |.tup [.int a,.int b]=>.tup [.str "number",.int a,.int b]
  |_=>.non
theorem Em (ns:List Int) (n:Int) (hn:0 <= n):cn [.lst (ns.map .int),.int n]=.ok (.sh (.tup [.str (lfK (fI ns n)),.lst ((PG.lfb (fI ns n)).map .int),lfV ns n])):=by
 have e1:=gT ns (7+n%41)
 have e2:=jE (PG.points ns (7+n%41)) (n/30) (PG.ph _ _) (by have:=PG.qM ns (7+n%41); omega)
 have e3:=kr (n/7) (by omega)
 have e0:cn [.lst (ns.map .int),.int n]=fin (kh [some (.sh (.lst (ns.map .int))),some (.sh (.int n)),some (.sh (.int (n/5%6))),none,none]):=by
  unfold cn fnP
  rw [if_pos (show List.length [PV.lst (ns.map .int),.int n]=2 from rfl),show kF 5 [PV.lst (ns.map .int),.int n]=[some (.sh (.lst (ns.map .int))),some (.sh (.int n)),none,none,none] from rfl]
  unfold lq
  rw [aZ (ρ':=[some (.sh (.lst (ns.map .int))),some (.sh (.int n)),some (.sh (.int (n/5%6))),none,none]) (by simp [bb])]
 rw [e0]
 have no:∀ i:Int,¬ n/5%6=i -> az (mOp gEq (ao 2) (mC (.int i))) [some (.sh (.lst (ns.map .int))),some (.sh (.int n)),some (.sh (.int (n/5%6))),none,none]=.ok false:=fun i h=>by simp [az,h]
 have yes:∀ i:Int,n/5%6=i -> az (mOp gEq (ao 2) (mC (.int i))) [some (.sh (.lst (ns.map .int))),some (.sh (.int n)),some (.sh (.int (n/5%6))),none,none]=.ok true:=fun i h=>by simp [az,h]
 unfold fI lfV
 by_cases h0:n/5%6=0
 . rw [if_pos h0,if_pos h0]
   exact u5 (ρ:=[some (.sh (.lst (ns.map .int))),some (.sh (.int n)),some (.sh (.int (n/5%6))),none,none]) (st (yes 0 h0) (by simp [lfK,PG.lfb,PG.wdb]))
 rw [if_neg h0,if_neg h0]
 by_cases h1:n/5%6=1
 . rw [if_pos h1,if_pos h1]
   exact u5 (ρ:=[some (.sh (.lst (ns.map .int))),some (.sh (.int n)),some (.sh (.int (n/5%6))),none,none]) ((sk (no 0 h0)).trans (st (yes 1 h1) (by simp [lfK,PG.lfb,PG.wdb])))
 rw [if_neg h1,if_neg h1]
 by_cases h2:n/5%6=2
 . rw [if_pos h2,if_pos h2]
   exact u5 (ρ:=[some (.sh (.lst (ns.map .int))),some (.sh (.int n)),some (.sh (.int (n/5%6))),none,none]) ((sk (no 0 h0)).trans ((sk (no 1 h1)).trans (st (yes 2 h2) (by simp [lfK,PG.lfb,PG.wdb]))))
 rw [if_neg h2,if_neg h2]
 by_cases h3:n/5%6=3
 . rw [if_pos h3,if_pos h3]
   exact u5 (ρ:=[some (.sh (.lst (ns.map .int))),some (.sh (.int n)),some (.sh (.int (n/5%6))),some (.sh (.lst ((PG.points ns (7+n%41)).map .int))),none]) ((sk (no 0 h0)).trans ((sk (no 1 h1)).trans ((sk (no 2 h2)).trans (st (yes 3 h3) ((aZ (ρ':=[some (.sh (.lst (ns.map .int))),some (.sh (.int n)),some (.sh (.int (n/5%6))),some (.ow ((PG.points ns (7+n%41)).map .int)),none]) (by simp [bb,e1])).trans (by simp [jQ,nr,e2,lN,lfK,PG.lfb]))))))
 rw [if_neg h3,if_neg h3]
 obtain ⟨a,b,hab⟩:=xx 20 (mwV (eA (n/7))) (exV (eA (n/7)).ex - (eA (n/7)).fr.length)
 rw [hab] at e3 ⊢
 exact u5 (ρ:=[some (.sh (.lst (ns.map .int))),some (.sh (.int n)),some (.sh (.int (n/5%6))),none,some (.sh (.tup [.lst ((PG.nb (eA (n/7))).map .int),.tup [.int a,.int b]]))]) ((sk (no 0 h0)).trans ((sk (no 1 h1)).trans ((sk (no 2 h2)).trans ((sk (no 3 h3)).trans ((aZ (ρ':=[some (.sh (.lst (ns.map .int))),some (.sh (.int n)),some (.sh (.int (n/5%6))),none,some (.sh (.tup [.lst ((PG.nb (eA (n/7))).map .int),.tup [.int a,.int b]]))]) (by simp [bb,e3])).trans (by simp [km,gv,atP,ixP,lfK,PG.lfb]))))))
theorem A8 (n:Int):(PG.nb (eA n)).length <= 30:=by
 have h1:(PG.cQ (n/3%100000).toNat).length <= 5:=PG.oj 4 _ (by omega)
 have h2:(PG.cQ (n/37%30).toNat).length <= 2:=PG.oj 1 _ (by omega)
 have h3:(PG.frB (bU n)).length <= 4:=by
  have:(bU n).length <= 3:=by unfold bU; split<;>simp; omega
  unfold PG.frB
  split<;>simp; omega
 have h4:(PG.exB (fW n)).length <= 6:=by
  unfold fW
  split
  . have hs:(if n/43%3=1 then [45] else if n/43%3=2 then [43] else []:List Int).length <= 1:=by split; simp; split<;>simp
    have ht:(if n/47%4=1 then [48] else []:List Int).length <= 1:=by split<;>simp
    simp only [PG.exB,List.length_append,List.length_cons]
    omega
  . simp [PG.exB]
 unfold PG.nb eA
 simp only [List.length_append]
 split<;>simp<;>omega
theorem Al (ns:List Int) (n:Int):(PG.lfb (fI ns n)).length <= 160:=by
 unfold fI
 split
 . simp [PG.lfb,PG.wdb]
 . split
   . simp [PG.lfb,PG.wdb]
   . split
     . simp [PG.lfb,PG.wdb]
     . split
       . have:=Ar (PG.points ns (7+n%41)) (n/30) (PG.ph _ _) (PG.qM _ _)
         simp only [PG.lfb]; omega
       . have:=A8 (n/7)
         simp only [PG.lfb]; omega
noncomputable def iR (nm:List Int) (v:PV):List Fr -> List Fr
 |[]=>[]
 |g ::gs=>{ g with items:=g.items++[if g.k then v else .tup [.tup (nm.map .int),v]] } ::gs
noncomputable def Bd.close (B:Bd):Bd:=match B.frs with
 |[]=>B
 | f ::fs=>⟨B.row ++ [brk f.k],
     let ns:=B.nodes.modify f.i fun d=>{ d with b:=B.row.length+1,c:=B.nodes.length }
     if inF fs then ns.modify (f.i - 1) fun d=>{ d with c:=B.nodes.length } else ns,
     iR f.nm (.tup [kS f.k,.tup f.items]) fs,.tup [kS f.k,.tup f.items]⟩
noncomputable def kN (k:Bool):String:=if k then "row" else "fields"
noncomputable def Bd.opn (ns:List Int) (B:Bd) (n:Int):Bd:=
 ⟨aQ ns B n++[if n/5%2=0 then 91 else 123],bq ns B n++[⟨kN (n/5%2=0),(aQ ns B n).length,0,0⟩],⟨n/5%2=0,[],(bq ns B n).length,cq ns B n⟩ ::B.frs,B.val⟩
noncomputable def Bd.leaf (ns:List Int) (B:Bd) (n:Int):Bd:=
 ⟨aQ ns B n++PG.lfb (fI ns n),
   let ds:=bq ns B n++[⟨lfK (fI ns n),(aQ ns B n).length,(aQ ns B n++PG.lfb (fI ns n)).length,(bq ns B n).length+1⟩]
   if inF B.frs then ds.modify (ds.length - 2) fun d=>{ d with c:=ds.length } else ds,
   iR (cq ns B n) (lfV ns n) B.frs,lfV ns n⟩
noncomputable def Bd.step (ns:List Int) (B:Bd) (k:Nat):Bd:=
 if B.frs.isEmpty=false /\ PG.mix ns k%5=1 then Bd.close { B with row:=B.row++lwh (PG.mix ns k/3) }
 else if B.frs.isEmpty=false \/ k=0 then
  if PG.mix ns k%5>2 \/ (k=0 /\ PG.mix ns k%9>0) then B.opn ns (PG.mix ns k) else B.leaf ns (PG.mix ns k)
 else B
noncomputable def FOk (N K:Nat):List Fr -> Prop
 |[]=>True
 |f ::fs=>f.i<N /\ f.items.length <= K /\ (fs≠[] -> 1 <= f.i) /\ FOk N K fs
theorem FOk.mono {N K N' K':Nat} (h1:N <= N') (h2:K <= K'):∀ {fs:List Fr},FOk N K fs -> FOk N' K' fs
 |[],_=>trivial
 |_ ::_,h=>⟨Nat.lt_of_lt_of_le h.1 h1,Nat.le_trans h.2.1 h2,h.2.2.1,FOk.mono h1 h2 h.2.2.2⟩
theorem FOk.iR {N K:Nat} (nm:List Int) (v:PV) {fs:List Fr} (h:FOk N K fs):FOk N (K+1) (iR nm v fs):=by
 cases fs with
 |nil=>trivial
 |cons g gs=>exact ⟨h.1,by simp; exact h.2.1,h.2.2.1,FOk.mono (Nat.le_refl _) (Nat.le_succ _) h.2.2.2⟩
structure Bok (B:Bd) (k:Nat):Prop where
 row:B.row.length <= 400*k
 nodes:B.nodes.length <= 2*k
 frs:FOk B.nodes.length k B.frs
 dep:B.frs.length <= k
theorem uU (nm:List Int) (v:PV) (fs:List Fr):(iR nm v fs).length=fs.length:=by cases fs<;>simp [iR]
theorem ly (ns:List Int) (B:Bd) (n:Int):(bq ns B n).length=B.nodes.length+(if inF B.frs then 1 else 0):=by
 unfold bq; cases inF B.frs<;>simp
theorem Bok.close {B:Bd} {k:Nat} (h:Bok B k) (ws:List Int) (hw:ws.length <= 3):Bok (Bd.close { B with row:=B.row++ws }) (k+1):=by
 have h1:=h.row
 have h2:=h.nodes
 have h3:=h.frs
 have h4:=h.dep
 unfold Bd.close
 cases e:B.frs with
 |nil=>rw [e] at h3 h4; exact ⟨by simp; omega,by simp; omega,by simp [e]; trivial,by simp [e]⟩
 | cons f fs=>
   rw [e] at h3 h4
   simp only [List.length_cons] at h4
   refine ⟨by simp; omega,?_,?_,?_⟩
   . simp only; split<;>simp<;>omega
   . have:FOk B.nodes.length (k+1) (iR f.nm (.tup [kS f.k,.tup f.items]) fs):=FOk.iR _ _ h3.2.2.2
     simp only; split<;>simpa using this
   . simp only [uU]; omega
theorem Bok.opn {B:Bd} {k:Nat} (h:Bok B k) (ns:List Int) (n:Int):Bok (B.opn ns n) (k+1):=by
 have h1:=h.row
 have h2:=h.nodes
 have h3:=h.frs
 have h4:=h.dep
 have hb:=pC ns B n
 have hl:=ly ns B n
 unfold Bd.opn
 refine ⟨by simp; omega,?_,?_,by simp; omega⟩
 . simp only [List.length_append,List.length_singleton]
   split at hl<;>omega
 . simp only [List.length_append,List.length_singleton]
   refine ⟨by simp,by simp,?_,FOk.mono (by omega) (by omega) h3⟩
   intro hf
   simp only
   cases e:B.frs with
   |nil=>exact absurd e hf
   |cons g gs=>rw [e] at h3; have:=h3.1; omega
theorem Bok.leaf {B:Bd} {k:Nat} (h:Bok B k) (ns:List Int) (n:Int):Bok (B.leaf ns n) (k+1):=by
 have h1:=h.row
 have h2:=h.nodes
 have h3:=h.frs
 have h4:=h.dep
 have hb:=pC ns B n
 have hf:=Al ns n
 have hl:=ly ns B n
 have hN:(B.leaf ns n).nodes.length=(bq ns B n).length+1:=by unfold Bd.leaf; simp only; split<;>simp
 refine ⟨by unfold Bd.leaf; simp; omega,by rw [hN]; split at hl<;>omega,?_,by unfold Bd.leaf; simp only [uU]; omega⟩
 rw [hN]
 exact FOk.mono (by omega) (Nat.le_refl _) (FOk.iR _ _ h3)
theorem Bok.mono {B:Bd} {k k':Nat} (h:Bok B k) (hk:k <= k'):Bok B k':=
 ⟨by have:=h.row; omega,by have:=h.nodes; omega,FOk.mono (Nat.le_refl _) hk h.frs,by have:=h.dep; omega⟩
theorem Bok.step {B:Bd} {k:Nat} (h:Bok B k) (ns:List Int):Bok (B.step ns k) (k+1):=by
 unfold Bd.step
 split
 . exact h.close _ (fi _)
 . split
   . split
     . exact h.opn ns _
     . exact h.leaf ns _
   . exact h.mono (by omega)
theorem rM (g:Nd -> Nd):∀ (nodes:List Nd) (i:Nat) (d:Nd),nodes[i]?=some d -> (nodes.map Nd.o).set i (g d).o=(nodes.modify i g).map Nd.o
 |[],i,d,h=>by simp at h
 |x ::xs,0,d,h=>by simp at h; subst h; simp
 | x ::xs,i+1,d,h=>by
   simp at h
   simp [rM g xs i d h]
theorem zE {nodes:List Nd} {i:Nat} (h:i<nodes.length):∃ d,nodes[i]?=some d:=⟨nodes[i],by simp [h]⟩
theorem AF {nodes:List Nd} {i:Nat} {d:Nd} (h:nodes[i]?=some d):(nodes.map Nd.o)[i]?=some (ndO (.str d.s) d.a d.b d.c):=by
 rw [List.getElem?_map,h]; rfl
theorem Fx (B:Bd) (k:Nat) (h:Bok B k) (hk:k <= 100) (hf:B.frs≠[]):
  cP [.tr true (dv B.row),.tr true (g9 B.nodes),.tr true (gk B.frs)]=.ok B.close.val [some (dv B.close.row),some (g9 B.close.nodes),some (gk B.close.frs)]:=by
 have h1:=h.row
 have h2:=h.nodes
 have h3:=h.frs
 unfold Bd.close
 cases e:B.frs with
 |nil=>exact absurd e hf
 | cons f fs=>
   rw [e] at h3
   obtain ⟨d,hd⟩:=zE h3.1
   have hit:=h3.2.1
   cases e2:fs with
   | nil=>
     have:=y2 B.row (B.nodes.map Nd.o) f.k f.items f.i f.nm (.str d.s) d.a d.b d.c (AF hd) (by omega) (by rw [List.length_map]; omega) (by omega)
     refine Eq.trans this ?_
     have hs:=rM (fun d=>{ d with b:=B.row.length+1,c:=B.nodes.length }) B.nodes f.i d hd
     simp only [inF,iR,gk,g9,List.length_map,Bool.false_eq_true,if_false,<- hs]
     rfl
   | cons g gs=>
     rw [e2] at h3
     have h1i:=h3.2.2.1 (by simp)
     have hit':=h3.2.2.2.2.1
     obtain ⟨d2,hd2⟩:=zE (nodes:=B.nodes) (i:=f.i - 1) (by have:=h3.1; omega)
     have:=zl B.row (B.nodes.map Nd.o) (gs.reverse.map Fr.o) f.k g.k f.items g.items f.i g.i f.nm g.nm (.str d.s) (.str d2.s) d.a d.b d.c d2.a d2.b d2.c (AF hd) (by omega) (by rw [List.length_map]; omega) (by omega) (by omega) (fun _=>⟨h1i,AF hd2⟩)
     have hs:=rM (fun d=>{ d with b:=B.row.length+1,c:=B.nodes.length }) B.nodes f.i d hd
     have hd2':(B.nodes.modify f.i fun d=>{ d with b:=B.row.length+1,c:=B.nodes.length })[f.i - 1]?=some d2:=by
      rw [List.getElem?_modify,hd2]; simp; intro z; omega
     have hs2:=rM (fun d=>{ d with c:=B.nodes.length }) _ (f.i - 1) d2 hd2'
     rw [<- hs] at hs2
     refine Eq.trans (congrArg cP ?_) (Eq.trans this ?_)
     . simp [gk,g9,Fr.o]
     . cases hg:g.k
       . simp only [inF,iR,gk,g9,List.length_map,hg,Bool.not_false,Bool.false_eq_true,if_true,if_false,<- hs2]
         simp [Nd.o,Fr.o]
       . simp only [inF,iR,gk,g9,List.length_map,hg,Bool.not_true,Bool.false_eq_true,if_true,if_false,<- hs]
         simp [Nd.o,Fr.o]
noncomputable def bE (ns:List Int) (m:Int) (B:Bd) (a b c d e f:Option Sl):ah:=[some (.sh (.lst (ns.map .int))),some (.sh (.int m)),some (.tr false (dv B.row)),some (.tr false (g9 B.nodes)),some (.tr false (gk B.frs)),some (.sh B.val),a,b,c,d,e,f]
theorem uq (ns:List Int) (m:Int) (B:Bd) (k:Nat) (h:Bok B k) (hk:k <= 100) (hf:B.frs≠[]) (a b c d e f:Option Sl):
  i8 5 (jb cP [.t 2 aI,.t 3 aI,.t 4 aI]) (bE ns m B a b c d e f)=.nx (bE ns m B.close a b c d e f):=by
 have e1:jk [.t 2 aI,.t 3 aI,.t 4 aI] (bE ns m B a b c d e f)=some [.tr true (dv B.row),.tr true (g9 B.nodes),.tr true (gk B.frs)]:=by
  simp [jk,lS,bE,aI,OV.get_nil]
 unfold i8 jb
 rw [e1]
 simp only [Fx B k h hk hf]
 simp [fj,kg,bE,aI,OV.lp,nio]
theorem zM (ns:List Int) (m:Int) (B:Bd) (k:Nat) (h:Bok B k) (hk:k <= 100) (a:Option Sl) (n:Int) (c d e f:Option Sl):
  i8 8 (jb fw [.e (ao 0),.t 2 aI,.t 3 aI,.t 4 aI,.e (ao 7)]) (bE ns m B a (some (.sh (.int n))) c d e f) =
   .nx (bE ns m ⟨aQ ns B n,bq ns B n,B.frs,B.val⟩ a (some (.sh (.int n))) (some (.sh (.tup ((cq ns B n).map .int)))) d e f):=by
 have h1:=h.row
 have h2:=h.nodes
 have e1:jk [.e (ao 0),.t 2 aI,.t 3 aI,.t 4 aI,.e (ao 7)] (bE ns m B a (some (.sh (.int n))) c d e f)=some [.sh (.lst (ns.map .int)),.tr true (dv B.row),.tr true (g9 B.nodes),.tr true (gk B.frs),.sh (.int n)]:=by
  simp [jk,lS,bE,aI,OV.get_nil,mf]
 unfold i8 jb
 rw [e1]
 simp only [Ex ns B n (by omega) (by omega)]
 simp [fj,kg,bE,aI,OV.lp,nio]
theorem JW (k:Bool):kS k=.str (kN k):=by cases k<;>rfl
theorem BK (ns:List Int) (m:Int) (B:Bd) (k:Nat) (h:Bok B k) (hk:k <= 100) (a:Option Sl) (n:Int) (e f:Option Sl):∃ e',
  (aH (bb 10 (mOp jX (bP (aj (mC (.str "row")) (aj (mC (.str "fields")) aG))) (mOp b5 (mOp dC (ao 7) (mC (.int 5))) (mC (.int 2)))))
  (aH (b0 2 aI (mD (gi (az (mOp gEq (ao 10) (mC (.str "row")))) (mC (.int 91)) (mC (.int 123)))))
  (aH (b0 4 aI (mDl (mDc (mD (ao 10)) (mDc (mD (bP aG)) (mDc (mD (fT 3 aI)) (mDc (mD (ao 8)) mDn))))))
  (b0 3 aI (mD (bP (aj (ao 10) (aj (ao 9) (aj (mC (.int 0)) (aj (mC (.int 0)) aG))))))))))
  (bE ns m ⟨aQ ns B n,bq ns B n,B.frs,B.val⟩ a (some (.sh (.int n))) (some (.sh (.tup ((cq ns B n).map .int)))) (some (.sh (.int (aQ ns B n).length))) e f) =
  .nx (bE ns m (B.opn ns n) a (some (.sh (.int n))) (some (.sh (.tup ((cq ns B n).map .int)))) (some (.sh (.int (aQ ns B n).length))) e' f):=by
 have h1:=h.row
 have h2:=h.nodes
 have h4:=h.dep
 have hb:=pC ns B n
 have hl:=ly ns B n
 have hl':(bq ns B n).length <= B.nodes.length+1:=by split at hl<;>omega
 refine ⟨some (.sh (kS (n/5%2=0))),?_⟩
 have hz:n/5%2=0 \/ n/5%2=1:=by omega
 rw [aZ (ρ':=bE ns m ⟨aQ ns B n,bq ns B n,B.frs,B.val⟩ a (some (.sh (.int n))) (some (.sh (.tup ((cq ns B n).map .int)))) (some (.sh (.int (aQ ns B n).length))) (some (.sh (kS (n/5%2=0)))) f) (by
  rcases hz with z|z<;>simp [bb,bE,z,jX,atP,ixP,kS])]
 rw [aZ (wF (row:=aQ ns B n) (b:=if n/5%2=0 then 91 else 123) rfl (by
  rcases hz with z|z<;>simp -implicitDefEqProofs [mD,gi,az,bE,z,kS,gEq,eqS,aK]) (by omega))]
 rw [aZ (tO (ts:=B.frs.reverse.map Fr.o) (x:=Fr.o ⟨n/5%2=0,[],(bq ns B n).length,cq ns B n⟩) rfl (by
  have:=xg (ρ:=(bE ns m ⟨aQ ns B n,bq ns B n,B.frs,B.val⟩ a (some (.sh (.int n))) (some (.sh (.tup ((cq ns B n).map .int)))) (some (.sh (.int (aQ ns B n).length))) (some (.sh (kS (n/5%2=0)))) f).set 2 (some (.tr false (dv (aQ ns B n++[if n/5%2=0 then 91 else 123]))))) (i:=3) (nds:=bq ns B n) rfl
  simp only [mDl,mDc,mD,this]
  simp [mDn,bE,Fr.o,frO,mDl]) (by simp; exact dS (n:=B.frs.length+1) (by omega)))]
 rw [wb (nds:=bq ns B n) (d:=⟨kN (n/5%2=0),(aQ ns B n).length,0,0⟩) rfl (by
  simp [mD,bE,Nd.o,ndO,JW]) (by omega)]
 simp [bE,Bd.opn,gk]
theorem L1 (n:Int):(if n/5%2=0 then true else false)=decide (n/5%2=0):=by simp
theorem AY {ρ:ah} {i:Nat} {io:Bool} {g:Fr} {gs:List Fr} {x:PV} {md:ah -> OD} (h:ρ[i]?=some (some (.tr io (gk (g ::gs))))) (hd:md ρ=.ok (.sh x)) (hl:g.items.length<1000):
  b0 i (pIx i (pIx i aI (mUn gj (mC (.int 1)))) (mC (.int 1))) md ρ=.nx (ρ.set i (some (.tr io (gk ({ g with items:=g.items++[x] } ::gs))))):=by
 have hi:=uL 1 1 rfl (by omega) h
 rw [kB] at h
 rw [AK h hi (tU g gs) (xs:=g.items.map .sh) rfl hd (by rw [List.length_map]; exact dS (n:=g.items.length+1) (by omega))]
 rw [kB]
 simp [Fr.o,frO,List.set_append_right]
theorem BP (ns:List Int) (m:Int) (B:Bd) (k:Nat) (h:Bok B k) (hk:k <= 100) (a:Option Sl) (n:Int) (hn:0 <= n) (e f:Option Sl):∃ f',
  (aH (bb 11 (bp cn (aj (ao 0) (aj (ao 7) aG))))
  (aH (dJ 2 aI (mOp gv (ao 11) (mC (.int 1))))
  (aH (b0 3 aI (mD (bP (aj (mOp gv (ao 11) (mC (.int 0))) (aj (ao 9) (aj (fT 2 aI) (aj (mOp fm (fT 3 aI) (mC (.int 1))) aG)))))))
  (aH (bb 5 (mOp gv (ao 11) (mC (.int 2))))
  (bj (dI (dA 4 aI) (az (mOp gEq (cU 4 (pIx 4 (pIx 4 aI (mUn gj (mC (.int 1)))) (mC (.int 0)))) (mC (.str "fields")))))
  (aH (ou 3 (pIx 3 aI (mUn gj (mC (.int 2)))) (mC (.int 3)) (mD (fT 3 aI)))
  (b0 4 (pIx 4 (pIx 4 aI (mUn gj (mC (.int 1)))) (mC (.int 1))) (mD (fU (aj (ao 8) (aj (ao 5) aG))))))
  (bj (dA 4 aI)
  (b0 4 (pIx 4 (pIx 4 aI (mUn gj (mC (.int 1)))) (mC (.int 1))) (mD (ao 5)))
  aT))))))
  (bE ns m ⟨aQ ns B n,bq ns B n,B.frs,B.val⟩ a (some (.sh (.int n))) (some (.sh (.tup ((cq ns B n).map .int)))) (some (.sh (.int (aQ ns B n).length))) e f) =
  .nx (bE ns m (B.leaf ns n) a (some (.sh (.int n))) (some (.sh (.tup ((cq ns B n).map .int)))) (some (.sh (.int (aQ ns B n).length))) e f'):=by
 have h1:=h.row
 have h2:=h.nodes
 have h3:=h.frs
 have h4:=h.dep
 have hb:=pC ns B n
 have hf:=Al ns n
 have hl:=ly ns B n
 have hl':(bq ns B n).length <= B.nodes.length+1:=by split at hl<;>omega
 generalize hF:PV.tup [.str (lfK (fI ns n)),.lst ((PG.lfb (fI ns n)).map .int),lfV ns n]=F
 refine ⟨some (.sh F),?_⟩
 generalize hv:lfV ns n=v
 have hi0:atP [PV.str (lfK (fI ns n)),.lst ((PG.lfb (fI ns n)).map .int),v] 0=some (PV.str (lfK (fI ns n))):=by simp [atP,ixP]
 rw [aZ (ρ':=bE ns m ⟨aQ ns B n,bq ns B n,B.frs,B.val⟩ a (some (.sh (.int n))) (some (.sh (.tup ((cq ns B n).map .int)))) (some (.sh (.int (aQ ns B n).length))) e (some (.sh F))) (by
  have:=Em ns n hn
  rw [hF] at this
  simp [bb,bE,this])]
 rw [aZ (lH (row:=aQ ns B n) (ys:=PG.lfb (fI ns n)) rfl (.inr (by simp [bE,<- hF,gv,atP,ixP])) (by omega))]
 rw [aZ (wb (nds:=bq ns B n) (d:=⟨lfK (fI ns n),(aQ ns B n).length,(aQ ns B n++PG.lfb (fI ns n)).length,(bq ns B n).length+1⟩) rfl (by
  have hx:=xg (ρ:=(bE ns m ⟨aQ ns B n,bq ns B n,B.frs,B.val⟩ a (some (.sh (.int n))) (some (.sh (.tup ((cq ns B n).map .int)))) (some (.sh (.int (aQ ns B n).length))) e (some (.sh F))).set 2 (some (.tr false (dv (aQ ns B n++PG.lfb (fI ns n)))))) (i:=3) (nds:=bq ns B n) rfl
  have hy:=ua (ρ:=(bE ns m ⟨aQ ns B n,bq ns B n,B.frs,B.val⟩ a (some (.sh (.int n))) (some (.sh (.tup ((cq ns B n).map .int)))) (some (.sh (.int (aQ ns B n).length))) e (some (.sh F))).set 2 (some (.tr false (dv (aQ ns B n++PG.lfb (fI ns n)))))) (i:=2) (row:=aQ ns B n++PG.lfb (fI ns n)) rfl
  simp only [mD,bP,aj,hx,hy,mOp]
  simp [bE,<- hF,gv,atP,ixP,Nd.o,ndO]) (by omega))]
 generalize hR:aQ ns B n++PG.lfb (fI ns n)=R
 generalize hD:bq ns B n++[⟨lfK (fI ns n),(aQ ns B n).length,R.length,(bq ns B n).length+1⟩]=D
 have hDl:D.length=(bq ns B n).length+1:=by rw [<- hD]; simp
 rw [aZ (ρ':=bE ns m ⟨R,D,B.frs,v⟩ a (some (.sh (.int n))) (some (.sh (.tup ((cq ns B n).map .int)))) (some (.sh (.int (aQ ns B n).length))) e (some (.sh F))) (by
  simp [bb,bE,<- hF,gv,atP,ixP,hv])]
 unfold bj
 rw [CW (fs:=B.frs) rfl]
 unfold Bd.leaf
 rw [hR]
 simp only [hD,hv]
 cases hg:B.frs with
 | nil=>
   have:=pW (ρ:=bE ns m ⟨R,D,[],v⟩ a (some (.sh (.int n))) (some (.sh (.tup ((cq ns B n).map .int)))) (some (.sh (.int (aQ ns B n).length))) e (some (.sh F))) (i:=4) (fs:=[]) rfl
   simp [inF,iR,this,aT]
 | cons g gs=>
   rw [hg] at h3
   have hit:=h3.2.1
   have ht:=pW (ρ:=bE ns m ⟨R,D,g ::gs,v⟩ a (some (.sh (.int n))) (some (.sh (.tup ((cq ns B n).map .int)))) (some (.sh (.int (aQ ns B n).length))) e (some (.sh F))) (i:=4) (fs:=g ::gs) rfl
   cases hgk:g.k with
   | true=>
     have hp:=AY (ρ:=bE ns m ⟨R,D,g ::gs,v⟩ a (some (.sh (.int n))) (some (.sh (.tup ((cq ns B n).map .int)))) (some (.sh (.int (aQ ns B n).length))) e (some (.sh F))) (i:=4) (g:=g) (gs:=gs) (x:=v) (md:=mD (ao 5)) rfl (by simp [mD,bE]) (by omega)
     simp [inF,iR,ht,hgk,hp]
     simp [bE]
   | false=>
     have h2l:2 <= D.length:=by
      have hq:inF B.frs=true:=by rw [hg]; simp [inF,hgk]
      rw [hq] at hl; simp at hl; omega
     obtain ⟨d2,hd2⟩:=zE (nodes:=D) (i:=D.length - 2) (by omega)
     have hs:=rM (fun d=>{ d with c:=D.length }) D (D.length - 2) d2 hd2
     have hput:=tP (ρ:=bE ns m ⟨R,D,g ::gs,v⟩ a (some (.sh (.int n))) (some (.sh (.tup ((cq ns B n).map .int)))) (some (.sh (.int (aQ ns B n).length))) e (some (.sh F))) (i:=3) (io:=false) (ts:=D.map Nd.o) (j:=D.length - 2) (j2:=3) (mk:=mC (.int 3)) (md:=mD (fT 3 aI)) (x:=.sh (.int D.length)) (mp:=pIx 3 aI (mUn gj (mC (.int 2)))) rfl
      (ko (i:=3) (ts:=D.map Nd.o) (bK (s:=.tr false (g9 D)) rfl rfl) (r:=.sh (.int (-2))) (k:=-2) (by simp) rfl (by rw [List.length_map]; unfold ixP; rw [if_neg (by omega),if_pos (by omega)]; congr 1; omega)) (AF hd2) rfl rfl rfl (by unfold mD; rw [xg (nds:=D) rfl])
     have e3:(D.map Nd.o).set (D.length - 2) (.ol ([.sh (.str d2.s),.sh (.int d2.a),.sh (.int d2.b),.sh (.int d2.c)].set 3 (.sh (.int D.length))))=(D.modify (D.length - 2) fun d=>{ d with c:=D.length }).map Nd.o:=hs
     rw [e3] at hput
     have hp:=AY (ρ:=bE ns m ⟨R,D.modify (D.length - 2) fun d=>{ d with c:=D.length },g ::gs,v⟩ a (some (.sh (.int n))) (some (.sh (.tup ((cq ns B n).map .int)))) (some (.sh (.int (aQ ns B n).length))) e (some (.sh F))) (i:=4) (g:=g) (gs:=gs) (x:=.tup [.tup ((cq ns B n).map .int),v]) (md:=mD (fU (aj (ao 8) (aj (ao 5) aG)))) rfl (by simp [mD,bE]) (by omega)
     have:inF (g ::gs)=true:=by simp [inF,hgk]
     rw [this]
     refine Eq.trans (aZ hput) ?_
     refine Eq.trans hp ?_
     simp [iR,hgk,bE]
theorem Hf (ns:List Int) (m:Int) (B:Bd) (k:Nat) (h:Bok B k) (hk:k <= 90) (b c d e f:Option Sl):∃ b' c' d' e' f',
  ig (bE ns m B (some (.sh (.int k))) b c d e f)=.nx (bE ns m (B.step ns k) (some (.sh (.int k))) b' c' d' e' f'):=by
 have hm:0 <= PG.mix ns k:=(PG.zA ns k).1
 have h1:=h.row
 unfold ig
 rw [aZ (ρ':=bE ns m B (some (.sh (.int k))) (some (.sh (.int (PG.mix ns k)))) c d e f) (by simp [bb,bE,bX])]
 unfold Bd.step
 generalize PG.mix ns k=n at hm ⊢
 have c1:dI (dA 4 aI) (az (mOp gEq (mOp b5 (ao 7) (mC (.int 5))) (mC (.int 1)))) (bE ns m B (some (.sh (.int k))) (some (.sh (.int n))) c d e f)=.ok (decide (B.frs.isEmpty=false /\ n%5=1)):=by
  have:=pW (ρ:=bE ns m B (some (.sh (.int k))) (some (.sh (.int n))) c d e f) (i:=4) (fs:=B.frs) rfl
  unfold bE at this ⊢
  cases hf:B.frs.isEmpty<;>simp [dI,this,hf,az]
 unfold bj
 rw [c1]
 by_cases hc1:B.frs.isEmpty=false /\ n%5=1
 . rw [if_pos hc1,decide_eq_true hc1]
   refine ⟨some (.sh (.int n)),c,d,e,f,Eq.trans (aZ (ρ':=bE ns m { B with row:=B.row++lwh (n/3) } (some (.sh (.int k))) (some (.sh (.int n))) c d e f) ?_) ?_⟩
   . exact lH (row:=B.row) rfl (.inl (by simp [bE,dX])) (by have:=fi (n/3); omega)
   . refine uq ns m { B with row:=B.row++lwh (n/3) } (k+1) ⟨?_,?_,?_,?_⟩ (by omega) ?_ _ _ _ _ _ _
     . have:=fi (n/3); simp; omega
     . have:=h.nodes; simp; omega
     . exact FOk.mono (Nat.le_refl _) (Nat.le_succ _) h.frs
     . have:=h.dep; simp; omega
     . simp only; intro z; rw [z] at hc1; exact absurd hc1.1 (by simp)
 . rw [if_neg hc1,decide_eq_false hc1]
   have c2:u4 (dA 4 aI) (az (mOp gEq (ao 6) (mC (.int 0)))) (bE ns m B (some (.sh (.int k))) (some (.sh (.int n))) c d e f)=.ok (decide (B.frs.isEmpty=false \/ k=0)):=by
    have:=pW (ρ:=bE ns m B (some (.sh (.int k))) (some (.sh (.int n))) c d e f) (i:=4) (fs:=B.frs) rfl
    unfold bE at this ⊢
    cases hf:B.frs.isEmpty<;>simp [u4,this,hf,az]
   show ∃ b' c' d' e' f',OT.cX _ _ _=_
   rw [c2]
   by_cases hc2:B.frs.isEmpty=false \/ k=0
   . rw [if_pos hc2,decide_eq_true hc2]
     have hb:=zM ns m B k h (by omega) (some (.sh (.int k))) n c d e f
     have hs9:bb 9 (fT 2 aI) (bE ns m ⟨aQ ns B n,bq ns B n,B.frs,B.val⟩ (some (.sh (.int k))) (some (.sh (.int n))) (some (.sh (.tup ((cq ns B n).map .int)))) d e f)=.nx (bE ns m ⟨aQ ns B n,bq ns B n,B.frs,B.val⟩ (some (.sh (.int k))) (some (.sh (.int n))) (some (.sh (.tup ((cq ns B n).map .int)))) (some (.sh (.int (aQ ns B n).length))) e f):=by
      unfold bb; rw [ua (row:=aQ ns B n) rfl]; simp [bE]
     have c3:u4 (az (mOp gGt (mOp b5 (ao 7) (mC (.int 5))) (mC (.int 2)))) (dI (az (mOp gEq (ao 6) (mC (.int 0)))) (az (mOp gGt (mOp b5 (ao 7) (mC (.int 9))) (mC (.int 0))))) (bE ns m ⟨aQ ns B n,bq ns B n,B.frs,B.val⟩ (some (.sh (.int k))) (some (.sh (.int n))) (some (.sh (.tup ((cq ns B n).map .int)))) (some (.sh (.int (aQ ns B n).length))) e f)=.ok (decide (n%5>2 \/ (k=0 /\ n%9>0))):=by
      by_cases h5:2<n%5
      . simp [u4,dI,az,bE,h5]
      . by_cases h0:k=0
        . by_cases h9:0<n%9<;>simp [u4,dI,az,bE,h5,h0,h9]
        . simp [u4,dI,az,bE,h5,h0]
     by_cases hc3:n%5>2 \/ (k=0 /\ n%9>0)
     . rw [if_pos hc3]
       obtain ⟨e',he⟩:=BK ns m B k h (by omega) (some (.sh (.int k))) n e f
       refine ⟨some (.sh (.int n)),some (.sh (.tup ((cq ns B n).map .int))),some (.sh (.int (aQ ns B n).length)),e',f,Eq.trans (aZ hb) (Eq.trans (aZ hs9) ?_)⟩
       rw [c3,decide_eq_true hc3]
       exact he
     . rw [if_neg hc3]
       obtain ⟨f',he⟩:=BP ns m B k h (by omega) (some (.sh (.int k))) n hm e f
       refine ⟨some (.sh (.int n)),some (.sh (.tup ((cq ns B n).map .int))),some (.sh (.int (aQ ns B n).length)),e,f',Eq.trans (aZ hb) (Eq.trans (aZ hs9) ?_)⟩
       rw [c3,decide_eq_false hc3]
       exact he
   . rw [if_neg hc2,decide_eq_false hc2]
     exact ⟨_,_,_,_,_,rfl⟩
noncomputable def bld (ns:List Int) (B:Bd) (i:Nat):Nat -> Bd
 |0=>B
 |j+1=>bld ns (B.step ns i) (i+1) j
theorem xb (ns:List Int):∀ (j i:Nat) (B:Bd),Bok B i -> Bok (bld ns B i j) (i+j)
 |0,i,B,h=>h
 | j+1,i,B,h=>by
   have:=xb ns j (i+1) _ (h.step ns)
   rw [show i+(j+1)=i+1+j by omega]
   exact this
theorem uY (ns:List Int) (m:Int):∀ (j i:Nat) (B:Bd) (a b c d e f:Option Sl),Bok B i -> i+j <= 90 -> ∃ a' b' c' d' e' f',
  jj 6 ig ((List.range' i j).map fun k:Nat=>.int k) (bE ns m B a b c d e f)=.nx (bE ns m (bld ns B i j) a' b' c' d' e' f')
 |0,i,B,a,b,c,d,e,f,_,_=>⟨_,_,_,_,_,_,rfl⟩
 | j+1,i,B,a,b,c,d,e,f,h,hij=>by
   obtain ⟨b',c',d',e',f',hs⟩:=Hf ns m B i h (by omega) b c d e f
   obtain ⟨a2,b2,c2,d2,e2,f2,hl⟩:=uY ns m j (i+1) (B.step ns i) (some (.sh (.int i))) b' c' d' e' f' (h.step ns) (by omega)
   refine ⟨a2,b2,c2,d2,e2,f2,?_⟩
   rw [List.range'_succ,List.map_cons,la]
   rw [show (bE ns m B a b c d e f).set 6 (some (.sh (.int i)))=bE ns m B (some (.sh (.int i))) b c d e f from rfl,hs,m7]
   exact hl
noncomputable def cls (B:Bd):Nat -> Bd
 |0=>B
 |j+1=>cls B.close j
theorem sI (B:Bd):B.close.frs.length=B.frs.length - 1:=by
 unfold Bd.close
 cases h:B.frs with
 |nil=>simp [h]
 |cons f fs=>simp [uU]
theorem sX (ns:List Int) (m:Int):∀ (j:Nat) (B:Bd) (k:Nat) (a b c d e f:Option Sl) (F:Nat),Bok B k -> k+j <= 100 -> B.frs.length=j -> j<F ->
  fQ ic jP F (bE ns m B a b c d e f)=.nx (bE ns m (cls B j) a b c d e f)
 | 0,B,k,a,b,c,d,e,f,F,h,hk,hj,hF=>by
   obtain ⟨F,rfl⟩:∃ G,F=G+1:=⟨F - 1,by omega⟩
   have ht:=pW (ρ:=bE ns m B a b c d e f) (i:=4) (fs:=B.frs) rfl
   have:B.frs=[]:=List.length_eq_zero_iff.mp hj
   unfold fQ ic
   rw [ht,this]
   rfl
 | j+1,B,k,a,b,c,d,e,f,F,h,hk,hj,hF=>by
   obtain ⟨F,rfl⟩:∃ G,F=G+1:=⟨F - 1,by omega⟩
   have ht:=pW (ρ:=bE ns m B a b c d e f) (i:=4) (fs:=B.frs) rfl
   have hne:B.frs≠[]:=by intro z; rw [z] at hj; simp at hj
   have hcl:=uq ns m B k h (by omega) hne a b c d e f
   have hb:=h.close [] (by simp)
   rw [show ({ B with row:=B.row++[] }:Bd)=B by cases B; simp] at hb
   unfold fQ
   rw [show ic=dA 4 aI from rfl,ht]
   have he:B.frs.isEmpty=false:=by cases q:B.frs with|nil=>exact absurd q hne|cons _ _=>rfl
   rw [he]
   show OS.turn _ _=_
   rw [show jP=i8 5 (jb cP [.t 2 aI,.t 3 aI,.t 4 aI]) from rfl,hcl,m7]
   exact sX ns m j B.close (k+1) a b c d e f F hb (by omega) (by rw [sI]; omega) (by omega)
noncomputable def bd0:Bd:=⟨[],[],[],.non⟩
noncomputable def ndP (d:Nd):PV:=.tup [.str d.s,.int d.a,.int d.b,.int d.c]
noncomputable def kW (ns:List Int) (m:Nat):Bd:=
 let B:=bld ns bd0 0 m
 let C:=cls B B.frs.length
 { C with row:=C.row++lwh (PG.mix ns 61) }
theorem wH:∀ (j:Nat) (B:Bd) (k:Nat),Bok B k -> Bok (cls B j) (k+j)
 |0,B,k,h=>h
 | j+1,B,k,h=>by
   have hb:=h.close [] (by simp)
   rw [show ({ B with row:=B.row++[] }:Bd)=B by cases B; simp] at hb
   have:=wH j B.close (k+1) hb
   rw [show k+(j+1)=k+1+j by omega]
   exact this
theorem sF:Bok bd0 0:=⟨by simp [bd0],by simp [bd0],trivial,by simp [bd0]⟩
theorem xM:∀ row:List Int,ur (row.map fun b=>.sh (.int b))=some (row.map .int)
 |[]=>by simp [ur]
 |b ::row=>by simp [ur,pvO,xM row]
theorem yh:∀ ds:List Nd,ur (ds.map Nd.o)=some (ds.map fun d=>.lst [.str d.s,.int d.a,.int d.b,.int d.c])
 |[]=>by simp [ur]
 |d ::ds=>by simp [ur,pvO,yh ds,Nd.o,ndO]
theorem Es {ρ:ah} {i:Nat} {me:ah -> OE} {P:ah -> OS} {j:Int} (h1:me ρ=.ok (.sh (.int j))) (hi:-4611686018427387904 <= j /\ j<4611686018427387904):tm i me P ρ=jj i P (dF j.toNat) ρ:=by
 simp -implicitDefEqProofs [tm,h1,hi]
theorem Bc (ns:List Int) (m:Nat) (hm:m <= 20):∃ a b c d e f,tm 6 (ao 1) ig (bE ns m bd0 none none none none none none)=.nx (bE ns m (bld ns bd0 0 m) a b c d e f):=by
 obtain ⟨a,b,c,d,e,f,hl⟩:=uY ns m m 0 bd0 none none none none none none sF (by omega)
 refine ⟨a,b,c,d,e,f,?_⟩
 have hr:dF (Int.toNat (m:Int))=(List.range' 0 m).map fun k:Nat=>.int k:=by simp [dF,List.range_eq_range']
 have h1:ao 1 (bE ns m bd0 none none none none none none)=.ok (.sh (.int m)):=by simp [bE]
 rw [Es h1 (by omega),hr]
 exact hl
theorem Br (ns:List Int) (m:Int) (C:Bd) (hC:C.nodes.length <= 1000) (hR:C.row.length <= 100000) (a b c d e f:Option Sl):
  ∃ ρ,lQ (bE ns m C a b c d e f)=.rt ρ (.sh (.tup [.lst ((C.row++lwh (PG.mix ns 61)).map .int),.lst (C.nodes.map ndP),C.val])):=by
 have e3:dJ 2 aI (bp cw (aj (bp b4 (aj (ao 0) (aj (mC (.int 61)) aG))) aG)) (bE ns m C a b c d e f)=.nx (bE ns m { C with row:=C.row++lwh (PG.mix ns 61) } a b c d e f):=
  lH (row:=C.row) rfl (.inl (by simp [bE,bX,dX])) (by have:=fi (PG.mix ns 61); omega)
 refine ⟨((bE ns m { C with row:=C.row++lwh (PG.mix ns 61) } a b c d e f).set 3 (some (.sh (.lst (C.nodes.map fun d=>.lst [.str d.s,.int d.a,.int d.b,.int d.c]))))).set 2 (some (.sh (.lst ((C.row++lwh (PG.mix ns 61)).map .int)))),?_⟩
 unfold lQ
 rw [aZ e3]
 unfold pZ oN
 have z1:pw 3 (bE ns m { C with row:=C.row++lwh (PG.mix ns 61) } a b c d e f)=(bE ns m { C with row:=C.row++lwh (PG.mix ns 61) } a b c d e f).set 3 (some (.sh (.lst (C.nodes.map fun d=>.lst [.str d.s,.int d.a,.int d.b,.int d.c])))):=by
  simp [pw,bE,g9,pvO,yh]
 have z2:pw 2 ((bE ns m { C with row:=C.row++lwh (PG.mix ns 61) } a b c d e f).set 3 (some (.sh (.lst (C.nodes.map fun d=>.lst [.str d.s,.int d.a,.int d.b,.int d.c])))))=((bE ns m { C with row:=C.row++lwh (PG.mix ns 61) } a b c d e f).set 3 (some (.sh (.lst (C.nodes.map fun d=>.lst [.str d.s,.int d.a,.int d.b,.int d.c]))))).set 2 (some (.sh (.lst ((C.row++lwh (PG.mix ns 61)).map .int)))):=by
  have:=xM (C.row++lwh (PG.mix ns 61))
  unfold pw bE dv
  simp only [List.set_cons_succ,List.set_cons_zero,List.getElem?_cons_succ,List.getElem?_cons_zero,pvO,this,Option.map_some]
 rw [z1,z2]
 have hel:dr lK [] (C.nodes.map fun d=>.lst [.str d.s,.int d.a,.int d.b,.int d.c])=.ok (C.nodes.map ndP):=
  kD _ fun d _=>by simp [lK,lN,ndP]
 simp [bE,hel,cY]
 exact dS (by omega)
theorem EU (ns:List Int) (m:Nat) (hm:m <= 20):gD [.lst (ns.map .int),.int m]=.ok (.sh (.tup [.lst ((kW ns m).row.map .int),.lst ((kW ns m).nodes.map ndP),(kW ns m).val])):=by
 have hok:=xb ns m 0 bd0 sF
 rw [Nat.zero_add] at hok
 obtain ⟨a,b,c,d,e,f,e2⟩:=Bc ns m hm
 have hdep:=hok.dep
 have hcok:=wH (bld ns bd0 0 m).frs.length _ m hok
 have hcr:=hcok.row
 have hcn:=hcok.nodes
 have e1:o3 [some (.sh (.lst (ns.map .int))),some (.sh (.int m)),none,none,none,none,none,none,none,none,none,none]=lW (bE ns m bd0 none none none none none none):=by
  unfold o3
  rw [aZ (ρ':=[some (.sh (.lst (ns.map .int))),some (.sh (.int m)),some (.tr false (dv [])),none,none,none,none,none,none,none,none,none]) (by simp [mq,mD,dv])]
  unfold qg
  rw [aZ (ρ':=[some (.sh (.lst (ns.map .int))),some (.sh (.int m)),some (.tr false (dv [])),some (.tr false (g9 [])),none,none,none,none,none,none,none,none]) (by simp [mq,mD,g9])]
  unfold pQ
  rw [aZ (ρ':=[some (.sh (.lst (ns.map .int))),some (.sh (.int m)),some (.tr false (dv [])),some (.tr false (g9 [])),some (.tr false (gk [])),none,none,none,none,none,none,none]) (by simp [mq,mD,gk])]
  unfold pU
  rw [aZ (ρ':=bE ns m bd0 none none none none none none) (by simp [bb,bE,bd0])]
 obtain ⟨ρ,e4⟩:=Br ns m _ (Nat.le_trans hcn (by omega)) (Nat.le_trans hcr (by omega)) a b c d e f
 have hw:∀ F,(bld ns bd0 0 m).frs.length<F -> fQ ic jP F (bE ns m (bld ns bd0 0 m) a b c d e f)=.nx (bE ns m (cls (bld ns bd0 0 m) (bld ns bd0 0 m).frs.length) a b c d e f):=fun F hF=>sX ns m _ (bld ns bd0 0 m) m a b c d e f F hok (by omega) rfl hF
 unfold gD fnP
 rw [if_pos (show List.length [PV.lst (ns.map .int),.int m]=2 from rfl),show kF 12 [PV.lst (ns.map .int),.int m]=[some (.sh (.lst (ns.map .int))),some (.sh (.int m)),none,none,none,none,none,none,none,none,none,none] from rfl,e1]
 unfold lW
 rw [aZ e2]
 have hF:(bld ns bd0 0 m).frs.length<fuel:=by unfold fuel; omega
 unfold p9
 rw [aZ (hw fuel hF),e4]
 rfl
theorem vt {st c:List PG.It} {b:Int} {bs:List Int} (h:PG.Goes (.value ::st) (b ::bs) c):∃ l,PG.kl b=some l:=by
 have hw:=h.whole
 cases e:PG.kl b with
 |some l=>exact ⟨l,rfl⟩
 | none=>
   unfold PG.tk at hw
   have:PG.gon (.value ::st) b=(st,false):=by
    unfold PG.gon
    rw [show PG.bh .value b=none from e]
    rfl
   rw [this] at hw
   simp at hw
theorem zI {b:Int} {l:List PG.It} (h:PG.kl b=some l):PG.wht b=false /\ b≠93:=by
 have h1:∀ c:Int,(c=32 \/ c=9 \/ c=10 \/ c=13 \/ c=93) -> PG.kl c=none:=by
  intro c hc
  rcases hc with z|z|z|z|z<;>subst z<;>rfl
 refine ⟨?_,fun z=>by rw [h1 b (by omega)] at h; cases h⟩
 cases hw:PG.wht b with
 |false=>rfl
 | true=>
   unfold PG.wht at hw
   simp only [Bool.or_eq_true,decide_eq_true_eq] at hw
   rw [h1 b (by omega)] at h; cases h
noncomputable def Rdy (row:List Int) (ks:List Bool):Prop:=∀ b bs c,PG.Goes (.value ::PG.out ks) (b ::bs) c -> PG.Goes PG.st0 (row++b ::bs) c
theorem xf {row:List Int} {ks:List Bool} (h:PG.Goes PG.st0 row (.bf ::.value ::PG.out ks)):Rdy row ks:=fun b bs c k=>by
 obtain ⟨l,hl⟩:=vt k
 exact h.trans (.past (zI hl).1 k)
theorem FJ {row:List Int} {ks:List Bool} (h:PG.Goes PG.st0 row (.bf ::.row ::PG.out ks)):Rdy row (true ::ks):=fun b bs c k=>by
 obtain ⟨l,hl⟩:=vt k
 exact h.trans (.past (zI hl).1 (PG.zL hl (zI hl).2 k))
noncomputable def ks (fs:List Fr):List Bool:=fs.map Fr.k
noncomputable def Jn (B:Bd):Prop:=match B.frs with
 |[]=>PG.Gs PG.st0 B.row [.bf]
 |f ::fs=>PG.Gs PG.st0 B.row (PG.stk f.k f.items.isEmpty (ks fs)) /\ (f.items=[] -> PG.Goes PG.st0 B.row (PG.stk f.k true (ks fs)))
theorem oz (r e:Bool) (fs:List Bool) (h:fs.length<64):PG.cnt (PG.hd r e ::PG.out fs) <= 64:=by
 rw [PG.cnt_cons,PG.gV]
 split<;>omega
theorem qX (ns:List Int) (n:Int):∀ s∈iU ns n,PG.Sok s:=DZ _ _ _ (ue ns _).1
theorem rG {st c:List PG.It} {l:List PG.Sg} (k:PG.Goes st (PG.txt l) c):PG.Goes (.bf ::st) (PG.txt l) c:=.past rfl k
theorem DN (ns:List Int) (B:Bd) (n:Int) (hd:B.frs.length <= 60) (hj:Jn B) (hne:B.frs≠[]):Rdy (aQ ns B n) (ks B.frs):=by
 unfold Jn at hj
 unfold aQ eD nv
 cases e:B.frs with
 |nil=>exact absurd e hne
 | cons f fs=>
   rw [e] at hj hd
   simp only [List.length_cons] at hd
   obtain ⟨h1,h2⟩:=hj
   have hks:(ks fs).length<64:=by unfold ks; rw [List.length_map]; omega
   have hks2:(ks (f ::fs)).length <= 64:=by unfold ks; rw [List.length_map,List.length_cons]; omega
   have hcv:PG.cnt (.value ::PG.out (ks (f ::fs))) <= 64:=by rw [PG.cnt_cons,PG.gV]; simp [PG.opn]; exact hks2
   have hcs:PG.cnt (.sp 58 58 ::.bf ::.value ::PG.out (ks (f ::fs))) <= 64:=by rw [PG.cnt_cons,PG.cnt_cons]; simpa [PG.opn] using hcv
   have hcn:PG.cnt (.name ::.bf ::.sp 58 58 ::.bf ::.value ::PG.out (ks (f ::fs))) <= 64:=by rw [PG.cnt_cons,PG.cnt_cons]; simpa [PG.opn] using hcs
   simp only [full,inF]
   by_cases hi:f.items=[]
   . have hie:f.items.isEmpty=true:=by rw [hi]; rfl
     simp only [hie,Bool.not_true,Bool.false_eq_true,if_false,List.append_nil]
     have h3:=(h2 hi).trans (PG.cN (oz f.k true (ks fs) hks) (lwh (n/3)) (cu _))
     cases hk:f.k with
     | true=>
       simp only [Bool.not_true,Bool.false_eq_true,if_false]
       rw [hk] at h3
       have:ks (f ::fs)=true ::ks fs:=by simp [ks,hk]
       rw [this]
       exact FJ h3
     | false=>
       simp only [Bool.not_false,if_true]
       rw [hk] at h3
       have hke:ks (f ::fs)=false ::ks fs:=by simp [ks,hk]
       rw [hke] at hcv hcs hcn ⊢
       refine xf ?_
       have h4:=h3.trans (rG (PG.sY hks (iU ns n) (qX ns n)))
       have h5:=h4.trans (PG.qq hcv (cu (n/19)))
       have h6:=h5.trans (PG.cN hcv (lwh (n/23)) (cu _))
       simpa using h6
   . have hie:f.items.isEmpty = false:=by
      cases q:f.items with
      |nil=>exact absurd q hi
      |cons _ _=>rfl
     simp only [hie,Bool.not_false,if_true]
     rw [hie] at h1
     have h3:=h1.bf (oz f.k false (ks fs) hks) (cu (n/3))
     cases hk:f.k with
     | true=>
       simp only [Bool.not_true,Bool.false_eq_true,if_false]
       rw [hk] at h3
       have hke:ks (f ::fs)=true ::ks fs:=by simp [ks,hk]
       rw [hke] at hcv hcs hcn ⊢
       refine xf ?_
       have h4:=(PG.Gs.vJ h3 hks).trans (PG.cN hcv (lwh (n/11)) (cu _))
       simpa using h4
     | false=>
       simp only [Bool.not_false,if_true]
       rw [hk] at h3
       have hke:ks (f ::fs)=false ::ks fs:=by simp [ks,hk]
       rw [hke] at hcv hcs hcn ⊢
       refine xf ?_
       have h4:=(PG.Gs.qS h3 hks).trans (PG.cN hcn (lwh (n/11)) (cu _))
       have h5:=h4.trans (rG (PG.vS (by rw [PG.cnt_cons]; simpa [PG.opn] using hcs) (iU ns n) (qX ns n)))
       have h6:=h5.trans (PG.qq hcv (cu (n/19)))
       have h7:=h6.trans (PG.cN hcv (lwh (n/23)) (cu _))
       simpa using h7
theorem AQ (ns:List Int) (B:Bd) (n:Int) (h0:B.frs=[]) (hr:B.row=[]):Rdy (aQ ns B n) (ks B.frs):=by
 rw [h0]
 refine xf ?_
 unfold aQ eD
 rw [h0,hr]
 simp only [inF,full,Bool.false_eq_true,if_false,List.append_nil,List.nil_append]
 exact PG.cN (by decide) _ (cu _)
theorem zZ (x:PG.Lf) (hx:PG.Lok x):∃ b bs,PG.lfb x=b ::bs:=by
 cases x with
 |wd w=>cases w<;>exact ⟨_,_,rfl⟩
 |tx l=>exact ⟨_,_,rfl⟩
 | nm m=>
   have h:m.ip≠[]:=by
    rcases hx.ip with z|⟨d,r,z,_⟩<;>rw [z]<;>simp
   cases q:PG.lfb (.nm m) with
   |cons b bs=>exact ⟨b,bs,rfl⟩
   | nil=>
     have q':PG.nb m=[]:=q
     unfold PG.nb at q'
     simp at q'
     exact absurd q'.2.1 h
theorem Jn.close {B:Bd} (h:Jn B) (hne:B.frs≠[]) (hd:B.frs.length <= 60):Jn B.close:=by
 unfold Jn at h
 unfold Bd.close
 cases e:B.frs with
 |nil=>exact absurd e hne
 | cons f fs=>
   rw [e] at h hd
   simp only [List.length_cons] at hd
   have h1:=PG.Gs.close f.k f.items.isEmpty h.1 (by unfold ks; rw [List.length_map]; omega)
   cases fs with
   |nil=>exact .of h1
   | cons g gs=>
     refine ⟨?_,fun z=>by simp [iR] at z⟩
     have:({ g with items:=g.items++[if g.k then PV.tup [kS f.k,.tup f.items] else .tup [.tup (f.nm.map .int),.tup [kS f.k,.tup f.items]]] }:Fr).items.isEmpty=false:=by simp
     rw [this]
     exact .of h1
theorem Jn.bf {B:Bd} (h:Jn B) (hd:B.frs.length <= 60) (ws:List Int) (hw:∀ b∈ws,PG.wht b=true):Jn { B with row:=B.row++ws }:=by
 unfold Jn at h ⊢
 cases e:B.frs with
 |nil=>rw [e] at h; exact h.bf (by decide) hw
 | cons f fs=>
   rw [e] at h hd
   simp only [List.length_cons] at hd
   have hks:(ks fs).length<64:=by unfold ks; rw [List.length_map]; omega
   exact ⟨h.1.bf (oz _ _ _ hks) hw,fun z=>(h.2 z).trans (PG.cN (oz _ _ _ hks) ws hw)⟩
theorem D4 {ns:List Int} {B:Bd} {n:Int} (h:Rdy (aQ ns B n) (ks B.frs)) (hd:B.frs.length <= 60):Jn (B.opn ns n):=by
 have h1:=PG.BA (fs:=ks B.frs) (decide (n/5%2=0)) (by unfold ks; rw [List.length_map]; omega)
 have h2:=h _ _ _ h1
 simp only [decide_eq_true_eq] at h2
 exact ⟨.of h2,fun _=>h2⟩
theorem Am {ns:List Int} {B:Bd} {n:Int} (h:Rdy (aQ ns B n) (ks B.frs)) (hd:B.frs.length <= 60):Jn (B.leaf ns n):=by
 obtain ⟨b,bs,hb⟩:=zZ (fI ns n) (tV ns n)
 have hc:PG.cnt (PG.out (ks B.frs)) <= 64:=by rw [PG.gV]; unfold ks; rw [List.length_map]; omega
 obtain ⟨ls,hl,h1⟩:=PG.Az hc (fI ns n) (tV ns n)
 rw [hb] at h1
 have h2:=h _ _ _ h1
 rw [<- hb] at h2
 unfold Bd.leaf Jn
 simp only
 cases e:B.frs with
 | nil=>
   rw [e] at h2
   exact ⟨ls,hl,h2⟩
 | cons g gs=>
   rw [e] at h2
   refine ⟨⟨ls,hl,?_⟩,fun z=>by simp at z⟩
   have:(g.items++[if g.k=true then lfV ns n else PV.tup [PV.tup (List.map PV.int (cq ns B n)),lfV ns n]]).isEmpty=false:=by simp
   rw [this]
   exact h2
noncomputable def yZ:List Fr -> Prop
 |[]=>True
 |[f]=>f.i=0
 |_ ::fs=>yZ fs
structure Lk (ns:List Int) (B:Bd):Prop where
 nd:∃ d ds,B.nodes=d ::ds /\ d.b=B.row.length /\ ((∃ r k,B.row=r++[brk k]) \/ ∃ ws n,(∀ b∈ws,PG.wht b=true) /\ B.row=ws++PG.lfb (fI ns n) /\ d.a=ws.length /\ d.s=lfK (fI ns n))
structure ot (ns:List Int) (B:Bd):Prop where
 jn:Jn B
 lo:yZ B.frs
 fin:B.frs=[] -> Lk ns B
theorem ya (nm:List Int) (v:PV) (fs:List Fr) (h:yZ fs):yZ (iR nm v fs):=by
 cases fs with
 |nil=>trivial
 | cons g gs=>cases gs with
   |nil=>exact h
   |cons _ _=>exact h
theorem BG {f:Fr} {fs:List Fr} (h:yZ (f ::fs)):yZ fs:=by
 cases fs with
 |nil=>trivial
 |cons g gs=>exact h
theorem BS {f:Fr} {fs:List Fr} (h:yZ fs) (hn:fs≠[]):yZ (f ::fs):=by
 cases fs with
 |nil=>exact absurd rfl hn
 |cons g gs=>exact h
theorem ot.close {ns:List Int} {B:Bd} {k:Nat} (h:ot ns B) (hk:Bok B k) (hne:B.frs≠[]) (hd:k <= 60):ot ns B.close:=by
 have hdep:=hk.dep
 refine ⟨h.jn.close hne (by omega),?_,?_⟩
 . have:=h.lo
   unfold Bd.close
   cases e:B.frs with
   |nil=>exact absurd e hne
   |cons f fs=>rw [e] at this; exact ya _ _ _ (BG this)
 . have hlo:=h.lo
   have hfr:=hk.frs
   unfold Bd.close
   cases e:B.frs with
   |nil=>exact absurd e hne
   | cons f fs=>
     rw [e] at hlo hfr
     cases fs with
     |cons g gs=>intro z; simp [iR] at z
     | nil=>
       intro _
       have h0:f.i=0:=hlo
       have hl:=hfr.1
       cases hn:B.nodes with
       |nil=>rw [hn] at hl; simp at hl
       | cons d ds=>
         refine ⟨⟨{ d with b:=B.row.length+1,c:=(d ::ds).length },ds,?_,?_,.inl ⟨B.row,f.k,rfl⟩⟩⟩
         . simp [inF,h0]
         . simp
theorem ot.step {ns:List Int} {B:Bd} {k:Nat} (h:ot ns B) (hk:Bok B k) (hd:k <= 50) (h0:k≠0):ot ns (B.step ns k):=by
 have hdep:=hk.dep
 unfold Bd.step
 split
 . rename_i hc
   have hne:B.frs≠[]:=by intro z; rw [z] at hc; simp at hc
   refine ot.close (k:=k+1) (B:={ B with row:=B.row++lwh (PG.mix ns k/3) }) ⟨h.jn.bf (by omega) _ (cu _),h.lo,fun z=>absurd z hne⟩ ⟨?_,?_,?_,?_⟩ hne (by omega)
   . have:=fi (PG.mix ns k/3); have:=hk.row; simp; omega
   . have:=hk.nodes; simp; omega
   . exact FOk.mono (Nat.le_refl _) (Nat.le_succ _) hk.frs
   . simp; omega
 . split
   . rename_i hc
     have hne:B.frs≠[]:=by
      intro z; rw [z] at hc; simp at hc; exact h0 hc
     have hr:=DN ns B (PG.mix ns k) (by omega) h.jn hne
     split
     . refine ⟨D4 hr (by omega),?_,fun z=>by simp [Bd.opn] at z⟩
       exact BS h.lo hne
     . refine ⟨Am hr (by omega),ya _ _ _ h.lo,fun z=>?_⟩
       unfold Bd.leaf at z
       simp only at z
       cases e:B.frs with
       |nil=>exact absurd e hne
       |cons g gs=>rw [e] at z; simp [iR] at z
   . exact h
theorem ot.first (ns:List Int):ot ns (bd0.step ns 0):=by
 have hr:=AQ ns bd0 (PG.mix ns 0) rfl rfl
 have hd:bd0.frs.length <= 60:=by simp [bd0]
 unfold Bd.step
 rw [if_neg (by simp [bd0]),if_pos (.inr rfl)]
 split
 . exact ⟨D4 hr hd,rfl,fun z=>by simp [Bd.opn] at z⟩
 . refine ⟨Am hr hd,trivial,fun _=>⟨⟨⟨lfK (fI ns (PG.mix ns 0)),(aQ ns bd0 (PG.mix ns 0)).length,(aQ ns bd0 (PG.mix ns 0)++PG.lfb (fI ns (PG.mix ns 0))).length,(bq ns bd0 (PG.mix ns 0)).length+1⟩,[],rfl,rfl,.inr ⟨aQ ns bd0 (PG.mix ns 0),PG.mix ns 0,?_,rfl,rfl,rfl⟩⟩⟩⟩
   intro b hb
   have:aQ ns bd0 (PG.mix ns 0)=lwh (PG.mix ns 0/3):=by simp [aQ,eD,bd0,inF,full]
   rw [this] at hb
   exact cu _ b hb
theorem Ap (ns:List Int):∀ (j i:Nat) (B:Bd),ot ns B -> Bok B i -> i≠0 -> i+j <= 50 -> ot ns (bld ns B i j)
 |0,_,_,h,_,_,_=>h
 |j+1,i,B,h,hk,h0,hj=>Ap ns j (i+1) _ (h.step hk (by omega) h0) (hk.step ns) (by omega) (by omega)
theorem AZ (ns:List Int):∀ (j:Nat) (B:Bd) (k:Nat),ot ns B -> Bok B k -> k+j <= 60 -> B.frs.length=j -> ot ns (cls B j) /\ (cls B j).frs=[]
 |0,B,k,h,_,_,hj=>⟨h,List.length_eq_zero_iff.mp hj⟩
 | j+1,B,k,h,hk,hkj,hj=>by
   have hne:B.frs≠[]:=by intro z; rw [z] at hj; simp at hj
   have hb:=hk.close [] (by simp)
   rw [show ({ B with row:=B.row++[] }:Bd)=B by cases B; simp] at hb
   exact AZ ns j B.close (k+1) (h.close hk hne (by omega)) hb (by omega) (by rw [sI]; omega)
theorem Jh (ns:List Int) (m:Nat) (h1:1 <= m) (hm:m <= 20):∃ C,ot ns C /\ C.frs=[] /\ kW ns m={ C with row:=C.row++lwh (PG.mix ns 61) } /\ C.row.length <= 800*m:=by
 obtain ⟨m,rfl⟩:∃ j,m=j+1:=⟨m - 1,by omega⟩
 have hok:=xb ns (m+1) 0 bd0 sF
 have h:=Ap ns m 1 (bd0.step ns 0) (ot.first ns) (sF.step ns) (by omega) (by omega)
 have hd:=hok.dep
 have hc:=AZ ns (bld ns bd0 0 (m+1)).frs.length (bld ns bd0 0 (m+1)) (0+(m+1)) h hok (by omega) rfl
 have hr:=(wH (bld ns bd0 0 (m+1)).frs.length _ _ hok).row
 exact ⟨_,hc.1,hc.2,rfl,Nat.le_trans hr (by omega)⟩
noncomputable def iS (row:List Int):Option Int:=(row.filter fun b=>!PG.wht b).getLast?
theorem j1 (row ws:List Int) (hw:∀ b∈ws,PG.wht b=true):iS (row++ws)=iS row:=by
 unfold iS
 rw [List.filter_append]
 have:ws.filter (fun b=>!PG.wht b)=[]:=by
  rw [List.filter_eq_nil_iff]; intro b hb; rw [hw b hb]; simp
 rw [this,List.append_nil]
theorem vP (row:List Int) (b:Int) (hb:PG.wht b=false):iS (row++[b])=some b:=by
 unfold iS
 rw [List.filter_append]
 simp [hb]
theorem uy (row ws:List Int) (b:Int) (hb:PG.wht b=false) (hw:∀ b∈ws,PG.wht b=true):iS (row++b ::ws)=some b:=by
 rw [show row++b ::ws=(row++[b])++ws by simp,j1 _ _ hw,vP _ _ hb]
noncomputable def Sst (l:Option Int) (st:List PG.It):Prop:=(l=some 123 /\ ∃ ks:List Bool,ks.length<64 /\ st=.bf ::.fields ::PG.out ks) \/ (l≠some 123 /\ ∃ it st',st=.bf ::it ::st' /\ (it=.value \/ it=.row \/ it=.name))
noncomputable def Est (st:List PG.It):Prop:=∃ ls st',ls.all PG.nl=true /\ st=ls ++ .bf ::st' /\ (st'=[] \/ ∃ it st2,st'=it ::st2 /\ (it=.mrow \/ it=.mfields \/ it=.sp 58 58))
noncomputable def SOk (row:List Int) (a:Int):Prop:=∃ P R st,row=P++R /\ a=(P.length:Int) /\ PG.Goes PG.st0 P st /\ Sst (iS P) st
noncomputable def EOk (row:List Int) (a:Int):Prop:=∃ P R st,row=P++R /\ a=(P.length:Int) /\ PG.Goes PG.st0 P st /\ Est st
theorem SOk.app {row:List Int} {a:Int} (h:SOk row a) (x:List Int):SOk (row++x) a:=by
 obtain ⟨P,R,st,h1,h2,h3⟩:=h
 exact ⟨P,R++x,st,by rw [h1,List.append_assoc],h2,h3⟩
theorem EOk.app {row:List Int} {a:Int} (h:EOk row a) (x:List Int):EOk (row++x) a:=by
 obtain ⟨P,R,st,h1,h2,h3⟩:=h
 exact ⟨P,R++x,st,by rw [h1,List.append_assoc],h2,h3⟩
theorem SOk.here {row:List Int} {st:List PG.It} (h:PG.Goes PG.st0 row st) (hs:Sst (iS row) st):SOk row row.length:=⟨row,[],st,by simp,rfl,h,hs⟩
theorem EOk.here {row:List Int} {st:List PG.It} (h:PG.Goes PG.st0 row st) (hs:Est st):EOk row row.length:=⟨row,[],st,by simp,rfl,h,hs⟩
theorem zX (ls:List PG.It) (hl:ls.all PG.nl=true) (ks:List Bool):Est (ls++PG.out ks):=by
 cases ks with
 |nil=>exact ⟨ls,[],hl,rfl,.inl rfl⟩
 |cons r ks=>exact ⟨ls,_,hl,rfl,.inr ⟨_,_,rfl,by cases r<;>simp⟩⟩
noncomputable def Lst (B:Bd):Prop:=match B.frs with
 |[]=>True
 |f ::_=>f.items=[] -> iS B.row=some (if f.k then 91 else 123)
theorem Ab (ns:List Int) (B:Bd) (n:Int) (hd:B.frs.length <= 60) (hj:Jn B) (hL:Lst B) (hF:inF B.frs=true):
  (∃ st,PG.Goes PG.st0 (eD B.frs B.row n) st /\ Sst (iS (eD B.frs B.row n)) st) /\ ∃ st',PG.Goes PG.st0 (eD B.frs B.row n++PG.txt (iU ns n)) (.bf ::.sp 58 58 ::.bf ::.value ::st') /\ PG.cnt st' <= 64:=by
 unfold Jn at hj
 unfold Lst at hL
 unfold eD
 cases e:B.frs with
 |nil=>rw [e] at hF; simp [inF] at hF
 | cons f fs=>
   rw [e] at hj hd hF hL
   simp only [List.length_cons] at hd
   obtain ⟨h1,h2⟩:=hj
   have hk:f.k=false:=by simpa [inF] using hF
   have hks:(ks fs).length<64:=by unfold ks; rw [List.length_map]; omega
   have hcv:PG.cnt (.value ::PG.out (false ::ks fs)) <= 64:=by rw [PG.cnt_cons,PG.gV]; simp [PG.opn]; omega
   have hco:PG.cnt (PG.out (false ::ks fs)) <= 64:=by rw [PG.cnt_cons] at hcv; simpa [PG.opn] using hcv
   have hcs:PG.cnt (.sp 58 58 ::.bf ::.value ::PG.out (false ::ks fs)) <= 64:=by rw [PG.cnt_cons,PG.cnt_cons]; simpa [PG.opn] using hcv
   have hcn:PG.cnt (.name ::.bf ::.sp 58 58 ::.bf ::.value ::PG.out (false ::ks fs)) <= 64:=by rw [PG.cnt_cons,PG.cnt_cons]; simpa [PG.opn] using hcs
   simp only [full]
   replace hL:f.items=[] -> iS B.row=some (if f.k then 91 else 123):=hL
   rw [hk] at h1 h2 hL
   by_cases hi:f.items=[]
   . have hie:f.items.isEmpty=true:=by rw [hi]; rfl
     simp only [hie,Bool.not_true,Bool.false_eq_true,if_false,List.append_nil]
     have h3:=(h2 hi).trans (PG.cN (oz false true (ks fs) hks) (lwh (n/3)) (cu _))
     refine ⟨⟨_,h3,.inl ⟨?_,ks fs,hks,rfl⟩⟩,_,h3.trans (rG (PG.sY hks (iU ns n) (qX ns n))),hco⟩
     rw [j1 _ _ (cu _)]
     simpa using hL hi
   . have hie:f.items.isEmpty = false:=by
      cases q:f.items with
      |nil=>exact absurd q hi
      |cons _ _=>rfl
     simp only [hie,Bool.not_false,if_true]
     rw [hie] at h1
     have h3:=h1.bf (oz false false (ks fs) hks) (cu (n/3))
     have h4:=(PG.Gs.qS h3 hks).trans (PG.cN hcn (lwh (n/11)) (cu _))
     have h5:=h4.trans (rG (PG.vS (by rw [PG.cnt_cons]; simpa [PG.opn] using hcs) (iU ns n) (qX ns n)))
     rw [List.append_assoc _ [44] _] at h4 h5
     refine ⟨⟨_,h4,.inr ⟨?_,_,_,rfl,.inr (.inr rfl)⟩⟩,_,h5,hco⟩
     rw [uy _ _ _ (by rfl) (cu _)]
     simp
theorem Dl (ns:List Int) (B:Bd) (n:Int) (hd:B.frs.length <= 60) (hj:Jn B) (hL:Lst B) (hne:B.frs≠[]):
  ∃ st,PG.Goes PG.st0 (aQ ns B n) st /\ Sst (iS (aQ ns B n)) st:=by
 cases hF:inF B.frs with
 | true=>
   obtain ⟨_,st',h1,hc⟩:=Ab ns B n hd hj hL hF
   have hcv:PG.cnt (.value ::st') <= 64:=by rw [PG.cnt_cons]; simpa [PG.opn] using hc
   have h5:=h1.trans (PG.qq hcv (cu (n/19)))
   have h6:=h5.trans (PG.cN hcv (lwh (n/23)) (cu _))
   have e:aQ ns B n=eD B.frs B.row n++PG.txt (iU ns n)++lwh (n/19)++58 ::lwh (n/23):=by
    unfold aQ nv; rw [if_pos hF]; simp
   rw [e]
   refine ⟨_,by simpa using h6,.inr ⟨?_,_,_,rfl,.inl rfl⟩⟩
   rw [uy _ _ _ (by rfl) (cu _)]
   simp
 | false=>
   unfold Jn at hj
   unfold Lst at hL
   unfold aQ eD
   rw [hF]
   cases e:B.frs with
   |nil=>exact absurd e hne
   | cons f fs=>
     rw [e] at hj hd hF hL
     simp only [List.length_cons] at hd
     obtain ⟨h1,h2⟩:=hj
     have hk:f.k=true:=by simpa [inF] using hF
     have hks:(ks fs).length<64:=by unfold ks; rw [List.length_map]; omega
     have hcv:PG.cnt (.value ::PG.out (true ::ks fs)) <= 64:=by rw [PG.cnt_cons,PG.gV]; simp [PG.opn]; omega
     simp only [full,Bool.false_eq_true,if_false]
     replace hL:f.items=[] -> iS B.row=some (if f.k then 91 else 123):=hL
     rw [hk] at h1 h2 hL
     by_cases hi:f.items=[]
     . have hie:f.items.isEmpty=true:=by rw [hi]; rfl
       simp only [hie,Bool.not_true,Bool.false_eq_true,if_false,List.append_nil]
       have h3:=(h2 hi).trans (PG.cN (oz true true (ks fs) hks) (lwh (n/3)) (cu _))
       refine ⟨_,h3,.inr ⟨?_,_,_,rfl,.inr (.inl rfl)⟩⟩
       rw [j1 _ _ (cu _),hL hi]
       simp
     . have hie:f.items.isEmpty = false:=by
        cases q:f.items with
        |nil=>exact absurd q hi
        |cons _ _=>rfl
       simp only [hie,Bool.not_false,if_true]
       rw [hie] at h1
       have h3:=h1.bf (oz true false (ks fs) hks) (cu (n/3))
       have h4:=(PG.Gs.vJ h3 hks).trans (PG.cN hcv (lwh (n/11)) (cu _))
       rw [List.append_assoc _ [44] _] at h4
       refine ⟨_,h4,.inr ⟨?_,_,_,rfl,.inl rfl⟩⟩
       rw [uy _ _ _ (by rfl) (cu _)]
       simp
structure qG (ns:List Int) (B:Bd):Prop where
 b:ot ns B
 l:Lst B
 n:∀ (j:Nat) d,B.nodes[j]?=some d -> SOk B.row d.a /\ (EOk B.row d.b \/ ∃ f∈B.frs,f.i=j)
theorem xC {f:Fr} {nm:List Int} {v:PV}:∀ {fs:List Fr},f∈fs -> ∃ g∈iR nm v fs,g.i=f.i
 |[],h=>absurd h (by simp)
 | g ::gs,h=>by
   rcases List.mem_cons.mp h with z|z
   . exact ⟨_,List.mem_cons_self,by rw [z]⟩
   . exact ⟨f,List.mem_cons_of_mem _ z,rfl⟩
theorem xm (B:Bd) (row:List Int) (nds:List Nd) (nm:List Int) (v v':PV) (fs:List Fr):Lst ⟨row,nds,iR nm v fs,v'⟩:=by
 unfold Lst
 cases fs with
 |nil=>trivial
 |cons g gs=>intro z; simp at z
theorem qG.close {ns:List Int} {B:Bd} {k:Nat} (h:qG ns B) (hk:Bok B k) (hne:B.frs≠[]) (hd:k <= 60):qG ns B.close:=by
 have hdep:=hk.dep
 refine ⟨h.b.close hk hne hd,?_,?_⟩
 . unfold Bd.close
   cases e:B.frs with
   |nil=>exact absurd e hne
   |cons f fs=>exact xm B _ _ _ _ _ _
 . have hn:=h.n
   have hj:=h.b.jn
   unfold Jn at hj
   unfold Bd.close
   cases e:B.frs with
   |nil=>exact absurd e hne
   | cons f fs=>
     rw [e] at hn hj hdep
     simp only [List.length_cons] at hdep
     have hg:=PG.Gs.close f.k f.items.isEmpty hj.1 (by unfold ks; rw [List.length_map]; omega)
     have hE:EOk (B.row++[brk f.k]) (B.row.length+1):=by
      have:=EOk.here hg (zX [] rfl (ks fs))
      simpa [brk] using this
     have key:∀ (j:Nat) d,(B.nodes.modify f.i fun d=>{ d with b:=B.row.length+1,c:=B.nodes.length })[j]?=some d -> SOk (B.row++[brk f.k]) d.a /\ (EOk (B.row++[brk f.k]) d.b \/ ∃ g∈iR f.nm (.tup [kS f.k,.tup f.items]) fs,g.i=j):=by
      intro j d hd
      rw [List.getElem?_modify] at hd
      by_cases hji:f.i=j
      . cases q:B.nodes[j]? with
        |none=>rw [q] at hd; simp at hd
        | some d0=>
          rw [q] at hd
          simp [hji] at hd
          have:=(hn j d0 q).1
          rw [<- hd]
          exact ⟨this.app _,.inl hE⟩
      . cases q:B.nodes[j]? with
        |none=>rw [q] at hd; simp at hd
        | some d0=>
          rw [q] at hd
          simp [hji] at hd
          obtain ⟨s1,s2⟩:=hn j d0 q
          rw [<- hd]
          refine ⟨s1.app _,?_⟩
          rcases s2 with z|⟨g,hg,hgi⟩
          . exact .inl (z.app _)
          . rcases List.mem_cons.mp hg with w|w
            . rw [w] at hgi; exact absurd hgi hji
            . obtain ⟨g',h1,h2⟩:=xC w
              exact .inr ⟨g',h1,by rw [h2,hgi]⟩
     simp only
     intro j d hd
     split at hd
     . rw [List.getElem?_modify] at hd
       cases q:(B.nodes.modify f.i fun d=>{ d with b:=B.row.length+1,c:=B.nodes.length })[j]? with
       |none=>rw [q] at hd; simp at hd
       | some d0=>
         have:=key j d0 q
         rw [q] at hd
         simp at hd
         rw [<- hd]
         split<;>exact this
     . exact key j d hd
theorem AH (ns:List Int) (B:Bd) (n:Int):Lst (B.opn ns n):=by
 intro _
 show iS (aQ ns B n++[if n/5%2=0 then 91 else 123])=some (if decide (n/5%2=0)=true then 91 else 123)
 rw [vP]
 . simp
 . split<;>rfl
theorem Bk (ns:List Int) (B:Bd) (n:Int):∃ x,aQ ns B n=B.row++x:=by
 unfold aQ eD
 split
 . exact ⟨_,by simp only [List.append_assoc]; rfl⟩
 . exact ⟨_,by simp only [List.append_assoc]; rfl⟩
theorem LA {ns:List Int} {B:Bd} (h:qG ns B) (n:Int) (hd:B.frs.length <= 60):∀ (j:Nat) d,(bq ns B n)[j]?=some d -> SOk (aQ ns B n) d.a /\ (EOk (aQ ns B n) d.b \/ ∃ f∈B.frs,f.i=j):=by
 intro j d hj
 obtain ⟨x,hx⟩:=Bk ns B n
 have old:∀ (j:Nat) d,B.nodes[j]?=some d -> SOk (aQ ns B n) d.a /\ (EOk (aQ ns B n) d.b \/ ∃ f∈B.frs,f.i=j):=fun j d q=>by
  obtain ⟨h1,h2⟩:=h.n j d q
  rw [hx]
  exact ⟨h1.app _,h2.elim (fun z=>.inl (z.app _)) .inr⟩
 unfold bq at hj
 cases hF:inF B.frs with
 |false=>rw [hF] at hj; exact old j d hj
 | true=>
   rw [hF,if_pos rfl] at hj
   by_cases hlt:j<B.nodes.length
   . rw [List.getElem?_append_left hlt] at hj
     exact old j d hj
   . rw [List.getElem?_append_right (by omega)] at hj
     have hz:j - B.nodes.length=0:=by
      rcases Nat.eq_zero_or_pos (j - B.nodes.length) with z|z
      . exact z
      . rw [List.getElem?_eq_none (by simp; omega)] at hj; cases hj
     rw [hz] at hj
     simp at hj
     rw [<- hj]
     obtain ⟨⟨st,g1,g2⟩,st',g3,g4⟩:=Ab ns B n hd h.b.jn h.l hF
     have e:aQ ns B n=eD B.frs B.row n++PG.txt (iU ns n)++nv ns n:=by unfold aQ; rw [if_pos hF]
     rw [e]
     refine ⟨?_,.inl ?_⟩
     . exact ((SOk.here g1 g2).app _).app _
     . have:=(EOk.here g3 ⟨[],_,rfl,rfl,.inr ⟨_,_,rfl,.inr (.inr rfl)⟩⟩).app (nv ns n)
       simpa using this
theorem Aj {l:List Nd} {x d:Nd} {j:Nat} (h:(l++[x])[j]?=some d):(l[j]?=some d /\ j<l.length) \/ (j=l.length /\ d=x):=by
 by_cases hlt:j<l.length
 . rw [List.getElem?_append_left hlt] at h
   exact .inl ⟨h,hlt⟩
 . rw [List.getElem?_append_right (by omega)] at h
   have hz:j - l.length=0:=by
    rcases Nat.eq_zero_or_pos (j - l.length) with z|z
    . exact z
    . rw [List.getElem?_eq_none (by simp; omega)] at h; cases h
   rw [hz] at h
   simp at h
   exact .inr ⟨by omega,h.symm⟩
theorem F7 {ns:List Int} {B:Bd} {n:Int} (hb:∀ (j:Nat) d,(bq ns B n)[j]?=some d -> SOk (aQ ns B n) d.a /\ (EOk (aQ ns B n) d.b \/ ∃ f∈B.frs,f.i=j)) (hv:∃ st,PG.Goes PG.st0 (aQ ns B n) st /\ Sst (iS (aQ ns B n)) st):
  ∀ (j:Nat) d,(B.opn ns n).nodes[j]?=some d -> SOk (B.opn ns n).row d.a /\ (EOk (B.opn ns n).row d.b \/ ∃ f∈(B.opn ns n).frs,f.i=j):=by
 intro j d hj
 unfold Bd.opn at *
 simp only at hj ⊢
 rcases Aj hj with ⟨q,_⟩|⟨q1,q2⟩
 . obtain ⟨h1,h2⟩:=hb j d q
   refine ⟨h1.app _,h2.elim (fun z=>.inl (z.app _)) fun ⟨f,z1,z2⟩=>.inr ⟨f,List.mem_cons_of_mem _ z1,z2⟩⟩
 . obtain ⟨st,g1,g2⟩:=hv
   rw [q2]
   exact ⟨(SOk.here g1 g2).app _,.inr ⟨_,List.mem_cons_self,q1.symm⟩⟩
theorem C5 {ns:List Int} {B:Bd} {n:Int} (hb:∀ (j:Nat) d,(bq ns B n)[j]?=some d -> SOk (aQ ns B n) d.a /\ (EOk (aQ ns B n) d.b \/ ∃ f∈B.frs,f.i=j)) (hv:∃ st,PG.Goes PG.st0 (aQ ns B n) st /\ Sst (iS (aQ ns B n)) st) (hr:Rdy (aQ ns B n) (ks B.frs)) (hd:B.frs.length <= 60):
  ∀ (j:Nat) d,(B.leaf ns n).nodes[j]?=some d -> SOk (B.leaf ns n).row d.a /\ (EOk (B.leaf ns n).row d.b \/ ∃ f∈(B.leaf ns n).frs,f.i=j):=by
 have hE:EOk (aQ ns B n++PG.lfb (fI ns n)) (aQ ns B n++PG.lfb (fI ns n)).length:=by
  obtain ⟨b,bs,hb⟩:=zZ (fI ns n) (tV ns n)
  have hc:PG.cnt (PG.out (ks B.frs)) <= 64:=by rw [PG.gV]; unfold ks; rw [List.length_map]; omega
  obtain ⟨ls,hl,h1⟩:=PG.Az hc (fI ns n) (tV ns n)
  rw [hb] at h1
  have h2:=hr _ _ _ h1
  rw [<- hb] at h2
  exact EOk.here h2 (zX ls hl _)
 have key:∀ (j:Nat) d,(bq ns B n++[⟨lfK (fI ns n),(aQ ns B n).length,(aQ ns B n++PG.lfb (fI ns n)).length,(bq ns B n).length+1⟩])[j]?=some d -> SOk (aQ ns B n++PG.lfb (fI ns n)) d.a /\ (EOk (aQ ns B n++PG.lfb (fI ns n)) d.b \/ ∃ f∈iR (cq ns B n) (lfV ns n) B.frs,f.i=j):=by
  intro j d hj
  rcases Aj hj with ⟨q,_⟩|⟨q1,q2⟩
  . obtain ⟨h1,h2⟩:=hb j d q
    refine ⟨h1.app _,h2.elim (fun z=>.inl (z.app _)) fun ⟨f,z1,z2⟩=>?_⟩
    obtain ⟨g',w1,w2⟩:=xC (nm:=cq ns B n) (v:=lfV ns n) z1
    exact .inr ⟨g',w1,by rw [w2,z2]⟩
  . obtain ⟨st,g1,g2⟩:=hv
    rw [q2]
    exact ⟨(SOk.here g1 g2).app _,.inl hE⟩
 intro j d hj
 unfold Bd.leaf at *
 simp only at hj ⊢
 split at hj
 . rw [List.getElem?_modify] at hj
   revert hj
   cases q:(bq ns B n++[⟨lfK (fI ns n),(aQ ns B n).length,(aQ ns B n++PG.lfb (fI ns n)).length,(bq ns B n).length+1⟩])[j]? with
   |none=>intro hj; simp at hj
   | some d0=>
     intro hj
     have:=key j d0 q
     simp at hj
     rw [<- hj]
     split<;>exact this
 . exact key j d hj
theorem qG.step {ns:List Int} {B:Bd} {k:Nat} (h:qG ns B) (hk:Bok B k) (hd:k <= 50) (h0:k≠0):qG ns (B.step ns k):=by
 have hdep:=hk.dep
 have hb:=h.b.step hk hd h0
 by_cases hc:B.frs.isEmpty=false /\ PG.mix ns k%5=1
 . have e:B.step ns k=Bd.close { B with row:=B.row++lwh (PG.mix ns k/3) }:=by unfold Bd.step; rw [if_pos hc]
   have hne:B.frs≠[]:=by intro z; rw [z] at hc; simp at hc
   rw [e]
   refine qG.close (k:=k+1) (B:={ B with row:=B.row++lwh (PG.mix ns k/3) }) ⟨⟨h.b.jn.bf (by omega) _ (cu _),h.b.lo,fun z=>absurd z hne⟩,?_,?_⟩ ⟨?_,?_,?_,?_⟩ hne (by omega)
   . have:=h.l
     unfold Lst at this ⊢
     simp only
     rw [j1 _ _ (cu _)]
     exact this
   . intro j d q
     obtain ⟨h1,h2⟩:=h.n j d q
     exact ⟨h1.app _,h2.elim (fun z=>.inl (z.app _)) .inr⟩
   . have:=fi (PG.mix ns k/3); have:=hk.row; simp; omega
   . have:=hk.nodes; simp; omega
   . exact FOk.mono (Nat.le_refl _) (Nat.le_succ _) hk.frs
   . simp; omega
 . by_cases hc2:B.frs.isEmpty=false \/ k=0
   . have hne:B.frs ≠ []:=by
      intro z; rw [z] at hc2; simp at hc2; exact h0 hc2
     have hr:=DN ns B (PG.mix ns k) (by omega) h.b.jn hne
     have hv:=Dl ns B (PG.mix ns k) (by omega) h.b.jn h.l hne
     have hn:=LA h (PG.mix ns k) (by omega)
     by_cases hc3:PG.mix ns k%5>2 \/ (k=0 /\ PG.mix ns k%9>0)
     . have e:B.step ns k=B.opn ns (PG.mix ns k):=by unfold Bd.step; rw [if_neg hc,if_pos hc2,if_pos hc3]
       rw [e] at hb ⊢
       exact ⟨hb,AH _ _ _,F7 hn hv⟩
     . have e:B.step ns k=B.leaf ns (PG.mix ns k):=by unfold Bd.step; rw [if_neg hc,if_pos hc2,if_neg hc3]
       rw [e] at hb ⊢
       exact ⟨hb,xm B _ _ _ _ _ _,C5 hn hv hr (by omega)⟩
   . have e:B.step ns k=B:=by unfold Bd.step; rw [if_neg hc,if_neg hc2]
     rw [e]; exact h
theorem qG.first (ns:List Int):qG ns (bd0.step ns 0):=by
 have hb:=ot.first ns
 have hr:=AQ ns bd0 (PG.mix ns 0) rfl rfl
 have hd:bd0.frs.length <= 60:=by simp [bd0]
 have er:aQ ns bd0 (PG.mix ns 0)=lwh (PG.mix ns 0/3):=by simp [aQ,eD,bd0,inF,full]
 have en:bq ns bd0 (PG.mix ns 0)=[]:=by simp [bq,bd0,inF]
 have hn:∀ (j:Nat) d,(bq ns bd0 (PG.mix ns 0))[j]?=some d -> SOk (aQ ns bd0 (PG.mix ns 0)) d.a /\ (EOk (aQ ns bd0 (PG.mix ns 0)) d.b \/ ∃ f∈bd0.frs,f.i=j):=by
  intro j d q; rw [en] at q; simp at q
 have hv:∃ st,PG.Goes PG.st0 (aQ ns bd0 (PG.mix ns 0)) st /\ Sst (iS (aQ ns bd0 (PG.mix ns 0))) st:=by
  rw [er]
  refine ⟨_,PG.cN (st:=[.value,.bf]) (by decide) _ (cu _),.inr ⟨?_,_,_,rfl,.inl rfl⟩⟩
  have:=j1 [] _ (cu (PG.mix ns 0/3))
  rw [List.nil_append] at this
  rw [this]
  simp [iS]
 by_cases hc3:PG.mix ns (0:Nat)%5>2 \/ (0=0 /\ PG.mix ns (0:Nat)%9>0)
 . have e:bd0.step ns 0=bd0.opn ns (PG.mix ns 0):=by unfold Bd.step; rw [if_neg (by simp [bd0]),if_pos (.inr rfl),if_pos hc3]; rfl
   rw [e] at hb ⊢
   exact ⟨hb,AH _ _ _,F7 hn hv⟩
 . have e:bd0.step ns 0=bd0.leaf ns (PG.mix ns 0):=by unfold Bd.step; rw [if_neg (by simp [bd0]),if_pos (.inr rfl),if_neg hc3]; rfl
   rw [e] at hb ⊢
   exact ⟨hb,xm bd0 _ _ _ _ _ _,C5 hn hv hr hd⟩
theorem yg (ns:List Int):∀ (j i:Nat) (B:Bd),qG ns B -> Bok B i -> i≠0 -> i+j <= 50 -> qG ns (bld ns B i j)
 |0,_,_,h,_,_,_=>h
 |j+1,i,B,h,hk,h0,hj=>yg ns j (i+1) _ (h.step hk (by omega) h0) (hk.step ns) (by omega) (by omega)
theorem xZ (ns:List Int):∀ (j:Nat) (B:Bd) (k:Nat),qG ns B -> Bok B k -> k+j <= 60 -> B.frs.length=j -> qG ns (cls B j) /\ (cls B j).frs=[]
 |0,B,k,h,_,_,hj=>⟨h,List.length_eq_zero_iff.mp hj⟩
 | j+1,B,k,h,hk,hkj,hj=>by
   have hne:B.frs≠[]:=by intro z; rw [z] at hj; simp at hj
   have hb:=hk.close [] (by simp)
   rw [show ({ B with row:=B.row++[] }:Bd)=B by cases B; simp] at hb
   exact xZ ns j B.close (k+1) (h.close hk hne (by omega)) hb (by omega) (by rw [sI]; omega)
theorem zO (ns:List Int) (m:Nat) (h1:1 <= m) (hm:m <= 20):(∀ d∈(kW ns m).nodes,SOk (kW ns m).row d.a /\ EOk (kW ns m).row d.b) /\ (kW ns m).nodes≠[] /\ (kW ns m).row.length <= 800*m+3 /\ (kW ns m).nodes.length <= 4*m:=by
 obtain ⟨m,rfl⟩:∃ j,m=j+1:=⟨m - 1,by omega⟩
 have hok:=xb ns (m+1) 0 bd0 sF
 have h:=yg ns m 1 (bd0.step ns 0) (qG.first ns) (sF.step ns) (by omega) (by omega)
 have hd:=hok.dep
 have hc:=xZ ns (bld ns bd0 0 (m+1)).frs.length (bld ns bd0 0 (m+1)) (0+(m+1)) h hok (by omega) rfl
 have hr:=(wH (bld ns bd0 0 (m+1)).frs.length _ _ hok)
 have h1:=hr.row
 have h2:=hr.nodes
 have hw:=fi (PG.mix ns 61)
 refine ⟨fun d hd=>?_,?_,?_,Nat.le_trans h2 (by omega)⟩
 . obtain ⟨j,hj⟩:=List.mem_iff_getElem?.mp hd
   obtain ⟨z1,z2⟩:=hc.1.n j d hj
   refine ⟨z1.app _,?_⟩
   rcases z2 with z|⟨f,hf,_⟩
   . exact z.app _
   . rw [hc.2] at hf; cases hf
 . obtain ⟨d,ds,hnd,_⟩:=(hc.1.b.fin hc.2).nd
   unfold kW
   simp only
   rw [hnd]
   simp
 . unfold kW
   simp only [List.length_append]
   omega
theorem Ba {l:Option Int} {st:List PG.It} (h:Sst l st) {w:Int} (hw:w=44 \/ w=58 \/ w=125 \/ w=43 \/ w=46 \/ w=65 \/ w=0 \/ w=31 \/ w=128 \/ w=255 \/ w=39 \/ w=35) (hx:¬ (w=125 /\ l=some 123)):(PG.gon st w).2=false:=by
 have hwh:PG.bh .bf w=none:=by rcases hw with z|z|z|z|z|z|z|z|z|z|z|z<;>subst z<;>rfl
 rcases h with ⟨h1,ks,_,rfl⟩|⟨_,it,st',rfl,hit⟩
 . have h125:w≠125:=fun z=>hx ⟨z,h1⟩
   have hf:PG.bh .fields w=none:=by
    rcases hw with z|z|z|z|z|z|z|z|z|z|z|z<;>subst z<;>first|rfl|exact absurd rfl h125
   simp [PG.gon,hwh,hf,PG.loose]
 . have hf:PG.bh it w = none:=by
    rcases hit with z|z|z<;>subst z<;>rcases hw with z|z|z|z|z|z|z|z|z|z|z|z<;>subst z<;>rfl
   have hl:PG.loose it=false:=by rcases hit with z|z|z<;>subst z<;>rfl
   have hw':PG.loose .bf=true:=rfl
   simp only [PG.gon,hwh,hf,hl,hw',if_true,Bool.false_eq_true,if_false]
theorem Ef {st:List PG.It} (h:Est st) {w:Int} (hw:w=34 \/ w=91 \/ w=123 \/ w=65 \/ w=39 \/ w=35 \/ w=0 \/ w=200):(PG.gon st w).2=false:=by
 obtain ⟨ls,st',hl,rfl,h⟩:=h
 have hb:∀ it,(it=.bf \/ PG.nl it=true \/ it=.mrow \/ it=.mfields \/ it=.sp 58 58) -> PG.bh it w=none:=by
  intro it hit
  have hit':it=.bf \/ it=.figures \/ it=.fraction \/ it=.exponent \/ it=.mrow \/ it=.mfields \/ it=.sp 58 58:=by
   rcases hit with z|z|z
   . exact .inl z
   . cases it<;>simp [PG.nl] at z<;>simp
   . simp [z]
  rcases hit' with z|z|z|z|z|z|z<;>subst z<;>rcases hw with z|z|z|z|z|z|z|z<;>subst z<;>rfl
 have hbase:(PG.gon (.bf ::st') w).2=false:=by
  have h1:=hb .bf (.inl rfl)
  rcases h with z|⟨it,st2,z,hit⟩
  . subst z; simp [PG.gon,h1,PG.loose]
  . subst z
    have h2:=hb it (.inr (.inr hit))
    have hlo:PG.loose it=false:=by rcases hit with z|z|z<;>subst z<;>rfl
    have hw':PG.loose .bf=true:=rfl
    simp only [PG.gon,h1,h2,hlo,hw',if_true,Bool.false_eq_true,if_false]
 induction ls with
 |nil=>exact hbase
 | cons it ls ih=>
   rw [List.all_cons,Bool.and_eq_true] at hl
   have h1:=hb it (.inr (.inl hl.1))
   have hlo:PG.loose it=true:=by
    cases it<;>simp [PG.nl] at hl<;>rfl
   have:=ih hl.2
   simp only [List.cons_append,PG.gon,h1,hlo,if_true]
   exact this
theorem Ct {P R:List Int} {w:Int} {st:List PG.It} (h:PG.Goes PG.st0 P st) (hg:(PG.gon st w).2=false):PG.flt (P++w ::R)=some P.length:=by
 have h1:=h (w ::R)
 have h2:(PG.tk st (w ::R)).2=0:=by unfold PG.tk; rw [hg]; rfl
 unfold PG.flt
 rw [h1]
 simp only [h2,Nat.zero_add]
 rw [if_neg]
 intro z
 have:=z.1
 simp at this
theorem yy (P R:List Int):xn ((P++R).map .int) none (some (P.length:Int))=P.map .int:=by
 have h1:rK ((P++R).map PV.int).length 0 none=0:=rfl
 have h2:rK ((P++R).map PV.int).length ((P++R).map PV.int).length (some (P.length:Int))=P.length:=by
  have:¬ ((P.length:Int)<0):=by omega
  simp [rK,this]
 unfold xn
 rw [h1,h2]
 simp
theorem CZ (P R:List Int):xn ((P++R).map .int) (some (P.length:Int)) none=R.map .int:=by
 have h1:rK ((P++R).map PV.int).length 0 (some (P.length:Int))=P.length:=by
  have:¬ ((P.length:Int)<0):=by omega
  simp [rK,this]
 have h2:rK ((P++R).map PV.int).length ((P++R).map PV.int).length none=(P++R).length:=by simp [rK]
 unfold xn
 rw [h1,h2]
 simp
 exact List.take_of_length_le (by simp)
theorem kQ {mc:ah -> OT} {me:ah -> OE} {ρ:ah} {α:Type} {g:α -> PV} (p:α -> Bool):∀ l:List α,(∀ a∈l,mc (ρ++[some (.sh (g a))])=.ok (p a)) -> (∀ a∈l,me (ρ++[some (.sh (g a))])=.ok (.sh (g a))) -> fV mc me ρ (l.map g)=.ok ((l.filter p).map g)
 |[],_,_=>rfl
 | a ::l,hc,he=>by
   have ih:=kQ p l (fun a h=>hc a (List.mem_cons_of_mem _ h)) (fun a h=>he a (List.mem_cons_of_mem _ h))
   have h1:=hc a List.mem_cons_self
   have h2:=he a List.mem_cons_self
   rw [List.map_cons]
   unfold fV
   rw [h1,h2]
   cases hp:p a with
   |false=>simp [hp,ih]
   |true=>simp [hp,ih,mf]
theorem JL (xs:List Nd) (i:Int) (h0:0 <= i) (h1:i<xs.length):∃ d∈xs,atP (xs.map ndP) i=some (ndP d):=by
 obtain ⟨n,rfl⟩:∃ n:Nat,i=n:=⟨i.toNat,by omega⟩
 have hn:n<xs.length:=by omega
 refine ⟨xs[n],List.getElem_mem hn,?_⟩
 unfold atP ixP
 simp [hn]
theorem Gx (ns:List Int) (ρ:ah) (k:Int) (e:ah -> OE) (r:RV) (xs:List Nd) (h0:ρ[0]?=some (some (.sh (.lst (ns.map .int))))) (he:e ρ=.ok r) (hr:r.pv=.lst (xs.map ndP)) (hx:xs≠[]) (hl:xs.length <= 1000):
  ∃ d∈xs,mOp jX e (mOp b5 (bp b4 (aj (ao 0) (aj (mC (.int k)) aG))) (mUn qQ e)) ρ=.ok (.sh (ndP d)):=by
 have hpos:0<xs.length:=by cases xs with|nil=>exact absurd rfl hx|cons _ _=>simp
 have z1:¬ ((xs.length:Int)=0):=by omega
 have z2:0<(xs.length:Int):=by omega
 have z3:(xs.length:Int)<1073741824:=by omega
 obtain ⟨d,hd,ha⟩:=JL xs (PG.mix ns k%xs.length) (Int.emod_nonneg _ (by omega)) (Int.emod_lt_of_pos _ (by omega))
 refine ⟨d,hd,?_⟩
 have e0:ao 0 ρ=.ok (.sh (.lst (ns.map .int))):=by simp [h0]
 have e1:mUn qQ e ρ=.ok (.sh (.int xs.length)):=by simp [he,hr,qQ]
 have e2:mOp b5 (bp b4 (aj (ao 0) (aj (mC (.int k)) aG))) (mUn qQ e) ρ=.ok (.sh (.int (PG.mix ns k%xs.length))):=by
  simp -implicitDefEqProofs [e0,e1,bX,z1,z2,z3,he,hr,qQ,h0,hx]
 unfold mOp at e2 ⊢
 rw [he,e2]
 simp [hr,jX,ha]
theorem Ij (r:Int) (h0:0 <= r) (h1:r<12):∃ w,(w=44 \/ w=58 \/ w=125 \/ w=43 \/ w=46 \/ w=65 \/ w=0 \/ w=31 \/ w=128 \/ w=255 \/ w=39 \/ w=35) /\ atP ([44,58,125,43,46,65,0,31,128,255,39,35].map PV.int) r=some (.int w):=by
 have:r=0 \/ r=1 \/ r=2 \/ r=3 \/ r=4 \/ r=5 \/ r=6 \/ r=7 \/ r=8 \/ r=9 \/ r=10 \/ r=11:=by omega
 rcases this with z|z|z|z|z|z|z|z|z|z|z|z<;>subst z<;>refine ⟨_,?_,rfl⟩<;>decide
theorem Kl (r:Int) (h0:0 <= r) (h1:r<8):∃ w,(w=34 \/ w=91 \/ w=123 \/ w=65 \/ w=39 \/ w=35 \/ w=0 \/ w=200) /\ atP ([34,91,123,65,39,35,0,200].map PV.int) r=some (.int w):=by
 have:r=0 \/ r=1 \/ r=2 \/ r=3 \/ r=4 \/ r=5 \/ r=6 \/ r=7:=by omega
 rcases this with z|z|z|z|z|z|z|z<;>subst z<;>refine ⟨_,?_,rfl⟩<;>decide
theorem AO (s V n4 n5 b8:Option Sl) (n3:Option Sl) (P R:List Int) (w:Int) (hf:PG.flt (P++w ::R)=some P.length) (hl:(P++R).length <= 9000):
  fin (xA [s,V,some (.sh (.lst ((P++R).map .int))),n3,n4,n5,some (.sh (.int P.length)),some (.sh (.int w)),b8,none])=.ok (.sh (.bl true)):=by
 have hfa:=pq (P++w ::R) (by simp at hl ⊢; omega)
 rw [hf] at hfa
 have e1:P.map PV.int++[PV.int w]++R.map PV.int=(P++w ::R).map PV.int:=by simp
 have hlim:(P.map PV.int).length+1 <= lim:=dS (by simp at hl ⊢; omega)
 have hlim2:(P.map PV.int++[PV.int w]).length+(R.map PV.int).length <= lim:=dS (by simp at hl ⊢; omega)
 have ec:mOp gz (mOp gz (kY (ao 2) (mC .non) (gp (ao 6))) (bP (aj (ao 7) aG))) (kY (ao 2) (gp (ao 6)) (mC .non)) [s,V,some (.sh (.lst ((P++R).map .int))),n3,n4,n5,some (.sh (.int P.length)),some (.sh (.int w)),b8,none]=.ok (.fr ((P++w ::R).map .int)):=by
  have a1:kY (ao 2) (mC .non) (gp (ao 6)) [s,V,some (.sh (.lst ((P++R).map .int))),n3,n4,n5,some (.sh (.int P.length)),some (.sh (.int w)),b8,none]=.ok (.fr (P.map .int)):=by
   rw [<- yy P R]; simp -implicitDefEqProofs [kY,Bu,gp,pS]
  have a2:kY (ao 2) (gp (ao 6)) (mC .non) [s,V,some (.sh (.lst ((P++R).map .int))),n3,n4,n5,some (.sh (.int P.length)),some (.sh (.int w)),b8,none]=.ok (.fr (R.map .int)):=by
   rw [<- CZ P R]; simp -implicitDefEqProofs [kY,Bu,gp,pS]
  have a3:mOp gz (kY (ao 2) (mC .non) (gp (ao 6))) (bP (aj (ao 7) aG)) [s,V,some (.sh (.lst ((P++R).map .int))),n3,n4,n5,some (.sh (.int P.length)),some (.sh (.int w)),b8,none]=.ok (.fr (P.map .int++[.int w])):=by
   unfold mOp
   rw [a1]
   have hlim':P.length+1 <= lim:=by simpa using hlim
   simp -implicitDefEqProofs [gz,hlim']
  unfold mOp at a3 ⊢
  rw [a3,a2,<- e1]
  have hlim':P.length+1+R.length <= lim:=by simpa using hlim2
  simp -implicitDefEqProofs [gz,hlim']
 unfold xA
 rw [aZ (ρ':=[s,V,some (.sh (.lst ((P++R).map .int))),n3,n4,n5,some (.sh (.int P.length)),some (.sh (.int w)),b8,some (.sh (.int P.length))]) (by
  revert ec
  generalize mOp gz (mOp gz (kY (ao 2) (mC .non) (gp (ao 6))) (bP (aj (ao 7) aG))) (kY (ao 2) (gp (ao 6)) (mC .non))=E
  intro ec
  simp only [List.map_append,List.map_cons] at ec hfa ⊢
  simp -implicitDefEqProofs [bb,ec,hfa,ofO,mf])]
 simp -implicitDefEqProofs [Ai,lC,yM]
theorem En (l:List Int) (h:l≠[]):∃ b,l.getLast?=some b /\ atP (l.map PV.int) (-1)=some (.int b):=by
 refine ⟨l.getLast h,List.getLast?_eq_some_getLast h,?_⟩
 have hl:0<l.length:=List.length_pos_iff.mpr h
 have h1:ixP (l.map PV.int).length (-1)=some (l.length - 1):=by
  unfold ixP
  rw [if_neg (by omega),List.length_map,if_pos (by omega)]
  congr 1
  omega
 unfold atP
 rw [h1]
 simp [List.getLast_eq_getElem]
noncomputable def lE (ns:List Int) (V:Option Sl) (row:List Int) (d:Nd) (a b c e f g:Option Sl):ah:=[some (.sh (.lst (ns.map .int))),V,some (.sh (.lst (row.map .int))),some (.sh (ndP d)),a,b,c,e,f,g]
theorem Gr (ns:List Int) (V:Option Sl) (P R:List Int) (d:Nd) (a b e f g:Option Sl):kY (ao 2) (mC .non) (gp (ao 6)) (lE ns V (P++R) d a b (some (.sh (.int P.length))) e f g)=.ok (.fr (P.map .int)):=by
 rw [<- yy P R]; simp -implicitDefEqProofs [lE,kY,Bu,gp,pS]
theorem EN (ns:List Int) (V:Option Sl) (P R:List Int) (d:Nd) (a b e g:Option Sl) (hl:P.length <= 9000):bb 8 (jT (kY (ao 2) (mC .non) (gp (ao 6))) [] tX tN) (lE ns V (P++R) d a b (some (.sh (.int P.length))) e none g)=.nx (lE ns V (P++R) d a b (some (.sh (.int P.length))) e (some (.ow ((P.filter fun b=>!PG.wht b).map .int))) g):=by
 have a2:=kQ (mc:=tX) (me:=tN) (ρ:=[]) (g:=PV.int) (fun b=>!PG.wht b) P (fun a _=>by
  simp -implicitDefEqProofs [tX,az,rV,og,PG.wht,fh,kX]
  grind) (fun a _=>by simp [tN])
 have hlim:(P.filter fun b=>!PG.wht b).length <= lim:=dS (by
  have:=List.length_filter_le (fun b=>!PG.wht b) P
  omega)
 unfold bb jT
 rw [Gr]
 simp -implicitDefEqProofs [cY,a2,noX,hlim]
 simp [lE]
theorem EK (ns:List Int) (V:Option Sl) (row:List Int) (d:Nd) (a b c g:Option Sl) (w:Int) (l:List Int):dI (az (mOp gEq (ao 7) (mC (.int 125)))) (dI (de (ao 8)) (az (mOp gEq (mOp jX (ao 8) (mUn gj (mC (.int 1)))) (mC (.int 123))))) (lE ns V row d a b c (some (.sh (.int w))) (some (.ow (l.map .int))) g)=.ok (decide (w=125 /\ l.getLast?=some 123)):=by
 by_cases hw:w=125
 . by_cases hl:l=[]
   . subst hl; simp -implicitDefEqProofs [lE,dI,az,de,hw,pO]
   . obtain ⟨z,h1,h2⟩:=En l hl
     have:(l.map PV.int).isEmpty=false:=by cases l with|nil=>exact absurd rfl hl|cons _ _=>rfl
     rw [h1]
     simp -implicitDefEqProofs [lE,dI,az,de,hw,pO,jX,h2,hl]
 . simp -implicitDefEqProofs [lE,dI,az,hw]
theorem xY (ns:List Int) (V n4:Option Sl) (row:List Int) (d:Nd) (hs:SOk row d.a) (he:EOk row d.b) (hl:row.length <= 9000):
  fin (wq (lE ns V row d n4 none none none none none))=.ok (.sh (.bl true)):=by
 unfold wq
 rw [aZ (ρ':=lE ns V row d n4 (some (.sh (.int (PG.mix ns 59%3)))) none none none none) (by simp [bb,bX,lE])]
 unfold AU
 by_cases h0:PG.mix ns 59%3=0
 . obtain ⟨P,R,st,rfl,ha,hg,hS⟩:=hs
   obtain ⟨w,hw,hat⟩:=Ij (PG.mix ns 58%12) (by omega) (by omega)
   have hP:P.length <= 9000:=by simp at hl; omega
   have e1:bb 6 (mOp gv (ao 3) (mC (.int 1))) (lE ns V (P++R) d n4 (some (.sh (.int (PG.mix ns 59%3)))) none none none none)=.nx (lE ns V (P++R) d n4 (some (.sh (.int (PG.mix ns 59%3)))) (some (.sh (.int P.length))) none none none):=by
    simp [bb,ndP,gv,atP,ixP,ha,lE]
   have e2:bb 7 (mOp jX (bP (aj (mC (.int 44)) (aj (mC (.int 58)) (aj (mC (.int 125)) (aj (mC (.int 43)) (aj (mC (.int 46)) (aj (mC (.int 65)) (aj (mC (.int 0)) (aj (mC (.int 31)) (aj (mC (.int 128)) (aj (mC (.int 255)) (aj (mC (.int 39)) (aj (mC (.int 35)) aG))))))))))))) (mOp b5 (bp b4 (aj (ao 0) (aj (mC (.int 58)) aG))) (mC (.int 12)))) (lE ns V (P++R) d n4 (some (.sh (.int (PG.mix ns 59%3)))) (some (.sh (.int P.length))) none none none)=.nx (lE ns V (P++R) d n4 (some (.sh (.int (PG.mix ns 59%3)))) (some (.sh (.int P.length))) (some (.sh (.int w))) none none):=by
    simp only [List.map_cons,List.map_nil] at hat
    simp [bb,bX,jX,hat,lE]
   have e3:=EN ns V P R d n4 (some (.sh (.int (PG.mix ns 59%3)))) (some (.sh (.int w))) none hP
   have hc:=EK ns V (P++R) d n4 (some (.sh (.int (PG.mix ns 59%3)))) (some (.sh (.int P.length))) none w (P.filter fun b=>!PG.wht b)
   have hc0:az (mOp gEq (ao 5) (mC (.int 0))) (lE ns V (P++R) d n4 (some (.sh (.int (PG.mix ns 59%3)))) none none none none)=.ok true:=by simp [az,lE,h0]
   by_cases hx:w=125 /\ iS P=some 123
   . have hcc:decide (w=125 /\ (P.filter fun b=>!PG.wht b).getLast?=some 123)=true:=decide_eq_true hx
     rw [hcc] at hc
     obtain ⟨hw125,hlb⟩:=hx
     rcases hS with ⟨_,ks,hks,rfl⟩|⟨hn,_⟩
     . have hcl:PG.Goes PG.st0 (P++[125]) (PG.out ks):=hg.trans (.past rfl (PG.Goes.one (it:=.fields) (l:=[]) rfl (by rw [List.nil_append,PG.gV]; omega)))
       have hfa:=pq (P++[125]) (by simp; omega)
       have hne:PG.flt (P++[125])≠some P.length:=by
        have:=hcl []
        rw [List.append_nil] at this
        unfold PG.flt
        rw [this]
        simp only [PG.tk,Nat.zero_add]
        split
        . simp
        . simp
       have hlim:P.length+1 <= lim:=dS (by omega)
       have ecat:mOp gz (kY (ao 2) (mC .non) (gp (ao 6))) (bP (aj (ao 7) aG)) (lE ns V (P++R) d n4 (some (.sh (.int (PG.mix ns 59%3)))) (some (.sh (.int P.length))) (some (.sh (.int w))) (some (.ow ((P.filter fun b=>!PG.wht b).map .int))) none)=.ok (.fr ((P++[125]).map .int)):=by
        unfold mOp
        rw [Gr]
        simp -implicitDefEqProofs [gz,hlim,lE,hw125]
       have eret:bg (mOp gNe (bp kq (aj (mOp gz (kY (ao 2) (mC .non) (gp (ao 6))) (bP (aj (ao 7) aG))) aG)) (ao 6)) (lE ns V (P++R) d n4 (some (.sh (.int (PG.mix ns 59%3)))) (some (.sh (.int P.length))) (some (.sh (.int w))) (some (.ow ((P.filter fun b=>!PG.wht b).map .int))) none)=.rt (lE ns V (P++R) d n4 (some (.sh (.int (PG.mix ns 59%3)))) (some (.sh (.int P.length))) (some (.sh (.int w))) (some (.ow ((P.filter fun b=>!PG.wht b).map .int))) none) (.sh (.bl true)):=by
        revert ecat
        generalize mOp gz (kY (ao 2) (mC .non) (gp (ao 6))) (bP (aj (ao 7) aG))=E
        intro ecat
        have hv6:ao 6 (lE ns V (P++R) d n4 (some (.sh (.int (PG.mix ns 59%3)))) (some (.sh (.int P.length))) (some (.sh (.int w))) (some (.ow ((P.filter fun b=>!PG.wht b).map .int))) none)=.ok (.sh (.int P.length)):=by simp [lE]
        revert ecat hv6
        generalize lE ns V (P++R) d n4 (some (.sh (.int (PG.mix ns 59%3)))) (some (.sh (.int P.length))) (some (.sh (.int w))) (some (.ow ((P.filter fun b=>!PG.wht b).map .int))) none=ρ
        intro ecat hv6
        simp only [List.map_append,List.map_cons,List.map_nil] at ecat hfa
        unfold bg mOp
        rw [hv6]
        cases hq:PG.flt (P++[125]) with
        |none=>rw [hq] at hfa; simp -implicitDefEqProofs [ecat,hfa,ofO,gNe,eqS]
        | some z=>
          rw [hq] at hfa hne
          have hz:¬ z=P.length:=fun y=>hne (by rw [y])
          simp -implicitDefEqProofs [ecat,hfa,ofO,gNe,eqS,hz]
          omega
       rw [Ce (Eq.trans (Ci hc0) (Eq.trans (aZ e1) (Eq.trans (aZ e2) (Eq.trans (aZ e3) (Eq.trans (Ci hc) eret)))))]
       rfl
     . exact absurd hlb hn
   . have hcc:decide (w=125 /\ (P.filter fun b=>!PG.wht b).getLast?=some 123)=false:=decide_eq_false hx
     rw [hcc] at hc
     rw [aZ (Eq.trans (Ci hc0) (Eq.trans (aZ e1) (Eq.trans (aZ e2) (Eq.trans (aZ e3) (Eq.trans (FR hc) (wa _))))))]
     exact AO _ _ _ _ _ _ P R w (Ct hg (Ba hS hw hx)) hl
 . obtain ⟨P,R,st,rfl,ha,hg,hS⟩:=he
   obtain ⟨w,hw,hat⟩:=Kl (PG.mix ns 58%8) (by omega) (by omega)
   have e1:bb 6 (mOp gv (ao 3) (mC (.int 2))) (lE ns V (P++R) d n4 (some (.sh (.int (PG.mix ns 59%3)))) none none none none)=.nx (lE ns V (P++R) d n4 (some (.sh (.int (PG.mix ns 59%3)))) (some (.sh (.int P.length))) none none none):=by
    simp [bb,ndP,gv,atP,ixP,ha,lE]
   have e2:bb 7 (mOp jX (bP (aj (mC (.int 34)) (aj (mC (.int 91)) (aj (mC (.int 123)) (aj (mC (.int 65)) (aj (mC (.int 39)) (aj (mC (.int 35)) (aj (mC (.int 0)) (aj (mC (.int 200)) aG))))))))) (mOp b5 (bp b4 (aj (ao 0) (aj (mC (.int 58)) aG))) (mC (.int 8)))) (lE ns V (P++R) d n4 (some (.sh (.int (PG.mix ns 59%3)))) (some (.sh (.int P.length))) none none none)=.nx (lE ns V (P++R) d n4 (some (.sh (.int (PG.mix ns 59%3)))) (some (.sh (.int P.length))) (some (.sh (.int w))) none none):=by
    simp only [List.map_cons,List.map_nil] at hat
    simp [bb,bX,jX,hat,lE]
   have hc0:az (mOp gEq (ao 5) (mC (.int 0))) (lE ns V (P++R) d n4 (some (.sh (.int (PG.mix ns 59%3)))) none none none none)=.ok false:=by simp [az,lE,h0]
   rw [aZ (Eq.trans (FR hc0) (Eq.trans (aZ e1) e2))]
   exact AO _ _ _ _ _ _ P R w (Ct hg (Ef hS hw)) hl
theorem DG (ns:List Int) (_:ns.length <= 63):vw [.lst (ns.map .int)]=.ok (.sh (.bl true)):=by
 obtain ⟨m,hm⟩:∃ m:Nat,(m:Int)=1+PG.mix ns 62%10:=⟨(1+PG.mix ns 62%10).toNat,by omega⟩
 have hm1:1 <= m:=by omega
 have hm2:m <= 10:=by omega
 obtain ⟨hN,hne,hrl,hnl⟩:=zO ns m hm1 (by omega)
 have hb:=EU ns m (by omega)
 generalize (kW ns m).row=row at *
 generalize (kW ns m).nodes=nds at *
 generalize (kW ns m).val=val at *
 generalize hV:PV.tup [.lst (row.map .int),.lst (nds.map ndP),val]=V at hb
 have v1:∀ (x2 x3 x4 x5 x6 x7 x8 x9:Option Sl),mOp gv (ao 1) (mC (.int 1)) [some (.sh (.lst (ns.map .int))),some (.sh V),x2,x3,x4,x5,x6,x7,x8,x9]=.ok (.sh (.lst (nds.map ndP))):=by
  intro x2 x3 x4 x5 x6 x7 x8 x9
  rw [<- hV]; simp [gv,atP,ixP]
 unfold vw fnP
 rw [if_pos (show List.length [PV.lst (ns.map .int)]=1 from rfl),show kF 10 [PV.lst (ns.map .int)]=[some (.sh (.lst (ns.map .int))),none,none,none,none,none,none,none,none,none] from rfl]
 unfold GK
 rw [aZ (ρ':=[some (.sh (.lst (ns.map .int))),some (.sh V),none,none,none,none,none,none,none,none]) (by
  rw [hm] at hb
  simp [bb,bX,hb])]
 unfold Ay
 rw [aZ (ρ':=[some (.sh (.lst (ns.map .int))),some (.sh V),some (.sh (.lst (row.map .int))),none,none,none,none,none,none,none]) (by
  rw [<- hV]; simp [bb,gv,atP,ixP])]
 unfold AJ
 obtain ⟨d,hd,hix⟩:=Gx ns [some (.sh (.lst (ns.map .int))),some (.sh V),some (.sh (.lst (row.map .int))),none,none,none,none,none,none,none] 60 _ _ nds rfl (v1 _ _ _ _ _ _ _ _) rfl hne (by omega)
 rw [aZ (ρ':=lE ns (some (.sh V)) row d none none none none none none) (by unfold bb; rw [hix]; simp [lE])]
 unfold AX
 have hcomp:=kQ (mc:=wI) (me:=vZ) (ρ:=[]) (g:=ndP) (fun d=>decide (d.s = "name")) nds (fun a _=>by
  simp -implicitDefEqProofs [wI,az,ndP,gv,atP,ixP,gEq,eqS,aK]) (fun a _=>by simp [vZ])
 have hlim:(nds.filter fun d=>decide (d.s = "name")).length <= lim:=dS (by
  have:=List.length_filter_le (fun d:Nd=>decide (d.s = "name")) nds
  omega)
 have hfl:(nds.filter fun d=>decide (d.s = "name")).length <= 1000:=by
  have:=List.length_filter_le (fun d:Nd=>decide (d.s = "name")) nds
  omega
 rw [aZ (ρ':=lE ns (some (.sh V)) row d (some (.ow ((nds.filter fun d=>decide (d.s = "name")).map ndP))) none none none none none) (by
  unfold bb jT lE
  rw [v1]
  simp -implicitDefEqProofs [cY,hcomp,noX,hlim])]
 generalize hnm:nds.filter (fun d=>decide (d.s = "name"))=nms at *
 have hsub:∀ d∈nms,d∈nds:=fun d hd=>by rw [<- hnm] at hd; exact (List.mem_filter.mp hd).1
 unfold AR
 have hc:dI (de (ao 4)) (az (mOp gEq (mOp b5 (bp b4 (aj (ao 0) (aj (mC (.int 57)) aG))) (mC (.int 3))) (mC (.int 0)))) (lE ns (some (.sh V)) row d (some (.ow (nms.map ndP))) none none none none none)=.ok (decide (nms≠[] /\ PG.mix ns 57%3=0)):=by
  by_cases hx:nms=[]
  . simp -implicitDefEqProofs [lE,dI,de,pO,hx]
  . simp -implicitDefEqProofs [lE,dI,de,az,pO,hx,bX]
 by_cases hx:nms≠[] /\ PG.mix ns 57%3=0
 . rw [decide_eq_true hx] at hc
   obtain ⟨d2,hd2,hix2⟩:=Gx ns (lE ns (some (.sh V)) row d (some (.ow (nms.map ndP))) none none none none none) 56 (ao 4) (.al (nms.map ndP)) nms rfl (by simp [lE]) rfl hx.1 hfl
   rw [aZ (ρ':=lE ns (some (.sh V)) row d2 (some (.ow (nms.map ndP))) none none none none none) (Eq.trans (Ci hc) (by unfold bb; rw [hix2]; simp [lE]))]
   exact xY ns _ _ row d2 (hN d2 (hsub d2 hd2)).1 (hN d2 (hsub d2 hd2)).2 (by omega)
 . rw [decide_eq_false hx] at hc
   rw [aZ (Eq.trans (FR hc) (wa _))]
   exact xY ns _ _ row d (hN d hd).1 (hN d hd).2 (by omega)
end L2.plainglass_k06_faults_placed
namespace L2.plainglass_k06_faults_placed
open PySem PySem.Spec PyProof.Rows L2.E L2.P
def top (i:Nat):Stmt:=PySem.Challenge.pw_plainglass_k06_faults_placed.main.body.getD i (.Pass ⟨0,0,0,0⟩)
abbrev wO:Stmt:=top 3
noncomputable abbrev uP:List Str:=["byte"]
theorem DW:aY ["byte"] uP (aC wO):=eN
abbrev i5:Stmt:=top 4
noncomputable abbrev iM:List Str:=["byte"]
theorem qK:aY ["byte"] iM (aC i5):=eN
abbrev jD:Stmt:=top 5
noncomputable abbrev iT:List Str:=["byte"]
theorem qW:aY ["byte"] iT (aC jD):=eN
abbrev qu:Stmt:=top 27
noncomputable abbrev oX:List Str:=["byte"]
theorem yT:aY ["byte"] oX (aC qu):=eN
abbrev oB:Stmt:=top 28
noncomputable abbrev nh:List Str:=["byte"]
theorem wC:aY ["byte"] nh (aC oB):=eN
abbrev oG:Stmt:=top 29
noncomputable abbrev nJ:List Str:=["byte"]
theorem xt:aY ["byte"] nJ (aC oG):=eN
abbrev oZ:Stmt:=top 30
noncomputable abbrev mP:List Str:=["byte"]
theorem xl:aY ["byte"] mP (aC oZ):=eN
abbrev kG:Stmt:=top 31
noncomputable abbrev j7:List Str:=["byte"]
theorem tF:aY ["byte"] j7 (aC kG):=eN
abbrev uf:Stmt:=top 37
noncomputable abbrev sL:List Str:=["item","byte"]
theorem B2:aY ["item","byte"] sL (aC uf):=eN
abbrev kO:Stmt:=top 38
noncomputable abbrev ka:List Str:=["byte"]
theorem nR:aY ["byte","rest"] ka (aC kO):=eN
abbrev lY:Stmt:=top 39
noncomputable abbrev lg:List Str:=["byte"]
theorem u0:aY ["byte"] lg (aC lY):=eN
abbrev iH:Stmt:=top 40
noncomputable abbrev hZ:List Str:=["item","byte"]
theorem pP:aY ["item","byte"] hZ (aC iH):=eN
abbrev jx:Stmt:=top 41
noncomputable abbrev iX:List Str:=["item","byte"]
theorem lI:aY ["item","byte","worth"] iX (aC jx):=eN
abbrev iK:Stmt:=top 42
noncomputable abbrev hJ:List Str:=["byte"]
theorem ki:aY ["byte","spans"] hJ (aC iK):=eN
abbrev iI:Stmt:=top 43
noncomputable abbrev hX:List Str:=["byte"]
theorem pI:aY ["byte"] hX (aC iI):=eN
abbrev kd:Stmt:=top 44
noncomputable abbrev jz:List Str:=["worth"]
theorem mG:aY ["worth","second"] jz (aC kd):=eN
abbrev mN:Stmt:=top 45
noncomputable abbrev mi:List Str:=["item","byte"]
theorem qf:aY ["item","byte","worth"] mi (aC mN):=eN
abbrev gm:Stmt:=top 46
noncomputable abbrev fZ:List Str:=["item","byte"]
theorem nZ:aY ["item","byte"] fZ (aC gm):=eN
abbrev iJ:Stmt:=top 47
noncomputable abbrev g8:List Str:=["byte"]
theorem kj:aY ["byte","items"] g8 (aC iJ):=eN
abbrev gb:Stmt:=top 48
noncomputable abbrev fM:List Str:=["byte"]
theorem mW:aY ["byte"] fM (aC gb):=eN
abbrev mj:Stmt:=top 49
noncomputable abbrev kT:List Str:=[]
theorem u7:aY [] kT (aC mj):=eN
abbrev wy:Stmt:=top 51
noncomputable abbrev ub:List Str:=["row"]
theorem ud:aY ["row","walk","at"] ub (aC wy):=eN
abbrev qA:Stmt:=top 53
noncomputable abbrev n9:List Str:=["_law_script","_law_k"]
theorem xH:aY ["_law_script","_law_k"] n9 (aC qA):=eN
abbrev sN:Stmt:=top 54
noncomputable abbrev qo:List Str:=["_law_script","_law_k"]
theorem qB:aY ["_law_script","_law_k","_law_number_here"] qo (aC sN):=eN
abbrev o6:Stmt:=top 55
noncomputable abbrev nL:List Str:=["_law_found"]
theorem xu:aY ["_law_found"] nL (aC o6):=eN
abbrev oP:Stmt:=top 57
noncomputable abbrev ny:List Str:=["_law_number_here"]
theorem m6:aY ["_law_number_here","_law_kind","_law_rest"] ny (aC oP):=eN
abbrev mQ:Stmt:=top 58
noncomputable abbrev lL:List Str:=["_law_script","_law_k"]
theorem jO:aY ["_law_script","_law_k","_law_number_here","_law_size_here"] lL (aC mQ):=eN
abbrev oK:Stmt:=top 59
noncomputable abbrev mY:List Str:=["_law_point_here"]
theorem gX:aY ["_law_point_here","_law_many_here","_law_found","_law_k"] mY (aC oK):=eN
abbrev sm:Stmt:=top 60
noncomputable abbrev qt:List Str:=["_law_number_here","_law_big"]
theorem iC:aY ["_law_number_here","_law_big","_law_found","_law_k","_law_worth"] qt (aC sm):=eN
abbrev qm:Stmt:=top 61
noncomputable abbrev oH:List Str:=["_law_point_here","_law_number_here"]
theorem lF:aY ["_law_point_here","_law_number_here","_law_short","_law_way","_law_rest"] oH (aC qm):=eN
abbrev qL:Stmt:=top 62
noncomputable abbrev oq:List Str:=["_law_points_here","_law_number_here"]
theorem iN:aY ["_law_points_here","_law_number_here","_law_found","_law_at","_law_point_here"] oq (aC qL):=eN
abbrev m4:Stmt:=top 63
noncomputable abbrev lZ:List Str:=["_law_number_here"]
theorem bI:aY ["_law_number_here","_law_below","_law_figures_here","_law_row","_law_worth","_law_figure","_law_power","_law_more","_law_down"] lZ (aC m4):=eN
abbrev oI:Stmt:=top 64
noncomputable abbrev m3:List Str:=["_law_worth","_law_power"]
theorem m8:aY ["_law_worth","_law_power"] m3 (aC oI):=eN
abbrev oO:Stmt:=top 65
noncomputable abbrev nI:List Str:=["_law_number_here"]
theorem xa:aY ["_law_number_here"] nI (aC oO):=eN
abbrev i0:Stmt:=top 66
noncomputable abbrev iB:List Str:=["_law_script","_law_number_here"]
theorem fR:aY ["_law_script","_law_number_here","_law_kind","_law_points_here","_law_found"] iB (aC i0):=eN
abbrev qJ:Stmt:=top 67
noncomputable abbrev o8:List Str:=["_law_script","_law_number_here"]
theorem yY:aY ["_law_script","_law_number_here"] o8 (aC qJ):=eN
abbrev oF:Stmt:=top 68
noncomputable abbrev m5:List Str:=["_law_row","_law_nodes_here","_law_frames"]
theorem nC:aY ["_law_row","_law_nodes_here","_law_frames","_law_frame","_law_value_here"] m5 (aC oF):=eN
abbrev oa:Stmt:=top 69
noncomputable abbrev mR:List Str:=["_law_script","_law_row","_law_nodes_here","_law_frames","_law_number_here"]
theorem jf:aY ["_law_script","_law_row","_law_nodes_here","_law_frames","_law_number_here","_law_name_here","_law_points_here","_law_at"] mR (aC oa):=eN
abbrev oh:Stmt:=top 70
noncomputable abbrev ni:List Str:=["_law_script","_law_many_here"]
theorem cp:aY ["_law_script","_law_many_here","_law_row","_law_nodes_here","_law_frames","_law_value_here","_law_k","_law_number_here","_law_name_here","_law_at","_law_kind","_law_found"] ni (aC oh):=eN
abbrev yV:Stmt:=top 71
noncomputable abbrev zN:List Str:=["_law_script"]
theorem js:aY ["_law_script","_law_built_here","_law_row","_law_node","_law_names","_law_way","_law_at","_law_wrong","_law_before","_law_found"] zN (aC yV):=eN
abbrev dZ:Stmt:=inClass (top 36) 0
noncomputable abbrev ju:List Str:=["self"]
theorem rZ:aY ["self"] ju (aC dZ):=eN
abbrev gy:Stmt:=inClass (top 36) 1
noncomputable abbrev nk:List Str:=["self","row"]
theorem nc:aY ["self","row","at","byte"] nk (aC gy):=eN
abbrev eG:Stmt:=inClass (top 36) 2
noncomputable abbrev j6:List Str:=["self","byte"]
theorem j9:aY ["self","byte","item","items"] j6 (aC eG):=eN
abbrev dY:Stmt:=inClass (top 36) 3
noncomputable abbrev jo:List Str:=["self"]
theorem rX:aY ["self"] jo (aC dY):=eN
abbrev ee:Stmt:=inClass (top 36) 5
noncomputable abbrev jq:List Str:=["self"]
theorem sM:aY ["self"] jq (aC ee):=eN
set_option genInjectivity false in
set_option genSizeOf false in
structure Adr where
 iW:Addr
 d_tails:FuncData
 cO:Addr
 d_second_of_three:FuncData
 dn:Addr
 d_second_of_four:FuncData
 iy:Addr
 d_is_white:FuncData
 eP:Addr
 d_is_figure:FuncData
 fD:Addr
 d_hex_worth:FuncData
 eU:Addr
 d_word_rest:FuncData
 bO:Addr
 d_short_escape:FuncData
 j3:Addr
 d_behind:FuncData
 bN:Addr
 d_behind_value:FuncData
 dO:Addr
 d_behind_lead:FuncData
 aW:Addr
 d_behind_in_number:FuncData
 bL:Addr
 d_behind_in_text:FuncData
 bV:Addr
 d_behind_character:FuncData
 cy:Addr
 d_behind_backslash:FuncData
 dD:Addr
 d_behind_code_d:FuncData
 dB:Addr
 d_behind_hex:FuncData
 ba:Addr
 d_behind_in_brackets:FuncData
 cb:Addr
 d_behind_row_begin:FuncData
 bY:Addr
 d_behind_fields_begin:FuncData
 ez:Addr
 d_member_rest:FuncData
 kq:Addr
 d_fault:FuncData
 iD:Addr
 d_law_cell:FuncData
 b4:Addr
 d_law_mix:FuncData
 gA:Addr
 d_law_whole:FuncData
 dE:Addr
 d_law_point:FuncData
 ef:Addr
 d_law_points:FuncData
 eh:Addr
 d_law_eight:FuncData
 gP:Addr
 d_law_hex:FuncData
 iz:Addr
 d_law_sign:FuncData
 fK:Addr
 d_law_text:FuncData
 fH:Addr
 d_law_number:FuncData
 eO:Addr
 d_law_plain:FuncData
 cw:Addr
 d_law_white:FuncData
 cn:Addr
 d_law_plain_value:FuncData
 gq:Addr
 d_law_name:FuncData
 cP:Addr
 d_law_close:FuncData
 fw:Addr
 d_law_begin:FuncData
 gD:Addr
 d_law_built:FuncData
 vw:Addr
 d_law:FuncData
 cW:Addr
 d_Walk___init__:FuncData
 fz:Addr
 d_Walk_take:FuncData
 dQ:Addr
 d_Walk_goes_on:FuncData
 cD:Addr
 d_Walk_brackets:FuncData
 cV:Addr
 d_Walk_is_whole:FuncData
 C_Walk:Addr
 v_TAIL:Addr
 v_BLANK:Value
 v_QUOTE:Value
 v_PLUS:Value
 v_COMMA:Value
 v_MINUS:Value
 v_POINT:Value
 v_NOUGHT:Value
 v_NINE:Value
 v_COLON:Value
 v_BIG_E:Value
 v_ROW_BEGIN:Value
 v_BACKSLASH:Value
 v_ROW_END:Value
 v_SMALL_E:Value
 v_SMALL_U:Value
 v_FIELDS_BEGIN:Value
 v_FIELDS_END:Value
 v_WHITE:Addr
 v_WORDS:Addr
 v_SHORT_ESCAPES:Addr
 v_MOST_BRACKETS:Value
 v_LOOSE:Addr
 v_UNENDED:Addr
structure Txt (K:PySem.W.Frag) (mg:Str -> Option Value) (t:Adr):Prop where
 e_tails:Ent K mg "tails" wO t.iW t.d_tails uP
 e_second_of_three:Ent K mg "second_of_three" i5 t.cO t.d_second_of_three iM
 e_second_of_four:Ent K mg "second_of_four" jD t.dn t.d_second_of_four iT
 mL:Ent K mg "is_white" qu t.iy t.d_is_white oX
 fB:Ent K mg "is_figure" oB t.eP t.d_is_figure nh
 iP:Ent K mg "hex_worth" oG t.fD t.d_hex_worth nJ
 e_word_rest:Ent K mg "word_rest" oZ t.eU t.d_word_rest mP
 ji:Ent K mg "short_escape" kG t.bO t.d_short_escape j7
 qN:Ent K mg "behind" uf t.j3 t.d_behind sL
 fo:Ent K mg "behind_value" kO t.bN t.d_behind_value ka
 fX:Ent K mg "behind_lead" lY t.dO t.d_behind_lead lg
 e_behind_in_number:Ent K mg "behind_in_number" iH t.aW t.d_behind_in_number hZ
 e_behind_in_text:Ent K mg "behind_in_text" jx t.bL t.d_behind_in_text iX
 fG:Ent K mg "behind_character" iK t.bV t.d_behind_character hJ
 fP:Ent K mg "behind_backslash" iI t.cy t.d_behind_backslash hX
 iw:Ent K mg "behind_code_d" kd t.dD t.d_behind_code_d jz
 e_behind_hex:Ent K mg "behind_hex" mN t.dB t.d_behind_hex mi
 e_behind_in_brackets:Ent K mg "behind_in_brackets" gm t.ba t.d_behind_in_brackets fZ
 fL:Ent K mg "behind_row_begin" iJ t.cb t.d_behind_row_begin g8
 eJ:Ent K mg "behind_fields_begin" gb t.bY t.d_behind_fields_begin fM
 dw:Ent K mg "member_rest" mj t.ez t.d_member_rest kT
 pq:Ent K mg "fault" wy t.kq t.d_fault ub
 mV:Ent K mg "_law_cell" qA t.iD t.d_law_cell n9
 bX:Ent K mg "_law_mix" sN t.b4 t.d_law_mix qo
 lC:Ent K mg "_law_whole" o6 t.gA t.d_law_whole nL
 lA:Ent K mg "_law_point" oP t.dE t.d_law_point ny
 gT:Ent K mg "_law_points" mQ t.ef t.d_law_points lL
 lr:Ent K mg "_law_eight" oK t.eh t.d_law_eight mY
 jB:Ent K mg "_law_hex" sm t.gP t.d_law_hex qt
 nG:Ent K mg "_law_sign" qm t.iz t.d_law_sign oH
 jE:Ent K mg "_law_text" qL t.fK t.d_law_text oq
 kr:Ent K mg "_law_number" m4 t.fH t.d_law_number lZ
 e_law_plain:Ent K mg "_law_plain" oI t.eO t.d_law_plain m3
 dX:Ent K mg "_law_white" oO t.cw t.d_law_white nI
 e_law_plain_value:Ent K mg "_law_plain_value" i0 t.cn t.d_law_plain_value iB
 nj:Ent K mg "_law_name" qJ t.gq t.d_law_name o8
 e_law_close:Ent K mg "_law_close" oF t.cP t.d_law_close m5
 e_law_begin:Ent K mg "_law_begin" oa t.fw t.d_law_begin mR
 e_law_built:Ent K mg "_law_built" oh t.gD t.d_law_built ni
 DG:Ent K mg "law" yV t.vw t.d_law zN
 F_Walk___init__:Fun K "__init__" "Walk.__init__" dZ t.cW t.d_Walk___init__
 b_Walk___init__:Binds K t.d_Walk___init__ ju []
 F_Walk_take:Fun K "take" "Walk.take" gy t.fz t.d_Walk_take
 h_Walk_take:Meth K t.C_Walk "take" t.fz
 b_Walk_take:Binds K t.d_Walk_take nk []
 F_Walk_goes_on:Fun K "goes_on" "Walk.goes_on" eG t.dQ t.d_Walk_goes_on
 h_Walk_goes_on:Meth K t.C_Walk "goes_on" t.dQ
 b_Walk_goes_on:Binds K t.d_Walk_goes_on j6 []
 F_Walk_brackets:Fun K "brackets" "Walk.brackets" dY t.cD t.d_Walk_brackets
 h_Walk_brackets:Meth K t.C_Walk "brackets" t.cD
 b_Walk_brackets:Binds K t.d_Walk_brackets jo []
 F_Walk_is_whole:Fun K "is_whole" "Walk.is_whole" ee t.cV t.d_Walk_is_whole
 h_Walk_is_whole:Meth K t.C_Walk "is_whole" t.cV
 b_Walk_is_whole:Binds K t.d_Walk_is_whole jq []
 n_isinstance:mg "isinstance" = none
 n_tuple:mg "tuple" = none
 n_len:mg "len" = none
 n_int:mg "int" = none
 n_bool:mg "bool" = none
 n_range:mg "range" = none
 n_str:mg "str" = none
 n_ord:mg "ord" = none
 n_enumerate:mg "enumerate" = none
 n_all:mg "all" = none
 m_Walk:mg "Walk" = some (.ref t.C_Walk)
 c_Walk:Cls K t.C_Walk
 k_Walk:Mk K t.C_Walk t.cW
 na_Walk_coming:mm K t.C_Walk "coming"
 m_TAIL:mg "TAIL" = some (.ref t.v_TAIL)
 r_TAIL:RelV (.ref t.v_TAIL) (.ref t.v_TAIL)
 q_TAIL:∀ H,SqT K H t.v_TAIL [.int 128,.int 191]
 m_BLANK:mg "BLANK" = some t.v_BLANK
 r_BLANK:RelV (.int 32) t.v_BLANK
 m_QUOTE:mg "QUOTE" = some t.v_QUOTE
 r_QUOTE:RelV (.int 34) t.v_QUOTE
 m_PLUS:mg "PLUS" = some t.v_PLUS
 r_PLUS:RelV (.int 43) t.v_PLUS
 m_COMMA:mg "COMMA" = some t.v_COMMA
 r_COMMA:RelV (.int 44) t.v_COMMA
 m_MINUS:mg "MINUS" = some t.v_MINUS
 r_MINUS:RelV (.int 45) t.v_MINUS
 m_POINT:mg "POINT" = some t.v_POINT
 r_POINT:RelV (.int 46) t.v_POINT
 m_NOUGHT:mg "NOUGHT" = some t.v_NOUGHT
 r_NOUGHT:RelV (.int 48) t.v_NOUGHT
 m_NINE:mg "NINE" = some t.v_NINE
 r_NINE:RelV (.int 57) t.v_NINE
 m_COLON:mg "COLON" = some t.v_COLON
 r_COLON:RelV (.int 58) t.v_COLON
 m_BIG_E:mg "BIG_E" = some t.v_BIG_E
 r_BIG_E:RelV (.int 69) t.v_BIG_E
 m_ROW_BEGIN:mg "ROW_BEGIN" = some t.v_ROW_BEGIN
 r_ROW_BEGIN:RelV (.int 91) t.v_ROW_BEGIN
 m_BACKSLASH:mg "BACKSLASH" = some t.v_BACKSLASH
 r_BACKSLASH:RelV (.int 92) t.v_BACKSLASH
 m_ROW_END:mg "ROW_END" = some t.v_ROW_END
 r_ROW_END:RelV (.int 93) t.v_ROW_END
 m_SMALL_E:mg "SMALL_E" = some t.v_SMALL_E
 r_SMALL_E:RelV (.int 101) t.v_SMALL_E
 m_SMALL_U:mg "SMALL_U" = some t.v_SMALL_U
 r_SMALL_U:RelV (.int 117) t.v_SMALL_U
 m_FIELDS_BEGIN:mg "FIELDS_BEGIN" = some t.v_FIELDS_BEGIN
 r_FIELDS_BEGIN:RelV (.int 123) t.v_FIELDS_BEGIN
 m_FIELDS_END:mg "FIELDS_END" = some t.v_FIELDS_END
 r_FIELDS_END:RelV (.int 125) t.v_FIELDS_END
 m_WHITE:mg "WHITE" = some (.ref t.v_WHITE)
 r_WHITE:RelV (.ref t.v_WHITE) (.ref t.v_WHITE)
 q_WHITE:∀ H,SqT K H t.v_WHITE [.int 9,.int 10,.int 13,.int 32]
 m_WORDS:mg "WORDS" = some (.ref t.v_WORDS)
 r_WORDS:RelV (.ref t.v_WORDS) (.ref t.v_WORDS)
 q_WORDS:DKP K t.v_WORDS [(110,.tup ([117,108,108].map .int)),(116,.tup ([114,117,101].map .int)),(102,.tup ([97,108,115,101].map .int))]
 m_SHORT_ESCAPES:mg "SHORT_ESCAPES" = some (.ref t.v_SHORT_ESCAPES)
 r_SHORT_ESCAPES:RelV (.ref t.v_SHORT_ESCAPES) (.ref t.v_SHORT_ESCAPES)
 q_SHORT_ESCAPES:DKP K t.v_SHORT_ESCAPES [(34,.int 34),(92,.int 92),(47,.int 47),(98,.int 8),(102,.int 12),(110,.int 10),(114,.int 13),(116,.int 9)]
 m_MOST_BRACKETS:mg "MOST_BRACKETS" = some t.v_MOST_BRACKETS
 r_MOST_BRACKETS:RelV (.int 64) t.v_MOST_BRACKETS
 m_LOOSE:mg "LOOSE" = some (.ref t.v_LOOSE)
 r_LOOSE:RelV (.ref t.v_LOOSE) (.ref t.v_LOOSE)
 q_LOOSE:∀ H,SqT K H t.v_LOOSE [.str "white",.str "figures",.str "fraction",.str "exponent",.str "sign"]
 m_UNENDED:mg "UNENDED" = some (.ref t.v_UNENDED)
 r_UNENDED:RelV (.ref t.v_UNENDED) (.ref t.v_UNENDED)
 q_UNENDED:∀ H,SqT K H t.v_UNENDED [.str "row",.str "more row",.str "fields",.str "more fields"]
noncomputable def cx (t:Adr) (c:String):Option Addr:=if c = "Walk" then some t.C_Walk else none
theorem iO {K:PySem.W.Frag} {mg:Str -> Option Value} {t:Adr} (T:Txt K mg t):∀ c C,cx t c=some C -> nW c=true -> Cls K C /\ mm K C "coming":=by
 intro c C h1 h2
 unfold cx at h1
 unfold nW at h2
 by_cases e:c = "Walk"
 . subst e; simp at h1; subst h1; exact ⟨T.c_Walk,T.na_Walk_coming⟩
 rw [if_neg e] at h1
 cases h1
section
variable {P:Program} {w:World} {K:PySem.W.Frag} {mg:Str -> Option Value} {base:Heap} {t:Adr}
theorem yH (T:Txt K mg t):cA P w K mg base (CXE P w) 1 t.iD t.d_law_cell n9 (spP K (cx t) iD):=
 fS T.mV.F xH fun cdv A outer s H E hr=>⟨_,(ak (aV (cj (qv 0) (fun _=>rfl)) (av (aA (qi bM (qv 0) (aB bx (qv 1) (pL T.n_len (qv 0)))))) aE)
   (av (aA ag))),
  (aw (aX (eB ai) (aD (aq kM ai (aq bw ai (gw se ai)))) aF)
    (aD af))⟩
theorem eH (T:Txt K mg t):cA P w K mg base (CXE P w) 2 t.b4 t.d_law_mix qo (spP K (cx t) b4):=
 fS T.bX.F qB fun cdv A outer s H E hr=>⟨_,(ak (qz 2 qB.nd (aB bx (aB cz (qx (yH T) T.mV hr aN (aa (qv 0) (aa (qv 1) au))) (aB sq ag (aB cz (qv 1) ag))) ag))
   (ak (qz 2 qB.nd (aB bx (aB sq (qv 2) ag) ag))
   (av (aA (aB bx (aB cz (aB sq (aB bR (qv 2) ag) ag) (qv 2)) ag))))),
  (aw (aU (aq bw (aq cB (aO (ae ai (ae ai ax))) (aq sf af (aq cB ai af))) af))
    (aw (aU (aq bw (aq sf ai af) af))
    (aD (aq bw (aq cB (aq sf (aq bS ai af) af) ai) af))))⟩
theorem qT (T:Txt K mg t):cA P w K mg base (CXE P w) 1 t.cP t.d_law_close m5 (spI K (cx t) cP):=
 uA T.e_law_close.F nC fun cdv A outer s H E hr=>⟨_,(ak (qz 3 nC.nd (CS PySem.F.plainAttrs_list PySem.F.slot_list_pop PySem.F.type_list_pop CH (qv 2)))
   (ak (qap ck (qv 0) (cS (by exact (bT bt (qi bM (qv 3) ag) aL)) ag ag))
   (ak (xi (pL T.n_len (qv 0)) (wK (qi bM (qv 1) (qi bM (qv 3) ag)) ag set_list))
   (ak (xi (pL T.n_len (qv 1)) (wK (qi bM (qv 1) (qi bM (qv 3) ag)) ag set_list))
   (ak (qz 4 nC.nd (dm (aa (qi bM (qv 3) ag) (aa (gR jM rfl T.n_tuple L2.E.boot_tuple (aa (qi bM (qv 3) ag) au)) au))))
   (ak (aV (cj (qv 2) (fun _=>rfl)) (ak (qap ck (qi bM (qi bM (qv 2) (mB jw ag)) ag) (cS (by exact (bT bt (qi bM (qi bM (qv 2) (mB jw ag)) ag) aL)) (qv 4) (dm (aa (qi bM (qv 3) ag) (aa (qv 4) au)))))
   (av (aV (bT bt (qi bM (qi bM (qv 2) (mB jw ag)) ag) aL) (av (xi (pL T.n_len (qv 1)) (wK (qi bM (qv 1) (aB qp (qi bM (qv 3) ag) ag)) ag set_list))) aE))) aE)
   (av (aA (qv 4))))))))),
  (aw (pj (A6 aR))
    (aw (eC aR (ll (iq (ay (aq br (gg (jA aR af)) aM)) af af)))
    (aw (tZ (jA aR (gg (jA aR af))) af (ll (jK aR)))
    (aw (tZ (jA aR (gg (jA aR af))) af (ll (jK aR)))
    (aw (aU (dk (ae (gg (jA aR af)) (ae (gw xy (gg (jA aR af))) ax))))
    (aw (aX (gW aR) (aw (eC (jA (jA aR (mx jr af)) af) (ll (iq (ay (aq br (gg (jA (jA aR (mx jr af)) af)) aM)) ai (dk (ae (gg (jA aR af)) (ae ai ax))))))
    (aX (ay (aq br (gg (jA (jA aR (mx jr af)) af)) aM)) (tZ (jA aR (aq qF (gg (jA aR af)) af)) af (ll (jK aR))) aF)) aF)
    pz))))))⟩
theorem gO (T:Txt K mg t):cA P w K mg base (CXE P w) 1 t.cw t.d_law_white nI (spP K (cx t) cw):=
 fS T.dX.F xa fun cdv A outer s H E hr=>⟨_,(ak (aV (bT Aw (aB bx (qv 0) ag) ag) (av (aA (aP au))) aE)
   (av (aA (ng (M:=["_law_number_here"]) (ι:=[0]) (x:="_law_k") ⟨rfl,rfl,rfl,rfl,rfl,rfl,rfl,rfl,rfl,rfl,rfl,by decide +kernel⟩ rfl (mz rfl T.n_range (aa (aB cz (aB bx (aB bR (qv 0) ag) ag) ag) au)) fun _ _ _ _=>(qi bM (aP (aa ag (aa ag (aa ag (aa ag au))))) (aB bx (aB bR (aB bR (qv 0) ag) (aB cz ag (aB sq ag (qv 1)))) ag)))))),
  (aw (aX (ay (aq AW (aq bw ai af) af)) (aD (aS ax)) aF)
    (aD (xX (by decide) (aq cB (aq bw (aq bS ai af) af) af) (aq kM (aS (ae af (ae af (ae af (ae af ax))))) (aq bw (aq bS (aq bS ai af) (aq cB af (aq sf af ai))) af)))))⟩
theorem xh (T:Txt K mg t):cA P w K mg base (CXE P w) 1 t.dE t.d_law_point ny (spP K (cx t) dE):=
 fS T.lA.F m6 fun cdv A outer s H E hr=>⟨_,(ak (qz 1 m6.nd (aB bx (qv 0) ag))
   (ak (qz 2 m6.nd (aB bR (qv 0) ag))
   (ak (aV (bT nM (qv 1) ag) (av (aA (aB cz ag (aB bx (qv 2) ag)))) aE)
   (ak (aV (bT nM (qv 1) ag) (av (aA (qi bM (aP (aa ag (aa ag (aa ag (aa ag (aa ag (aa ag (aa ag (aa ag (aa ag (aa ag (aa ag au)))))))))))) (aB bx (qv 2) ag)))) aE)
   (ak (aV (bT bt (qv 1) ag) (av (aA (aB cz ag (aB bx (qv 2) ag)))) aE)
   (ak (aV (bT bt (qv 1) ag) (av (aA (aB cz ag (aB bx (qv 2) ag)))) aE)
   (ak (aV (bT bt (qv 1) ag) (av (aA (aB cz ag (aB bx (qv 2) ag)))) aE)
   (av (aA (aB cz ag (aB bx (qv 2) ag))))))))))),
  (aw (aU (aq bw ai af))
    (aw (aU (aq bS ai af))
    (aw (aX (ay (aq nT ai af)) (aD (aq cB af (aq bw ai af))) aF)
    (aw (aX (ay (aq nT ai af)) (aD (aq kM (aS (ae af (ae af (ae af (ae af (ae af (ae af (ae af (ae af (ae af (ae af (ae af ax)))))))))))) (aq bw ai af))) aF)
    (aw (aX (ay (aq br ai af)) (aD (aq cB af (aq bw ai af))) aF)
    (aw (aX (ay (aq br ai af)) (aD (aq cB af (aq bw ai af))) aF)
    (aw (aX (ay (aq br ai af)) (aD (aq cB af (aq bw ai af))) aF)
    (aD (aq cB af (aq bw ai af))))))))))⟩
theorem p8 (T:Txt K mg t):cA P w K mg base (CXE P w) 3 t.ef t.d_law_points lL (spP K (cx t) ef):=
 fS T.gT.F jO fun cdv A outer s H E hr=>⟨_,(ak (qz 2 jO.nd (qx (eH T) T.bX hr aN (aa (qv 0) (aa (qv 1) au))))
   (ak (qz 3 jO.nd (aB bx (qv 2) ag))
   (ak (aV (bT bt (aB bx (aB bR (qv 2) ag) ag) ag) (av (qz 3 jO.nd (aB bx (aB bR (qv 2) ag) ag))) aE)
   (av (aA (ng (M:=["_law_script","_law_k"]) (ι:=[0,1]) (x:="_law_j") ⟨rfl,rfl,rfl,rfl,rfl,rfl,rfl,rfl,rfl,rfl,rfl,by decide +kernel⟩ rfl (mz rfl T.n_range (aa (qv 3) au)) fun _ _ _ _=>(qx (xh T) T.lA hr CO (aa (qx (eH T) T.bX hr CO (aa (qv 0) (aa (aB cz (aB cz (qv 1) ag) (qv 2)) au))) au)))))))),
  (aw (aU (aO (ae ai (ae ai ax))))
    (aw (aU (aq bw ai af))
    (aw (aX (ay (aq br (aq bw (aq bS ai af) af) af)) (aU (aq bw (aq bS ai af) af)) aF)
    (aD (xX (by decide) ai (aO (ae (aO (ae ai (ae (aq cB (aq cB ai af) ai) ax))) ax)))))))⟩
theorem yR (T:Txt K mg t):cA P w K mg base (CXE P w) 4 t.gq t.d_law_name o8 (spP K (cx t) gq):=
 fS T.nj.F yY fun cdv A outer s H E hr=>⟨_,(ak (aV (bT bt (aB bx (qv 1) ag) ag) (av (aA (aP (aa (aB cz ag (aB bx (aB bR (qv 1) ag) ag)) au)))) aE)
   (av (aA (qx (p8 T) T.gT hr aN (aa (qv 0) (aa (aB cz ag (aB bx (aB bR (qv 1) ag) ag)) au)))))),
  (aw (aX (ay (aq br (aq bw ai af) af)) (aD (aS (ae (aq cB af (aq bw (aq bS ai af) af)) ax))) aF)
    (aD (aO (ae ai (ae (aq cB af (aq bw (aq bS ai af) af)) ax)))))⟩
theorem wZ (T:Txt K mg t):cA P w K mg base (CXE P w) 1 t.eh t.d_law_eight mY (spP K (cx t) eh):=
 fS T.lr.F gX fun cdv A outer s H E hr=>⟨_,(ak (aV (bT nM (qv 0) ag) (av (aA (aP (aa (qv 0) au)))) aE)
   (ak (qz 1 gX.nd (aB cz (aB cz ag (gR vN rfl T.n_int L2.E.boot_int (aa (iu As (qv 0) ag (kL _)) au))) (gR vN rfl T.n_int L2.E.boot_int (aa (iu As (qv 0) ag (kL _)) au))))
   (ak (qz 2 gX.nd (aP au))
   (ak (qw jJ rfl (mz rfl T.n_range (aa (qv 1) au)) (lB (i:=3) gX.nd rfl (by first|exact Or.inl rfl|exact Or.inr rfl)) (ak (qz 2 gX.nd (aB eK (aP (aa (aB cz ag (aB bx (qv 0) ag)) au)) (qv 2)))
   (av (qz 0 gX.nd (aB bR (qv 0) ag)))))
   (av (aA (aB eK (aP (aa (aB cz (qi bM (aP (aa ag (aa ag (aa ag au)))) (aB qp (qv 1) ag)) (qv 0)) au)) (qv 2)))))))),
  (aw (aX (ay (aq nT ai af)) (aD (aS (ae ai ax))) aF)
    (aw (aU (aq cB (aq cB af (gw AL (aq AS ai af))) (gw AL (aq AS ai af))))
    (aw (aU (aS ax))
    (aw (we ai (aw (aU (aq fY (aS (ae (aq cB af (aq bw ai af)) ax)) ai))
    (aU (aq bS ai af))))
    (aD (aq fY (aS (ae (aq cB (aq kM (aS (ae af (ae af (ae af ax)))) (aq qF ai af)) ai) ax)) ai))))))⟩
theorem qH (T:Txt K mg t):cA P w K mg base (CXE P w) 1 t.gP t.d_law_hex qt (spP K (cx t) gP):=
 fS T.jB.F iC fun cdv A outer s H E hr=>⟨_,(ak (qz 2 iC.nd (aP au))
   (ak (qw jJ rfl (mz rfl T.n_range (aa ag au)) (lB (i:=3) iC.nd rfl (by first|exact Or.inl rfl|exact Or.inr rfl)) (ak (qz 4 iC.nd (aB bx (qv 0) ag))
   (ak (aV (bT nM (qv 4) ag) (av (qz 2 iC.nd (aB eK (aP (aa (aB cz ag (qv 4)) au)) (qv 2)))) (av (qz 2 iC.nd (aB eK (aP (aa (aB cz (cS (by exact (cj (qv 1) (fun _=>rfl))) ag ag) (qv 4)) au)) (qv 2)))))
   (av (qz 0 iC.nd (aB bR (qv 0) ag))))))
   (av (aA (aB eK (aP (aa ag (aa ag au))) (qv 2)))))),
  (aw (aU (aS ax))
    (aw (we af (aw (aU (aq bw ai af))
    (aw (aX (ay (aq nT ai af)) (aU (aq fY (aS (ae (aq cB af ai) ax)) ai)) (aU (aq fY (aS (ae (aq cB (iq (eB ai) af af) ai) ax)) ai)))
    (aU (aq bS ai af)))))
    (aD (aq fY (aS (ae af (ae af ax))) ai))))⟩
theorem yF (T:Txt K mg t):cA P w K mg base (CXE P w) 2 t.iz t.d_law_sign oH (spP K (cx t) iz):=
 fS T.nG.F lF fun cdv A outer s H E hr=>⟨_,(ak (qz 2 lF.nd (Fm (jW ag ag (jW ag ag (jW ag ag (jW ag ag (jW ag ag (jW ag ag (jW ag ag (jW ag ag EL))))))))))
   (ak (qz 3 lF.nd (aB bx (qv 1) ag))
   (ak (aV (mw (jv (bT bt (qv 3) ag) (jI (Ja (Gp hr) (qv 0) (qv 2))))) (av (aA (aP (aa ag (aa (Eg (Gp hr) (qv 2) (qv 0) (fun _ _=>rfl)) au))))) aE)
   (ak (aV (mw (jv (bT Aw (qv 3) ag) (jv (bT As (qv 0) ag) (jv (bT Dr (qv 0) ag) (jI (bT Dr (qv 0) ag)))))) (av (aA (qx (wZ T) T.lr hr aN (aa (qv 0) au)))) aE)
   (ak (aV (bT nM (qv 0) ag) (av (aA (qx (qH T) T.jB hr aN (aa (qv 0) (aa (iu bt (qv 3) ag (kL _)) au))))) aE)
   (ak (qz 4 lF.nd (aB qp (qv 0) ag))
   (av (aA (aB eK (qx (qH T) T.jB hr aN (aa (aB cz ag (aB bR (qv 4) ag)) (aa (iu bt (qv 3) ag (kL _)) au))) (qx (qH T) T.jB hr aN (aa (aB cz ag (aB bx (qv 4) ag)) (aa (iu bt (qv 3) ag (kL _)) au)))))))))))),
  (aw (qO (IC (kvs:=[(34,34),(92,92),(47,47),(8,98),(12,102),(10,110),(13,114),(9,116)]) (by decide) (by decide)))
    (aw (aU (aq bw ai af))
    (aw (aX (jm (ay (aq br ai af)) (ay (EE ai aR))) (aD (aS (ae af (ae (Fu aR ai) ax)))) aF)
    (aw (aX (jm (ay (aq AW ai af)) (jm (ay (aq AS ai af)) (jm (ay (aq Ee ai af)) (ay (aq Ee ai af))))) (aD (aO (ae ai ax))) aF)
    (aw (aX (ay (aq nT ai af)) (aD (aO (ae ai (ae (aq br ai af) ax)))) aF)
    (aw (aU (aq qF ai af))
    (aD (aq fY (aO (ae (aq cB af (aq bS ai af)) (ae (aq br ai af) ax))) (aO (ae (aq cB af (aq bw ai af)) (ae (aq br ai af) ax)))))))))))⟩
theorem sO (T:Txt K mg t):cA P w K mg base (CXE P w) 3 t.fK t.d_law_text oq (spP K (cx t) fK):=
 fS T.jE.F iN fun cdv A outer s H E hr=>⟨_,(ak (qz 2 iN.nd (aP (aa ag au)))
   (ak (qz 3 iN.nd ag)
   (ak (qw jJ rfl (ku (qv 0)) (lB (i:=4) iN.nd rfl (by first|exact Or.inl rfl|exact Or.inr rfl)) (ak (qz 2 iN.nd (aB eK (qv 2) (qx (yF T) T.nG hr aN (aa (qv 4) (aa (aB cz (aB bR (qv 1) (aB cz ag (aB bx (qv 3) ag))) (qv 3)) au)))))
   (av (qz 3 iN.nd (aB cz (qv 3) ag)))))
   (av (aA (aB eK (qv 2) (aP (aa ag au)))))))),
  (aw (aU (aS (ae af ax)))
    (aw (aU af)
    (aw (xc ai (aw (aU (aq fY ai (aO (ae ai (ae (aq cB (aq bS ai (aq cB af (aq bw ai af))) ai) ax)))))
    (aU (aq cB ai af))))
    (aD (aq fY ai (aS (ae af ax)))))))⟩
theorem wj (T:Txt K mg t):cA P w K mg base (CXE P w) 5 t.fw t.d_law_begin mR (spI K (cx t) fw):=
 uA T.e_law_begin.F jf fun cdv A outer s H E hr=>⟨_,(ak (qex fJ (qv 1) (qx (gO T) T.dX hr aN (aa (aB bR (qv 4) ag) au)))
   (ak (qz 5 jf.nd (dm au))
   (ak (aV (mw (jv (cj (qv 3) (fun _=>rfl)) (jI (cj (qi bM (qi bM (qv 3) (mB jw ag)) ag) (fun _=>rfl))))) (ak (qap ck (qv 1) ag)
   (av (qex fJ (qv 1) (qx (gO T) T.dX hr aN (aa (aB bR (qv 4) ag) au))))) aE)
   (ak (aV (mw (jv (cj (qv 3) (fun _=>rfl)) (jI (bT bt (qi bM (qi bM (qv 3) (mB jw ag)) ag) aL)))) (ak (qz 6 jf.nd (qx (yR T) T.nj hr aN (aa (qv 0) (aa (aB bR (qv 4) ag) au))))
   (ak (qz 5 jf.nd (gR jM rfl T.n_tuple L2.E.boot_tuple (aa (qv 6) au)))
   (ak (qz 7 jf.nd (pL T.n_len (qv 1)))
   (ak (qex fJ (qv 1) (qx (sO T) T.jE hr aN (aa (qv 6) (aa (aB bR (qv 4) ag) au))))
   (ak (qap ck (qv 2) (aP (aa aL (aa (qv 7) (aa (pL T.n_len (qv 1)) (aa ag au))))))
   (ak (qex fJ (qv 1) (qx (gO T) T.dX hr aN (aa (aB bR (qv 4) ag) au)))
   (ak (qap ck (qv 1) ag)
   (av (qex fJ (qv 1) (qx (gO T) T.dX hr aN (aa (aB bR (qv 4) ag) au))))))))))) aE)
   (av (aA (qv 5))))))),
  (aw (fN aR (aO (ae (aq bS ai af) ax)))
    (aw (aU (dk ax))
    (aw (aX (jm (gW aR) (eB (gg (jA (jA aR (mx jr af)) af)))) (aw (eC aR (ll af))
    (fN aR (aO (ae (aq bS ai af) ax)))) aF)
    (aw (aX (jm (gW aR) (ay (aq br (gg (jA (jA aR (mx jr af)) af)) aM))) (aw (aU (aO (ae ai (ae (aq bS ai af) ax))))
    (aw (aU (gw xy ai))
    (aw (aU (jK aR))
    (aw (pe (i:=6) (fN aR (aO (ae ai (ae (aq bS ai af) ax)))))
    (aw (eC aR (ll (aS (ae aM (ae ai (ae (jK aR) (ae af ax)))))))
    (aw (fN aR (aO (ae (aq bS ai af) ax)))
    (aw (eC aR (ll af))
    (fN aR (aO (ae (aq bS ai af) ax)))))))))) aF)
    pz))))⟩
theorem xp (T:Txt K mg t):cA P w K mg base (CXE P w) 1 t.eO t.d_law_plain m3 (spP K (cx t) eO):=
 fS T.e_law_plain.F m8 fun cdv A outer s H E hr=>⟨_,(ak (aV (bT bt (qv 0) ag) (av (aA (dm (aa ag (aa ag au))))) aE)
   (ak (uO jJ (bT bt (aB bx (qv 0) ag) ag) (ak (qz 0 m8.nd (aB bR (qv 0) ag))
   (av (qz 1 m8.nd (aB cz (qv 1) ag)))))
   (av (aA (dm (aa (qv 0) (aa (qv 1) au))))))),
  (aw (aX (ay (aq br ai af)) (aD (dk (ae af (ae af ax)))) aF)
    (aw (u1 (ay (aq br (aq bw ai af) af)) (aw (aU (aq bS ai af))
    (aU (aq cB ai af))))
    (aD (dk (ae ai (ae ai ax))))))⟩
theorem vi (T:Txt K mg t):cA P w K mg base (CXE P w) 2 t.fH t.d_law_number lZ (spP K (cx t) fH):=
 fS T.kr.F bI fun cdv A outer s H E hr=>⟨_,(ak (qz 1 bI.nd (iu bt (aB bx (qv 0) ag) ag (kL _)))
   (ak (FT (i:=2) bI.nd rfl (by first|exact Or.inl rfl|exact Or.inr rfl) (M:=[]) (ι:=[]) (x:="_law_sign_here") ⟨rfl,rfl,rfl,rfl,rfl,rfl,rfl,rfl,rfl,rfl,rfl,by decide +kernel⟩ rfl (Dt (gR rz rfl T.n_str L2.E.boot_str (aa (aB bx (aB bR (qv 0) ag) ag) au))) fun _ _ _ _=>(gR BX rfl T.n_int L2.E.boot_int (aa (qv 0) au)))
   (ak (qz 3 bI.nd (cS (by exact (cj (qv 1) (fun _=>rfl))) (aP (aa ag au)) (aP au)))
   (ak (qz 3 bI.nd (aB eK (qv 3) (ng (M:=[]) (ι:=[]) (x:="_law_figure") ⟨rfl,rfl,rfl,rfl,rfl,rfl,rfl,rfl,rfl,rfl,rfl,by decide +kernel⟩ rfl (ku (qv 2)) fun _ _ _ _=>(aB cz ag (qv 0)))))
   (ak (qz 4 bI.nd ag)
   (ak (qw jJ rfl (ku (qv 2)) (lB (i:=5) bI.nd rfl (by first|exact Or.inl rfl|exact Or.inr rfl)) (av (qz 4 bI.nd (aB cz (aB sq (qv 4) ag) (qv 5)))))
   (ak (qz 6 bI.nd ag)
   (ak (aV (bT bt (aB bx (aB bR (qv 0) ag) ag) ag) (ak (qap ck (qv 3) ag)
   (av (qw jJ rfl (ku (oy rn (aP (aa (aB bx (aB bR (qv 0) ag) ag) (aa (aB bx (aB bR (qv 0) ag) ag) (aa ag au)))) rE (rD (aB cz ag (aB bx (aB bR (qv 0) ag) ag))))) (lB (i:=5) bI.nd rfl (by first|exact Or.inl rfl|exact Or.inr rfl)) (ak (qap ck (qv 3) (aB cz ag (qv 5)))
   (ak (qz 4 bI.nd (aB cz (aB sq (qv 4) ag) (qv 5)))
   (av (qz 6 bI.nd (aB qp (qv 6) ag)))))))) aE)
   (ak (aV (bT bt (aB bx (aB bR (qv 0) ag) ag) ag) (ak (qz 7 bI.nd (aB bx (aB bR (qv 0) ag) ag))
   (ak (qap ck (qv 3) (qi bM (aP (aa ag (aa ag au))) (aB bx (aB bR (qv 0) ag) ag)))
   (ak (qz 8 bI.nd (iu bt (aB bx (aB bR (qv 0) ag) ag) ag (kL _)))
   (ak (aV (cj (qv 8) (fun _=>rfl)) (av (qap ck (qv 3) ag)) (av (aV (bT bt (aB bx (aB bR (qv 0) ag) ag) ag) (av (qap ck (qv 3) ag)) aE)))
   (ak (aV (bT bt (aB bx (aB bR (qv 0) ag) ag) ag) (av (qap ck (qv 3) ag)) aE)
   (ak (qz 3 bI.nd (aB eK (qv 3) (ng (M:=[]) (ι:=[]) (x:="_law_sign_here") ⟨rfl,rfl,rfl,rfl,rfl,rfl,rfl,rfl,rfl,rfl,rfl,by decide +kernel⟩ rfl (Dt (gR rz rfl T.n_str L2.E.boot_str (aa (qv 7) au))) fun _ _ _ _=>(mK Cc rfl T.n_ord L2.E.boot_ord (aa (qv 0) au)))))
   (av (qz 6 bI.nd (aB cz (qv 6) (cS (by exact (cj (qv 8) (fun _=>rfl))) (mB jw (qv 7)) (qv 7))))))))))) aE)
   (ak (aV (cj (qv 1) (fun _=>rfl)) (av (qz 4 bI.nd (mB jw (qv 4)))) aE)
   (av (aA (dm (aa (qv 3) (aa (qx (xp T) T.e_law_plain hr aN (aa (qv 4) (aa (qv 6) au))) au))))))))))))))),
  (aw (aU (aq br (aq bw ai af) af))
    (aw (aU (yo (by decide) (gw Cv (aq bw (aq bS ai af) af)) (gw EF ai)))
    (aw (aU (iq (eB ai) (aS (ae af ax)) (aS ax)))
    (aw (aU (aq fY ai (vc (by decide) ai (aq cB af ai))))
    (aw (aU af)
    (aw (pe (i:=2) (xc ai (aU (aq cB (aq sf ai af) ai))))
    (aw (aU af)
    (aw (aX (ay (aq br (aq bw (aq bS ai af) af) af)) (aw (kC af)
    (xc (uZ (aS (ae (aq bw (aq bS ai af) af) (ae (aq bw (aq bS ai af) af) (ae af ax)))) rA (qZ (aq cB af (aq bw (aq bS ai af) af)))) (aw (kC (aq cB af ai))
    (aw (aU (aq cB (aq sf ai af) ai))
    (aU (aq qF ai af)))))) aF)
    (aw (aX (ay (aq br (aq bw (aq bS ai af) af) af)) (aw (aU (aq bw (aq bS ai af) af))
    (aw (kC (aq kM (aS (ae af (ae af ax))) (aq bw (aq bS ai af) af)))
    (aw (aU (aq br (aq bw (aq bS ai af) af) af))
    (aw (aX (eB ai) (kC af) (aX (ay (aq br (aq bw (aq bS ai af) af) af)) (kC af) aF))
    (aw (aX (ay (aq br (aq bw (aq bS ai af) af) af)) (kC af) aF)
    (aw (aU (aq fY ai (yo (by decide) (gw Cv ai) (gw Iw ai))))
    (aU (aq cB ai (iq (eB ai) (mx jr ai) ai))))))))) aF)
    (aw (aX (eB ai) (aU (mx jr ai)) aF)
    (pe (i:=3) (aD (dk (ae ai (ae (aO (ae ai (ae ai ax))) ax)))))))))))))))⟩
theorem qk (T:Txt K mg t):cA P w K mg base (CXE P w) 4 t.cn t.d_law_plain_value iB (spP K (cx t) cn):=
 fS T.e_law_plain_value.F fR fun cdv A outer s H E hr=>⟨_,(ak (qz 2 fR.nd (aB bx (aB bR (qv 1) ag) ag))
   (ak (aV (bT bt (qv 2) ag) (av (aA (dm (aa aL (aa (aP (aa ag (aa ag (aa ag (aa ag au))))) (aa cZ au)))))) aE)
   (ak (aV (bT bt (qv 2) ag) (av (aA (dm (aa aL (aa (aP (aa ag (aa ag (aa ag (aa ag au))))) (aa AE au)))))) aE)
   (ak (aV (bT bt (qv 2) ag) (av (aA (dm (aa aL (aa (aP (aa ag (aa ag (aa ag (aa ag (aa ag au)))))) (aa AE au)))))) aE)
   (ak (aV (bT bt (qv 2) ag) (ak (qz 3 fR.nd (qx (p8 T) T.gT hr aN (aa (qv 0) (aa (aB cz ag (aB bx (qv 1) ag)) au))))
   (av (aA (dm (aa aL (aa (qx (sO T) T.jE hr aN (aa (qv 3) (aa (aB bR (qv 1) ag) au))) (aa (dm (aa aL (aa (gR jM rfl T.n_tuple L2.E.boot_tuple (aa (qv 3) au)) au))) au))))))) aE)
   (ak (qz 4 fR.nd (qx (vi T) T.kr hr aN (aa (aB bR (qv 1) ag) au)))
   (av (aA (dm (aa aL (aa (qi gF (qv 4) ag) (aa (dm (aa aL (aa (qi gF (qi gF (qv 4) ag) ag) (aa (qi gF (qi gF (qv 4) ag) ag) au)))) au)))))))))))),
  (aw (aU (aq bw (aq bS ai af) af))
    (aw (aX (ay (aq br ai af)) (aD (dk (ae aM (ae (aS (ae af (ae af (ae af (ae af ax))))) (ae da ax))))) aF)
    (aw (aX (ay (aq br ai af)) (aD (dk (ae aM (ae (aS (ae af (ae af (ae af (ae af ax))))) (ae A2 ax))))) aF)
    (aw (aX (ay (aq br ai af)) (aD (dk (ae aM (ae (aS (ae af (ae af (ae af (ae af (ae af ax)))))) (ae A2 ax))))) aF)
    (aw (aX (ay (aq br ai af)) (aw (aU (aO (ae ai (ae (aq cB af (aq bw ai af)) ax))))
    (pe (i:=3) (aD (dk (ae aM (ae (aO (ae ai (ae (aq bS ai af) ax))) (ae (dk (ae aM (ae (gw xy ai) ax))) ax))))))) aF)
    (aw (aU (aO (ae (aq bS ai af) ax)))
    (aD (dk (ae aM (ae (aq gN ai af) (ae (dk (ae aM (ae (aq gN (aq gN ai af) af) (ae (aq gN (aq gN ai af) af) ax)))) ax)))))))))))⟩
theorem wu (T:Txt K mg t):cA P w K mg base (CXE P w) 6 t.gD t.d_law_built ni (spP K (cx t) gD):=
 fS T.e_law_built.F cp fun cdv A outer s H E hr=>⟨_,(ak (qz 2 cp.nd (aP au))
   (ak (qz 3 cp.nd (aP au))
   (ak (qz 4 cp.nd (aP au))
   (ak (qz 5 cp.nd cZ)
   (ak (qw jJ rfl (mz rfl T.n_range (aa (qv 1) au)) (lB (i:=6) cp.nd rfl (by first|exact Or.inl rfl|exact Or.inr rfl)) (ak (qz 7 cp.nd (qx (eH T) T.bX hr aN (aa (qv 0) (aa (qv 6) au))))
   (av (aV (mw (jv (cj (qv 4) (fun _=>rfl)) (jI (bT bt (aB bx (qv 7) ag) ag)))) (ak (qex fJ (qv 2) (qx (gO T) T.dX hr aN (aa (aB bR (qv 7) ag) au)))
   (av (qz 5 cp.nd (qx (qT T) T.e_law_close hr aN (aa (qv 2) (aa (qv 3) (aa (qv 4) au))))))) (av (aV (mw (Cn (cj (qv 4) (fun _=>rfl)) (zh (bT bt (qv 6) ag)))) (ak (qz 8 cp.nd (qx (wj T) T.e_law_begin hr aN (aa (qv 0) (aa (qv 2) (aa (qv 3) (aa (qv 4) (aa (qv 7) au)))))))
   (ak (qz 9 cp.nd (pL T.n_len (qv 2)))
   (av (aV (mw (Cn (bT Aw (aB bx (qv 7) ag) ag) (zh (mw (jv (bT bt (qv 6) ag) (jI (bT Aw (aB bx (qv 7) ag) ag))))))) (ak (qz 10 cp.nd (qi bM (aP (aa aL (aa aL au))) (aB bx (aB bR (qv 7) ag) ag)))
   (ak (qap ck (qv 2) (cS (by exact (bT bt (qv 10) aL)) ag ag))
   (ak (qap ck (qv 4) (aP (aa (qv 10) (aa (aP au) (aa (pL T.n_len (qv 3)) (aa (qv 8) au))))))
   (av (qap ck (qv 3) (aP (aa (qv 10) (aa (qv 9) (aa ag (aa ag au)))))))))) (ak (qz 11 cp.nd (qx (qk T) T.e_law_plain_value hr aN (aa (qv 0) (aa (qv 7) au))))
   (ak (qex fJ (qv 2) (qi gF (qv 11) ag))
   (ak (qap ck (qv 3) (aP (aa (qi gF (qv 11) ag) (aa (qv 9) (aa (pL T.n_len (qv 2)) (aa (aB cz (pL T.n_len (qv 3)) ag) au))))))
   (ak (qz 5 cp.nd (qi gF (qv 11) ag))
   (av (aV (mw (jv (cj (qv 4) (fun _=>rfl)) (jI (bT bt (qi bM (qi bM (qv 4) (mB jw ag)) ag) aL)))) (ak (xi (pL T.n_len (qv 3)) (wK (qi bM (qv 3) (mB jw ag)) ag set_list))
   (av (qap ck (qi bM (qi bM (qv 4) (mB jw ag)) ag) (dm (aa (qv 8) (aa (qv 5) au)))))) (av (aV (cj (qv 4) (fun _=>rfl)) (av (qap ck (qi bM (qi bM (qv 4) (mB jw ag)) ag) (qv 5))) aE)))))))))))) aE))))))
   (ak (uO jJ (cj (qv 4) (fun _=>rfl)) (av (qz 5 cp.nd (qx (qT T) T.e_law_close hr aN (aa (qv 2) (aa (qv 3) (aa (qv 4) au)))))))
   (ak (qex fJ (qv 2) (qx (gO T) T.dX hr aN (aa (qx (eH T) T.bX hr aN (aa (qv 0) (aa ag au))) au)))
   (av (aA (dm (aa (qv 2) (aa (ng (M:=[]) (ι:=[]) (x:="_law_node") ⟨rfl,rfl,rfl,rfl,rfl,rfl,rfl,rfl,rfl,rfl,rfl,by decide +kernel⟩ rfl (ku (qv 3)) fun _ _ _ _=>(gR jM rfl T.n_tuple L2.E.boot_tuple (aa (qv 0) au))) (aa (qv 5) au))))))))))))),
  (aw (qO (ll (aS ax)))
    (aw (qO (ll (aS ax)))
    (aw (qO (ll (aS ax)))
    (aw (aU da)
    (aw (we ai (aw (aU (aO (ae ai (ae ai ax))))
    (aX (jm (gW aR) (ay (aq br (aq bw ai af) af))) (aw (fN aR (aO (ae (aq bS ai af) ax)))
    (pj (uS rfl (ft (oA aR) (ft (oA aR) (ft (oA aR) mO)))))) (aX (DX (gW aR) (ay (aq br ai af))) (aw (pj (uS rfl (ft (zU (W:=fun _ _ _ _=>False) ai) (ft (oA aR) (ft (oA aR) (ft (oA aR) (ft (zU (W:=fun _ _ _ _=>False) ai) mO)))))))
    (aw (aU (jK aR))
    (aX (DX (ay (aq AW (aq bw ai af) af)) (jm (ay (aq br ai af)) (ay (aq AW (aq bw ai af) af)))) (aw (aU (aq kM (aS (ae aM (ae aM ax))) (aq bw (aq bS ai af) af)))
    (aw (eC aR (ll (iq (ay (aq br ai aM)) af af)))
    (aw (eC aR (GU (rf (ll ai) (rf (ll (aS ax)) (rf (ll (jK aR)) (rf (ll ai) EM))))))
    (eC aR (ll (aS (ae ai (ae ai (ae af (ae af ax)))))))))) (aw (aU (aO (ae ai (ae ai ax))))
    (aw (fN aR (aq gN ai af))
    (aw (eC aR (ll (aS (ae (aq gN ai af) (ae ai (ae (jK aR) (ae (aq cB (jK aR) af) ax)))))))
    (aw (aU (aq gN ai af))
    (aX (jm (gW aR) (ay (aq br (gg (jA (jA aR (mx jr af)) af)) aM))) (aw (tZ (jA aR (mx jr af)) af (ll (jK aR)))
    (eC (jA (jA aR (mx jr af)) af) (ll (dk (ae ai (ae ai ax)))))) (aX (gW aR) (eC (jA (jA aR (mx jr af)) af) (ll ai)) aF))))))))) aF))))
    (aw (u1 (gW aR) (pj (uS rfl (ft (oA aR) (ft (oA aR) (ft (oA aR) mO))))))
    (aw (fN aR (aO (ae (aO (ae ai (ae af ax))) ax)))
    (uc (i:=3) (uc (i:=2) (aD (dk (ae ai (ae (vc (by decide) ai (gw xy ai)) (ae ai ax))))))))))))))⟩
theorem rW (T:Txt K mg t):cA P w K mg base (CXE P w) 1 t.cW t.d_Walk___init__ ju (spI K (cx t) cW):=
 uA T.F_Walk___init__ rZ fun cdv A outer s H E hr=>⟨_,(av (IZ (qv 0) (aP (aa aL (aa aL (aa aL au)))))),
  (EC aR (ll (aS (ae aM (ae aM (ae aM ax))))) (iO T))⟩
theorem xj (T:Txt K mg t):cA P w K mg base (CXE P w) 1 t.eU t.d_word_rest mP (spP K (cx t) eU):=
 fS T.e_word_rest.F xl fun cdv A outer s H E hr=>⟨_,(av (aA (xJ (bc rfl T.m_WORDS T.r_WORDS) (qv 0)))),
  (aD (xF T.q_WORDS ai))⟩
theorem nK (T:Txt K mg t):cA P w K mg base (CXE P w) 1 t.eP t.d_is_figure nh (spP K (cx t) eP):=
 fS T.fB.F wC fun cdv A outer s H E hr=>⟨_,(av (aA (D2 mJ mJ (bc rfl T.m_NOUGHT T.r_NOUGHT) (qv 0) (bc rfl T.m_NINE T.r_NINE)))),
  (aD (jY mv mv af ai af))⟩
theorem o4 (T:Txt K mg t):cA P w K mg base (CXE P w) 2 t.dO t.d_behind_lead lg (spP K (cx t) dO):=
 fS T.fX.F u0 fun cdv A outer s H E hr=>⟨_,(ak (aV (bT bt (qv 0) (bc rfl T.m_NOUGHT T.r_NOUGHT)) (av (aA (aP (aa aL (aa aL au))))) aE)
   (ak (aV (cj (qx (nK T) T.fB hr aN (aa (qv 0) au)) (fun _=>rfl)) (av (aA (aP (aa aL (aa aL (aa aL au)))))) aE)
   (av (aA cZ)))),
  (aw (aX (ay (aq br ai af)) (aD (aS (ae aM (ae aM ax)))) aF)
    (aw (aX (eB (aO (ae ai ax))) (aD (aS (ae aM (ae aM (ae aM ax))))) aF)
    (aD da)))⟩
theorem nQ (T:Txt K mg t):cA P w K mg base (CXE P w) 3 t.bN t.d_behind_value ka (spP K (cx t) bN):=
 fS T.fo.F nR fun cdv A outer s H E hr=>⟨_,(ak (aV (bT bt (qv 0) (bc rfl T.m_ROW_BEGIN T.r_ROW_BEGIN)) (av (aA (aP (aa aL (aa aL au))))) aE)
   (ak (aV (bT bt (qv 0) (bc rfl T.m_FIELDS_BEGIN T.r_FIELDS_BEGIN)) (av (aA (aP (aa aL (aa aL au))))) aE)
   (ak (aV (bT bt (qv 0) (bc rfl T.m_QUOTE T.r_QUOTE)) (av (aA (aP (aa aL au)))) aE)
   (ak (aV (bT bt (qv 0) (bc rfl T.m_MINUS T.r_MINUS)) (av (aA (aP (aa aL au)))) aE)
   (ak (qz 1 nR.nd (qx (xj T) T.e_word_rest hr aN (aa (qv 0) au)))
   (ak (aV (bT Ad (qv 1) cZ) (av (aA (ng (M:=[]) (ι:=[]) (x:="sign") ⟨rfl,rfl,rfl,rfl,rfl,rfl,rfl,rfl,rfl,rfl,rfl,by decide +kernel⟩ rfl (Ha (qv 1)) fun _ _ _ _=>(dm (aa (qv 0) (aa (qv 0) au)))))) aE)
   (av (aA (qx (o4 T) T.fX hr aN (aa (qv 0) au)))))))))),
  (aw (aX (ay (aq br ai af)) (aD (aS (ae aM (ae aM ax)))) aF)
    (aw (aX (ay (aq br ai af)) (aD (aS (ae aM (ae aM ax)))) aF)
    (aw (aX (ay (aq br ai af)) (aD (aS (ae aM ax))) aF)
    (aw (aX (ay (aq br ai af)) (aD (aS (ae aM ax))) aF)
    (aw (aU (aO (ae ai ax)))
    (aw (aX (ay (aq A1 ai da)) (aD (Cw (by decide) ai (dk (ae ai (ae ai ax))))) aF)
    (aD (aO (ae ai ax)))))))))⟩
theorem pD (T:Txt K mg t):cA P w K mg base (CXE P w) 3 t.aW t.d_behind_in_number hZ (spP K (cx t) aW):=
 fS T.e_behind_in_number.F pP fun cdv A outer s H E hr=>⟨_,(ak (aV (bT bt (qv 0) aL) (av (aA (qx (o4 T) T.fX hr aN (aa (qv 1) au)))) aE)
   (ak (aV (bT bt (qv 0) aL) (av (aA (cS (by exact (cj (qx (nK T) T.fB hr aN (aa (qv 1) au)) (fun _=>rfl))) (aP (aa aL au)) cZ))) aE)
   (ak (aV (bT bt (qv 0) aL) (av (aA (cS (by exact (bT bt (qv 1) (bc rfl T.m_POINT T.r_POINT))) (aP (aa (dm (aa (bc rfl T.m_NOUGHT T.r_NOUGHT) (aa (bc rfl T.m_NINE T.r_NINE) au))) (aa aL au))) cZ))) aE)
   (ak (aV (bT bt (qv 0) aL) (av (aA (cS (by exact (jL nF (qv 1) (dm (aa (bc rfl T.m_SMALL_E T.r_SMALL_E) (aa (bc rfl T.m_BIG_E T.r_BIG_E) au))) rfl)) (aP (aa aL (aa (dm (aa (bc rfl T.m_NOUGHT T.r_NOUGHT) (aa (bc rfl T.m_NINE T.r_NINE) au))) (aa aL au)))) cZ))) aE)
   (av (aA (cS (by exact (jL nF (qv 1) (dm (aa (bc rfl T.m_PLUS T.r_PLUS) (aa (bc rfl T.m_MINUS T.r_MINUS) au))) rfl)) (aP au) cZ))))))),
  (aw (aX (ay (aq br ai aM)) (aD (aO (ae ai ax))) aF)
    (aw (aX (ay (aq br ai aM)) (aD (iq (eB (aO (ae ai ax))) (aS (ae aM ax)) da)) aF)
    (aw (aX (ay (aq br ai aM)) (aD (iq (ay (aq br ai af)) (aS (ae (dk (ae af (ae af ax))) (ae aM ax))) da)) aF)
    (aw (aX (ay (aq br ai aM)) (aD (iq (ay (aq (rB hr.units) ai (dk (ae af (ae af ax))))) (aS (ae aM (ae (dk (ae af (ae af ax))) (ae aM ax)))) da)) aF)
    (aD (iq (ay (aq (rB hr.units) ai (dk (ae af (ae af ax))))) (aS ax) da))))))⟩
theorem qV (T:Txt K mg t):cA P w K mg base (CXE P w) 2 t.fD t.d_hex_worth nJ (spP K (cx t) fD):=
 fS T.iP.F xt fun cdv A outer s H E hr=>⟨_,(ak (aV (cj (qx (nK T) T.fB hr aN (aa (qv 0) au)) (fun _=>rfl)) (av (aA (aB qp (qv 0) (bc rfl T.m_NOUGHT T.r_NOUGHT)))) aE)
   (ak (aV (kH mJ mJ ag (qv 0) ag) (av (aA (aB qp (qv 0) ag))) aE)
   (ak (aV (kH mJ mJ ag (qv 0) ag) (av (aA (aB qp (qv 0) ag))) aE)
   (av (aA cZ))))),
  (aw (aX (eB (aO (ae ai ax))) (aD (aq qF ai af)) aF)
    (aw (aX (ay (jY mv mv af ai af)) (aD (aq qF ai af)) aF)
    (aw (aX (ay (jY mv mv af ai af)) (aD (aq qF ai af)) aF)
    (aD da))))⟩
theorem su (T:Txt K mg t):cA P w K mg base (CXE P w) 1 t.dD t.d_behind_code_d jz (spP K (cx t) dD):=
 fS T.iw.F mG fun cdv A outer s H E hr=>⟨_,(ak (aV (bT nM (qv 0) ag) (av (aA (aP (aa aL (aa aL au))))) aE)
   (ak (aV (bT nM (qv 0) ag) (ak (qz 1 mG.nd (aP (aa (dm (aa (bc rfl T.m_BACKSLASH T.r_BACKSLASH) (aa (bc rfl T.m_BACKSLASH T.r_BACKSLASH) au))) (aa (dm (aa (bc rfl T.m_SMALL_U T.r_SMALL_U) (aa (bc rfl T.m_SMALL_U T.r_SMALL_U) au))) (aa aL (aa aL (aa aL (aa aL au))))))))
   (av (aA (aB eK (aP (aa aL (aa aL au))) (qv 1))))) aE)
   (av (aA cZ)))),
  (aw (aX (ay (aq nT ai af)) (aD (aS (ae aM (ae aM ax)))) aF)
    (aw (aX (ay (aq nT ai af)) (aw (aU (aS (ae (dk (ae af (ae af ax))) (ae (dk (ae af (ae af ax))) (ae aM (ae aM (ae aM (ae aM ax))))))))
    (aD (aq fY (aS (ae aM (ae aM ax))) ai))) aF)
    (aD da)))⟩
theorem qD (T:Txt K mg t):cA P w K mg base (CXE P w) 1 t.cO t.d_second_of_three iM (spP K (cx t) cO):=
 fS T.e_second_of_three.F qK fun cdv A outer s H E hr=>⟨_,(ak (aV (bT bt (qv 0) ag) (av (aA (dm (aa ag (aa ag au))))) aE)
   (ak (aV (bT bt (qv 0) ag) (av (aA (dm (aa ag (aa ag au))))) aE)
   (av (aA (bc rfl T.m_TAIL T.r_TAIL))))),
  (aw (aX (ay (aq br ai af)) (aD (dk (ae af (ae af ax)))) aF)
    (aw (aX (ay (aq br ai af)) (aD (dk (ae af (ae af ax)))) aF)
    (aD (nz T.q_TAIL))))⟩
theorem rp (T:Txt K mg t):cA P w K mg base (CXE P w) 1 t.dn t.d_second_of_four iT (spP K (cx t) dn):=
 fS T.e_second_of_four.F qW fun cdv A outer s H E hr=>⟨_,(ak (aV (bT bt (qv 0) ag) (av (aA (dm (aa ag (aa ag au))))) aE)
   (ak (aV (bT bt (qv 0) ag) (av (aA (dm (aa ag (aa ag au))))) aE)
   (av (aA (bc rfl T.m_TAIL T.r_TAIL))))),
  (aw (aX (ay (aq br ai af)) (aD (dk (ae af (ae af ax)))) aF)
    (aw (aX (ay (aq br ai af)) (aD (dk (ae af (ae af ax)))) aF)
    (aD (nz T.q_TAIL))))⟩
theorem DL (T:Txt K mg t):cA P w K mg base (CXE P w) 2 t.iW t.d_tails uP (spP K (cx t) iW):=
 fS T.e_tails.F DW fun cdv A outer s H E hr=>⟨_,(ak (aV (kH mJ nM ag (qv 0) ag) (av (aA (aP au))) aE)
   (ak (aV (kH mJ nM ag (qv 0) ag) (av (aA (aP (aa (bc rfl T.m_TAIL T.r_TAIL) au)))) aE)
   (ak (aV (kH mJ nM ag (qv 0) ag) (av (aA (aP (aa (qx (qD T) T.e_second_of_three hr aN (aa (qv 0) au)) (aa (bc rfl T.m_TAIL T.r_TAIL) au))))) aE)
   (ak (aV (kH mJ nM ag (qv 0) ag) (av (aA (aP (aa (qx (rp T) T.e_second_of_four hr aN (aa (qv 0) au)) (aa (bc rfl T.m_TAIL T.r_TAIL) (aa (bc rfl T.m_TAIL T.r_TAIL) au)))))) aE)
   (av (aA cZ)))))),
  (aw (aX (ay (jY mv nT af ai af)) (aD (aS ax)) aF)
    (aw (aX (ay (jY mv nT af ai af)) (aD (aS (ae (nz T.q_TAIL) ax))) aF)
    (aw (aX (ay (jY mv nT af ai af)) (aD (aS (ae (aO (ae ai ax)) (ae (nz T.q_TAIL) ax)))) aF)
    (aw (aX (ay (jY mv nT af ai af)) (aD (aS (ae (aO (ae ai ax)) (ae (nz T.q_TAIL) (ae (nz T.q_TAIL) ax))))) aF)
    (aD da)))))⟩
theorem pJ (T:Txt K mg t):cA P w K mg base (CXE P w) 3 t.bV t.d_behind_character hJ (spP K (cx t) bV):=
 fS T.fG.F ki fun cdv A outer s H E hr=>⟨_,(ak (aV (bT bt (qv 0) (bc rfl T.m_QUOTE T.r_QUOTE)) (av (aA (aP au))) aE)
   (ak (aV (bT bt (qv 0) (bc rfl T.m_BACKSLASH T.r_BACKSLASH)) (av (aA (aP (aa aL (aa aL au))))) aE)
   (ak (qz 1 ki.nd (qx (DL T) T.e_tails hr aN (aa (qv 0) au)))
   (ak (aV (mw (Cn (bT nM (qv 0) (bc rfl T.m_BLANK T.r_BLANK)) (zh (bT va (qv 1) cZ)))) (av (aA cZ)) aE)
   (av (aA (aB eK (qv 1) (aP (aa aL au))))))))),
  (aw (aX (ay (aq br ai af)) (aD (aS ax)) aF)
    (aw (aX (ay (aq br ai af)) (aD (aS (ae aM (ae aM ax)))) aF)
    (aw (aU (aO (ae ai ax)))
    (aw (aX (DX (ay (aq nT ai af)) (ay (aq ug ai da))) (aD da) aF)
    (aD (aq fY ai (aS (ae aM ax))))))))⟩
theorem tH (T:Txt K mg t):cA P w K mg base (CXE P w) 1 t.bO t.d_short_escape j7 (spP K (cx t) bO):=
 fS T.ji.F tF fun cdv A outer s H E hr=>⟨_,(av (aA (xJ (bc rfl T.m_SHORT_ESCAPES T.r_SHORT_ESCAPES) (qv 0)))),
  (aD (xF T.q_SHORT_ESCAPES ai))⟩
theorem pG (T:Txt K mg t):cA P w K mg base (CXE P w) 2 t.cy t.d_behind_backslash hX (spP K (cx t) cy):=
 fS T.fP.F pI fun cdv A outer s H E hr=>⟨_,(ak (aV (bT bt (qv 0) (bc rfl T.m_SMALL_U T.r_SMALL_U)) (av (aA (aP (aa aL au)))) aE)
   (av (aA (cS (by exact (bT va (qx (tH T) T.ji hr aN (aa (qv 0) au)) cZ)) cZ (aP au))))),
  (aw (aX (ay (aq br ai af)) (aD (aS (ae aM ax))) aF)
    (aD (iq (ay (aq ug (aO (ae ai ax)) da)) da (aS ax))))⟩
theorem qP (T:Txt K mg t):cA P w K mg base (CXE P w) 4 t.bL t.d_behind_in_text iX (spP K (cx t) bL):=
 fS T.e_behind_in_text.F lI fun cdv A outer s H E hr=>⟨_,(ak (aV (bT bt (qv 0) aL) (av (aA (qx (pJ T) T.fG hr aN (aa (qv 1) au)))) aE)
   (ak (aV (bT bt (qv 0) aL) (av (aA (qx (pG T) T.fP hr aN (aa (qv 1) au)))) aE)
   (ak (qz 2 lI.nd (qx (qV T) T.iP hr aN (aa (qv 1) au)))
   (ak (aV (bT va (qv 2) cZ) (av (aA cZ)) aE)
   (ak (aV (bT bt (qv 0) aL) (av (aA (cS (by exact (bT bt (qv 2) ag)) (aP (aa aL au)) (aP (aa aL (aa aL (aa aL au))))))) aE)
   (av (aA (qx (su T) T.iw hr aN (aa (qv 2) au))))))))),
  (aw (aX (ay (aq br ai aM)) (aD (aO (ae ai ax))) aF)
    (aw (aX (ay (aq br ai aM)) (aD (aO (ae ai ax))) aF)
    (aw (aU (aO (ae ai ax)))
    (aw (aX (ay (aq ug ai da)) (aD da) aF)
    (aw (aX (ay (aq br ai aM)) (aD (iq (ay (aq br ai af)) (aS (ae aM ax)) (aS (ae aM (ae aM (ae aM ax)))))) aF)
    (aD (aO (ae ai ax))))))))⟩
theorem vh (T:Txt K mg t):cA P w K mg base (CXE P w) 3 t.dB t.d_behind_hex mi (spP K (cx t) dB):=
 fS T.e_behind_hex.F qf fun cdv A outer s H E hr=>⟨_,(ak (qz 2 qf.nd (qx (qV T) T.iP hr aN (aa (qv 1) au)))
   (ak (aV (bT va (qv 2) cZ) (av (aA cZ)) aE)
   (ak (aV (bT bt (qv 0) aL) (av (aA (cS (by exact (bT bt (qv 2) ag)) (aP au) cZ))) aE)
   (ak (aV (bT bt (qv 0) aL) (av (aA (cS (by exact (bT As (qv 2) ag)) (aP au) cZ))) aE)
   (av (aA (aP au))))))),
  (aw (aU (aO (ae ai ax)))
    (aw (aX (ay (aq ug ai da)) (aD da) aF)
    (aw (aX (ay (aq br ai aM)) (aD (iq (ay (aq br ai af)) (aS ax) da)) aF)
    (aw (aX (ay (aq br ai aM)) (aD (iq (ay (aq AS ai af)) (aS ax) da)) aF)
    (aD (aS ax))))))⟩
theorem pM (T:Txt K mg t):cA P w K mg base (CXE P w) 4 t.cb t.d_behind_row_begin g8 (spP K (cx t) cb):=
 fS T.fL.F kj fun cdv A outer s H E hr=>⟨_,(ak (aV (bT bt (qv 0) (bc rfl T.m_ROW_END T.r_ROW_END)) (av (aA (aP au))) aE)
   (ak (qz 1 kj.nd (qx (nQ T) T.fo hr aN (aa (qv 0) au)))
   (av (aA (cS (by exact (bT va (qv 1) cZ)) cZ (aB eK (qv 1) (aP (aa aL (aa aL au))))))))),
  (aw (aX (ay (aq br ai af)) (aD (aS ax)) aF)
    (aw (aU (aO (ae ai ax)))
    (aD (iq (ay (aq ug ai da)) da (aq fY ai (aS (ae aM (ae aM ax))))))))⟩
theorem oe (T:Txt K mg t):cA P w K mg base (CXE P w) 1 t.ez t.d_member_rest kT (spP K (cx t) ez):=
 fS T.dw.F u7 fun cdv A outer s H E hr=>⟨_,(av (aA (aP (aa aL (aa (dm (aa (bc rfl T.m_COLON T.r_COLON) (aa (bc rfl T.m_COLON T.r_COLON) au))) (aa aL (aa aL (aa aL (aa aL au))))))))),
  (aD (aS (ae aM (ae (dk (ae af (ae af ax))) (ae aM (ae aM (ae aM (ae aM ax))))))))⟩
theorem nB (T:Txt K mg t):cA P w K mg base (CXE P w) 2 t.bY t.d_behind_fields_begin fM (spP K (cx t) bY):=
 fS T.eJ.F mW fun cdv A outer s H E hr=>⟨_,(ak (aV (bT bt (qv 0) (bc rfl T.m_FIELDS_END T.r_FIELDS_END)) (av (aA (aP au))) aE)
   (av (aA (cS (by exact (bT bt (qv 0) (bc rfl T.m_QUOTE T.r_QUOTE))) (aB eK (aP (aa aL au)) (vo ((oe T).mono (by decide)) hr rfl T.dw.m T.dw.F.kp T.dw.b aN)) cZ)))),
  (aw (aX (ay (aq br ai af)) (aD (aS ax)) aF)
    (aD (iq (ay (aq br ai af)) (aq fY (aS (ae aM ax)) (aO ax)) da)))⟩
theorem nY (T:Txt K mg t):cA P w K mg base (CXE P w) 5 t.ba t.d_behind_in_brackets fZ (spP K (cx t) ba):=
 fS T.e_behind_in_brackets.F nZ fun cdv A outer s H E hr=>⟨_,(ak (aV (bT bt (qv 0) aL) (av (aA (qx (pM T) T.fL hr aN (aa (qv 1) au)))) aE)
   (ak (aV (bT bt (qv 0) aL) (av (aA (qx (nB T) T.eJ hr aN (aa (qv 1) au)))) aE)
   (ak (aV (bT bt (qv 0) aL) (ak (aV (bT bt (qv 1) (bc rfl T.m_COMMA T.r_COMMA)) (av (aA (aP (aa aL (aa aL (aa aL (aa aL au))))))) aE)
   (av (aA (cS (by exact (bT bt (qv 1) (bc rfl T.m_ROW_END T.r_ROW_END))) (aP au) cZ)))) aE)
   (ak (aV (bT bt (qv 1) (bc rfl T.m_COMMA T.r_COMMA)) (av (aA (aB eK (aP (aa aL (aa aL au))) (vo ((oe T).mono (by decide)) hr rfl T.dw.m T.dw.F.kp T.dw.b aN)))) aE)
   (av (aA (cS (by exact (bT bt (qv 1) (bc rfl T.m_FIELDS_END T.r_FIELDS_END))) (aP au) cZ))))))),
  (aw (aX (ay (aq br ai aM)) (aD (aO (ae ai ax))) aF)
    (aw (aX (ay (aq br ai aM)) (aD (aO (ae ai ax))) aF)
    (aw (aX (ay (aq br ai aM)) (aw (aX (ay (aq br ai af)) (aD (aS (ae aM (ae aM (ae aM (ae aM ax)))))) aF)
    (aD (iq (ay (aq br ai af)) (aS ax) da))) aF)
    (aw (aX (ay (aq br ai af)) (aD (aq fY (aS (ae aM (ae aM ax))) (aO ax))) aF)
    (aD (iq (ay (aq br ai af)) (aS ax) da))))))⟩
theorem yJ (T:Txt K mg t):cA P w K mg base (CXE P w) 1 t.iy t.d_is_white oX (spP K (cx t) iy):=
 fS T.mL.F yT fun cdv A outer s H E hr=>⟨_,(av (aA (iu nF (qv 0) (bc rfl T.m_WHITE T.r_WHITE) rfl))),
  (aD (aq (rB hr.units) ai (nz T.q_WHITE)))⟩
theorem BH (T:Txt K mg t):cA P w K mg base (CXE P w) 6 t.j3 t.d_behind sL (spP K (cx t) j3):=
 fS T.qN.F B2 fun cdv A outer s H E hr=>⟨_,(ak (aV (cj (mK uT rfl T.n_isinstance L2.E.boot_isinstance (aa (qv 0) (aa (v3 (v:=.ty _) rfl T.n_tuple L2.E.boot_tuple rfl) au))) (fun _=>rfl)) (av (aA (cS (by exact (kH mJ mJ (qi gF (qv 0) ag) (qv 1) (qi gF (qv 0) ag))) (aP au) cZ))) aE)
   (ak (aV (jL nF (qv 0) (dm (aa aL (aa aL (aa aL (aa aL (aa aL au)))))) rfl) (av (aA (qx (pD T) T.e_behind_in_number hr aN (aa (qv 0) (aa (qv 1) au))))) aE)
   (ak (aV (jL nF (qv 0) (dm (aa aL (aa aL (aa aL (aa aL au))))) rfl) (av (aA (qx (qP T) T.e_behind_in_text hr aN (aa (qv 0) (aa (qv 1) au))))) aE)
   (ak (aV (jL nF (qv 0) (dm (aa aL (aa aL (aa aL au)))) rfl) (av (aA (qx (vh T) T.e_behind_hex hr aN (aa (qv 0) (aa (qv 1) au))))) aE)
   (ak (aV (jL nF (qv 0) (bc rfl T.m_UNENDED T.r_UNENDED) rfl) (av (aA (qx (nY T) T.e_behind_in_brackets hr aN (aa (qv 0) (aa (qv 1) au))))) aE)
   (ak (aV (bT bt (qv 0) aL) (av (aA (cS (by exact (cj (qx (yJ T) T.mL hr aN (aa (qv 1) au)) (fun _=>rfl))) (aP (aa aL au)) cZ))) aE)
   (ak (aV (bT bt (qv 0) aL) (av (aA (cS (by exact (bT bt (qv 1) (bc rfl T.m_QUOTE T.r_QUOTE))) (aP (aa aL au)) cZ))) aE)
   (av (aA (qx (nQ T) T.fo hr aN (aa (qv 1) au))))))))))),
  (aw (aX (eB (zj ai)) (aD (iq (ay (jY mv mv (aq gN ai af) ai (aq gN ai af))) (aS ax) da)) aF)
    (aw (aX (ay (aq (rB hr.units) ai (dk (ae aM (ae aM (ae aM (ae aM (ae aM ax)))))))) (aD (aO (ae ai (ae ai ax)))) aF)
    (aw (aX (ay (aq (rB hr.units) ai (dk (ae aM (ae aM (ae aM (ae aM ax))))))) (aD (aO (ae ai (ae ai ax)))) aF)
    (aw (aX (ay (aq (rB hr.units) ai (dk (ae aM (ae aM (ae aM ax)))))) (aD (aO (ae ai (ae ai ax)))) aF)
    (aw (aX (ay (aq (rB hr.units) ai (wQ fun S=>by unfold Rep; exact ⟨_,_,rfl,T.q_UNENDED S,(.cons (by unfold Rep; rfl) (.cons (by unfold Rep; rfl) (.cons (by unfold Rep; rfl) (.cons (by unfold Rep; rfl) .nil))))⟩))) (aD (aO (ae ai (ae ai ax)))) aF)
    (aw (aX (ay (aq br ai aM)) (aD (iq (eB (aO (ae ai ax))) (aS (ae aM ax)) da)) aF)
    (aw (aX (ay (aq br ai aM)) (aD (iq (ay (aq br ai af)) (aS (ae aM ax)) da)) aF)
    (aD (aO (ae ai ax))))))))))⟩
theorem sC (T:Txt K mg t):cA P w K mg base (CXE P w) 1 t.cD t.d_Walk_brackets jo (spI K (cx t) cD):=
 uA T.F_Walk_brackets rX fun cdv A outer s H E hr=>⟨_,(av (aA (pL T.n_len (BN (M:=[]) (ι:=[]) (x:="item") ⟨rfl,rfl,rfl,rfl,rfl,rfl,rfl,rfl,rfl,rfl,rfl,by decide +kernel⟩ rfl (ku (uK (qv 0))) (fun _ _ _ _=>(jL nF (qv 0) (bc rfl T.m_UNENDED T.r_UNENDED) rfl)) fun _ _ _ _=>(qv 0))))),
  (aD (gw se (qC (by decide) (gg (xN aR (iO T))) (ay (aq (rB hr.units) ai (wQ fun S=>by unfold Rep; exact ⟨_,_,rfl,T.q_UNENDED S,(.cons (by unfold Rep; rfl) (.cons (by unfold Rep; rfl) (.cons (by unfold Rep; rfl) (.cons (by unfold Rep; rfl) .nil))))⟩))) ai)))⟩
theorem tL (T:Txt K mg t):cA P w K mg base (CXE P w) 7 t.dQ t.d_Walk_goes_on j6 (spI K (cx t) dQ):=
 uA T.F_Walk_goes_on j9 fun cdv A outer s H E hr=>⟨_,(ak (uO jJ (cj (uK (qv 0)) (fun _=>rfl)) (ak (qz 2 j9.nd (CS PySem.F.plainAttrs_list PySem.F.slot_list_pop PySem.F.type_list_pop CH (uK (qv 0))))
   (ak (qz 3 j9.nd (qx (BH T) T.qN hr aN (aa (qv 2) (aa (qv 1) au))))
   (ak (aV (bT Ad (qv 3) cZ) (ak (qex fJ (uK (qv 0)) (Je (qv 3) (mB jw ag)))
   (av (aA (iu mJ (vv (qv 0) T.c_Walk T.h_Walk_brackets ((sC T).mono (by decide)) hr T.b_Walk_brackets aN) (bc rfl T.m_MOST_BRACKETS T.r_MOST_BRACKETS) (kL _))))) aE)
   (av (aV (jL vx (qv 2) (bc rfl T.m_LOOSE T.r_LOOSE) rfl) (av (aA AE)) aE))))))
   (av (aA AE))),
  (aw (u1 (gW (xN aR (iO T))) (aw (pj (A6 (xN aR (iO T))))
    (aw (aU (aO (ae ai (ae ai ax))))
    (aw (aX (ay (aq A1 ai da)) (aw (fN (xN aR (iO T)) (G5 ai (mx jr af)))
    (aD (aq mv (xT rfl rfl (Ga aR) mO) af))) aF)
    (aX (ay (aq (yX hr.units) ai (wQ fun S=>by unfold Rep; exact ⟨_,_,rfl,T.q_LOOSE S,(.cons (by unfold Rep; rfl) (.cons (by unfold Rep; rfl) (.cons (by unfold Rep; rfl) (.cons (by unfold Rep; rfl) (.cons (by unfold Rep; rfl) .nil)))))⟩))) (aD A2) aF)))))
    (aD A2))⟩
theorem wA (T:Txt K mg t):cA P w K mg base (CXE P w) 8 t.fz t.d_Walk_take nk (spI K (cx t) fz):=
 uA T.F_Walk_take nc fun cdv A outer s H E hr=>⟨_,(ak (qw jJ rfl (Fo rfl T.n_enumerate (aa (qv 1) au)) (Im rfl (yt (lB (i:=2) nc.nd rfl (by first|exact Or.inl rfl|exact Or.inr rfl)) (yt (lB (i:=3) nc.nd rfl (by first|exact Or.inl rfl|exact Or.inr rfl)) EO))) (av (aV (Hs (cj (yB (qv 0) T.c_Walk T.h_Walk_goes_on ((tL T).mono (by decide)) hr T.b_Walk_goes_on aN (aa (qv 3) au)) (fun _=>rfl))) (av (aA (qv 2))) aE)))
   (av (aA (pL T.n_len (qv 1))))),
  (aw (E4 ai (EG (yS rfl rfl (oA aR) (ft (zU (W:=fun _ _ _ _=>False) ai) mO)) pz aF))
    (aD (gw se ai)))⟩
theorem so (T:Txt K mg t):cA P w K mg base (CXE P w) 1 t.cV t.d_Walk_is_whole jq (spI K (cx t) cV):=
 uA T.F_Walk_is_whole sM fun cdv A outer s H E hr=>⟨_,(av (aA (mK Bi rfl T.n_all L2.E.boot_all (aa (ng (M:=[]) (ι:=[]) (x:="item") ⟨rfl,rfl,rfl,rfl,rfl,rfl,rfl,rfl,rfl,rfl,rfl,by decide +kernel⟩ rfl (ku (uK (qv 0))) fun _ _ _ _=>(iu nF (qv 0) (bc rfl T.m_LOOSE T.r_LOOSE) rfl)) au)))),
  (aD (gw (Ii hr.hd) (vc (by decide) (gg (xN aR (iO T))) (aq (rB hr.units) ai (wQ fun S=>by unfold Rep; exact ⟨_,_,rfl,T.q_LOOSE S,(.cons (by unfold Rep; rfl) (.cons (by unfold Rep; rfl) (.cons (by unfold Rep; rfl) (.cons (by unfold Rep; rfl) (.cons (by unfold Rep; rfl) .nil)))))⟩)))))⟩
theorem ym (T:Txt K mg t):cA P w K mg base (CXE P w) 9 t.kq t.d_fault ub (spP K (cx t) kq):=
 fS T.pq.F ud fun cdv A outer s H E hr=>⟨_,(ak (qz 1 ud.nd (DY T.k_Walk (rW T) (hr.mono (by decide)) rfl T.m_Walk T.b_Walk___init__))
   (ak (qz 2 ud.nd (yB (qv 1) T.c_Walk T.h_Walk_take ((wA T).mono (by decide)) hr T.b_Walk_take aN (aa (qv 0) au)))
   (ak (aV (mw (jv (bT bt (qv 2) (pL T.n_len (qv 0))) (jI (cj (vv (qv 1) T.c_Walk T.h_Walk_is_whole ((so T).mono (by decide)) hr T.b_Walk_is_whole aN) (fun _=>rfl))))) (av (aA cZ)) aE)
   (av (aA (qv 2)))))),
  (aw (qO (Fl rfl))
    (aw (pj (yS rfl rfl (oA aR) (ft (zU (W:=fun _ _ _ _=>False) ai) mO)))
    (aw (aX (jm (ay (aq br ai (gw se ai))) (eB (xT rfl rfl (Ga aR) mO))) (aD da) aF)
    pz)))⟩
theorem wU (T:Txt K mg t):cA P w K mg base (CXE P w) 1 t.gA t.d_law_whole nL (spP K (cx t) gA):=
 fS T.lC.F xu fun cdv A outer s H E hr=>⟨_,(av (aA (Dq (mK uT rfl T.n_isinstance L2.E.boot_isinstance (aa (qv 0) (aa (v3 (v:=.ty _) rfl T.n_int L2.E.boot_int rfl) au))) (Ca (G7 (mK uT rfl T.n_isinstance L2.E.boot_isinstance (aa (qv 0) (aa (v3 (v:=.ty _) rfl T.n_bool L2.E.boot_bool rfl) au)))))))),
  (aD (D3 (zj ai) (IX (zj ai))))⟩
theorem IU (T:Txt K mg t):cA P w K mg base (CXE P w) 10 t.vw t.d_law zN (spP K (cx t) vw):=
 fS T.DG.F js fun cdv A outer s H E hr=>⟨_,(ak (qz 1 js.nd (qx (wu T) T.e_law_built hr aN (aa (qv 0) (aa (aB cz ag (aB bx (qx (eH T) T.bX hr aN (aa (qv 0) (aa ag au))) ag)) au))))
   (ak (qz 2 js.nd (qi gF (qv 1) ag))
   (ak (qz 3 js.nd (qi bM (qi gF (qv 1) ag) (aB bx (qx (eH T) T.bX hr aN (aa (qv 0) (aa ag au))) (pL T.n_len (qi gF (qv 1) ag)))))
   (ak (vk (i:=4) js.nd rfl (by first|exact Or.inl rfl|exact Or.inr rfl) (M:=[]) (ι:=[]) (x:="_law_one") ⟨rfl,rfl,rfl,rfl,rfl,rfl,rfl,rfl,rfl,rfl,rfl,by decide +kernel⟩ rfl (ku (qi gF (qv 1) ag)) (fun _ _ _ _=>(bT bt (qi gF (qv 0) ag) aL)) fun _ _ _ _=>(qv 0))
   (ak (aV (mw (jv (cj (qv 4) (fun _=>rfl)) (jI (bT bt (aB bx (qx (eH T) T.bX hr aN (aa (qv 0) (aa ag au))) ag) ag)))) (av (qz 3 js.nd (qi bM (qv 4) (aB bx (qx (eH T) T.bX hr aN (aa (qv 0) (aa ag au))) (pL T.n_len (qv 4)))))) aE)
   (ak (qz 5 js.nd (aB bx (qx (eH T) T.bX hr aN (aa (qv 0) (aa ag au))) ag))
   (ak (aV (bT bt (qv 5) ag) (ak (qz 6 js.nd (qi gF (qv 3) ag))
   (ak (qz 7 js.nd (qi bM (aP (aa ag (aa ag (aa ag (aa ag (aa ag (aa ag (aa ag (aa ag (aa ag (aa ag (aa ag (aa ag au))))))))))))) (aB bx (qx (eH T) T.bX hr aN (aa (qv 0) (aa ag au))) ag)))
   (ak (vk (i:=8) js.nd rfl (by first|exact Or.inl rfl|exact Or.inr rfl) (M:=[]) (ι:=[]) (x:="_law_byte") ⟨rfl,rfl,rfl,rfl,rfl,rfl,rfl,rfl,rfl,rfl,rfl,by decide +kernel⟩ rfl (ku (oy rn (qv 2) rE (rD (qv 6)))) (fun _ _ _ _=>(jL vx (qv 0) (dm (aa ag (aa ag (aa ag (aa ag au))))) rfl)) fun _ _ _ _=>(qv 0))
   (av (aV (mw (jv (bT bt (qv 7) ag) (jv (cj (qv 8) (fun _=>rfl)) (jI (bT bt (qi bM (qv 8) (mB jw ag)) ag))))) (av (aA (iu Dr (qx (ym T) T.pq hr aN (aa (aB eK (oy rn (qv 2) rE (rD (qv 6))) (aP (aa (qv 7) au))) au)) (qv 6) (kL _)))) aE))))) (ak (qz 6 js.nd (qi gF (qv 3) ag))
   (av (qz 7 js.nd (qi bM (aP (aa ag (aa ag (aa ag (aa ag (aa ag (aa ag (aa ag (aa ag au))))))))) (aB bx (qx (eH T) T.bX hr aN (aa (qv 0) (aa ag au))) ag))))))
   (ak (qz 9 js.nd (qx (ym T) T.pq hr aN (aa (aB eK (aB eK (oy rn (qv 2) rE (rD (qv 6))) (aP (aa (qv 7) au))) (oy rn (qv 2) (rD (qv 6)) rE)) au)))
   (av (aA (Dq (qx (wU T) T.lC hr aN (aa (qv 9) au)) (Ca (iu bt (qv 9) (qv 6) (kL _)))))))))))))),
  (aw (aU (aO (ae ai (ae (aq cB af (aq bw (aO (ae ai (ae af ax))) af)) ax))))
    (aw (aU (aq gN ai af))
    (aw (aU (aq kM (aq gN ai af) (aq bw (aO (ae ai (ae af ax))) (gw se (aq gN ai af)))))
    (aw (aU (qC (by decide) (aq gN ai af) (ay (aq br (aq gN ai af) aM)) ai))
    (aw (aX (jm (eB ai) (ay (aq br (aq bw (aO (ae ai (ae af ax))) af) af))) (aU (aq kM ai (aq bw (aO (ae ai (ae af ax))) (gw se ai)))) aF)
    (aw (aU (aq bw (aO (ae ai (ae af ax))) af))
    (aw (aX (ay (aq br ai af)) (aw (aU (aq gN ai af))
    (aw (aU (aq kM (aS (ae af (ae af (ae af (ae af (ae af (ae af (ae af (ae af (ae af (ae af (ae af (ae af ax))))))))))))) (aq bw (aO (ae ai (ae af ax))) af)))
    (aw (aU (qC (by decide) (uZ ai rA (qZ ai)) (ay (aq (yX hr.units) ai (dk (ae af (ae af (ae af (ae af ax))))))) ai))
    (aX (jm (ay (aq br ai af)) (jm (eB ai) (ay (aq br (aq kM ai (mx jr af)) af)))) (aD (aq Ee (aO (ae (aq fY (uZ ai rA (qZ ai)) (aS (ae ai ax))) ax)) ai)) aF)))) (aw (aU (aq gN ai af))
    (aU (aq kM (aS (ae af (ae af (ae af (ae af (ae af (ae af (ae af (ae af ax))))))))) (aq bw (aO (ae ai (ae af ax))) af)))))
    (aw (aU (aO (ae (aq fY (aq fY (uZ ai rA (qZ ai)) (aS (ae ai ax))) (uZ ai (qZ ai) rA)) ax)))
    (aD (D3 (aO (ae ai ax)) (aq br ai ai)))))))))))⟩
end
open PySem.W in
theorem all_mk {l:PySem.W.OpenLaw} {w:World} {K:PySem.W.Frag} {h:Heap} {mg:Str -> Option Value} {fa:Addr} (X:K.In h) (G:h.Ns mainGlobals mg) (hfa:mg "law" = some (.ref fa))
  (h0:Fd K "tails" wO f0 d0)
  (h1:Fd K "second_of_three" i5 f1 d1)
  (h2:Fd K "second_of_four" jD f2 d2)
  (h3:Fd K "is_white" qu f3 d3)
  (h4:Fd K "is_figure" oB f4 d4)
  (h5:Fd K "hex_worth" oG f5 d5)
  (h6:Fd K "word_rest" oZ f6 d6)
  (h7:Fd K "short_escape" kG f7 d7)
  (h8:Fd K "behind" uf f8 d8)
  (h9:Fd K "behind_value" kO f9 d9)
  (h10:Fd K "behind_lead" lY f10 d10)
  (h11:Fd K "behind_in_number" iH f11 d11)
  (h12:Fd K "behind_in_text" jx f12 d12)
  (h13:Fd K "behind_character" iK f13 d13)
  (h14:Fd K "behind_backslash" iI f14 d14)
  (h15:Fd K "behind_code_d" kd f15 d15)
  (h16:Fd K "behind_hex" mN f16 d16)
  (h17:Fd K "behind_in_brackets" gm f17 d17)
  (h18:Fd K "behind_row_begin" iJ f18 d18)
  (h19:Fd K "behind_fields_begin" gb f19 d19)
  (h20:Fd K "member_rest" mj f20 d20)
  (h21:Fd K "fault" wy f21 d21)
  (h22:Fd K "_law_cell" qA f22 d22)
  (h23:Fd K "_law_mix" sN f23 d23)
  (h24:Fd K "_law_whole" o6 f24 d24)
  (h25:Fd K "_law_point" oP f25 d25)
  (h26:Fd K "_law_points" mQ f26 d26)
  (h27:Fd K "_law_eight" oK f27 d27)
  (h28:Fd K "_law_hex" sm f28 d28)
  (h29:Fd K "_law_sign" qm f29 d29)
  (h30:Fd K "_law_text" qL f30 d30)
  (h31:Fd K "_law_number" m4 f31 d31)
  (h32:Fd K "_law_plain" oI f32 d32)
  (h33:Fd K "_law_white" oO f33 d33)
  (h34:Fd K "_law_plain_value" i0 f34 d34)
  (h35:Fd K "_law_name" qJ f35 d35)
  (h36:Fd K "_law_close" oF f36 d36)
  (h37:Fd K "_law_begin" oa f37 d37)
  (h38:Fd K "_law_built" oh f38 d38)
  (a39:nsIn K mainGlobals "law" = some (some (.ref f39))) (l39:K.lookup f39=some ⟨oc39,od39,.func (fnOf "law" "law" (eL yV) (dH yV) (aC yV) .none kV39 dc39 pm39 an39 cd39 ct39),sl39⟩) (c39:codeIn K cd39 "law" = true) (k39:keepIn K (.ref f39)=true)
  (a40:findIn K (.ref C0) "__init__" = some (some (.ref f40))) (i40:isFn K (.ref f40)=true) (l40:K.lookup f40=some ⟨oc40,od40,.func (fnOf "__init__" "Walk.__init__" (eL dZ) (dH dZ) (aC dZ) .none kV40 dc40 pm40 an40 cd40 ct40),sl40⟩) (c40:codeIn K cd40 "Walk.__init__" = true) (k40:keepIn K (.ref f40)=true)
  (a41:findIn K (.ref C0) "take" = some (some (.ref f41))) (i41:isFn K (.ref f41)=true) (l41:K.lookup f41=some ⟨oc41,od41,.func (fnOf "take" "Walk.take" (eL gy) (dH gy) (aC gy) .none kV41 dc41 pm41 an41 cd41 ct41),sl41⟩) (c41:codeIn K cd41 "Walk.take" = true) (k41:keepIn K (.ref f41)=true)
  (a42:findIn K (.ref C0) "goes_on" = some (some (.ref f42))) (i42:isFn K (.ref f42)=true) (l42:K.lookup f42=some ⟨oc42,od42,.func (fnOf "goes_on" "Walk.goes_on" (eL eG) (dH eG) (aC eG) .none kV42 dc42 pm42 an42 cd42 ct42),sl42⟩) (c42:codeIn K cd42 "Walk.goes_on" = true) (k42:keepIn K (.ref f42)=true)
  (a43:findIn K (.ref C0) "brackets" = some (some (.ref f43))) (i43:isFn K (.ref f43)=true) (l43:K.lookup f43=some ⟨oc43,od43,.func (fnOf "brackets" "Walk.brackets" (eL dY) (dH dY) (aC dY) .none kV43 dc43 pm43 an43 cd43 ct43),sl43⟩) (c43:codeIn K cd43 "Walk.brackets" = true) (k43:keepIn K (.ref f43)=true)
  (a44:findIn K (.ref C0) "is_whole" = some (some (.ref f44))) (i44:isFn K (.ref f44)=true) (l44:K.lookup f44=some ⟨oc44,od44,.func (fnOf "is_whole" "Walk.is_whole" (eL ee) (dH ee) (aC ee) .none kV44 dc44 pm44 an44 cd44 ct44),sl44⟩) (c44:codeIn K cd44 "Walk.is_whole" = true) (k44:keepIn K (.ref f44)=true)
  (z0:nsIn K mainGlobals "isinstance" = some none)
  (z1:nsIn K mainGlobals "tuple" = some none)
  (z2:nsIn K mainGlobals "len" = some none)
  (z3:nsIn K mainGlobals "int" = some none)
  (z4:nsIn K mainGlobals "bool" = some none)
  (z5:nsIn K mainGlobals "range" = some none)
  (z6:nsIn K mainGlobals "str" = some none)
  (z7:nsIn K mainGlobals "ord" = some none)
  (z8:nsIn K mainGlobals "enumerate" = some none)
  (z9:nsIn K mainGlobals "all" = some none)
  (ca0:nsIn K mainGlobals "Walk" = some (some (.ref C0))) (pg0:plainGet K C0 Str.empty=true) (hd0:hasDictIn K C0=true) (po0:plainOver K C0=true) (sa0:findIn K (.ref C0) "__setattr__" = some (some (.builtin "object.__setattr__"))) (mk0:makesIn K C0=true) (kc0:keepIn K (.ref C0)=true)
  (na0_0:findIn K (.ref C0) "coming" = some none)
  (va0:nsIn K mainGlobals "TAIL" = some (some (.ref v0))) (vl0:K.lookup v0=some ⟨.type "tuple",vd0,.seq #[.int 128 t0_0,.int 191 t0_1] vn0,vs0⟩)
  (va1:nsIn K mainGlobals "BLANK" = some (some (.int 32 t1)))
  (va2:nsIn K mainGlobals "QUOTE" = some (some (.int 34 t2)))
  (va3:nsIn K mainGlobals "PLUS" = some (some (.int 43 t3)))
  (va4:nsIn K mainGlobals "COMMA" = some (some (.int 44 t4)))
  (va5:nsIn K mainGlobals "MINUS" = some (some (.int 45 t5)))
  (va6:nsIn K mainGlobals "POINT" = some (some (.int 46 t6)))
  (va7:nsIn K mainGlobals "NOUGHT" = some (some (.int 48 t7)))
  (va8:nsIn K mainGlobals "NINE" = some (some (.int 57 t8)))
  (va9:nsIn K mainGlobals "COLON" = some (some (.int 58 t9)))
  (va10:nsIn K mainGlobals "BIG_E" = some (some (.int 69 t10)))
  (va11:nsIn K mainGlobals "ROW_BEGIN" = some (some (.int 91 t11)))
  (va12:nsIn K mainGlobals "BACKSLASH" = some (some (.int 92 t12)))
  (va13:nsIn K mainGlobals "ROW_END" = some (some (.int 93 t13)))
  (va14:nsIn K mainGlobals "SMALL_E" = some (some (.int 101 t14)))
  (va15:nsIn K mainGlobals "SMALL_U" = some (some (.int 117 t15)))
  (va16:nsIn K mainGlobals "FIELDS_BEGIN" = some (some (.int 123 t16)))
  (va17:nsIn K mainGlobals "FIELDS_END" = some (some (.int 125 t17)))
  (va18:nsIn K mainGlobals "WHITE" = some (some (.ref v18))) (vl18:K.lookup v18=some ⟨.type "tuple",vd18,.seq #[.int 9 t18_0,.int 10 t18_1,.int 13 t18_2,.int 32 t18_3] vn18,vs18⟩)
  (va19:nsIn K mainGlobals "WORDS" = some (some (.ref v19))) (vl19:K.lookup v19=some ⟨.type "dict",none,.dict #[⟨110,.int 110 tk19_0,.ref w19_0⟩,⟨116,.int 116 tk19_1,.ref w19_1⟩,⟨102,.int 102 tk19_2,.ref w19_2⟩] ep19,#[]⟩)
  (wl19_0:K.lookup w19_0=some ⟨.type "tuple",wd19_0,.seq #[.int 117 tx19_0_0,.int 108 tx19_0_1,.int 108 tx19_0_2] wn19_0,ws19_0⟩)
  (wl19_1:K.lookup w19_1=some ⟨.type "tuple",wd19_1,.seq #[.int 114 tx19_1_0,.int 117 tx19_1_1,.int 101 tx19_1_2] wn19_1,ws19_1⟩)
  (wl19_2:K.lookup w19_2=some ⟨.type "tuple",wd19_2,.seq #[.int 97 tx19_2_0,.int 108 tx19_2_1,.int 115 tx19_2_2,.int 101 tx19_2_3] wn19_2,ws19_2⟩)
  (vm19:(v19==sysModules)=false)
  (va20:nsIn K mainGlobals "SHORT_ESCAPES" = some (some (.ref v20))) (vl20:K.lookup v20=some ⟨.type "dict",none,.dict #[⟨34,.int 34 tk20_0,(.int 34 tv20_0)⟩,⟨92,.int 92 tk20_1,(.int 92 tv20_1)⟩,⟨47,.int 47 tk20_2,(.int 47 tv20_2)⟩,⟨98,.int 98 tk20_3,(.int 8 tv20_3)⟩,⟨102,.int 102 tk20_4,(.int 12 tv20_4)⟩,⟨110,.int 110 tk20_5,(.int 10 tv20_5)⟩,⟨114,.int 114 tk20_6,(.int 13 tv20_6)⟩,⟨116,.int 116 tk20_7,(.int 9 tv20_7)⟩] ep20,#[]⟩)
  (vm20:(v20==sysModules)=false)
  (va21:nsIn K mainGlobals "MOST_BRACKETS" = some (some (.int 64 t21)))
  (va22:nsIn K mainGlobals "LOOSE" = some (some (.ref v22))) (vl22:K.lookup v22=some ⟨.type "tuple",vd22,.seq #[.str "white" t22_0,.str "figures" t22_1,.str "fraction" t22_2,.str "exponent" t22_3,.str "sign" t22_4] vn22,vs22⟩)
  (va23:nsIn K mainGlobals "UNENDED" = some (some (.ref v23))) (vl23:K.lookup v23=some ⟨.type "tuple",vd23,.seq #[.str "row" t23_0,.str "more row" t23_1,.str "fields" t23_2,.str "more fields" t23_3] vn23,vs23⟩):
  ∃ fd:FuncData,(∀ (s:Shared) (v:Value),BindsTo s fd ⟨[v],[]⟩ [("_law_script",v)]) /\ ∀ base:Heap,K.In base -> base.Ns mainGlobals mg -> cA l.prog w K mg base (CXE l.prog w) 10 fa fd ["_law_script"] (xk K):=by
 have e:=hfa.symm.trans (PySem.W.mg_of X G a39)
 cases e
 have T:Txt K mg ⟨f0,d0,f1,d1,f2,d2,f3,d3,f4,d4,f5,d5,f6,d6,f7,d7,f8,d8,f9,d9,f10,d10,f11,d11,f12,d12,f13,d13,f14,d14,f15,d15,f16,d16,f17,d17,f18,d18,f19,d19,f20,d20,f21,d21,f22,d22,f23,d23,f24,d24,f25,d25,f26,d26,f27,d27,f28,d28,f29,d29,f30,d30,f31,d31,f32,d32,f33,d33,f34,d34,f35,d35,f36,d36,f37,d37,f38,d38,f39,_,f40,_,f41,_,f42,_,f43,_,f44,_,C0,v0,_,_,_,_,_,_,_,_,_,_,_,_,_,_,_,_,_,v18,v19,v20,_,v22,v23⟩:=⟨h0.e1 X G,
  h1.e1 X G,
  h2.e1 X G,
  h3.e1 X G,
  h4.e1 X G,
  h5.e1 X G,
  h6.e1 X G,
  h7.e1 X G,
  h8.e2 X G,
  h9.e1 X G,
  h10.e1 X G,
  h11.e2 X G,
  h12.e2 X G,
  h13.e1 X G,
  h14.e1 X G,
  h15.e1 X G,
  h16.e2 X G,
  h17.e2 X G,
  h18.e1 X G,
  h19.e1 X G,
  h20.e0 X G,
  h21.e1 X G,
  h22.e2 X G,
  h23.e2 X G,
  h24.e1 X G,
  h25.e1 X G,
  h26.e2 X G,
  h27.e1 X G,
  h28.e2 X G,
  h29.e2 X G,
  h30.e2 X G,
  h31.e1 X G,
  h32.e2 X G,
  h33.e1 X G,
  h34.e2 X G,
  h35.e2 X G,
  h36.e3 X G,
  h37.e5 X G,
  h38.e2 X G,
  (du a39 l39 c39 k39).e1 X G,
  kZ (st:=dZ) l40 c40 k40,(kZ (st:=dZ) l40 c40 k40).binds (ps:=["self"]) fun _ _ _ _ _ _ us hl=>match us,hl with|[_],_=>rfl,
  kZ (st:=gy) l41 c41 k41,⟨a41,i41,k41⟩,(kZ (st:=gy) l41 c41 k41).binds (ps:=["self","row"]) fun _ _ _ _ _ _ us hl=>match us,hl with|[_,_],_=>rfl,
  kZ (st:=eG) l42 c42 k42,⟨a42,i42,k42⟩,(kZ (st:=eG) l42 c42 k42).binds (ps:=["self","byte"]) fun _ _ _ _ _ _ us hl=>match us,hl with|[_,_],_=>rfl,
  kZ (st:=dY) l43 c43 k43,⟨a43,i43,k43⟩,(kZ (st:=dY) l43 c43 k43).binds (ps:=["self"]) fun _ _ _ _ _ _ us hl=>match us,hl with|[_],_=>rfl,
  kZ (st:=ee) l44 c44 k44,⟨a44,i44,k44⟩,(kZ (st:=ee) l44 c44 k44).binds (ps:=["self"]) fun _ _ _ _ _ _ us hl=>match us,hl with|[_],_=>rfl,
  PySem.W.mg_none_of X G z0,
  PySem.W.mg_none_of X G z1,
  PySem.W.mg_none_of X G z2,
  PySem.W.mg_none_of X G z3,
  PySem.W.mg_none_of X G z4,
  PySem.W.mg_none_of X G z5,
  PySem.W.mg_none_of X G z6,
  PySem.W.mg_none_of X G z7,
  PySem.W.mg_none_of X G z8,
  PySem.W.mg_none_of X G z9,
  PySem.W.mg_of X G ca0,⟨pg0,hd0,po0,sa0⟩,⟨mk0,a40,i40,kc0⟩,
  na0_0,
  PySem.W.mg_of X G va0,rfl,fun H=>.inr ⟨_,_,_,vl0,rfl,rfl,(by show 2 <= sizeLine; decide),.cons ⟨_,rfl⟩ (.cons ⟨_,rfl⟩ (.nil))⟩,
  PySem.W.mg_of X G va1,⟨t1,rfl⟩,
  PySem.W.mg_of X G va2,⟨t2,rfl⟩,
  PySem.W.mg_of X G va3,⟨t3,rfl⟩,
  PySem.W.mg_of X G va4,⟨t4,rfl⟩,
  PySem.W.mg_of X G va5,⟨t5,rfl⟩,
  PySem.W.mg_of X G va6,⟨t6,rfl⟩,
  PySem.W.mg_of X G va7,⟨t7,rfl⟩,
  PySem.W.mg_of X G va8,⟨t8,rfl⟩,
  PySem.W.mg_of X G va9,⟨t9,rfl⟩,
  PySem.W.mg_of X G va10,⟨t10,rfl⟩,
  PySem.W.mg_of X G va11,⟨t11,rfl⟩,
  PySem.W.mg_of X G va12,⟨t12,rfl⟩,
  PySem.W.mg_of X G va13,⟨t13,rfl⟩,
  PySem.W.mg_of X G va14,⟨t14,rfl⟩,
  PySem.W.mg_of X G va15,⟨t15,rfl⟩,
  PySem.W.mg_of X G va16,⟨t16,rfl⟩,
  PySem.W.mg_of X G va17,⟨t17,rfl⟩,
  PySem.W.mg_of X G va18,rfl,fun H=>.inr ⟨_,_,_,vl18,rfl,rfl,(by show 4 <= sizeLine; decide),.cons ⟨_,rfl⟩ (.cons ⟨_,rfl⟩ (.cons ⟨_,rfl⟩ (.cons ⟨_,rfl⟩ (.nil))))⟩,
  PySem.W.mg_of X G va19,rfl,⟨[(110,.ref w19_0),(116,.ref w19_1),(102,.ref w19_2)],⟨vm19,by simp,_,_,vl19,.cons ⟨rfl,⟨_,rfl⟩,rfl⟩ (.cons ⟨rfl,⟨_,rfl⟩,rfl⟩ (.cons ⟨rfl,⟨_,rfl⟩,rfl⟩ (.nil)))⟩,.cons ⟨rfl,fun _=>by unfold Rep; exact ⟨_,[.int 117,.int 108,.int 108],rfl,.inr ⟨_,_,_,wl19_0,rfl,rfl,(by show 3 <= sizeLine; decide),.cons ⟨_,rfl⟩ (.cons ⟨_,rfl⟩ (.cons ⟨_,rfl⟩ (.nil)))⟩,bZ.ints (ns:=[117,108,108])⟩⟩ (.cons ⟨rfl,fun _=>by unfold Rep; exact ⟨_,[.int 114,.int 117,.int 101],rfl,.inr ⟨_,_,_,wl19_1,rfl,rfl,(by show 3 <= sizeLine; decide),.cons ⟨_,rfl⟩ (.cons ⟨_,rfl⟩ (.cons ⟨_,rfl⟩ (.nil)))⟩,bZ.ints (ns:=[114,117,101])⟩⟩ (.cons ⟨rfl,fun _=>by unfold Rep; exact ⟨_,[.int 97,.int 108,.int 115,.int 101],rfl,.inr ⟨_,_,_,wl19_2,rfl,rfl,(by show 4 <= sizeLine; decide),.cons ⟨_,rfl⟩ (.cons ⟨_,rfl⟩ (.cons ⟨_,rfl⟩ (.cons ⟨_,rfl⟩ (.nil))))⟩,bZ.ints (ns:=[97,108,115,101])⟩⟩ (.nil)))⟩,
  PySem.W.mg_of X G va20,rfl,⟨[(34,.int 34),(92,.int 92),(47,.int 47),(98,.int 8),(102,.int 12),(110,.int 10),(114,.int 13),(116,.int 9)],⟨vm20,by simp,_,_,vl20,.cons ⟨rfl,⟨_,rfl⟩,⟨_,rfl⟩⟩ (.cons ⟨rfl,⟨_,rfl⟩,⟨_,rfl⟩⟩ (.cons ⟨rfl,⟨_,rfl⟩,⟨_,rfl⟩⟩ (.cons ⟨rfl,⟨_,rfl⟩,⟨_,rfl⟩⟩ (.cons ⟨rfl,⟨_,rfl⟩,⟨_,rfl⟩⟩ (.cons ⟨rfl,⟨_,rfl⟩,⟨_,rfl⟩⟩ (.cons ⟨rfl,⟨_,rfl⟩,⟨_,rfl⟩⟩ (.cons ⟨rfl,⟨_,rfl⟩,⟨_,rfl⟩⟩ (.nil))))))))⟩,.cons ⟨rfl,fun _=>by unfold Rep; rfl⟩ (.cons ⟨rfl,fun _=>by unfold Rep; rfl⟩ (.cons ⟨rfl,fun _=>by unfold Rep; rfl⟩ (.cons ⟨rfl,fun _=>by unfold Rep; rfl⟩ (.cons ⟨rfl,fun _=>by unfold Rep; rfl⟩ (.cons ⟨rfl,fun _=>by unfold Rep; rfl⟩ (.cons ⟨rfl,fun _=>by unfold Rep; rfl⟩ (.cons ⟨rfl,fun _=>by unfold Rep; rfl⟩ (.nil))))))))⟩,
  PySem.W.mg_of X G va21,⟨t21,rfl⟩,
  PySem.W.mg_of X G va22,rfl,fun H=>.inr ⟨_,_,_,vl22,rfl,rfl,(by show 5 <= sizeLine; decide),.cons ⟨_,rfl⟩ (.cons ⟨_,rfl⟩ (.cons ⟨_,rfl⟩ (.cons ⟨_,rfl⟩ (.cons ⟨_,rfl⟩ (.nil)))))⟩,
  PySem.W.mg_of X G va23,rfl,fun H=>.inr ⟨_,_,_,vl23,rfl,rfl,(by show 4 <= sizeLine; decide),.cons ⟨_,rfl⟩ (.cons ⟨_,rfl⟩ (.cons ⟨_,rfl⟩ (.cons ⟨_,rfl⟩ (.nil))))⟩⟩
 exact ⟨_,fun s v=>.of_eq rfl,fun base _ _=>(IU T).imp (E7 fun ns h=>DG ns h)⟩
theorem walk {l:PySem.W.OpenLaw} {q:Program} {loose:List Str} {XP:(Str -> Option Value) -> Heap -> Prop} {YP:World -> Heap -> Prop} {d:DefRec} {K:Params -> PySem.W.Frag} (hn:l.most=some 63) (hdf:d.params.defaults=[])
  (hY:∀ (w:World) (h:Heap),YP w h -> (K w.params).In h)
  (F:∀ (w:World) (mg:Str -> Option Value) (fa:Addr) (h:Heap),(K w.params).In h -> h.Ns mainGlobals mg -> mg d.name=some (.ref fa) ->
    ∃ fd:FuncData,(∀ (s:Shared) (u:Value),BindsTo s fd ⟨[u],[]⟩ [("_law_script",u)]) /\ ∀ base:Heap,(K w.params).In base -> base.Ns mainGlobals mg -> cA l.prog w (K w.params) mg base (CXE l.prog w) 10 fa fd ["_law_script"] (xk (K w.params))):
  PySem.W.WalkO q loose XP YP l.row.toRowW d [] (fun f vs=>PySem.call f vs):=
 L2.FV (n:=63) (k:=10) (x:="_law_script") (CX:=fun w=>CXE l.prog w) (sp:=fun w=>xk (K w.params)) hn (by decide) hdf ⟨rfl,by decide,by decide⟩ hY F (fun _ _ a ns hl _ hS=>⟨a,ns,rfl,hS,hl,fun _=>rfl⟩) fun _ _ _ _ _ z=>let ⟨_,_,_,_,_,_,_,_,_,_,f⟩:=z; f
end L2.plainglass_k06_faults_placed
open PySem PySem.W PyProof.Rows
namespace PySem.W.Fast
def tw15012896105934804786:=0
def tw17902685655722076871:=0
def tw15517725952458324375:=0
def tw9557153256293071165:=0
def tw13558301908366338915:=0
def tw7321392978083690677:=0
def tw11100787377880252059:=0
def tw1741027308737204447:=0
def tw7623368907798566085:=0
def tw7543194281019089967:=0
def tw559325943565835490:=0
def tw13703704332130124055:=0
def tw5571227897952690774:=0
def tw912522148360255472:=0
def tw11885975367124025398:=0
def tw1449946315087145863:=0
def tw1522069325575713758:=0
def tw3570490256082830897:=0
def tw9870347423482206650:=0
def tw18153805193064138268:=0
def tw16773583004393567248:=0
def tw3308963259595894705:=0
def tw11061801517942042347:=0
def tw11707832123707789880:=0
def tw17532193743697036092:=0
def tw10815880529110534124:=0
def tw16895980359467972806:=0
def tw2443394919263323789:=0
def tw9440581559551082531:=0
def tw482941484923140266:=0
def tw1444623231439103572:=0
def tw7555101945508399771:=0
def tw17065712535447430076:=0
def tw11993433121104784803:=0
def tw17905935395312427303:=0
def tw8266872747879824465:=0
def tw7661976187908776601:=0
def tw6752707784007448412:=0
def tw9579849433877334777:=0
def tw1052860898616017526:=0
def tw3045463642628541889:=0
def tw12615066171486724922:=0
def tw13140953668251825588:=0
def tw14253868805367728379:=0
def tw7253576803033678533:=0
def tw13029797138458737851:=0
def tw2665530850001772297:=0
def tw749045684469183344:=0
def tw8630538828861731911:=0
def tw5185478263136538753:=0
def tw13021265224719877367:=0
def tw14678655581104731232:=0
def tw13311930250043664458:=0
def tw13939910970116790498:=0
def tw16695627013796846831:=0
def tw10291135691657499434:=0
def tw6280446996185901733:=0
def tw2351688333883884207:=0
def tw1721144458593428146:=0
def tw16404639825174672582:=0
def tw1726836460407820785:=0
def tw10042968389104193000:=0
def tw13900323021788648524:=0
def tw7857077980082510771:=0
def tw15026996530462171718:=0
def tw13985004115921034225:=0
def tw2230029310405594867:=0
def tw8934683286097060139:=0
def tw16435031831739555076:=0
def tw10334569243823930157:=0
def tw3635408169041710376:=0
def tw17856292065450766723:=0
def tw10600518584064278089:=0
def tw3393585717501548437:=0
def tw2512252487971234272:=0
def tw16852662379907272898:=0
def tw8913982502117003374:=0
def tw15251770701141826010:=0
def tw8752213882416653798:=0
def tw8985345438615108921:=0
def tw16542209678071033572:=0
def tw2463112933702570030:=0
def tw11742569218588235181:=0
def tw1751056207480240978:=0
def tw8098739779968955524:=0
def tw12342945493357228305:=0
def tw1888042401028097224:=0
def tw7984914932793831632:=0
end PySem.W.Fast
set_option maxRecDepth 100000 in
set_option maxHeartbeats 0 in
theorem PySem.Challenge.cw_plainglass_k06_faults_placed_holds : PySem.Challenge.rw_plainglass_k06_faults_placed.Holds := by
 w_on; o_law; k_head; (case hw=>w_witness2)
 k_fill
 refine L2.plainglass_k06_faults_placed.walk (l:=PySem.Challenge.rw_plainglass_k06_faults_placed) rfl rfl (fun w h Y=>PySem.W.kIn_of Y) ?F
 case F=>
  intro w mg fa h KX G hmg
  refine' L2.plainglass_k06_faults_placed.all_mk KX G hmg (L2.E.du ?a0 ?l0 ?c0 ?k0) (L2.E.du ?a1 ?l1 ?c1 ?k1) (L2.E.du ?a2 ?l2 ?c2 ?k2) (L2.E.du ?a3 ?l3 ?c3 ?k3) (L2.E.du ?a4 ?l4 ?c4 ?k4) (L2.E.du ?a5 ?l5 ?c5 ?k5) (L2.E.du ?a6 ?l6 ?c6 ?k6) (L2.E.du ?a7 ?l7 ?c7 ?k7) (L2.E.du ?a8 ?l8 ?c8 ?k8) (L2.E.du ?a9 ?l9 ?c9 ?k9) (L2.E.du ?a10 ?l10 ?c10 ?k10) (L2.E.du ?a11 ?l11 ?c11 ?k11) (L2.E.du ?a12 ?l12 ?c12 ?k12) (L2.E.du ?a13 ?l13 ?c13 ?k13) (L2.E.du ?a14 ?l14 ?c14 ?k14) (L2.E.du ?a15 ?l15 ?c15 ?k15) (L2.E.du ?a16 ?l16 ?c16 ?k16) (L2.E.du ?a17 ?l17 ?c17 ?k17) (L2.E.du ?a18 ?l18 ?c18 ?k18) (L2.E.du ?a19 ?l19 ?c19 ?k19) (L2.E.du ?a20 ?l20 ?c20 ?k20) (L2.E.du ?a21 ?l21 ?c21 ?k21) (L2.E.du ?a22 ?l22 ?c22 ?k22) (L2.E.du ?a23 ?l23 ?c23 ?k23) (L2.E.du ?a24 ?l24 ?c24 ?k24) (L2.E.du ?a25 ?l25 ?c25 ?k25) (L2.E.du ?a26 ?l26 ?c26 ?k26) (L2.E.du ?a27 ?l27 ?c27 ?k27) (L2.E.du ?a28 ?l28 ?c28 ?k28) (L2.E.du ?a29 ?l29 ?c29 ?k29) (L2.E.du ?a30 ?l30 ?c30 ?k30) (L2.E.du ?a31 ?l31 ?c31 ?k31) (L2.E.du ?a32 ?l32 ?c32 ?k32) (L2.E.du ?a33 ?l33 ?c33 ?k33) (L2.E.du ?a34 ?l34 ?c34 ?k34) (L2.E.du ?a35 ?l35 ?c35 ?k35) (L2.E.du ?a36 ?l36 ?c36 ?k36) (L2.E.du ?a37 ?l37 ?c37 ?k37) (L2.E.du ?a38 ?l38 ?c38 ?k38) ?a39 ?l39 ?c39 ?k39 ?a40 ?i40 ?l40 ?c40 ?k40 ?a41 ?i41 ?l41 ?c41 ?k41 ?a42 ?i42 ?l42 ?c42 ?k42 ?a43 ?i43 ?l43 ?c43 ?k43 ?a44 ?i44 ?l44 ?c44 ?k44 ?z0 ?z1 ?z2 ?z3 ?z4 ?z5 ?z6 ?z7 ?z8 ?z9 ?ca0 ?pg0 ?hd0 ?po0 ?sa0 ?mk0 ?kc0 ?na0_0 ?va0 ?vl0 ?va1 ?va2 ?va3 ?va4 ?va5 ?va6 ?va7 ?va8 ?va9 ?va10 ?va11 ?va12 ?va13 ?va14 ?va15 ?va16 ?va17 ?va18 ?vl18 ?va19 ?vl19 ?wl19_0 ?wl19_1 ?wl19_2 ?vm19 ?va20 ?vl20 ?vm20 ?va21 ?va22 ?vl22 ?va23 ?vl23
  (case ca0|a0|l0|c0|k0|a1|l1|c1|k1|a2|l2|c2|k2|a3|l3|c3|k3|a4|l4|c4|k4|a5|l5|c5|k5|a6|l6|c6|k6|a7|l7|c7|k7|a8|l8|c8|k8|a9|l9|c9|k9|a10|l10|c10|k10|a11|l11|c11|k11|a12|l12|c12|k12|a13|l13|c13|k13|a14|l14|c14|k14|a15|l15|c15|k15|a16|l16|c16|k16|a17|l17|c17|k17|a18|l18|c18|k18|a19|l19|c19|k19|a20|l20|c20|k20|a21|l21|c21|k21|a22|l22|c22|k22|a23|l23|c23|k23|a24|l24|c24|k24|a25|l25|c25|k25|a26|l26|c26|k26|a27|l27|c27|k27|a28|l28|c28|k28|a29|l29|c29|k29|a30|l30|c30|k30|a31|l31|c31|k31|a32|l32|c32|k32|a33|l33|c33|k33|a34|l34|c34|k34|a35|l35|c35|k35|a36|l36|c36|k36|a37|l37|c37|k37|a38|l38|c38|k38|a39|l39|c39|k39|a40|i40|l40|c40|k40|a41|i41|l41|c41|k41|a42|i42|l42|c42|k42|a43|i43|l43|c43|k43|a44|i44|l44|c44|k44|z0|z1|z2|z3|z4|z5|z6|z7|z8|z9|pg0|hd0|po0|sa0|mk0|kc0|na0_0|va0|vl0|va1|va2|va3|va4|va5|va6|va7|va8|va9|va10|va11|va12|va13|va14|va15|va16|va17|va18|vl18|va19|vl19|wl19_0|wl19_1|wl19_2=>k_is)
  (case vm19=>first|decide|rfl)
  (case va20|vl20=>k_is)
  (case vm20=>first|decide|rfl)
  (case va21|va22|vl22|va23|vl23=>k_is)
